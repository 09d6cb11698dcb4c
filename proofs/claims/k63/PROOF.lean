import PyProof.Rows.All
import Wide.All
import OpenK.AllK
import Wide.FinOn
import Lean
import PyProof.Rows.SetFrom
import PyProof.TupleKey
import PyProof.SetRoads
import PySem.SetOps
import PyProof.EqAt
import PyProof.EqKinds
import PyProof.TupleCall
import KE.KDictList
import KE.KDictLaws
import PyProof.NeKinds
import PyProof.Draws
import KE.KSortTup
import KE.KLam
import PyProof.ListRange
import PyProof.TupleOfSeq
import KE.KNestM
import PyProof.MinMaxWalk
import PyProof.ReprRoads
import PyProof.CallFns
import PyProof.FitsInt
import PyProof.Conv_int_bool
import KE.KMinKey
import PySem.Challenge.RW_lotjoin_k63_whole_kept_as_made_anew
set_option bootstrap.genMatcherCode false
set_option compiler.extract_closed false
set_option compiler.reuse false
open List renaming append_nil->mJ,getElem?_eq_getElem->pQ,length_map->pR,getElem?_eq_some_iff->qV,getD_eq_getElem?_getD->Fl,size_toArray->Fp,length_append->Fs,replicate->My,length_cons->NG,getElem?_append_left->NI,mem_cons_self->NJ,getElem?_append_right->NK,getElem?_map->WD,mem_cons_of_mem->WH,mem_iff_getElem?->WM,mem_cons->XJ,mem_map->XM,mem_append_right->XR,map_append->XY,map_cons->X0,mem_singleton->X1,map_map->X8,lookup_cons->X9,range->X_,length_take->Yb,mem_append->Yc,getElem?_take_of_lt->Yd,not_mem_nil->Yh,mem_append_left->Yj,mem_of_getElem?->Yl,mem_range->Yo,getElem?_set_ne->Yp,length_set->Yq,getElem_map->Yr,length_range->Ys,getElem?_eq_none->Yy,length_singleton->Yz,map_congr_left->YB,getElem?_set_self->YH,take_of_length_le->YI,mem_filter->YJ,replicate_succ->YM,toArray->YR,set_cons_zero->YU,set_cons_succ->YV,exists_cons_of_length_eq_add_one->YZ,getElem?_range->Y0,length_reverse->Y1,mem_map_of_mem->Y2,nodup_append->Y5,getElem?_toArray->Y7,all_eq_true->Zf,pairwise_map->Zp,nil_append->Zr,length_replicate->Zt,length_drop->Zu,getElem_mem->Zv,pairwise_cons->Zw,map_nil->Zy,getElem?_replicate->ZC,append_assoc->ZE,filterMap_cons->ZH,lookup->ZM,flatten_cons->ZN,mem_iff_getElem->ZO,any_cons->ZQ,countP_cons->ZS,getElem_inj->ZU,length_eq_zero_iff->ZW,nodup_cons->Z4,length_nil->Z5,find?_cons->Z6,ext_getElem?->Z_,any_eq_false->q0c,reverse_cons->q0d,drop_eq_getElem_cons->q0m,pairwise_iff_getElem->q0n,mem_filterMap->q0x,getElem?_cons_succ->q0D,set_eq_take_append_cons_drop->q0F,take_zero->q0M,take_succ->q0O,length_filterMap_eq_countP->q0P,eraseIdxIfInBounds_toArray->q0Q,nodup_range->q0U,mem_of_mem_take->q0X,reverse_reverse->q0Z,find?_some->q00,dropLast_concat_getLast->q04,filter_sublist->q08,getElem?_concat_length->q0_,find?_eq_none->q1b,zip_cons_cons->q1i,drop_zero->q1n,perm_ext_iff_of_nodup->q1q,mem_or_eq_of_mem_set->q1s,mem_of_find?_eq_some->q1v,zip_nil_left->q1y,foldl_append->q1C,eq_of_mem_replicate->q1E,pairwise_mergeSort->q1M,getElem?_cons_zero->q1N,append_inj'->q1P,drop_of_length_le->q13,find?_cons_of_pos->q14,find?_cons_of_neg->q15,length_eq_one_iff->q16,filter_eq_nil_iff->q17,foldl_cons->q18,of_mem_zip->q2a,contains_iff_mem->q2d,countP_eq_length->q2e,dropLast_eq_take->q2h,length_filter_le->q2i,set_getElem_self->q2j,mem_of_mem_drop->q2l,nodup_nil->q2r,take_succ_cons->q2x,mergeSort_perm->q2y,replicate_zero->q2A,reverse_append->q2D,forall_mem_nil->q2E,map_take->q2O,map_drop->q2P,zip_nil_right->q2X,filterMap_map->q2Y,filter_append->q23,getElem?_drop->q24,contains_cons->q25,Pairwise.nil->q3k,Sublist.refl->q3q,ext_getElem->q3G,take_length->q3H,any_eq_true->q3M,map_id->q3T,filter_map->q33,foldl->q4g,map->q4r,map_set->q5k,filter->q6o,Perm->q7E
open Nat renaming reduceBEq->pP,le_refl->Fm,lt_of_lt_of_le->XN,ne_of_lt->XQ,le_trans->Yi,sub_self->Yv,zero_le->YD,zero_add->YF,le_of_ble_eq_true->Y8,lt_irrefl->Zi,lt_succ_of_lt->Zk,le_of_lt->Zx,lt_succ_self->ZT,ne_of_gt->ZZ,succ.inj->Z3,le_of_lt_succ->q0G,le_succ->q0Y,lt_of_le_of_lt->q1f,succ_ne_self->q1L,add_sub_cancel_left->q1Q,le_of_eq->q1Y,ble->q2u,le_of_succ_le->q3l,lt_of_succ_le->q3m,min_self->q3o,sub_zero->q3p,le_add_right->q3v,succ_le_succ->q3B,min_eq_left->q37,succ_add->q4X,succ_pos->q4Y,mul_comm->q4Z,lt_trans->q40,not_lt->q65
open PySem renaming wpAny_bind->tH,W.Frag->vS,Heap.get?_push_of_some->zk,wpAny_pure->NH,Heap.lt_size->WJ,Heap.get?_push_size->WL,Spec->XW,Value.ref->Yg,Value.none->Yk,W.keepIn->Yt,wpAny_newObj_type->Yu,wpAny_holding->Yw,Builtin.Tuple.tupleExact->Yx,W.fnOf->YA,Obj.mapSeq->YC,Builtin.Slice.slicePlaces->YE,Heap.SameBut.update->YK,mem_of_lookup->YL,F.plainAttrs_list->YS,W.findIn->YW,W.kia_one->YX,W.emptyDict->Y3,Heap.get?_update_self->Y6,W.kitOne->Y9,NameKind.cell->Y_,wpAny_loadPart'->Zb,W.nsIn->Zd,NameKind.free->Zj,wpAny_mono->Zm,wpAny_truthy_bool->Zn,Heap.get?_update_other->Zo,sizeLine_eq->Zq,Heap.size_push->Zz,wpAny_field->ZA,wpAny_callSpecial?_slot->ZD,wpAny_pyIter_enum->ZF,W.instObj->ZG,wpAny_Call_Name_kw->ZJ,Builtin.Slice.sliceApplied->ZK,F.slot_tuple_iterator_next->ZL,Builtin.List.listTooLong->ZP,Builtin.Range.rangeSize->ZV,boot_len->ZX,F.called_set->ZY,Str.ofString->Z0,Around.in1_handled->Z1,Obj.data_mapFields->Z2,PassesOwn.never->Z7,Value.int->Z8,wpAny_standAt->Z9,wpAny_pyIter_list->q0a,SetTable->q0e,Around.under_plainId->q0g,Value.bool->q0h,W.codeIn->q0i,Builtin.Tuple.tupleItemsOf->q0j,wpAny_call_entry->q0k,Builtin.Slice.sliceAdjust->q0l,SetTable.layClean.free->q0o,F.args_tuple_add_2->q0q,W.mg_of->q0s,F.slot_list_append->q0t,F.type_list_append->q0u,codeAny_builtin->q0v,wpAny_passesOwn->q0w,Value.type->q0y,W.callWith_K->q0z,wpAny_pyIter_tuple->q0A,F.entry_tuple_add->q0C,wpAny_setState_of->q0H,Heap.SameBut->q0I,codeAny_mono->q0J,W.cellsFrom_some->q0K,F.slot_tuple_add->q0L,Obj.isFreed_of_fields->q0R,F.slot_list_pop->q0S,F.type_list_pop->q0T,W.plainGet->q0V,SetTable.probe.go->q0W,wpAny_execs_nil->q01,F.slot_dict_setdefault->q02,F.args_tuple_iterator_next_1->q03,W.plainGet_of->q06,F.entry_tuple_iterator_next->q09,Calls.Name_function_global->q1g,W.lookIn->q1h,Heap.IsSliceOf.new->q1k,call_meets->q1l,wpAny_letOwnedTupleGo_enum->q1m,wpAny_setField->q1o,W.exmOne->q1r,Builtin.Slice.sliceFields->q1t,Builtin.SmallTypes.nextOf->q1u,W.methodObj->q1w,W.hasDictIn->q1x,wpAny_sequenceKey->q1A,slot_list_getitem->q1B,wpAny_getItem_list_slice->q1F,F.slot_dict_values->q1G,noFill_tuple_add->q1K,F.plainAttrs_dict->q1R,Obj.putSet->q1U,SeqAt.EqAt->q1V,W.isFn->q1W,wpAny_typeOf->q1Z,Calls.callWith_builtin->q11,W.takerIn->q1_,SeqAt.EqAt.same->q2b,wpAny_isTrue_Compare1->q2f,W.methodCall_KW->q2g,wpAny_seqItems->q2n,Heap.get?_none_of_le->q2o,Around.frames_deeper->q2q,Value.str->q2t,call_enumerate_list->q2w,W.codeHd_of_K->q2B,EntryCells.newEntry->q2C,SetTable.fill->q2G,Paired.length->q2H,rangeSize_one->q2I,seq_tuple_add->q2J,evalPart_none->q2L,wpAny_call->q2R,Walks.list->q2S,SeqAt.EqAt.int_str->q2T,SeqAt.EqAt.str_int->q2U,W.Looks.here->q2V,SeqAt.EqAt.int_int->q2W,call->q2Z,tupleKind_room_in1->q21,SeqAt.EqAt.of_refs->q22,wpAny_storeSet_of->q28,Value.isInt_shape->q29,Within->q2_,wpAny_assign_Name->q3a,W.plainOver->q3b,W.kitx_list->q3c,W.kitx_dict->q3d,Around.under->q3e,Code.isFrame->q3f,concat_meets->q3g,seqIndex_neg->q3i,F.plain_list_iadd->q3r,wpAny_loadPart_at->q3s,wpAny_forIn_list->q3u,wpAny_eqBool_int->q3w,wpAny_execs_cons->q3x,W.handedIn->q3y,F.entry_list_pop->q3C,W.codeHdIn->q3N,Value.float->q3P,seqIndex_of->q3R,wpAny_specialOf->q3V,W.makesIn->q3X,F.slot_int_rmul->q3Z,pushCells_keeps->q30,W.OpenLaw->q34,SetTable.grown->q3_,wpAny_runValue->q4a,wpAny_Name->q4b,typeIs_int->q4f,fitsIndex_both->q4i,wpAny_rule->q4m,SeqAt.RcAt->q4n,W.CodeHd->q4s,SetTable.fits->q4v,plainId_quiet->q4x,Value.isStrOf->q4y,intBits_le_64->q4z,evalPart_some->q4B,call_list_seq->q4D,wpAny_newList->q4H,Obj.mapFields->q4J,putSet_of->q4N,small_one->q4O,Sem->q4W,preSum->q46,Fin->q7F
open Array renaming length_toList->XU,getElem?_toList->Ym,getD_eq_getD_getElem?->YO,getElem?_eq_some_iff->YT,getElem?_eq_getElem->Zs,toList_setIfInBounds->q1c,forIn_toList->q1d,perm_iff_toList_perm->q1p,getElem_mem_toList->q1D,toList_replicate->q1S,toList_filterMap->q1T,size_push->q19,size_map->q2m,size_extract->q2Q,size_append->q27,Perm.refl->q32,toList->q41,getD->q7d
open Option renaming map_eq_some_iff->XX,some.inj->Yf,isSome_iff_exists->q0p,getD_none->q1I,isSome->q2F,isSome_some->q20,isSome_map->q3n,getD_some->q3J,map_some->q3U,none->q5V
open Int renaming toNat_natCast->XZ,emod_lt_of_pos->YG,emod_nonneg->Za,eq_ofNat_of_zero_le->q0E,toNat->q1O,zero_add->q12,toNat_of_nonneg->q2z,ofNat.inj->q2M,ediv_one->q3h,ofNat->q3E,max_eq_right->q3K,min_eq_right->q3L,mul_one->q3Q,min_eq_left->q35,max_eq_left->q36
open Bool renaming false_ne_true->Ya,and_eq_true->YY,false_eq_true->Ze,not_eq_true'->q0N,false_and->q2p,not_eq_true->q3I,and_false->q4h,false_bne->q4q,not_true->q4w,or_false->q4C,and_true->q4E,true_or->q45,or_true->q5l
open PyProof renaming Rows.slot_tuple_getitem->Ye,Rows.callWith_type1->Zh,Rows.F.plain_set_update_loop->q0B,Rows.entry_tuple_getitem->q07,Rows.args_tuple_getitem->q1j,Rows.listUpdate_at->q1H,Rows.F.entry_set_update_loop->q1J,Rows.subscriptTail_builtinR->q10,Rows.get?_update_seq->q2c,Rows.lt_int->q2v,Rows.tupleItemsOf_->q2K,Rows.IsTup.new->q3A,Rows.tail_any->q4e
open Classical renaming byContradiction->Yn
open False renaming elim->YN
open ForInStep renaming yield->Zc
open LawfulBEq renaming eq_of_beq->Zg
open Ne renaming symm->Zl
open True renaming intro->ZI
open Sum renaming inl->q0b,inr->q2s,inl.inj->q3O
open Or renaming inl->q1a,inr->q2k
open Function renaming comp->q2N
open Prod renaming fst->q5X
set_option Elab.async false
set_option linter.all false
set_option maxRecDepth 100000
abbrev bc:=PySem.Value->PySem.Shared->Prop
local macro_rules | `(tactic| trivial) => `(tactic| first|exact q1a rfl|exact q2k rfl)
abbrev WK:=@if_neg
abbrev XI:=@if_pos
abbrev XO:=@decide_eq_false
abbrev X7:=@decide_eq_true
abbrev YQ:=@of_decide_eq_true
abbrev Y4:=@decide_eq_true_eq
abbrev ZR:=@beq_eq_false_iff_ne
abbrev q0f:=@if_false
abbrev q0r:=@not_not_intro
abbrev q1e:=@or_false
abbrev q1z:=@if_true
abbrev q1X:=@beq_iff_eq
theorem el7{α β γ ε:Type}{A B C:α→β→γ→ε→Prop}{R:Prop}(h:∃F ad δ K, A F ad δ K∧B F ad δ K∧C F ad δ K)(k:∀F ad δ K, A F ad δ K→B F ad δ K→C F ad δ K→R): R:=h.elim λF h=>h.elim λa h=>h.elim λd h=>h.elim λK h=>k F a d K h.1 h.2.1 h.2.2
theorem el5{α β:Type}{A B C:α→β→Prop}{R:Prop}(h:∃F ad, A F ad∧B F ad∧C F ad)(k:∀F ad, A F ad→B F ad→C F ad→R): R:=h.elim λF h=>h.elim λa h=>k F a h.1 h.2.1 h.2.2
theorem el3{α:Type}{A B:α→Prop}{R:Prop}(h:∃F, A F∧B F)(k:∀F, A F→B F→R): R:=h.elim λF h=>k F h.1 h.2
set_option compiler.extract_closed false
local macro_rules | `(tactic| symm) => `(tactic| first|lia|omega (config:={}))
local macro_rules | `(⋯) => `(by symm)
abbrev nr:=PySem.Value->PySem.Shared->Prop
open Option renaming some->U,some->ζ,none->Z,none->η
open Bool renaming true->θ,false->ι
open Decidable renaming decide->l,decide->μ
open PySem renaming Value->L,Value->ν,Addr->O,Addr->ξ,Shared->B,Shared->ο,Str->J,Str->π,wpAny->G,wpAny->ρ,model->S,model->ς,Expr->M,Expr->υ,Stmt->R,Stmt->χ,Program->t,Program->ψ,World->X,World->ω,Heap->I,Heap->Α,Around->q,Around->Β,Obj->Q,Obj->Γ,Scope->o,Scope->Δ,Pos->y,Pos->Ε,Env->u,Env->Ζ
theorem Y{α:Sort u}{a:α}:a=a:=rfl
theorem qzr (_:True:=by first|rfl|(intros;rfl)):True:=trivial
theorem qzd (_:True:=by decide):True:=trivial
theorem qz0 (_:True:=by kernel_rfl):True:=trivial
theorem qz1 (_:True:=by first|exact .inl Y|exact .inr Y|assumption):True:=trivial
theorem qz2 (_:True:=by first|rfl|kernel_rfl):True:=trivial
theorem qz3 (_:True:=by decide +kernel):True:=trivial
theorem qz6 (_:True:=by with_unfolding_all rfl):True:=trivial
theorem qz8 (_:True:=by trivial):True:=trivial
section
open Lean in
local macro_rules
 |`(‹$x›)=>if x.raw.isOfKind `Lean.Parser.Term.hole then Macro.throwUnsupported else `(autoParam $x qzr._auto_1)
 |`(~~~$x)=>`(autoParam $x qzd._auto_1)
open Lean in
def qzp(s:Syntax):Syntax:=
 let n:=λs a=>mkNode (`Lean.Parser.Tactic++s) a
 s.rewriteBottomUp λs=>if s.isIdent then n `rcasesPat.one #[s] else if s.isOfKind `Lean.Parser.Term.hole then n `rcasesPat.ignore #[mkAtom "_"] else if s.isOfKind `Lean.Parser.Term.anonymousCtor then n `rcasesPat.tuple #[mkAtom "⟨",mkNullNode (s[1].getArgs.map λx=>if x.isAtom then x else n `rcasesPatLo #[n `rcasesPatMed #[mkNullNode #[x]],mkNullNode]),mkAtom "⟩"] else s
open Lean in
local macro_rules
 |`(tactic|let $d:letDecl)=>do
  let d:=d.raw[0]
  pure (if d.isOfKind `Lean.Parser.Term.letPatDecl then mkNode `Lean.Parser.Tactic.obtain #[mkAtom "obtain",mkNullNode #[mkNode `Lean.Parser.Tactic.rcasesPatMed #[mkNullNode #[qzp d[0]]]],mkNullNode (if d[2].getNumArgs==0 then #[] else #[mkAtom ":",d[2][0][1]]),mkNullNode #[mkAtom ":=",mkNullNode #[d[4]]]] else mkNode `Lean.Parser.Tactic.tacticHave__ #[mkAtom "have",mkNode `Lean.Parser.Term.letConfig #[mkNullNode],mkNode `Lean.Parser.Term.letDecl #[d]])
open Lean in
local macro_rules
 |`(fun $bs* => $e)=>do
  if (← getRef)[1][2].getAtomVal != "↦" then Macro.throwUnsupported
  let p:=bs.map λs=>⟨mkNode `Lean.Parser.Tactic.rintroPat.one #[qzp s]⟩
  `(by rintro $p*;exact $e)
local macro_rules |`(tactic|calc $e:term)=>`(tactic|refine $e)
local macro_rules |`(tactic|ext $p*)=>`(tactic|rintro $p*)
local macro_rules |`(↑$x)=>`(($x).length)
local macro_rules |`(⇑$x)=>`(($x).heap.objs.size)
local macro_rules |`($x⁻¹)=>`(by simpa using $x)
open Lean in
local macro_rules
 |`(-$x)=>if x.raw.getKind==`Lean.Parser.Term.typeAscription||x.raw.isOfKind `num||(x.raw.isOfKind `Lean.Parser.Term.paren&&!x.raw[1].isOfKind `Lean.Parser.Term.app&&!x.raw[1].isOfKind `«term-_»&&!x.raw[1].isOfKind `«term_×_»&&!x.raw[1].isOfKind `Lean.Parser.Term.arrow) then Macro.throwUnsupported else `(List $x)
open Lean in
local macro_rules
 |`(tactic|erw[$ls,*] $[$l:location]?)=>do
  let a←ls.getElems.mapM fun r=>do
   let t:Term:=⟨r.raw[1]⟩
   if r.raw[0].getNumArgs==0 then `(Parser.Tactic.simpLemma|$t:term) else `(Parser.Tactic.simpLemma|←$t:term)
  `(tactic|simp only[$a,*] $[$l]?)
namespace LJS
open PySem PySem.SetTable
noncomputable def nx(m i:Nat):Nat:=(i*5+1)%(m+1)
noncomputable def mf(m:Nat):Nat->Nat->Nat
 |0,i=>i
 |n+1,i=>mf m n (nx m i)
theorem vA(m:Nat):∀a b i,mf m (a+b) i=mf m b (mf m a i)
 |0,b,i=>by rw[YF];rfl
 |a+1,b,i=>by rw[q4X];calc vA m a b (nx m i)
noncomputable def xZ(m:Nat):Nat->Nat->-Nat
 |0,_=>[]
 |n+1,i=>i::xZ m n (nx m i)
theorem D6(m:Nat):∀{n i e:Nat},e∈xZ m n i->∃k,k<n/\mf m k i=e
 |0,_,_,h=>nomatch h
 |n+1,i,e,h=>by
  rcases XJ.mp h with rfl|h
  .exact⟨0,q4Y _,Y⟩
  .let⟨k,hk,e⟩:=D6 m h
   calc⟨k+1,Nat.succ_lt_succ hk,e⟩
def Mk(m:Nat):Prop:=m=7\/m=31\/m=127
noncomputable def r_(m:Nat):Bool:=(X_ (m+1)).all λe=>(xZ m (m+1) 0).contains e
theorem D7(h:Mk m):r_ m=θ/\mf m (m+1) 0=0:=by
 rcases h with rfl|rfl|rfl<;>calc⟨by decide +kernel,by decide +kernel⟩
theorem n8(h:Mk m)(he:e<=m):∃k,k<=m/\mf m k 0=e:=by
 let:=Zf.mp (D7 h).1 e (Yo.mpr (Nat.lt_succ_of_le he));let⟨k,hk,q⟩:=D6 m (q2d.mp this);calc⟨k,q0G hk,q⟩
theorem KJ(h:Mk m)(hi:i<=m)(he:e<=m):∃n,n<=m/\mf m n i=e:=by
 let⟨a,ha,rfl⟩:=n8 h hi;let⟨b,hb,rfl⟩:=n8 h he
 by_cases Wr:a<=b
 .refine⟨b-a,⋯,?_⟩
  rw[<-vA];congr 1;symm
 .refine⟨m+1-a+b,⋯,?_⟩
  rw[<-vA,show a+(m+1-a+b)=(m+1)+b by symm,vA,(D7 h).2]
noncomputable def lp(m:Nat):Nat->Nat->Nat->Nat×Nat
 |0,i,p=>(i,p)
 |n+1,i,p=>lp m n (leap m i p).1 (leap m i p).2
theorem x4(m:Nat):∀a b i p,lp m (a+b) i p=lp m b (lp m a i p).1 (lp m a i p).2
 |0,b,i,p=>by rw[YF];rfl
 |a+1,b,i,p=>by rw[q4X];calc x4 m a b _ _
theorem D8(m:Nat):∀n i,lp m n i 0=(mf m n i,0)
 |0,i=>Y
 |n+1,i=>by
  show lp m n (leap m i 0).1 (leap m i 0).2=_;let e:leap m i 0=(nx m i,0):=by unfold leap nx;simp
  rw[e];calc D8 m n _
theorem KN(m i p:Nat):(leap m i p).1<=m:=q0G (Nat.mod_lt _ (q4Y _))
theorem D9(m:Nat):∀n i p,(lp m n i p).2=p / 32 ^ n
 |0,i,p=>by simp[lp]
 |n+1,i,p=>by
  show(lp m n (leap m i p).1 (leap m i p).2).2=_;rw[D9 m n];show p / 32 / 32 ^ n=_;rw[Nat.div_div_eq_div_mul,Nat.pow_succ,q4Z]
theorem reach(h:Mk m)(hp:p<2 ^ 64)(he:e<=m):∃n,n<=13+m/\(lp m n i p).1=e:=by
 let z:(lp m 13 i p).2=0:=by
  rw[D9];exact Nat.div_eq_of_lt (q40 hp (by decide))
 let q:(lp m 13 i p).1<=m:=by
  rw[x4 m 12 1];exact KN _ _ _
 let⟨n,hn,en⟩:=KJ h q he;calc⟨13+n,⋯,?_⟩;rw[x4,z,D8];calc en
theorem D_(j:Nat):has #[] j=ι:=by unfold has;simp
theorem x5{t:SetTable}(hd:t.dummies = #[])(j:Nat):t.slot j=.empty\/∃i,t.slot j=.live i/\i<t.place.size/\j∈t.place.toList:=by
 unfold slot;rw[hd,D_];dsimp only
 by_cases c:(t.place[below t.place j]?==U j)=θ
 .right
  rw[XI c];let e:=Zg c;let⟨hl,ev⟩:=YT.mp e;exact⟨_,Y,hl,by rw[<-ev];calc q1D hl⟩
 .left
  rw[WK c];rfl
theorem KO{t:SetTable}(hd:t.dummies = #[])(hj:j∉t.place.toList):t.slot j=.empty:=by
 rcases x5 hd j with h|⟨_,_,_,h⟩
 .exact h
 .calc absurd h hj
theorem Ea:∀{l l':-Nat},l.Nodup->(∀x∈l,x∈l')->↑l<=↑l'
 |[],_,_,_=>YD _
 |a::l,l',hn,hs=>by
  let ha:a∈l':=hs a (NJ ..);let kP:=Z4.mp hn;let ih:=Ea (l:=l) (l':=l'.erase a) kP.2 λx hx=>(List.mem_erase_of_ne (λz=>kP.1 (by rw[<-z];calc hx))).mpr (hs x (WH _ hx));rw[List.length_erase_of_mem ha] at ih;let:=List.length_pos_of_mem ha;rw[NG];symm
theorem vB{l:-Nat}(h:↑l<=m):∃e,e<=m/\e∉l:=by
 calc Yn λno=>?_;let all:∀e,e∈X_ (m+1)->e∈l:=λe he=>Yn λz=>no ⟨e,q0G (Yo.mp he),z⟩;let:↑(X_ (m+1))<=↑l:=Ea q0U all;rw[Ys] at this;symm
noncomputable def stateOf(t:SetTable)(i p:Nat):Probe:=⟨i,runEnd t.mask i-i,i,p,Z⟩
theorem KP(m i:Nat):runEnd m i-i<=9:=by unfold runEnd;split<;>symm
section
variable{t:SetTable}{f:Nat->Int}{h:Int}
theorem x6(F:Nat)(p:Probe):q0W t f h (F+1) p=(match t.slot p.j with
  |.empty=>U (.empty p.j p.dummy)
  |.dummy=>q0W t f h F (t.advance {p with dummy:=U p.j})
  |.live i=>if f i==h then U (.candidate p.j i (t.advance p)) else q0W t f h F (t.advance p)):=rfl
theorem Eb(hd:t.dummies = #[])(hf:∀i,i<t.place.size->f i≠h):∀(k F:Nat)(p:Probe),p.more=k->p.dummy=Z →
  (∃j,q0W t f h (F+k+1) p=U (.empty j Z))\/q0W t f h (F+k+1) p=q0W t f h F (stateOf t (leap t.mask p.i p.perturb).1 (leap t.mask p.i p.perturb).2)
 |0,F,p,hm,sd=>by
  show(∃j,q0W t f h (F+1) p=_)\/q0W t f h (F+1) p=_;rw[x6];rcases x5 hd p.j with e|⟨i,e,hi,_⟩
  .left;rw[e];exact⟨p.j,by rw[sd]⟩
  .right
   rw[e];show(if(f i==h)=θ then _ else _)=_;rw[WK (by ext z;calc hf i hi (Zg z))];unfold advance;rw[hm,WK ⋯,sd];rfl
 |k+1,F,p,hm,sd=>by
  let ih:=Eb hd hf k F {p with j:=p.j+1,more:=p.more-1} (by show p.more-1=k;symm) sd;rw[show F+(k+1)+1=(F+k+1)+1 by symm,x6];rcases x5 hd p.j with e|⟨i,e,hi,_⟩
  .left;rw[e];exact⟨p.j,by rw[sd]⟩
  .rw[e]
   show(∃j,(if(f i==h)=θ then _ else _)=_)\/(if(f i==h)=θ then _ else _)=_;rw[WK (by ext z;calc hf i hi (Zg z))];let ea:t.advance p={p with j:=p.j+1,more:=p.more-1}:=by unfold advance;rw[XI ⋯]
   rw[ea];calc ih
theorem Ec(hd:t.dummies = #[])(hf:∀i,i<t.place.size->f i≠h):∀(n F i p:Nat),10*(n+1)<=F->t.slot (lp t.mask n i p).1=.empty->∃j,q0W t f h F (stateOf t i p)=U (.empty j Z)
 |0,F,i,p,hF,hs=>by
  let⟨G,rfl⟩:∃G,F=G+1:=⟨F-1,⋯⟩;rw[x6];let e:t.slot (stateOf t i p).j=.empty:=hs;rw[e];exact⟨i,Y⟩
 |n+1,F,i,p,hF,hs=>by
  let hr:=KP t.mask i;let⟨G,hG⟩:∃G,F=G+(runEnd t.mask i-i)+1:=⟨F-(runEnd t.mask i-i)-1,⋯⟩;let:=Eb (f:=f) (h:=h) hd hf (runEnd t.mask i-i) G (stateOf t i p) Y Y;rw[<-hG] at this;rcases this with h1|h1
  .exact h1
  .rw[h1]
   calc Ec hd hf n G _ _ ⋯ hs
theorem Ed(h:Int):bits h<2 ^ 64:=by
 unfold bits;let:=YG h (show(0:Int)<2 ^ 64 by decide);let:=Za h (show(2 ^ 64:Int)≠0 by decide);symm
theorem KQ(hd:t.dummies = #[])(hm:Mk t.mask)(hz:t.place.size<=t.mask)(hf:∀i,i<t.place.size->f i≠h):∃j,t.probe f h (t.probeStart h)=U (.empty j Z):=by
 let⟨e,he,ne⟩:=vB (l:=t.place.toList) (m:=t.mask) (by rw[XU];calc hz);let⟨n,hn,en⟩:=reach hm (i:=bits h%(t.mask+1)) (Ed h) he;calc Ec hd hf n _ _ _ (by unfold turns;symm) (by rw[en];calc KO hd ne)
end
section
variable{m:Nat}{owner:Array (Option Nat)}
theorem Ee(F i p:Nat):q0o m owner (F+1) i p=(match(X_ (runEnd m i+1-i)).find? λk=>(owner.getD (i+k) (U 0)).isNone with
   |some k=>U (i+k)
   |none=>q0o m owner F (leap m i p).1 (leap m i p).2):=rfl
theorem Ef:∀(n F i p:Nat),n+1<=F->(owner.getD (lp m n i p).1 (U 0)).isNone=θ->∃j,q0o m owner F i p=U j/\(owner.getD j (U 0)).isNone=θ
 |0,F,i,p,hF,hs=>by
  let⟨G,rfl⟩:∃G,F=G+1:=⟨F-1,⋯⟩;rw[Ee]
  cases hc:(X_ (runEnd m i+1-i)).find? λk=>(owner.getD (i+k) (U 0)).isNone with
  |some k =>
   let:=q00 hc;exact⟨i+k,Y,this⟩
  |none =>
   let:=q1b.mp hc 0 (Yo.mpr (by unfold runEnd;split<;>symm));exact absurd hs this
 |n+1,F,i,p,hF,hs=>by
  let⟨G,rfl⟩:∃G,F=G+1:=⟨F-1,⋯⟩;rw[Ee]
  cases hc:(X_ (runEnd m i+1-i)).find? λk=>(owner.getD (i+k) (U 0)).isNone with
  |some k =>
   let:=q00 hc;exact⟨i+k,Y,this⟩
  |none=>calc Ef n G _ _ ⋯ hs
end
structure Ow(m:Nat)(owner:Array (Option Nat))(k:Nat):Prop where
 size:owner.size=m+1
 cnt:owner.toList.countP q2F=k
 lt:∀x,U x∈owner.toList->x<k
theorem Eg:∀{l:-(Option Nat)}{j k:Nat},l[j]?=U Z->(l.set j (U k)).countP q2F=l.countP q2F+1
 |[],j,k,h=>by simp at h
 |x::l,0,k,h=>by
  simp at h;subst h;rw[YU,ZS,ZS];rfl
 |x::l,j+1,k,h=>by
  simp at h;rw[YV,ZS,ZS,Eg h];symm
theorem getD_none{owner:Array (Option Nat)}(h:(owner.getD j (U 0)).isNone=θ):owner.toList[j]?=U Z:=by
 rw[YO] at h;rw[Ym]
 cases e:owner[j]? with
 |none=>rw[e] at h;cases h
 |some x =>
  rw[e] at h
  cases x with
  |none=>rfl
  |some y=>cases h
theorem KR{owner:Array (Option Nat)}(O:Ow m owner k)(hk:k<=m):∃e,e<=m/\(owner.getD e (U 0)).isNone=θ:=by
 refine Yn λno=>?_
 let all:∀x∈owner.toList,x.isSome=θ:=by
  ext x hx;let⟨e,he⟩:=WM.mp hx
  cases x with
  |some y=>rfl
  |none =>
   let hl:=(qV.mp he).1;rw[XU,O.size] at hl;calc absurd ⟨e,q0G hl,?_⟩ no;rw[YO,<-Ym,he];rfl
 let:=q2e.mpr all;rw[O.cnt,XU,O.size] at this;symm
theorem KU{owner:Array (Option Nat)}(hm:Mk m)(O:Ow m owner k)(hk:k<=m)(h:Int):∃j,q0o m owner (turns m) (bits h%(m+1)) (bits h)=U j/\Ow m (owner.setIfInBounds j (U k)) (k+1):=by
 let⟨e,he,hn⟩:=KR O hk;let⟨n,kP,en⟩:=reach hm (i:=bits h%(m+1)) (Ed h) he;let⟨j,ej,hj⟩:=Ef (m:=m) (owner:=owner) n (turns m) (bits h%(m+1)) (bits h) (by unfold turns;symm) (by rw[en];calc hn);refine⟨j,ej,by rw[Array.size_setIfInBounds];calc O.size,?_,λx hx=>?_⟩
 .rw[q1c,Eg (getD_none hj),O.cnt]
 .rw[q1c] at hx
  rcases q1s hx with h|h
  .exact Zk (O.lt x h)
  .cases h;calc ZT _
theorem Eh(hm:Mk m):∀(hs:-Int)(owner:Array (Option Nat))(k:Nat),Ow m owner k->k+↑hs<=m+1 →
  ∃kQ,(hs.foldl (init:=U (owner,k)) λacc h=>do
   let(owner,k) <- acc
   let j <- q0o m owner (turns m) (bits h%(m+1)) (bits h)
   pure (owner.setIfInBounds j (U k),k+1))=U (kQ,k+↑hs)/\Ow m kQ (k+↑hs)
 |[],owner,k,O,_=>⟨owner,Y,O⟩
 |h::hs,owner,k,O,hl=>by
  rw[NG] at hl ⊢;let⟨j,ej,O'⟩:=KU hm O ⋯ h;let⟨o2,e2,O2⟩:=Eh hm hs _ (k+1) O' ⋯;calc⟨o2,?_,by rw[show k+(↑hs+1)=k+1+↑hs by symm];calc O2⟩;rw[q18,show k+(↑hs+1)=k+1+↑hs by symm,<-e2];congr 1;show(do let j <- q0o m owner (turns m) (bits h%(m+1)) (bits h);pure (owner.setIfInBounds j (U k),k+1))=_;rw[ej];rfl
theorem KW(m:Nat):Ow m (Array.replicate (m+1) Z) 0:=by
 refine⟨by simp,?_,λx hx=>?_⟩
 .rw[q1S]
  exact List.countP_eq_zero.mpr λx hx=>by rw[q1E hx];decide
 .rw[q1S] at hx
  cases q1E hx
theorem KY(hm:Mk m)(hs:Array Int)(hz:hs.size<=m+1):∃owner,layClean m hs=U owner/\Ow m owner hs.size:=by
 let⟨o,e,O⟩:=Eh hm hs.toList _ 0 (KW m) (by rw[XU];symm);rw[YF,XU] at O;calc⟨o,?_,O⟩;unfold layClean;rw[<-Array.foldl_toList,e];rfl
noncomputable def qJ(m:Nat)(owner:Array (Option Nat)):-(Nat×Nat):=(X_ (m+1)).filterMap λj=>(owner.getD j Z).map (j,·)
theorem Ei(O:Ow m owner k):↑(qJ m owner)=k:=by
 unfold qJ;rw[q0P,<-O.cnt]
 let e:owner.toList=(X_ (m+1)).map λj=>owner.getD j Z:=by
  calc Z_ λi=>?_;rw[Ym,WD]
  by_cases hi:i<m+1
  .rw[Y0 hi,q3U,Zs (by rw[O.size];calc hi),YO,Zs (by rw[O.size];calc hi)];rfl
  .rw[Array.getElem?_eq_none (by rw[O.size];symm),Yy (by rw[Ys];symm)];rfl
 rw[e,List.countP_map];calc List.countP_congr λj _=>?_;simp
theorem KZ(O:Ow m owner k)(hz:z∈qJ m owner):z.2<k:=by
 unfold qJ at hz;let⟨j,hj,e⟩:=q0x.mp hz;let⟨x,ex,rfl⟩:=XX.mp e;calc O.lt x ?_;rw[YO] at ex
 cases q:owner[j]? with
 |none=>rw[q] at ex;cases ex
 |some y =>
  rw[q] at ex;cases(show y=U x from ex)
  calc WM.mpr ⟨j,by rw[Ym];calc q⟩
theorem K6(hm:Mk m)(t:SetTable)(hs:Array Int)(wanted:Nat)(hw:sizeAbove wanted-1=m)(hz:hs.size<=m+1):
  ∃t' order,t.relaid hs wanted=U (t',order)/\t'.mask=m/\t'.dummies = #[]/\t'.place.size=hs.size/\t'.led=t.led/\t'.plain=t.plain/\order.size=hs.size/\∀k∈order.toList,k<hs.size:=by
 let⟨owner,e,O⟩:=KY hm hs hz;refine⟨{mask:=m,place:=((qJ m owner).map (·.1)).toArray,dummies := #[],finger:=t.finger,led:=t.led,moves:=t.movedTo m,plain:=t.plain},((qJ m owner).map (·.2)).toArray,?_,Y,Y,?_,Y,Y,?_,λk hk=>?_⟩
 .unfold relaid laid
  rw[hw,e];rfl
 .rw[Fp,pR,Ei O]
 .rw[Fp,pR,Ei O]
 .let⟨z,hz,rfl⟩:=XM.mp hk
  calc KZ O hz
theorem K7{α:Type}{es:Array α}{order:Array Nat}(h:∀k∈order.toList,k<es.size):(order.filterMap (es[·]?)).size=order.size/\∀e∈(order.filterMap (es[·]?)).toList,e∈es.toList:=by
 constructor
 .rw[<-XU,q1T,q0P,q2e.mpr λk hk=>?_,XU]
  rw[Zs (h k hk)];rfl
 .ext e he
  rw[q1T] at he;let⟨k,_,q⟩:=q0x.mp he;calc WM.mpr ⟨k,by rw[Ym];calc q⟩
theorem K8(t:SetTable)(hd:t.dummies = #[])(j:Nat):(t.put j).1.dummies = #[]/\(t.put j).1.mask=t.mask/\(t.put j).1.place.size=t.place.size+1/\(t.put j).1.led=t.led/\(t.put j).1.plain=t.plain/\(t.put j).1.moves=t.moves/\(t.put j).1.finger=t.finger:=by
 unfold put;dsimp only;rw[hd,D_];calc⟨Y,Y,?_,Y,Y,Y,Y⟩;unfold insertAt;erw[q27,q19,q2Q];symm
theorem K9{α:Type}{xs:Array α}{p:Nat}{x e:α}(h:e∈(insertAt xs p x).toList):e=x\/e∈xs.toList:=by
 unfold insertAt at h;erw[Array.toList_append,Array.toList_push,Yc,X1,Array.toList_extract] at h;erw[List.extract_eq_take_drop] at h;rcases h with(h|h)|h
 .right;exact q2l (q0X h)
 .exact .inl h
 .right;calc q2l (q0X h)
theorem K_{α:Type}(xs:Array α)(p:Nat)(x:α):(insertAt xs p x).size=xs.size+1:=by
 unfold insertAt;erw[q27,q19,q2Q];symm
end LJS
namespace LJS
open PySem PySem.SetTable PyProof.Rows
structure gh(t:SetTable)(es:Array (Int×L))(hs:-Int):Prop where
 x8:t.dummies = #[]
 sf:Mk t.mask
 sg:t.place.size=es.size
 num:es.size=↑hs
 jT:t.tooFull=ι
 ins:∀e∈es.toList,e.1∈hs
def fQ(h:I)(S:O)(hs:-Int):Prop:=∃o es ep t,h.get? S=U o/\o.ExactSet/\o.data=.set es ep t/\gh t es hs
section
variable{t:SetTable}{es:Array (Int×L)}{hs:-Int}
theorem gh.fill(T:gh t es hs):t.fill=es.size:=by
 unfold q2G;rw[T.sg,T.x8];rfl
theorem gh.lt(T:gh t es hs):es.size*5<t.mask*3:=by
 let:=T.jT;unfold tooFull at this;rw[T.fill] at this;let:=of_decide_eq_false this;symm
theorem gh.fits(T:gh t es hs):t.fits es.size=θ:=by
 let:=T.lt;unfold q4v;rw[T.fill,T.sg];simp;symm
theorem gh.x_(T:gh t es hs):t.gaveWay=ι:=by
 unfold SetTable.gaveWay;rcases T.sf with h|h|h<;>rw[h]<;>rfl
end
theorem La:sizeAbove (grown 5)-1=31:=by decide +kernel
theorem Lb:sizeAbove (grown 19)-1=127:=by decide +kernel
section
variable{prog:t}{w:X}{A:q}{E:bc}{s:B}
theorem Lc{S:O}{x:L}{h:Int}{hs:-Int}{o:Γ}{es:Array (Int×L)}{ep:Nat}{t:SetTable}{Q:SetFound->B->Prop}(ho:s.heap.get? S=U o)(hd:o.data=.set es ep t)(T:gh t es hs)(hn:h∉hs)
  (k:∀j,Q (.free j ι) s):G (ς prog w) A (setSearch S x h θ) Q E s:=by
 show G _ _ (setSearchFrom S x h θ (99999+1) Z) _ _ _;calc tH (q0H ho hd T.fits ?_);dsimp only;rw[T.x_];let hz:t.place.size<=t.mask:=by let:=T.lt;rw[T.sg];symm
 let⟨j,ej⟩:=KQ (t:=t) (f:=λi=>(es[i]?.map (·.1)).getD 0) (h:=h) T.x8 T.sf hz (λi hi z=>by
  rw[T.sg] at hi;rw[Zs hi] at z
  calc hn (by rw[<-show es[i].1=h from z];calc T.ins _ (q1D hi)))
 erw[q1I];generalize hP:t.probe _ h (t.probeStart h)=P;let eP:P=U (.empty j Z):=hP.symm.trans ej;rw[eP];calc NH (k j)
theorem Ld{S:O}{x:L}{h:Int}{hs:-Int}{Q:Bool->B->Prop}(hx:x.scannable=ι)(hS:fQ s.heap S hs)(hn:h∉hs)(hl:↑hs<60)
  (hv:∀Q':Bool->B->Prop,(∀b,Q' b s)->G (ς prog w) A (hashByValue 8 x) Q' E s)
  (k:∀h',q0I S s.heap h'->fQ h' S (hs++[h])->Q θ {s with heap:=h'}):G (ς prog w) A (setAddHashed S x h) Q E s:=by
 let⟨o,es,ep,t,ho,hex,hd,T⟩:=hS;calc Yw ?_;calc tH (q0H ho hd T.fits ?_);let hb:byScan x es=ι:=by unfold byScan;rw[hx];rfl
 dsimp only;rw[hb];calc tH (Lc ho hd T hn λj=>?_);calc tH (q0H ho hd T.fits ?_);let⟨p1,p2,p3,p4,p5,p6,p7⟩:=K8 t T.x8 j
 let fin:∀b:Bool,G (ς prog w) A (do
   storeSet S (SetTable.insertAt es (t.put j).2 (h,x)) (if b=θ then(t.put j).1 else{(t.put j).1 with plain:=false})
   if(!ι&&(if b=θ then(t.put j).1 else{(t.put j).1 with plain:=false}:SetTable).tooFull)=θ then do
       setRelay S (q3_ (es.size+1))
       pure θ
    else pure θ) Q E s:=by
  ext b;generalize mi:(if b=θ then(t.put j).1 else{(t.put j).1 with plain:=false}:SetTable)=t2;let q1:t2.dummies = #[]:=by rw[<-mi];cases b<;>exact p1
  let q2:t2.mask=t.mask:=by rw[<-mi];cases b<;>exact p2
  let q3:t2.place.size=es.size+1:=by rw[<-mi,<-T.sg];cases b<;>exact p3
  let n9:=K_ es (t.put j).2 (h,x)
  let pf:∀e∈(insertAt es (t.put j).2 (h,x)).toList,e.1∈hs++[h]:=λe he=>by
   rcases K9 he with rfl|he
   .exact XR _ (X1.mpr Y)
   .exact Yj _ (T.ins e he)
  generalize insertAt es (t.put j).2 (h,x)=iV at n9 pf;let Ws:es.size<60:=by rw[T.num];exact hl
  refine tH (q28 ho hd ?_ (by rw[n9,Zq];symm))
  let ku:(s.heap.update S (q1U iV t2)).get? S=U {o with data:=.set iV (ep+1) t2}:=by
   let:=Y6 (q1U iV t2) ho (by rw[q4N iV t2 hd];rfl);rw[q4N iV t2 hd] at this;exact this
  let fl:t2.fill=es.size+1:=by unfold q2G;rw[q1,q3];rfl
  let lt:=T.lt
  let si:t2.fits iV.size=θ:=by
   unfold q4v;rw[fl,q3,n9,q2];simp;rcases T.sf with e|e|e<;>rw[e] at lt ⊢ <;> symm
  by_cases tf:t2.tooFull=θ
  .rw[XI (by rw[tf];rfl)]
   let Ej:t.mask*3<=(es.size+1)*5:=by
    unfold tooFull at tf;let:=YQ tf;symm
   let⟨m,hm,hw,hsz⟩:∃m,Mk m/\sizeAbove (grown (es.size+1))-1=m/\(es.size+1)*5<m*3:=by
    rcases T.sf with e|e|e
    .rw[e] at lt Ej
     let:es.size+1=5:=by symm
     rw[this];exact⟨31,.inr (.inl Y),La,⋯⟩
    .rw[e] at lt Ej
     let:es.size+1=19:=by symm
     rw[this];exact⟨127,.inr (.inr Y),Lb,⋯⟩
    symm
   calc tH ?_;calc tH (q0H ku Y si ?_);dsimp only
   let Le:¬ SetTable.sizeAbove (q3_ (es.size+1))>sizeLine:=by
    rw[Zq];rcases hm with e|e|e<;>symm
   rw[WK Le];let⟨t3,order,er,r1,r2,r3,_,_,r4,r5⟩:=K6 hm t2 (iV.map (·.1)) (grown (es.size+1)) hw (by rw[q2m,n9];symm);rw[er];rw[q2m,n9] at r3 r4;rw[q2m] at r5;let⟨o1,o2⟩:=K7 (es:=iV) (order:=order) r5;refine tH ?_
   show G _ _ (do
    if(order.filterMap (iV[·]?)).size != iV.size then
     unsupported "internal:set-table-lost-an-element"
    pure (order.filterMap (iV[·]?),t3)) _ _ _
   rw[WK (by rw[o1,r4,n9];simp)];calc NH ?_;refine q28 ku Y ?_ (by rw[o1,r4,Zq];symm)
   let hW:((s.heap.update S (q1U iV t2)).update S (q1U (order.filterMap (iV[·]?)) t3)).get? S=U {o with data:=.set (order.filterMap (iV[·]?)) (ep+1+1) t3}:=by
    let:=Y6 (q1U (order.filterMap (iV[·]?)) t3) ku (by rw[q4N _ t3 Y];rfl);exact this
   refine NH (k _ ?_ ⟨_,_,_,_,hW,hex,Y,r2,by rw[r1];calc hm,by rw[r3,o1,r4],by rw[o1,r4,T.num,Fs];rfl,?_,λe he=>pf e (o2 e he)⟩)
   .exact (YK ..).trans (YK ..)
   .unfold tooFull q2G
    rw[r2,r3,r1];simp;symm
  .let Ek:t2.tooFull=ι:=by cases q:t2.tooFull<;>simp_all
   rw[WK (by rw[Ek];decide)];refine NH (k _ (YK ..) ⟨_,_,_,_,ku,hex,Y,q1,by rw[q2];calc T.sf,by rw[q3,n9],by rw[n9,T.num,Fs];rfl,Ek,pf⟩)
 by_cases hp:(t.put j).1.plain=θ
 .rw[XI hp]
  calc tH (hv _ λb=>?_);exact fin b
 .rw[WK hp]
  calc fin θ
end
end LJS
namespace LJS
open PySem PySem.SetTable
end LJS
namespace LJS
open PySem PySem.SetTable PyProof.Rows
section
variable{t:SetTable}{es:Array (Int×L)}{led:Bool}{ks:-Int}
end
section
variable{prog:t}{w:X}{A:q}{E:bc}{s:B}
theorem Lf{ks:-Int}:∀{vs:-L},ItemsAre (intKind prog w) ks vs->∀v∈vs,∃i t,v=.int i t:=by
 induction ks with
 |nil=>ext vs h v hv;cases h;cases hv
 |cons k ks ih =>
  ext vs h v hv
  cases h with
  |cons h1 h2 =>
   rcases XJ.mp hv with rfl|hv
   .let⟨t,e⟩:=q29 (k:=k) (v:=v) (by first|exact h1|simpa[intKind] using h1)
    exact⟨_,_,e⟩
   .calc ih h2 v hv
theorem Lg{ks:-Int}{a:O}{Q:Bool->B->Prop}(hk:IsTupleKey (intKind prog w) s.heap ks a)(h:∀b,Q b s):G (S prog w) A (hashByValue 8 (.ref a)) Q E s:=by
 let hT:=hk.typeIs;let⟨o,au,n,ho,_,hd,hi⟩:=hk;show G _ _ (hashByValue (7+1) (.ref a)) _ _ _;unfold hashByValue;calc tH (q3V hT F.slot_tuple_hash.lookup ?_);show G _ _ (seqItems? (.ref a) >>= _) _ _ s;calc tH (q2n ho hd ?_);calc tH ?_;show G _ _ (forIn au _ _) _ _ s;rw[<-q1d];refine q3u _ (λrest _ s'=>s'=s/\∀v∈rest,∃i t,v=Z8 i t) _ ?_ ?_ _ _ ⟨Y,Lf hi⟩
 .ext v rest r s' ⟨rfl,ml⟩
  let⟨i,t,rfl⟩:=ml v NJ;let e:hashByValue 7 (.int i t)=pure θ:=by unfold hashByValue;rfl
  rw[e];calc tH (NH ?_);erw[q4w,Ze,q0f];exact NH ⟨Y,λu hu=>ml u (WH _ hu)⟩
 .ext ⟨r1,r2⟩ s' ⟨rfl,_⟩
  cases r1 with
  |none=>exact NH (h _)
  |some b=>calc NH (h _)
theorem ya{h h':I}{ks:-Int}{a:O}(x:IsTupleKey (intKind prog w) h ks a)(k:∀o,h.get? a=U o->h'.get? a=U o):IsTupleKey (intKind prog w) h' ks a:=by
 let⟨o,au,n,ho,r⟩:=x;calc⟨o,au,n,k o ho,r⟩
noncomputable abbrev hT(prog:t)(w:X)(ks:-Int):Int:=tupleKeyHash (intKind prog w) ks
theorem yb{h h':I}{S:O}{hs:-Int}(x:fQ h S hs)(k:∀o,h.get? S=U o->h'.get? S=U o):fQ h' S hs:=by
 let⟨o,es,ep,t,ho,r⟩:=x;calc⟨o,es,ep,t,k o ho,r⟩
end
section
variable{prog:t}{w:X}{A:q}{R:Result->B->Prop}{I S:O}{fp wr:-O}{G:Array GenState->Array GenState->Prop}{n:Nat}{P:Nat->L->Prop}{St:Nat->B->Prop}
theorem Lh(W:WalksS prog w A.in1 I fp wr G n P St)(out:S∉fp)(ad:Nat->O)(ks:Nat->-Int)(ph:∀i v,P i v->v=.ref (ad i))(apart:∀i,i<n->ad i∉S::wr)(room:A.in1.units<cLine)
  (unlike:∀i j,i<n->j<i->hT prog w (ks j)≠hT prog w (ks i)) (fR:n<=30) :
  ∀(left i:Nat)(s:B),i+left=n->St i s->(∀j,j<n->IsTupleKey (intKind prog w) s.heap (ks j) (ad j))->fQ s.heap S ((X_ i).map λj=>hT prog w (ks j)) →
   (∀s',Moved (S::wr) G s s'->fQ s'.heap S ((X_ n).map λj=>hT prog w (ks j))->R (.ok (.ret .none)) s') →
   codeAny (ς prog w) A (.builtin "set.update.loop" ⟨[.ref S,.ref I],[]⟩) R s:=by
 let sj:S∉wr:=λz=>out (W.sub _ z);let more:∀b,b∈wr->b∈S::wr:=λb hb=>WH _ hb;ext left
 induction left with
 |zero =>
  ext i s hi st tk se fin;obtain rfl:i=n:=by symm
  calc q0v q1J ?_;rw[q0g q0B _];show ρ _ A.in1 (pyNext (.ref I) >>= _) _ _ s;calc tH (W.done s _ _ st λs' mv=>?_);show ρ _ A.in1 (ret Yk) _ _ s';exact NH (fin s' (mv.mono more) (yb se λo e=>mv.heap S o sj e))
 |succ left ih =>
  ext i s hi st tk se fin;let fL:i<n:=by symm
  calc q0v q1J ?_;rw[q0g q0B _];show ρ _ A.in1 (pyNext (.ref I) >>= _) _ _ s;calc tH (W.item i s _ _ fL st λv s1 hP lO mv=>?_);obtain rfl:=ph i v hP;let n_:∀j,j<n->IsTupleKey (intKind prog w) s1.heap (ks j) (ad j):=λj hj=>ya (tk j hj) λo e=>mv.heap _ o (λz=>apart j hj (more _ z)) e;show ρ _ A.in1 (holding [Yg (ad i)] (setAdd S (.ref (ad i))) >>= _) _ _ s1;calc tH (Yw ?_);unfold setAdd;calc Yw (tH (wpAny_pyHash_tuple room (n_ i fL) ?_));refine Ld (s:={s1 with toks:=s1.toks+(↑(ks i)+1)}) (hs:=(X_ i).map λj=>hT prog w (ks j)) Y (yb se λo e=>mv.heap S o sj e) (λz=>?_) (by rw[pR,Ys];symm) (λQ' q=>Lg (n_ i fL) q) λh2 sb Li=>?_
  .let⟨j,hj,e⟩:=XM.mp z
   exact unlike i j fL (Yo.mp hj) e
  .let nS:∀b,b∈fp->b≠S:=λb hb z=>out (by rw[<-z];calc hb)
   refine NH ⟨q4x q0B _,ih (i+1) _ ⋯ (W.frame _ s1 _ _ lO (q3v _ _) λb hb o e=>by rw[sb.2 b (nS b hb)];calc e) (λj hj=>ya (n_ j hj) λo e=>?_) (by rw[List.range_succ,XY];calc Li) λs3 Lj Lk=>?_⟩
   .rw[sb.2 _ (λz=>apart j hj (by rw[z];calc NJ))];exact e
   .refine fin s3 (Moved.trans W.gtrans ((mv.mono more).then_heap (q3v _ _) λb o hb e=>?_) Lj) Lk
    rw[sb.2 b (λz=>hb (by rw[z];calc NJ))];calc e
end
noncomputable abbrev gJ(led:Bool):Q:={cls:=.type "set",dict:=none,data:=.set #[] 0 (.fresh 0 0 led)}
theorem Ll{h:I}{S:O}{led:Bool}(e:h.get? S=U (gJ led)):fQ h S [] :=
 ⟨_,#[],0,_,e,⟨Y,Y,Y⟩,Y,Y,.inl Y,Y,Y,by cases led<;>decide,λ_ h=>nomatch h⟩
section
variable{prog:t}{w:X}{A:q}{E:bc}{s:B}
set_option maxHeartbeats 3200000 in
theorem Lm {l:O} {items:Array L} {Q:bc} (ad:Nat->O) (ks:Nat->-Int) (hh:A.handled=Z) (room:A.units+8<cLine) (Ln:s.heap.IsList l items) (ph:∀(i:Nat)(v:L),items[i]?=U v->v=.ref (ad i))
  (tk:∀i,i<items.size->IsTupleKey (intKind prog w) s.heap (ks i) (ad i)) (unlike:∀i j,i<items.size->j<i->hT prog w (ks j)≠hT prog w (ks i)) (fR:items.size<=30)
  (fin:∀(h':I)(tk:Nat),fQ h' ⇑s ((X_ items.size).map λj=>hT prog w (ks j))->(∀b o,b<⇑s->s.heap.get? b=U o->h'.get? b=U o)->Q (.ref ⇑s) {s with heap:=h',toks:=tk}) :
  G (ς prog w) A (call (.type "set") [.ref l]) Q E s:=by
 let⟨c,tl,Lo⟩:=ZY.mro;let m1:=ZY.made;let m2:=ZY.sub;let m3:=ZY.notType;let m4:=ZY.canCreate;let m5:=F.typeCall_set_1 (.ref l);calc q2R (codeAny_of_tree ?_);show G _ _ (callAny (.type "set") _) _ _ _;calc NH ⟨Code.quiet_builtin _ (by decide +kernel),q0v F.entry_type_call ?_⟩;rw[Around.under_plain (weight_type_call_type "set" [.ref l] []) Y]
 repeat(any_goals (first|assumption|wp_step))
 refine q0J (code_set_new_1 (.ref l) (E:=E) (Q₁:=λr s1=>∃led:Bool,r=.ref ⇑s/\s1={s with heap:=s.heap.push (gJ led)}) λled=>⟨led,Y,Y⟩) λr s1 hr=>?_
 cases r with
 |error e=>exact hr
 |ok fl =>
  cases fl with
  |ret obj =>
   let⟨led,rfl,rfl⟩:=hr;let gS:(s.heap.push (gJ led)).get? ⇑s=U (gJ led):=WL _ Y;let tS:Shared.TypeIs {s with heap:=s.heap.push (gJ led)} (.ref ⇑s) "set" := ⟨_,gS,Y⟩;let m6:=ZY.init.lookup;let m7:=ZY.init.bind (.ref ⇑s)
   repeat(any_goals (first|assumption|wp_step))
   refine q0J (codeAny_call_builtin (R:=wants (λr s2=>r=.none/\∃h' tk,s2={s with heap:=h',toks:=tk}/\fQ h' ⇑s ((X_ items.size).map λj=>hT prog w (ks j)) ∧
     ∀b o,b<⇑s->s.heap.get? b=U o->h'.get? b=U o) E) ZY.init.plain F.entry_set_init (check_set_init_1 tS ?_)) λr2 s2 sk=>?_
   .let⟨ol,gl,cl,nl,dl⟩:=Ln
    let⟨c0,d0,Wt,Lp⟩:=ol;simp only at cl dl;subst cl;subst dl;let Lq:(s.heap.push (gJ led)).get? l=U {cls:=.type "list",dict:=d0,data:=.seq items nl,slots:=Lp}:=zk _ gl;let x1:=F.sub_list_set;let x2:=F.sub_list_frozenset;let x3:(q0y "list" == q0y "dict")=ι:=by decide
    let so:(s.heap.push (gJ led)).IsList l items:=⟨_,Lq,Y,nl,Y⟩;let ll:l<⇑s:=WJ gl;unfold Builtin.«set.__init__» noKeywords Builtin.Frozenset.updateFrom;generalize Lr:pyIter=PI
    wp_walk
    subst Lr;calc q0a so (tH (q4a ?_));let h3:A.in1.in1.in1.handled=Z:=by simp[hh]
    let ez:(s.heap.push (gJ led)).objs.size=⇑s+1:=Zz ..;let nI:l≠(s.heap.push (gJ led)).objs.size:=by rw[ez];exact XQ (Zk ll)
    let lt:∀i,i<items.size->ad i<⇑s:=λi hi=>by
     let⟨o,_,_,e,_⟩:=tk i hi;exact WJ e
    refine Lh ((q2S h3 _ l nI items).toS) (S:=s.heap.objs.size) ?out ad ks (λi v hv=>ph i v hv) ?apart ?room unlike fR items.size 0 _ (YF _)
     ⟨⟨_,WL _ Y,Y,Y⟩,so.push _⟩ ?tk ?fresh ?fin
    case out =>
     erw[XJ,Yh,q1e,not_or,ez];exact⟨XQ (ZT _),ZZ ll⟩
    case apart =>
     ext i hi;let:=lt i hi;erw[XJ,Yh,q1e,not_or,ez];exact⟨XQ this,XQ (Zk this)⟩
    case room =>
     show A.units+1+1+1<cLine;exact q1f (Nat.add_le_add_left (by decide:3<=8) _) room
    case tk =>
     ext j hj;exact ya (tk j hj) λo e=>zk _ (zk _ e)
    case fresh =>
     exact Ll (led:=led) (zk _ gS)
    case fin =>
     ext s' mv se;let⟨h',g',d',El,yc⟩:=s';obtain rfl:g'=s.gens:=mv.gens;obtain rfl:d'=s.drawn:=mv.drawn;obtain rfl:yc=s.os:=mv.os;show G _ _ _ _ _ _;calc NH ?_;show G _ _ (ret Yk) _ _ _;calc NH ⟨Y,h',El,Y,se,λb o hb e=>?_⟩;calc mv.heap b o ?_ (zk _ (zk _ e));erw[XJ,Yh,q1e,not_or,ez];exact⟨XQ hb,XQ (Zk hb)⟩
   .cases r2 with
    |error e=>exact sk
    |ok Ls =>
     cases Ls with
     |ret r =>
      let⟨rfl,h',El,rfl,se,kp⟩:=sk
      repeat(any_goals (first|assumption|wp_step))
      exact fin _ _ se kp
     |next=>exact sk
     |brk=>exact sk
     |cont=>exact sk
  |next=>exact hr
  |brk=>exact hr
  |cont=>calc hr
end
section
variable{prog:ψ}{w:X}{A:q}{I S:O}{o:Q}{es:Array (Int×L)}{ep:Nat}{t:SetTable}{ks:-Int}
end
section
variable{prog:ψ}{w:X}{A:q}{S:O}{o:Q}{es:Array (Int×L)}{ep:Nat}{t:SetTable}{ks:-Int}
end
end LJS
namespace L2
open PySem PySem.Spec PyProof.Rows
abbrev Key:=Sum Int J
noncomputable def qK:Key->L->Bool
 |.inl k,v=>Value.isInt k v
 |.inr x,v=>q4y x v
noncomputable def yd(w:X):Key->Int
 |.inl k=>hashInt k
 |.inr x=>hashStr w x
theorem mq:∀{k:Key}{v:L},qK k v=θ->(∃i t,k=q0b i/\v=Z8 i t)\/(∃x t,k=q2s x/\v=q2t x t)
 |.inl i,v,h=>by
  let⟨t,e⟩:=q29 (k:=i) (v:=v) h;exact .inl ⟨i,t,Y,e⟩
 |.inr x,v,h=>by
  let⟨t,e⟩:=Value.isStrOf_shape (x:=x) (v:=v) h;calc .inr ⟨x,t,Y,e⟩
theorem Lu(i:Int)(t:Tok):qK (.inl i) (.int i t)=θ:=by simp[qK,Value.isInt]
theorem Lw(x:J)(t:Tok):qK (.inr x) (.str x t)=θ:=by simp[qK,q4y]
theorem Lx(a b:Int):l ((q0b a:Key)=q0b b)=(a==b):=by
 by_cases e:a=b
 .subst e;simp
 .let h:¬ (q0b a:Key)=q0b b:=λq=>e (q3O q)
  rw[XO h];calc(ZR.mpr e).symm
theorem Ly(a b:J):l ((q2s a:Key)=q2s b)=l (a=b):=by
 by_cases e:a=b
 .subst e;simp
 .let h:¬ (q2s a:Key)=q2s b:=λq=>e (Sum.inr.inj q)
  rw[XO h,XO e]
theorem Lz(a:Int)(b:J):l ((q0b a:Key)=q2s b)=ι:=XO (λq=>nomatch q)
theorem LA(a:J)(b:Int):l ((q2s a:Key)=q0b b)=ι:=XO (λq=>nomatch q)
noncomputable def ik(prog:ψ)(w:X):PySem.KeyKind prog w Key where
 is:=qK
 hash:=yd w
 inj:=λv a b ha hb=>by
  rcases mq ha with⟨i,t,rfl,rfl⟩|⟨x,t,rfl,rfl⟩
  .rcases mq hb with⟨j,u,rfl,e⟩|⟨y,u,rfl,e⟩
   .injection e with e1 _;rw[e1]
   .exact nomatch e
  .rcases mq hb with⟨j,u,rfl,e⟩|⟨y,u,rfl,e⟩
   .exact nomatch e
   .injection e with e1 _;rw[e1]
 byValue:=λk v h=>by
  rcases mq h with⟨i,t,rfl,rfl⟩|⟨x,t,rfl,rfl⟩<;>rfl
 pyHash:=λhv h=>by
  rcases mq hv with⟨i,t,rfl,rfl⟩|⟨x,t,rfl,rfl⟩
  .exact wpAny_pyHash_int h
  .exact wpAny_pyHash_str h
 eqBool:=λhu hv h=>by
  rcases mq hu with⟨i,t,rfl,rfl⟩|⟨x,t,rfl,rfl⟩
  .rcases mq hv with⟨j,u,rfl,rfl⟩|⟨y,u,rfl,rfl⟩
   .rw[Lx] at h;exact q3w h
   .rw[Lz] at h;exact q2T i t y u _ _ _ _ h
  .rcases mq hv with⟨j,u,rfl,rfl⟩|⟨y,u,rfl,rfl⟩
   .rw[LA] at h;exact q2U x t j u _ _ _ _ h
   .rw[Ly] at h;exact wpAny_eqBool_str h
 «strs» := λk x t v h=>by
  rcases mq h with⟨i,u,rfl,e⟩|⟨y,u,rfl,e⟩
  .exact nomatch e
  .injection e with e1 _
   subst e1;cases v<;>rfl
theorem LB(prog:ψ)(w:X)(i:Int)(t:Tok):(ik prog w).is (.inl i) (.int i t)=θ:=Lu i t
theorem LC(prog:ψ)(w:X)(x:J)(t:Tok):(ik prog w).is (.inr x) (.str x t)=θ:=Lw x t
inductive V where
 |non|bl (b:Bool)|int (i:Int)|str (x:J)|byt (b:Array UInt8)|flt (b:UInt64)|ref (a:O)|ty (n:String)
 deriving DecidableEq
def RelV:V->L->Prop
 |.non,u=>u=Yk
 |.bl b,u=>u=q0h b
 |.int i,u=>∃t,u=Z8 i t
 |.str x,u=>∃t,u=q2t x t
 |.byt b,u=>∃t,u=Value.bytes b t
 |.flt b,u=>∃t,u=q3P b t
 |.ref a,u=>u=Yg a
 |.ty n,u=>u=q0y n
abbrev Vals:-V->-L->Prop:=Paired RelV
theorem Vals.length{xs:-V}{us:-L}(r:Vals xs us):↑xs=↑us:=q2H r
theorem Vals.get:∀{xs:-V}{us:-L}{i:Nat}{x:V},Vals xs us->xs[i]?=U x->∃u,us[i]?=U u/\RelV x u
 |_,_,_,_,.nil,e=>by simp at e
 |_,_,0,_,.cons r _,e=>by simp at e;subst e;exact⟨_,Y,r⟩
 |_,_,i+1,x,.cons _ t,e=>by
  let⟨u,h1,h2⟩:=Vals.get (i:=i) (x:=x) t e⁻¹;calc⟨u,by simpa using h1,h2⟩
theorem Vals.set{x:V}{u:L}(r:RelV x u):∀{xs:-V}{us:-L}(i:Nat),Vals xs us->Vals (xs.set i x) (us.set i u)
 |_,_,_,.nil=>.nil
 |_,_,0,.cons _ t=>.cons r t
 |_,_,i+1,.cons q t=>.cons q (Vals.set r i t)
theorem Vals.append:∀{xs ys:-V}{us ws:-L},Vals xs us->Vals ys ws->Vals (xs++ys) (us++ws)
 |_,_,_,_,.nil,s=>s
 |_,_,_,_,.cons r t,s=>.cons r (Vals.append t s)
theorem Vals.take:∀{xs:-V}{us:-L}(n:Nat),Vals xs us->Vals (xs.take n) (us.take n)
 |_,_,0,_=>.nil
 |_,_,_+1,.nil=>.nil
 |_,_,n+1,.cons r t=>.cons r (Vals.take n t)
theorem Vals.drop:∀{xs:-V}{us:-L}(n:Nat),Vals xs us->Vals (xs.drop n) (us.drop n)
 |_,_,0,r=>r
 |_,_,_+1,.nil=>.nil
 |_,_,n+1,.cons _ t=>Vals.drop n t
def eg:Option V->Option L->Prop
 |some v,some u=>RelV v u
 |none,none=>True
 |_,_=>False
def KV{κ:Type}:-(κ×V)->-(κ×L)->Prop:=Paired λ(p:κ×V) (q:κ×Value)=>p.1=q.1/\RelV p.2 q.2
noncomputable def kV:Key->V
 |.inl i=>.int i
 |.inr x=>.str x
inductive HO where
 |lst (xs:-V)
 |tup (xs:-V)
 |dK (kvs:-(Key×V))|dT (kvs:-(-Key×V))
 |set (S:Int->Bool) (n:Nat)
 |ins (C dx:O) (fs:-(J×V))
 |own (x:O)
 |xd (fs:-(J×V))
 |met (f x:O)
 |rng (lo hi:Int)
 |frz (o:Q) (u:HO)
 |tbl (ps:Array L)
 |ext (φ:I->Prop)
abbrev Hp:=O->Option HO
noncomputable def upd(H:Hp)(a:O)(o:HO):Hp:=λb=>if b=a then U o else H b
theorem bK{H:Hp}{a:O}{o:HO}:upd H a o a=U o:=by unfold upd;rw[XI Y]
theorem aZ{H:Hp}{a b:O}{o:HO}(h:b≠a):upd H a o b=H b:=by unfold upd;rw[WK h]
theorem vC{H:Hp}{a b:O}{o u:HO}(h:H a=U o)(h':H b=U u)(d:o≠u):a≠b:=by
 ext e;subst e;rw[h] at h';calc d (Yf h')
theorem cR{H:Hp}{a b:O}{o:HO}(h:H a=U o)(h':H b=Z):a≠b:=by
 ext e;subst e;rw[h] at h';cases h'
section
variable(P:t)(w:X)
def aU(H:Hp)(h:I)(a:O):HO->Prop
 |.lst xs=>↑xs<=sizeLine/\∃(au:-L)(n:Nat),Vals xs au/\h.get? a=U {cls:=.type "list",data:=.seq au.toArray n}
 |.tup xs=>↑xs<=sizeLine/\∃au:-L,Vals xs au/\IsTup h a au.toArray
 |.dK kvs=>↑kvs<=sizeLine/\(a==sysModules)=ι/\∃vs,KV kvs vs/\h.DictOf (ik P w) a vs
 |.dT kvs=>↑kvs<=sizeLine/\(a==sysModules)=ι/\∃xs:-(-Key×O×L),
   Paired (λ(p:-Key×V) (q:-Key×Addr×Value)=>p.1=q.1/\H q.2.1=U (.tup (p.1.map kV))/\RelV p.2 q.2.2) kvs xs ∧
   ∃o es ep,h.get? a=U o/\o.ExactDict/\o.data=.dict es ep/\es.toList=xs.map (entryOfKey (tupleKind (ik P w)))/\(xs.map (·.1)).Nodup
 |.set S n=>h.SetOf (intKind P w) a S n
 |.ins C dx fs=>H dx=U (.own a)/\fs.length<=1000/\dx≠a/\h.get? a=U (ZG C dx) ∧
   ∃mA,h.Ns1 dx mA/\(∀f,eg (fs.lookup f) (mA f))/\q2_ mA (fs.map (·.1))
 |.own _=>∃o,h.get? a=U o
 |.xd fs=>∃mA,h.Ns1 a mA/\∀f,eg (fs.lookup f) (mA f)
 |.rng lo hi=>∃t u v,h.get? a=U {cls:=.type "range",data:=.fields #[.int lo t,.int hi u,.int 1 v]}
 |.frz o u=>h.get? a=U o/\aU H h a u
 |.tbl ps=>h.get? a=U {cls:=.none,data:=.fields ps}
 |.met f x=>h.get? a=U (q1w (.ref f) (.ref x))
 |.ext φ=>φ h/\(∃o,h.get? a=U o)/\∀h1 h2:I,φ h1->(∀o,h1.get? a=U o->h2.get? a=U o)->φ h2
def c5(H:Hp)(h:I):Prop:=∀a o,H a=U o->aU P w H h a o
end
section
variable{P:t}{w:X}{H H':Hp}{h h':I}{a:O}{o:HO}
theorem aU.lt(x:aU P w H h a o):a<h.objs.size:=by
 cases o with
 |lst xs=>let⟨_,_,_,_,e⟩:=x;exact WJ e
 |tup xs=>let⟨_,_,_,p⟩:=x;exact p.lt
 |dK kvs=>let⟨_,_,_,_,o,_,_,e,_⟩:=x;exact WJ e
 |dT kvs=>let⟨_,_,_,_,o,_,_,e,_⟩:=x;exact WJ e
 |set S n=>let⟨o,_,_,_,e,_⟩:=x;exact WJ e
 |ins C dx fs=>let⟨_,_,_,e,_⟩:=x;exact WJ e
 |own y=>let⟨_,e⟩:=x;exact WJ e
 |xd fs=>let⟨_,⟨_,_,_,e,_⟩,_⟩:=x;exact WJ e
 |rng lo hi=>let⟨_,_,_,e⟩:=x;exact WJ e
 |frz ob u=>let⟨e,_⟩:=x;exact WJ e
 |tbl ps=>exact WJ (show h.get? a=U _ from x)
 |met f y=>exact WJ (show h.get? a=U _ from x)
 |ext φ=>let⟨_,⟨_,e⟩,_⟩:=x;calc WJ e
theorem Paired.pv{α β:Type}{F G:α->β->Prop}:∀{l₁:-α}{l₂:-β},Paired F l₁ l₂->(∀a b,F a b->G a b)->Paired G l₁ l₂
 |_,_,.nil,_=>.nil
 |_,_,.cons r t,f=>.cons (f _ _ r) (Paired.pv t f)
theorem aU.eW(x:aU P w H h a o)(k:∀b u,(b=a\/H b=U (.own a))->h.get? b=U u->h'.get? b=U u)
  (ho:∀b,H b=U (.own a)->H' b=U (.own a)) (ht:∀b xs,H b=U (.tup xs)->H' b=U (.tup xs)):aU P w H' h' a o:=by
 induction o with
 |lst xs=>let⟨z,au,n,r,e⟩:=x;exact⟨z,au,n,r,k _ _ (.inl Y) e⟩
 |tup xs=>let⟨z,au,r,ob,e,c⟩:=x;exact⟨z,au,r,ob,k _ _ (.inl Y) e,c⟩
 |dK kvs=>let⟨z,y,vs,r,ob,es,ep,e,c⟩:=x;exact⟨z,y,vs,r,ob,es,ep,k _ _ (.inl Y) e,c⟩
 |dT kvs =>
  let⟨z,y,xs,r,ob,es,ep,e,c⟩:=x;exact⟨z,y,xs,Paired.pv r λp q z=>⟨z.1,ht _ _ z.2.1,z.2.2⟩,ob,es,ep,k _ _ (.inl Y) e,c⟩
 |set S n=>let⟨ob,es,ep,t,e,c⟩:=x;exact⟨ob,es,ep,t,k _ _ (.inl Y) e,c⟩
 |ins C dx fs =>
  let⟨d,z,ne,e,mA,⟨od,es,ep,e2,c⟩,r⟩:=x;exact⟨ho _ d,z,ne,k _ _ (.inl Y) e,mA,⟨od,es,ep,k _ _ (.inr d) e2,c⟩,r⟩
 |own y=>let⟨ob,e⟩:=x;exact⟨ob,k _ _ (.inl Y) e⟩
 |xd fs=>let⟨mA,⟨od,es,ep,e,c⟩,r⟩:=x;exact⟨mA,⟨od,es,ep,k _ _ (.inl Y) e,c⟩,r⟩
 |rng lo hi=>let⟨t,u,v,e⟩:=x;exact⟨t,u,v,k _ _ (.inl Y) e⟩
 |frz ob u ih=>let⟨e,q⟩:=x;exact⟨k _ _ (.inl Y) e,ih q⟩
 |tbl ps =>
  let e:h.get? a=U {cls:=.none,data:=.fields ps}:=x;show h'.get? a=U {cls:=.none,data:=.fields ps};exact k a _ (.inl Y) e
 |met f y =>
  let e:h.get? a=U (q1w (.ref f) (.ref y)):=x;show h'.get? a=U (q1w (.ref f) (.ref y));exact k a _ (.inl Y) e
 |ext φ=>let⟨p,⟨o,e⟩,st⟩:=x;calc⟨st _ _ p λo q=>k _ _ (.inl Y) q,⟨o,k _ _ (.inl Y) e⟩,st⟩
theorem c5.lt(x:c5 P w H h)(e:H a=U o):a<h.objs.size:=(x a o e).lt
theorem c5.fresh(x:c5 P w H h)(e:h.objs.size<=a):H a=Z:=by
 cases q:H a with
 |none=>rfl
 |some u=>calc absurd (XN (x.lt q) e) (Zi _)
theorem c5.kept(x:c5 P w H h)(k:∀b u,h.get? b=U u->h'.get? b=U u):c5 P w H h':=λa o e =>
 (x a o e).eW (λb u _ q=>k b u q) (λ_ q=>q) λ_ _ q=>q
theorem c5.laid(x:c5 P w H h)(k:∀b u,h.get? b=U u->h'.get? b=U u)(hp:h.objs.size<=a)(new:aU P w (upd H a o) h' a o):c5 P w (upd H a o) h':=λb u e=>by
 let hn:=x.fresh hp
 by_cases hb:b=a
 .subst hb;rw[bK] at e;cases e;exact new
 .rw[aZ hb] at e
  calc(x b u e).eW (λc v _ q=>k c v q) (λc q=>by rw[aZ (cR q hn)];calc q) λc xs q=>by rw[aZ (cR q hn)];calc q
end
def Rd(H:Hp)(a:O)(u:HO):Prop:=H a=U u\/∃o,H a=U (.frz o u)
theorem Rd.ok{P:t}{w:X}{H:Hp}{h:I}{a:O}{u:HO}(r:Rd H a u)(x:c5 P w H h):aU P w H h a u:=by
 rcases r with r|⟨o,r⟩
 .exact x a u r
 .let⟨_,q⟩:=x a _ r
  calc q
def sq:Option HO->Prop
 |some (.lst _)=>True
 |some (.dK _)=>True
 |some (.dT _)=>True
 |some (.set _ _)=>True
 |some (.ins _ _ _)=>True
 |some (.ext _)=>True
 |_=>False
section
variable{P:t}{w:X}{H:Hp}{h h':I}{x e:O}{o':HO}
theorem c5.write(ok:c5 P w H h)(mu:sq (H x))(he:e=x\/H e=U (.own x))(k:∀b u,b≠e->h.get? b=U u->h'.get? b=U u)(lP:∃u,h'.get? e=U u)
  (new:aU P w (upd H x o') h' x o'):c5 P w (upd H x o') h':=λb u q=>by
 let su:∀c y,H c=U (.own y)->c≠x:=λc y r z=>by subst z;rw[r] at mu;exact mu
 let ye:∀c xs,H c=U (.tup xs)->c≠x:=λc xs r z=>by subst z;rw[r] at mu;exact mu
 by_cases hb:b=x
 .subst hb;rw[bK] at q;cases q;exact new
 .rw[aZ hb] at q
  by_cases px:b=e
  .let q':H b=U (.own x):=by
    rcases he with z|z
    .exact absurd (px.trans z) hb
    .rw[px];exact z
   rw[q] at q';cases q';let⟨v,hv⟩:=lP;exact⟨v,by rw[px];calc hv⟩
  .refine (ok b u q).eW (λc v hc r=>k c v ?_ r) (λc r=>by rw[aZ (su c b r)];calc r) λc xs r=>by rw[aZ (ye c xs r)];exact r
   rcases hc with rfl|hc
   .exact px
   .ext rfl
    rcases he with z|z
    .exact su c b hc z
    .rw[hc] at z;cases z;calc hb Y
end
structure Un(fs ex:-O)(H H':Hp)(h h':I):Prop where
 keep:∀b o,h.get? b=U o->H b=Z->b∉fs->b∉ex->h'.get? b=U o
 slot:∀b o,h.get? b=U o->H b=Z->b∈fs->b∉ex->∃sl,h'.get? b=U {o with slots:=sl}
 free:∀b o,h.get? b=U o->H b=Z->b∉ex->H' b=Z
 there:∀b o,h.get? b=U o->b∉ex->∃o',h'.get? b=U o'
 df:∀b xs,H b=U (.tup xs)->H' b=U (.tup xs)
 eY:∀b o u,H b=U (.frz o u)->H' b=U (.frz o u)
 eZ:∀b ps,H b=U (.tbl ps)->∃more,H' b=U (.tbl (ps++more))
 eu:∀b xs o,H b=U (.tup xs)->h.get? b=U o->b∉ex->h'.get? b=U o
section
variable{fs LF ex Wu:-O}{H H1 H2:Hp}{h h1 h2 h':I}{a x e:O}{o:HO}
theorem Un.any(u:Un fs ex H H1 h h1){b:O}{ob:Q}(q:h.get? b=U ob)(n:H b=Z)(hx:b∉ex):∃sl,h1.get? b=U {ob with slots:=sl}:=by
 by_cases hb:b∈fs
 .exact u.slot b ob q n hb hx
 .calc⟨ob.slots,u.keep b ob q n hb hx⟩
theorem Un.kept(k:∀b u,h.get? b=U u->h'.get? b=U u):Un fs ex H H h h' :=
 ⟨λb ob q _ _ _=>k b ob q,λb ob q _ _ _=>⟨ob.slots,k b ob q⟩,λ_ _ _ n _=>n,λb ob q _=>⟨ob,k b ob q⟩,λ_ _ q=>q,λ_ _ _ q=>q,λ_ ps q=>⟨#[],by rw[q];simp⟩,λb _ u _ q _=>k b u q⟩
theorem Un.refl:Un fs ex H H h h:=Un.kept λ_ _ q=>q
theorem Un.laid(k:∀b u,h.get? b=U u->h'.get? b=U u)(hp:h.objs.size<=a)(hn:H a=Z):Un fs ex H (upd H a o) h h' where
 keep:=λb u q _ _ _=>k b u q
 slot:=λb u q _ _ _=>⟨u.slots,k b u q⟩
 free:=λb u q n _=>by rw[aZ (XQ (XN (WJ q) hp))];exact n
 there:=λb u q _=>⟨u,k b u q⟩
 df:=λb xs q=>by rw[aZ (cR q hn)];exact q
 eY:=λb u xs q=>by rw[aZ (cR q hn)];exact q
 eZ:=λb ps q=>⟨#[],by rw[aZ (cR q hn),q];simp⟩
 eu:=λb _ u _ q _=>k b u q
theorem Un.write(mu:sq (H x))(he:e=x\/H e=U (.own x))(k:∀b u,b≠e->h.get? b=U u->h'.get? b=U u)(lP:∃u,h'.get? e=U u):Un fs ex H (upd H x o) h h':=by
 let hx:∀b,H b=Z->b≠x:=λb n z=>by subst z;rw[n] at mu;exact mu
 let hb:∀b,H b=Z->b≠e:=λb n z=>by
  subst z;rcases he with r|r
  .exact hx b n r
  .rw[n] at r;cases r
 let hm:∀b u,H b=U u->¬ sq (U u)->b≠x:=λb u q nm z=>by subst z;rw[q] at mu;exact nm mu
 refine⟨λb u q n _ _=>k b u (hb b n) q,λb u q n _ _=>⟨u.slots,k b u (hb b n) q⟩,λb u q n _=>by rw[aZ (hx b n)];calc n,λb u q _=>?_,
  λb xs q=>by rw[aZ (hm b _ q λz=>z)];calc q,λb u xs q=>by rw[aZ (hm b _ q λz=>z)];calc q,λb ps q=>⟨#[],by rw[aZ (hm b _ q λz=>z),q];simp⟩,λb xs u q e _=>k b u (λz=>by
   subst z;rcases he with r|r
   .exact hm b _ q (λz=>z) r
   .rw[q] at r;cases r) e⟩
 by_cases px:b=e
 .subst px;exact lP
 .calc⟨u,k b u px q⟩
end
noncomputable def vD(h:I)(H:Hp):-O:=(X_ h.objs.size).filter λa=>(H a).isSome
noncomputable def gi(h:I)(H:Hp):I:=PySem.W.hideAll h (vD h H)
theorem LG(h:I)(H:Hp):(gi h H).objs.size=h.objs.size:=PySem.W.hideAll_size _ _
theorem LH{h:I}{H:Hp}{b:O}{o:Q}(e:h.get? b=U o)(n:H b=Z):(gi h H).get? b=U o :=
 PySem.W.hideAll_get _ e λhm=>by
  let q:(H b).isSome=θ:=(YJ.mp hm).2;rw[n] at q;simp at q
theorem Em{h:I}{H:Hp}{b:O}{o:Q}(e:(gi h H).get? b=U o):h.get? b=U o/\H b=Z:=by
 let e':h.get? b=U o:=PySem.W.of_hideAll (vD h H) e;refine⟨e',?_⟩
 cases q:H b with
 |none=>rfl
 |some x =>
  let hm:b∈vD h H:=YJ.mpr ⟨Yo.mpr (WJ e'),by simp[q]⟩;let z:(gi h H).get? b=Z:=PySem.W.hideAll_none (vD h H) hm;rw[z] at e;cases e
structure Mod(K:vS)(mg:J->Option L)(base:I):Prop where
 jy:K.In base
 glob:base.Ns mainGlobals mg
 blt:∃mb,base.Ns builtinsNs mb/\∀x:J,x≠"__name__" -> mb x=bootBuiltins x
 nolimit:base.NoLimit
structure Cx where
 prog:t
 w:X
 K:vS
 mg:J->Option L
 base:I
 A:q
 N:-J
 s₀:B
 H₀:Hp
 env:u
 outer:-u
 stack:-u
 ex:-O
 fn:J->Bool
 calm:Bool
 pn:-(O×Q)
 xe:L->B->Prop
noncomputable def e_(l:-u):-O:=l.filterMap (·.frame)
noncomputable abbrev Cx.fs(X:Cx):-O:=e_ X.outer
def sv(sc:o)(x:J):Prop:=sc.names.lookup x=U .local\/sc.names.lookup x=U .cell\/sc.names.lookup x=U .free
def Loc(sc:o)(x:J):Prop:=sc.names.lookup x=U .local\/sc.names.lookup x=U .cell
abbrev bL(x:J):Prop:=(x==("__debug__" : J))=ι
abbrev gK(X:Cx)(x:J):Prop:=X.fn x=θ\/X.env.scope.names.lookup x=U .local
abbrev cj(X:Cx)(e:M)(es:-M):Prop:=starEach (e::es) X.env=(ι,eval e X.env)::starEach es X.env
abbrev cF(X:Cx)(p:y)(es:-M):Prop:=(backTo p (starEach es X.env)).any (·.1)=ι
abbrev aH:=-(O×Q)
def Look(env:Ζ)(h:I)(m:J->Option L)(x:J)(u:L):Prop :=
 (env.kindOf x=U .local/\m x=U u)\/((env.kindOf x=U .cell\/env.kindOf x=U .free)/\∃c,env.cells.lookup x=U c/\h.IsCell c (U u))
structure Cx.Ok(X:Cx):Prop where
 mod:Mod X.K X.mg X.base
 kind:X.env.scope.kind=.function
 glob:X.env.globals=mainGlobals
 blt:X.env.builtins=builtinsNs
 above:⇑X.s₀<=X.env.locals
 inj:∀x y c,X.env.cells.lookup x=U c->X.env.cells.lookup y=U c->x=y
 has:∀x,(X.env.kindOf x=U .cell\/X.env.kindOf x=U .free)->∃c,X.env.cells.lookup x=U c
 mw:∀x c,X.fn x=θ->X.env.cells.lookup x=U c->⇑X.s₀<=c
 hd:X.calm=θ->X.A.handled=Z
 frames:X.A.frames=U X.stack
 pz:X.stack=X.outer\/(X.stack=X.env::X.outer/\X.env.frame=U X.env.locals)
 sx:∀b∈X.ex,b≠X.env.locals/\∀x c,X.env.cells.lookup x=U c->c≠b
 bs:∀b o,X.base.get? b=U o->X.s₀.heap.get? b=U o/\(X.H₀ b=Z\/∃xs,X.H₀ b=U (.tup xs))
 kx:X.base.objs.size<=⇑X.s₀
 gL:∀b o,X.base.get? b=U o->b∉X.ex
 iW:∀b∈X.ex,b∉X.fs
 dG:X.s₀.heap.FunFrames X.base X.outer
 kR:∀b∈X.fs,X.H₀ b=Z
structure Inv(X:Cx)(pins:aH)(σ:-(Option V))(H:Hp)(s:B):Prop where
 ok:X.Ok
 os:s.os=X.s₀.os
 bare:AllBare s.gens
 base:Un X.fs X.ex X.H₀ H X.s₀.heap s.heap
 loc:∃m,s.heap.Ns X.env.locals m/\∀(i:Nat)(x:J)(v:V),X.N[i]?=U x->σ[i]?=U (U v)->sv X.env.scope x->∃u,RelV v u/\Look X.env s.heap m x u
 cell:∀x c,X.env.cells.lookup x=U c->∃v,s.heap.IsCell c v
 free:H X.env.locals=Z
 bU:∀x c,X.env.cells.lookup x=U c->H c=Z
 pin:∀p∈X.pn++pins,s.heap.get? p.1=U p.2/\H p.1=Z/\p.1≠X.env.locals/\p.1∉X.fs/\∀v,p.2.data≠.cell v
 aY:c5 X.prog X.w H s.heap
 len:↑σ=↑X.N
section
variable{X:Cx}{pins:aH}{σ:-(Option V)}{H H':Hp}{s:B}{h':I}
theorem Cx.Ok.yf(ok:X.Ok){b:O}{o:Q}(e:X.base.get? b=U o):b∉X.fs:=λhb=>by
 let:=(ok.dG.mem hb).1;rw[e] at this;cases this
theorem Inv.bs(I:Inv X pins σ H s):∀b o,X.base.get? b=U o->s.heap.get? b=U o/\(H b=Z\/∃xs,H b=U (.tup xs)):=λb o e=>by
 obtain⟨e1,e2|⟨xs,e2⟩⟩:=I.ok.bs b o e
 .exact⟨I.base.keep b o e1 e2 (I.ok.yf e) (I.ok.gL b o e),.inl (I.base.free b o e1 e2 (I.ok.gL b o e))⟩
 .calc⟨I.base.eu b xs o e2 e1 (I.ok.gL b o e),.inr ⟨xs,I.base.df b xs e2⟩⟩
theorem Inv.bk(I:Inv X pins σ H s):∀b o,X.base.get? b=U o->s.heap.get? b=U o:=λb o e=>(I.bs b o e).1
theorem Inv.mod(I:Inv X pins σ H s):Mod X.K X.mg X.base:=I.ok.mod
theorem Inv.dY(I:Inv X pins σ H s):X.K.In s.heap:=I.ok.mod.jy.keeps I.bk
theorem Inv.nolimit(I:Inv X pins σ H s):s.heap.NoLimit:=I.ok.mod.nolimit.keeps I.bk
theorem Inv.lt(I:Inv X pins σ H s):X.env.locals<⇑s:=let⟨_,hn,_⟩:=I.loc;hn.lt
theorem Inv.sz(I:Inv X pins σ H s):⇑X.s₀<=⇑s:=Yi I.ok.above (Zx I.lt)
theorem Inv.yg(I:Inv X pins σ H s){a:O}(h:⇑s<=a):a∉X.fs:=λhb=>by
 let⟨_,o,ho,_⟩:=I.ok.dG.mem hb;calc absurd (XN (WJ ho) (Yi I.sz h)) (Zi _)
theorem Inv.pA(I:Inv X pins σ H s):∀x c,X.env.cells.lookup x=U c->c≠X.env.locals:=λx c e z=>by
 let⟨v,o,ho,hd⟩:=I.cell x c e;let⟨m,⟨o',es,ep,dq,yh,_⟩,_⟩:=I.loc;rw[z,dq] at ho;cases ho;rw[yh] at hd;cases hd
theorem Inv.dG(I:Inv X pins σ H s):s.heap.FunFrames X.base X.outer:=by
 let all:∀(l:-u),(∀b∈e_ l,b∈X.fs)->X.s₀.heap.FunFrames X.base l->s.heap.FunFrames X.base l:=by
  ext l
  induction l with
  |nil=>ext _ _;trivial
  |cons env r ih =>
   ext hs hl;let⟨hk,⟨L,o,hf,hn,ho,hd⟩,hr⟩:=hl;let hL:L∈X.fs:=hs L (by unfold e_;rw[ZH,hf];calc NJ);let⟨sl,e⟩:=I.base.slot L o ho (I.ok.kR L hL) hL λz=>I.ok.iW L z hL;exact⟨hk,⟨L,_,hf,hn,e,hd⟩,ih (λb hb=>hs b (by unfold e_;rw[ZH,hf];calc WH _ hb)) hr⟩
 calc all X.outer (λ_ hb=>hb) I.ok.dG
theorem Inv.stack(I:Inv X pins σ H s):s.heap.FunFrames X.base X.stack:=by
 rcases I.ok.pz with e|⟨e,hf⟩
 .rw[e];exact I.dG
 .rw[e]
  let⟨m,hn,_⟩:=I.loc;calc .cons (by rw[I.ok.kind];decide) hf hn ?_ I.dG;calc q2o (Yi I.ok.kx I.ok.above)
theorem Inv.gM(I:Inv X pins σ H s):∀b∈e_ X.stack,b∈X.env.locals::X.fs:=λb hb=>by
 rcases I.ok.pz with e|⟨e,hf⟩
 .rw[e] at hb;exact WH _ hb
 .rw[e] at hb
  unfold e_ at hb;rw[ZH,hf] at hb;calc hb
theorem Inv.eA(I:Inv X pins σ H s):∀b∈e_ X.stack,H b=Z:=λb hb=>by
 rcases XJ.mp (I.gM b hb) with e|hb
 .rw[e];exact I.free
 .let⟨_,o,ho,_⟩:=I.ok.dG.mem hb
  calc I.base.free b o ho (I.ok.kR b hb) λz=>I.ok.iW b z hb
theorem Inv.step{g':Array GenState}{t':Nat}{d':Drawn}{ch:-O}(I:Inv X pins σ H s)
  (lQ:∀b∈ch,(b∈X.ex\/⇑X.s₀<=b)/\b≠X.env.locals/\(∀x c,X.env.cells.lookup x=U c->c≠b)/\∀p∈X.pn++pins,p.1≠b)
  (keep:∀b o,b≠X.env.locals->b∉X.fs->b∉ch->s.heap.get? b=U o->H b=Z->h'.get? b=U o)
  (slot:∀b o,b≠X.env.locals->b∈X.fs->b∉ch->s.heap.get? b=U o->H b=Z->∃sl,h'.get? b=U {o with slots:=sl}) (free:∀b o,b∉ch->s.heap.get? b=U o->H b=Z->H' b=Z)
  (there:∀b o,b∉ch->s.heap.get? b=U o->∃o',h'.get? b=U o')
  (df:∀b xs,H b=U (.tup xs)->H' b=U (.tup xs)) (eY:∀b o u,H b=U (.frz o u)->H' b=U (.frz o u)) (eZ:∀b ps,H b=U (.tbl ps)->∃more,H' b=U (.tbl (ps++more)))
  (eu:∀b xs o,H b=U (.tup xs)->s.heap.get? b=U o->b∉ch->h'.get? b=U o)
  (ns:∀m,s.heap.Ns X.env.locals m->h'.Ns X.env.locals m) (aY:c5 X.prog X.w H' h') (hg:AllBare g') :
  Inv X pins σ H' {s with heap:=h',gens:=g',drawn:=d',toks:=t'}:=by
 let En:∀b o,X.s₀.heap.get? b=U o->b≠X.env.locals:=λb o e=>XQ (XN (WJ e) I.ok.above)
 let sy:∀b o,X.s₀.heap.get? b=U o->b∉X.ex->b∉ch:=λb o e hx hb=>by
  rcases(lQ b hb).1 with z|z
  .exact hx z
  .exact absurd (XN (WJ e) z) (Zi _)
 let cellK:∀x c,X.env.cells.lookup x=U c->∀v,s.heap.IsCell c v->h'.IsCell c v:=λx c e v ⟨o,ho,hd⟩↦by
  let oa:c∉ch:=λz=>(lQ c z).2.2.1 x c e Y
  by_cases hc:c∈X.fs
  .let⟨sl,q⟩:=slot c o (I.pA x c e) hc oa ho (I.bU x c e)
   exact⟨_,q,hd⟩
  .exact⟨o,keep c o (I.pA x c e) hc oa ho (I.bU x c e),hd⟩
 refine⟨I.ok,I.os,hg,⟨λb o e n hb hx=>?_,λb o e n hb hx=>?_,λb o e n hx=>?_,λb o e hx=>?_,λb xs e=>df b xs (I.base.df b xs e),λb o xs e=>eY b o xs (I.base.eY b o xs e),λb ps e=>?_,λb xs o e1 e2 hx=>eu b xs o (I.base.df b xs e1) (I.base.eu b xs o e1 e2 hx) (sy b o e2 hx)⟩,?_,λx c e=>?_,?_,λx c e=>?_,λp hp=>?_,aY,I.len⟩
 .exact keep b o (En b o e) hb (sy b o e hx) (I.base.keep b o e n hb hx) (I.base.free b o e n hx)
 .let⟨sl,e1⟩:=I.base.slot b o e n hb hx
  let⟨qL,e2⟩:=slot b _ (En b o e) hb (sy b o e hx) e1 (I.base.free b o e n hx);exact⟨qL,e2⟩
 .let⟨o',e1⟩:=I.base.there b o e hx
  exact free b o' (sy b o e hx) e1 (I.base.free b o e n hx)
 .let⟨o',e1⟩:=I.base.there b o e hx
  exact there b o' (sy b o e hx) e1
 .let⟨m1,e1⟩:=I.base.eZ b ps e
  let⟨m2,e2⟩:=eZ b _ e1;exact⟨m1++m2,by rw[e2,Array.append_assoc]⟩
 .let⟨m,hn,hl⟩:=I.loc
  calc⟨m,ns m hn,λi x v e1 e2 e3=>?_⟩;let⟨u,r,l⟩:=hl i x v e1 e2 e3;calc⟨u,r,?_⟩;rcases l with l|⟨k,c,e,z⟩
  .exact .inl l
  .exact .inr ⟨k,c,e,cellK x c e _ z⟩
 .let⟨v,z⟩:=I.cell x c e
  exact⟨v,cellK x c e v z⟩
 .let⟨m,⟨o,_,_,ho,_⟩,_⟩:=I.loc
  exact free _ o (λz=>(lQ _ z).2.1 Y) ho I.free
 .let⟨v,o,ho,hd⟩:=I.cell x c e
  exact free c o (λz=>(lQ c z).2.2.1 x c e Y) ho (I.bU x c e)
 .let⟨e,n,ne,nf,d⟩:=I.pin p hp
  let oa:p.1∉ch:=λz=>(lQ p.1 z).2.2.2 p hp Y;calc⟨keep p.1 p.2 ne nf oa e n,free p.1 p.2 oa e n,ne,nf,d⟩
theorem Inv.un{t':Nat}(I:Inv X pins σ H s)(u:Un X.fs [] H H' s.heap h')(aY:c5 X.prog X.w H' h'):Inv X pins σ H' {s with heap:=h',toks:=t'}:=by
 let⟨m,⟨o,es,ep,ho,r⟩,_⟩:=id I.loc;let⟨sl,hL⟩:=u.any ho I.free (by simp)
 exact I.step (g':=s.gens) (d':=s.drawn) (ch:=[]) (λ_ z=>nomatch z) (λb o _ hb _ e n=>u.keep b o e n hb (by simp)) (λb o _ hb _ e n=>u.slot b o e n hb (by simp)) (λb o _ e n=>u.free b o e n (by simp)) (λb o _ e=>u.there b o e (by simp)) u.df u.eY u.eZ (λb xs o q e _=>u.eu b xs o q e (by simp)) (λm' hm=>by
  let⟨o',yi,yj,dq,r'⟩:=hm;rw[ho] at dq;cases dq
  calc⟨_,yi,yj,hL,r'⟩) aY I.bare
theorem Inv.call{g':Array GenState}{t':Nat}{d':Drawn}{ch:-O}(I:Inv X pins σ H s)(u:Un (e_ X.stack) ch H H' s.heap h')(aY:c5 X.prog X.w H' h')(hg:AllBare g')
  (lQ:∀b∈ch,(b∈X.ex\/⇑X.s₀<=b)/\b≠X.env.locals/\(∀x c,X.env.cells.lookup x=U c->c≠b)/\∀p∈X.pn++pins,p.1≠b) :
  Inv X pins σ H' {s with heap:=h',gens:=g',drawn:=d',toks:=t'}:=by
 let⟨m,⟨o,es,ep,ho,r⟩,_⟩:=id I.loc;let⟨sl,hL⟩:=u.any ho I.free λz=>(lQ _ z).2.1 Y
 exact I.step (ch:=ch) lQ (λb o hL hb hc e n=>u.keep b o e n (λz=>(XJ.mp (I.gM b z)).elim hL hb) hc) (λb o _ _ hc e n=>u.any e n hc) (λb o hc e n=>u.free b o e n hc) (λb o hc e=>u.there b o e hc) u.df u.eY u.eZ (λb xs o q e hc=>u.eu b xs o q e hc) (λm' hm=>by
  let⟨o',yi,yj,dq,r'⟩:=hm;rw[ho] at dq;cases dq
  calc⟨_,yi,yj,hL,r'⟩) aY hg
theorem Inv.turned{t':Nat}{it:O}(I:Inv X pins σ H s)(k:∀b o,b≠it->s.heap.get? b=U o->h'.get? b=U o)(hn:H it=Z)(hL:it≠X.env.locals)
  (h1:it∈X.ex\/⇑X.s₀<=it) (h2:∀x c,X.env.cells.lookup x=U c->c≠it) (h3:∀p∈X.pn++pins,p.1≠it):Inv X pins σ H {s with heap:=h',toks:=t'}:=by
 let Eo:∀b u,H b=U u->b≠it:=λb u e z=>by rw[z,hn] at e;cases e
 refine I.step (g':=s.gens) (d':=s.drawn) (ch:=[it]) (λb hb=>?_) (λb o _ _ hc e _=>k b o (λz=>hc (by simp[z])) e) (λb o _ _ hc e _=>⟨o.slots,k b o (λz=>hc (by simp[z])) e⟩) (λ_ _ _ _ n=>n)
  (λb o hc e=>⟨o,k b o (λz=>hc (by simp[z])) e⟩) (λ_ _ e=>e) (λ_ _ _ e=>e) (λb ps e=>⟨#[],by rw[e];simp⟩) (λb _ o _ e hc=>k b o (λz=>hc (by simp[z])) e) (λm hm=>?_) (λb u e=>?_) I.bare
 .let e:b=it:=by simpa using hb
  subst e;exact⟨h1,hL,h2,h3⟩
 .let⟨o,es,ep,ho,r⟩:=hm
  exact⟨o,es,ep,k _ o (Zl hL) ho,r⟩
 .refine (I.aY b u e).eW (λc v hc q=>k c v ?_ q) (λ_ q=>q) λ_ _ q=>q
  rcases hc with z|z
  .rw[z];exact Eo b u e
  .calc Eo c _ z
theorem Inv.tok(I:Inv X pins σ H s)(t:Nat):Inv X pins σ H {s with toks:=t}:=I.un (h':=s.heap) (t':=t) Un.refl I.aY
theorem Inv.kept{t':Nat}(I:Inv X pins σ H s)(k:∀b u,s.heap.get? b=U u->h'.get? b=U u):Inv X pins σ H {s with heap:=h',toks:=t'}:=I.un (Un.kept k) (I.aY.kept k)
theorem Inv.laid{a:O}{o:HO}{t':Nat}(I:Inv X pins σ H s)(k:∀b u,s.heap.get? b=U u->h'.get? b=U u)(hp:⇑s<=a)(new:aU X.prog X.w (upd H a o) h' a o):
  Inv X pins σ (upd H a o) {s with heap:=h',toks:=t'}:=I.un (Un.laid k hp (I.aY.fresh hp)) (I.aY.laid k hp new)
theorem Inv.write{x e:O}{o:HO}{t':Nat}(I:Inv X pins σ H s)(mu:sq (H x))(he:e=x\/H e=U (.own x))(k:∀b u,b≠e->s.heap.get? b=U u->h'.get? b=U u)(lP:∃u,h'.get? e=U u)
  (new:aU X.prog X.w (upd H x o) h' x o):Inv X pins σ (upd H x o) {s with heap:=h',toks:=t'}:=I.un (Un.write mu he k lP) (I.aY.write mu he k lP new)
theorem Inv.fM{cB:aH}(I:Inv X pins σ H s)(h:∀p∈cB,s.heap.get? p.1=U p.2/\H p.1=Z/\p.1≠X.env.locals/\p.1∉X.fs/\∀v,p.2.data≠.cell v):Inv X cB σ H s :=
 ⟨I.ok,I.os,I.bare,I.base,I.loc,I.cell,I.free,I.bU,λp hp=>(Yc.mp hp).elim (λz=>I.pin p (Yj _ z)) (h p),I.aY,I.len⟩
theorem Ep{N:-J}(hN:N.Nodup){i j:Nat}{x:J}(a:N[i]?=U x)(b:N[j]?=U x):i=j:=by
 let⟨h1,e1⟩:=qV.mp a;let⟨h2,e2⟩:=qV.mp b;calc(ZU hN).mp (e1.trans e2.symm)
theorem Er{M:Model}{A:Β}{E:bc}{i:Nat}{x:J}{v:V}{u:L}{Q:Unit->B->Prop}(I:Inv X pins σ H s)(hN:X.N.Nodup)(hi:X.N[i]?=U x)(hx:Loc X.env.scope x)(r:RelV v u)
  (h:∀s',Inv X pins (σ.set i (U v)) H s'->(∃a,q0I a s.heap s'.heap/\(a=X.env.locals\/X.env.cells.lookup x=U a))->Q () s') (hf:autoParam (gK X x) qz1._auto_1):G M A (storeName X.env x u) Q E s:=by
 let⟨m,hn,hl⟩:=id I.loc;let yk:(X.env.scope.kind==.class||(X.env.scope.kind==.module&&X.env.locals != X.env.globals))=ι:=by rw[I.ok.kind];rfl
 let Es:i<↑σ:=by rw[I.len];exact(qV.mp hi).1
 let pA:=I.pA
 let tracked:∀{a:O}{h':Α},(∃o,s.heap.get? a=U o/\H a=Z)->q0I a s.heap h'->c5 X.prog X.w H h':=λ{a h'} ha hs b ob e=>by
  let⟨_,_,oe⟩:=ha;calc(I.aY b ob e).eW (λc w' hc q=>(hs.2 c ?_).trans q) (λ_ q=>q) λ_ _ q=>q;ext rfl;rcases hc with rfl|hc
  .rw[oe] at e;cases e
  .rw[oe] at hc;cases hc
 rcases hx with hk|hk
 .refine wpAny_storeName_local hk hn (λh' kP hs=>?_) yk
  let⟨oL,_,_,vE,_⟩:=id hn;refine h _ ⟨I.ok,I.os,I.bare,⟨λb o e n hb hx=>?_,λb o e n hb hx=>?_,I.base.free,λb o e hx=>?_,I.base.df,I.base.eY,I.base.eZ,λb xs o e1 e hx=>(hs.2 b (XQ (XN (WJ e) I.ok.above))).trans (I.base.eu b xs o e1 e hx)⟩,⟨_,kP,λj y v' e1 e2 e3=>?_⟩,λy c e=>?_,I.free,I.bU,λp hp=>?_,tracked ⟨oL,vE,I.free⟩ hs,by simpa using I.len⟩ ⟨_,hs,.inl Y⟩
  .exact (hs.2 b (XQ (XN (WJ e) I.ok.above))).trans (I.base.keep b o e n hb hx)
  .let⟨sl,e1⟩:=I.base.slot b o e n hb hx
   exact⟨sl,(hs.2 b (XQ (XN (WJ e) I.ok.above))).trans e1⟩
  .let⟨o',e1⟩:=I.base.there b o e hx
   exact⟨o',(hs.2 b (XQ (XN (WJ e) I.ok.above))).trans e1⟩
  .by_cases hj:j=i
   .subst hj
    rw[hi] at e1;cases e1;rw[YH Es] at e2;cases e2
    exact⟨u,r,.inl ⟨hk,by simp⟩⟩
   .rw[Yp (Zl hj)] at e2
    let⟨u',r',q⟩:=hl j y v' e1 e2 e3;calc⟨u',r',?_⟩;rcases q with⟨k,e⟩|⟨k,c,e,z⟩
    .refine .inl ⟨k,?_⟩
     let:y≠x:=λe=>hj (Ep hN e1 (e▸hi));simp[this,e]
    .exact .inr ⟨k,c,e,z.sameBut hs (pA y c e)⟩
  .let⟨w',z⟩:=I.cell y c e
   exact⟨w',z.sameBut hs (pA y c e)⟩
  .let⟨e,n,ne,nf,d⟩:=I.pin p hp
   exact⟨(hs.2 p.1 ne).trans e,n,ne,nf,d⟩
 .let lR:X.fn x=θ:=by
   rcases hf with z|z
   .exact z
   .rw[z] at hk;cases hk
  let⟨c,hc⟩:=I.ok.has x (.inl hk);let⟨w',z⟩:=I.cell x c hc;calc wpAny_storeName_cell I.ok.kind hk hc z (λh' ky hs=>?_);let⟨oc,Et,ym⟩:=id z;refine h {s with heap:=h'} ⟨I.ok,I.os,I.bare,⟨λb o e n hb hx=>?_,λb o e n hb hx=>?_,I.base.free,λb o e hx=>?_,I.base.df,I.base.eY,I.base.eZ,λb xs o e1 e hx=>(hs.2 b (XQ (XN (WJ e) (I.ok.mw x c lR hc)))).trans (I.base.eu b xs o e1 e hx)⟩,⟨m,hn.sameBut hs (Zl (pA x c hc)),λj y v' e1 e2 e3=>?_⟩,λy c' e=>?_,I.free,I.bU,λp hp=>?_,tracked ⟨oc,Et,I.bU x c hc⟩ hs,by simpa using I.len⟩ ⟨c,hs,.inr hc⟩
  .exact (hs.2 b (XQ (XN (WJ e) (I.ok.mw x c lR hc)))).trans (I.base.keep b o e n hb hx)
  .let⟨sl,e1⟩:=I.base.slot b o e n hb hx
   exact⟨sl,(hs.2 b (XQ (XN (WJ e) (I.ok.mw x c lR hc)))).trans e1⟩
  .let⟨o',e1⟩:=I.base.there b o e hx
   exact⟨o',(hs.2 b (XQ (XN (WJ e) (I.ok.mw x c lR hc)))).trans e1⟩
  .by_cases hj:j=i
   .subst hj
    rw[hi] at e1;cases e1;rw[YH Es] at e2;cases e2
    exact⟨u,r,.inr ⟨.inl hk,c,hc,ky⟩⟩
   .rw[Yp (Zl hj)] at e2
    let⟨u',r',q⟩:=hl j y v' e1 e2 e3;calc⟨u',r',?_⟩;rcases q with q|⟨k,c',e,z'⟩
    .exact .inl q
    .refine .inr ⟨k,c',e,z'.sameBut hs ?_⟩
     ext rfl;exact hj (Ep hN e1 (I.ok.inj _ _ _ e hc▸hi))
  .by_cases hcc:c'=c
   .subst hcc;exact⟨_,ky⟩
   .let⟨w2,z2⟩:=I.cell y c' e
    exact⟨w2,z2.sameBut hs hcc⟩
  .let⟨e,n,ne,nf,d⟩:=I.pin p hp
   calc⟨(hs.2 p.1 ?_).trans e,n,ne,nf,d⟩;ext q;rw[q,Et] at e;let q':oc=p.2:=Yf e;calc d w' (by rw[<-q'];calc ym)
theorem Eu{M:Model}{A:q}{E:bc}{i:Nat}{x:J}{v:V}{u:L}{Q:Unit->B->Prop}(I:Inv X pins σ H s)(hN:X.N.Nodup)(hi:X.N[i]?=U x)(hx:Loc X.env.scope x)(r:RelV v u)
  (h:∀s',Inv X pins (σ.set i (U v)) H s'->Q () s') (hf:autoParam (gK X x) qz1._auto_1):G M A (storeName X.env x u) Q E s :=
 Er I hN hi hx r (λs' I' _=>h s' I') hf
theorem Inv.kU{s':B}{ch:-O}(I:Inv X pins σ H s)(ho:s'.os=s.os)(u:Un (e_ X.stack) ch H H' s.heap s'.heap)(aY:c5 X.prog X.w H' s'.heap)(hg:AllBare s'.gens)
  (lQ:∀b∈ch,(b∈X.ex\/⇑X.s₀<=b)/\b≠X.env.locals/\(∀x c,X.env.cells.lookup x=U c->c≠b)/\∀p∈X.pn++pins,p.1≠b):Inv X pins σ H' s':=by
 let⟨h',g',d',t',o'⟩:=s';let e:o'=s.os:=ho;subst e;calc I.call (g':=g') (t':=t') (d':=d') u aY hg lQ
end
abbrev XK:=L->Option O->Hp->Prop
abbrev St:=-(Option V)
abbrev VK:=V->Hp->Prop
abbrev TE:=St->Hp->VK->Prop
abbrev TT:=St->Hp->(Bool->Hp->Prop)->Prop
abbrev TA:=St->Hp->(-V->Hp->Prop)->Prop
structure Ends where
 nx:St->Hp->Prop
 rt:VK
 bk:St->Hp->Prop:=λ_ _=>False
 ct:St->Hp->Prop:=λ_ _=>False
abbrev TS:=Ends->St->Hp->Prop
inductive EP (X:Cx) (pins:aH) (σ:St) (Q:VK) (u:L) (s':B):Prop
 |mk (v:V) (H':Hp) (I:Inv X pins σ H' s') (r:RelV v u) (q:Q v H')
def TP(X:Cx)(pins:aH)(σ:St)(Q:Bool->Hp->Prop)(b:Bool)(s':B):Prop:=∃H',Inv X pins σ H' s'/\Q b H'
inductive AP (X:Cx) (pins:aH) (σ:St) (Q:-V->Hp->Prop) (us:-L) (s':B):Prop
 |mk (vs:-V) (H':Hp) (I:Inv X pins σ H' s') (r:Vals vs us) (q:Q vs H')
def SP(X:Cx)(pins:aH)(D:Ends)(f:Flow)(s':B):Prop :=
 match f with
 |.next=>∃σ' H',Inv X pins σ' H' s'/\D.nx σ' H'
 |.brk=>∃σ' H',Inv X pins σ' H' s'/\D.bk σ' H'
 |.cont=>∃σ' H',Inv X pins σ' H' s'/\D.ct σ' H'
 |.ret u=>∃v σ' H',Inv X pins σ' H' s'/\RelV v u/\D.rt v H'
structure JE(X:Cx)(e:M)(t:TE):Prop where
 out:∀(pins:aH)(s:B)(σ:St)(H:Hp)(Q:VK),Inv X pins σ H s->t σ H Q->G (S X.prog X.w) X.A (eval e X.env) (EP X pins σ Q) X.xe s
instance {X:Cx} {e:M} {t:TE}:CoeFun (JE X e t) (λ_=>∀(pins:aH)(s:B)(σ:St)(H:Hp)(Q:VK),Inv X pins σ H s->t σ H Q->G (S X.prog X.w) X.A (eval e X.env) (EP X pins σ Q) X.xe s):=⟨JE.out⟩
structure JT(X:Cx)(e:M)(t:TT):Prop where
 out:∀(pins:aH)(s:B)(σ:St)(H:Hp)(Q:Bool->Hp->Prop),Inv X pins σ H s->t σ H Q->G (S X.prog X.w) X.A (isTrue e X.env (eval e X.env)) (TP X pins σ Q) X.xe s
instance {X:Cx} {e:M} {t:TT}:CoeFun (JT X e t) (λ_=>∀(pins:aH)(s:B)(σ:St)(H:Hp)(Q:Bool->Hp->Prop),Inv X pins σ H s->t σ H Q->G (S X.prog X.w) X.A (isTrue e X.env (eval e X.env)) (TP X pins σ Q) X.xe s):=⟨JT.out⟩
structure JW(X:Cx)(e:M)(t:TT):Prop where
 out:∀(whole:Sem L)(pins:aH)(s:B)(σ:St)(H:Hp)(Q:Bool->Hp->Prop),Inv X pins σ H s->t σ H Q->G (S X.prog X.w) X.A (isTrue e X.env whole) (TP X pins σ Q) X.xe s
instance {X:Cx} {e:M} {t:TT}:CoeFun (JW X e t) (λ_=>∀(whole:Sem L)(pins:aH)(s:B)(σ:St)(H:Hp)(Q:Bool->Hp->Prop),Inv X pins σ H s->t σ H Q->G (S X.prog X.w) X.A (isTrue e X.env whole) (TP X pins σ Q) X.xe s):=⟨JW.out⟩
theorem JW.jt{X:Cx}{e:M}{t:TT}(h:JW X e t):JT X e t:=⟨h.out _⟩
structure JA(X:Cx)(es:-M)(t:TA):Prop where
 out:∀(pos:y)(pins:aH)(s:B)(σ:St)(H:Hp)(Q:-V->Hp->Prop),Inv X pins σ H s->t σ H Q->G (S X.prog X.w) X.A (spliced (backTo pos (starEach es X.env))) (AP X pins σ Q) X.xe s
instance {X:Cx} {es:-M} {t:TA}:CoeFun (JA X es t) (λ_=>∀(pos:y)(pins:aH)(s:B)(σ:St)(H:Hp)(Q:-V->Hp->Prop),Inv X pins σ H s->t σ H Q->G (S X.prog X.w) X.A (spliced (backTo pos (starEach es X.env))) (AP X pins σ Q) X.xe s):=⟨JA.out⟩
structure JS(X:Cx)(st:R)(t:TS):Prop where
 out:∀(pins:aH)(s:B)(σ:St)(H:Hp)(D:Ends),Inv X pins σ H s->t D σ H->G (S X.prog X.w) X.A (exec st X.env) (SP X pins D) X.xe s
instance {X:Cx} {st:R} {t:TS}:CoeFun (JS X st t) (λ_=>∀(pins:aH)(s:B)(σ:St)(H:Hp)(D:Ends),Inv X pins σ H s->t D σ H->G (S X.prog X.w) X.A (exec st X.env) (SP X pins D) X.xe s):=⟨JS.out⟩
structure c6(X:Cx)(st:-R)(t:TS):Prop where
 out:∀(pins:aH)(s:B)(σ:St)(H:Hp)(D:Ends),Inv X pins σ H s->t D σ H->G (S X.prog X.w) X.A (execs st X.env) (SP X pins D) X.xe s
instance {X:Cx} {st:-R} {t:TS}:CoeFun (c6 X st t) (λ_=>∀(pins:aH)(s:B)(σ:St)(H:Hp)(D:Ends),Inv X pins σ H s->t D σ H->G (S X.prog X.w) X.A (execs st X.env) (SP X pins D) X.xe s):=⟨c6.out⟩
theorem bg{α:Type}{t:Sem α}{Q Q':α->B->Prop}{M:Model}{A:q}{E:bc}{s:B}(h:G M A t Q E s)(hQ:∀a s,Q a s->Q' a s):G M A t Q' E s:=Zm h hQ λ_ _ x=>x
section
variable{X:Cx}
def ip(i:Nat):TE:=fun σ H Q=>∃v,σ[i]?=U (U v)/\Q v H
def tC(v:V):TE:=λ_ H Q=>Q v H
theorem Ew{i:Nat}{x:J}{pos:y}(hN:X.N[i]?=U x)(hv:sv X.env.scope x)(hd: ~~~(bL x))(fS: ~~~((x==("__classdict__" : J))=ι)):JE X (.Name x pos) (ip i):=by
 calc⟨?_⟩;ext pins s σ H Q I h;let⟨v,e,h⟩:=h;let⟨m,hn,hl⟩:=I.loc;let⟨u,r,l⟩:=hl i x v hN e hv;let fin:EP X pins σ Q u s:=⟨v,H,I,r,h⟩;rcases l with⟨hk,hm⟩|⟨hk,c,hc,og⟩
 .exact q4b (wpAny_loadName_local I.ok.kind hk hn hm fin) hd
 .rcases hk with hk|hk
  .exact q4b (wpAny_loadName_cell I.ok.kind hk hc og fin) hd
  .calc q4b (wpAny_loadName_free I.ok.kind hk hc og fin fS) hd
theorem mx{i j pos}:JE X (.Constant (.int i) j pos) (tC (.int i)):=⟨λ_ _ _ H _ I h=>wpAny_Constant_int ⟨.int i,H,I.tok _,⟨_,Y⟩,h⟩⟩
theorem LI{b j pos}:JE X (.Constant (.bool b) j pos) (tC (.bl b)):=⟨λ_ _ _ H _ I h=>Constant_bool ⟨.bl b,H,I,Y,h⟩⟩
theorem LL{j pos}:JE X (.Constant .none j pos) (tC .non):=⟨λ_ _ _ H _ I h=>Constant_none ⟨.non,H,I,Y,h⟩⟩
theorem Ex{x j pos}:JE X (.Constant (.str x) j pos) (tC (.str x)):=⟨λ_ _ _ H _ I h=>Calls.Constant_str ⟨.str x,H,I.tok _,⟨_,Y⟩,h⟩
⟩
def Gl(X:Cx)(x:J):Prop:=X.env.kindOf x=U .globalImplicit
theorem sA{E:bc}{pins:aH}{s:B}{σ:St}{H:Hp}{x:J}{u:L}{pos:y}{Q:bc}(I:Inv X pins σ H s)(hg:Gl X x)(hm:X.mg x=U u)(h:Q u s)
  (hd: ~~~(bL x)):G (S X.prog X.w) X.A (eval (.Name x pos) X.env) Q E s :=
 q1g I.ok.kind hg (Calls.loadGlobal_global (by rw[I.ok.glob];calc I.mod.glob.keeps I.bk) hm h) hd
theorem oh{E:bc}{pins:aH}{s:B}{σ:St}{H:Hp}{x:J}{u:L}{pos:y}{Q:bc}(I:Inv X pins σ H s)(hg:Gl X x)(hm:X.mg x=Z)(hv:bootBuiltins x=U u)(h:Q u s)
  (hn:x≠"__name__" := by decide) (hd: ~~~(bL x)):G (S X.prog X.w) X.A (eval (.Name x pos) X.env) Q E s:=by
 let⟨mb,h1,h2⟩:=I.mod.blt;calc q1g I.ok.kind hg (Calls.loadGlobal_builtin (by rw[I.ok.glob];calc I.mod.glob.keeps I.bk) hm (by rw[I.ok.blt];calc h1.keeps I.bk) ((h2 x hn).trans hv) h) hd
theorem LM{x:J}{v:V}{u:L}{pos:y}(hg:Gl X x)(hm:X.mg x=U u)(r:RelV v u)(hd: ~~~(bL x)):JE X (.Name x pos) (tC v):=⟨λ_ _ _ H _ I h=>sA I hg hm ⟨v,H,I,r,h⟩ hd⟩
theorem LN{x:J}{v:V}{u:L}{pos:y}(hg:Gl X x)(hm:X.mg x=Z)(hv:bootBuiltins x=U u)(r:RelV v u)(hn:x≠"__name__" := by decide)(hd: ~~~(bL x)):JE X (.Name x pos) (tC v):=⟨λ_ _ _ H _ I h=>oh I hg hm hv ⟨v,H,I,r,h⟩ hn hd
⟩
variable{a b:M}{ta tb:TE}{pos:y}
structure JC(X:Cx)(op:CmpOp)(a b:M)(t:TE):Prop where
 out:∀(pins:aH)(s:B)(σ:St)(H:Hp)(Q:VK),Inv X pins σ H s->t σ H Q →
  G (S X.prog X.w) X.A (eval a X.env) (λv s₁=>G (S X.prog X.w) X.A (eval b X.env) (λu s₂=>G (S X.prog X.w) X.A (compareOp op v u) (EP X pins σ Q) X.xe s₂) X.xe s₁) X.xe s
instance {X:Cx} {op:CmpOp} {a b:M} {t:TE}:CoeFun (JC X op a b t) (λ_=>∀(pins:aH)(s:B)(σ:St)(H:Hp)(Q:VK),Inv X pins σ H s->t σ H Q->G (S X.prog X.w) X.A (eval a X.env) (λv s₁=>G (S X.prog X.w) X.A (eval b X.env) (λu s₂=>G (S X.prog X.w) X.A (compareOp op v u) (EP X pins σ Q) X.xe s₂) X.xe s₁) X.xe s):=⟨JC.out⟩
def tB(t:TE):TT:=fun σ H Q=>t σ H λx H1=>∃c,x=.bl c/\Q c H1
theorem LO{op:CmpOp}{t:TE}(h:JC X op a b t)(h1:behindInMarks op b=ι:=by first|exact Wv _ (by decide) (by decide)|rfl):JT X (.Compare a [op] [b] pos) (tB t):=by
 calc⟨?_⟩;ext pins s σ H Q I hw;calc q2f (bg (h pins s σ H _ I hw) λv s1 h1=>bg h1 λu s2 h2=>bg h2 λc s3 ⟨x,H1,I1,r1,q1⟩=>?_) h1;let⟨d,rfl,q⟩:=q1;cases r1
 calc Zn ⟨H1,I1,q⟩
theorem LP{e:M}{t:TE}(h:JE X e t)(he:‹∀whole,isTrue e X.env whole=(do let v <- whole;standAt e.pos;holding [v] (truthy v))›):JT X e (tB t):=by
 calc⟨?_⟩;ext pins s σ H Q I hw;calc isTrue_plain (bg (h pins s σ H _ I hw) λv s1 ⟨x,H1,I1,r1,q1⟩=>?_) (he _);let⟨d,rfl,q⟩:=q1;cases r1
 calc Zn ⟨H1,I1,q⟩
variable{tA vF:TT}{rest:-M}
def sC(t u:TT):TT:=fun σ H Q=>t σ H λc H1=>if c=θ then u σ H1 Q else Q ι H1
def Ey(t u:TT):TT:=fun σ H Q=>t σ H λc H1=>if c=θ then Q θ H1 else u σ H1 Q
def yn(t:TT):TT:=fun σ H Q=>t σ H λc H1=>Q (!c) H1
theorem LQ(ha:JT X a tA):JW X (.BoolOp .And [a] pos) tA:=by
 calc⟨?_⟩;ext wh pins s σ H Q I h;refine isTrue_and (bg (ha pins s σ H Q I h) λc s1 e=>?_)
 cases c with
 |true=>exact isTrue_and_nil e
 |false=>calc e
theorem LR(ha:JT X a tA):JW X (.BoolOp .Or [a] pos) tA:=by
 calc⟨?_⟩;ext wh pins s σ H Q I h;refine isTrue_or (bg (ha pins s σ H Q I h) λc s1 e=>?_)
 cases c with
 |false=>exact isTrue_or_nil e
 |true=>calc e
theorem LU(ha:JT X a tA)(hb:JW X (.BoolOp .And (b::rest) pos) vF):JW X (.BoolOp .And (a::b::rest) pos) (sC tA vF):=by
 calc⟨?_⟩;ext wh pins s σ H Q I h;refine isTrue_and (bg (ha pins s σ H _ I h) λc s1 h0_=>el3 h0_ λH1 I1 q1=>?_)
 cases c with
 |true=>exact hb wh pins s1 σ H1 Q I1 q1
 |false=>calc⟨H1,I1,q1⟩
theorem LV(ha:JT X a tA)(hb:JW X (.BoolOp .Or (b::rest) pos) vF):JW X (.BoolOp .Or (a::b::rest) pos) (Ey tA vF):=by
 calc⟨?_⟩;ext wh pins s σ H Q I h;refine isTrue_or (bg (ha pins s σ H _ I h) λc s1 h0_=>el3 h0_ λH1 I1 q1=>?_)
 cases c with
 |true=>exact⟨H1,I1,q1⟩
 |false=>calc hb wh pins s1 σ H1 Q I1 q1
theorem LW(ha:JT X a tA):JT X (.UnaryOp .Not a pos) (yn tA):=by
 calc⟨?_⟩;ext pins s σ H Q I h;calc isTrue_not (ha pins s σ H (λc H1=>Q (!c) H1) I h)
def LX(ta tb:TE):TE:=fun σ H Q=>ta σ H λx H1=>∃c,x=.bl c/\if c=θ then tb σ H1 Q else Q (.bl ι) H1
def yo(ta tb:TE):TE:=fun σ H Q=>ta σ H λx H1=>∃c,x=.bl c/\if c=θ then Q (.bl θ) H1 else tb σ H1 Q
def LY(ta:TE):TE:=fun σ H Q=>ta σ H λx H1=>∃c,x=.bl c/\Q (.bl (!c)) H1
theorem LZ{op}{t:TE}(h:JE X a t):JE X (.BoolOp op [a] pos) t:=⟨λpins s σ H Q I hw=>BoolOp_one (h pins s σ H Q I hw)⟩
theorem L0(ha:JE X a ta)(hb:JE X (.BoolOp .And (b::rest) pos) tb):JE X (.BoolOp .And (a::b::rest) pos) (LX ta tb):=by
 calc⟨?_⟩;ext pins s σ H Q I h;calc BoolOp_and (bg (ha pins s σ H _ I h) ?_);ext v s1 ⟨x,H1,I1,r1,q1⟩;let⟨c,rfl,q1⟩:=q1;cases r1
 refine Zn ?_
 cases c with
 |true=>exact hb pins s1 σ H1 Q I1 q1
 |false=>calc⟨.bl ι,H1,I1,Y,q1⟩
theorem L1(ha:JE X a ta)(hb:JE X (.BoolOp .Or (b::rest) pos) tb):JE X (.BoolOp .Or (a::b::rest) pos) (yo ta tb):=by
 calc⟨?_⟩;ext pins s σ H Q I h;calc BoolOp_or (bg (ha pins s σ H _ I h) ?_);ext v s1 ⟨x,H1,I1,r1,q1⟩;let⟨c,rfl,q1⟩:=q1;cases r1
 refine Zn ?_
 cases c with
 |false=>exact hb pins s1 σ H1 Q I1 q1
 |true=>calc⟨.bl θ,H1,I1,Y,q1⟩
theorem L3(ha:JE X a ta):JE X (.UnaryOp .Not a pos) (LY ta):=by
 calc⟨?_⟩;ext pins s σ H Q I h;calc UnaryOp_ (bg (ha pins s σ H _ I h) ?_);ext v s1 ⟨x,H1,I1,r1,q1⟩;let⟨c,rfl,q1⟩:=q1;cases r1
 calc not_of (Zn ⟨.bl (!c),H1,I1,Y,q1⟩)
def L5(t:TT)(ta tb:TE):TE:=fun σ H Q=>t σ H λc H1=>if c=θ then ta σ H1 Q else tb σ H1 Q
theorem L7{c:M}(hc:JT X c tA)(ha:JE X a ta)(hb:JE X b tb):JE X (.IfExp c a b pos) (L5 tA ta tb):=by
 calc⟨?_⟩;ext pins s σ H Q I h;refine wpAny_IfExp (bg (hc pins s σ H _ I h) λd s1 h0_=>el3 h0_ λH1 I1 q1=>?_)
 cases d with
 |true=>exact ha pins s1 σ H1 Q I1 q1
 |false=>calc hb pins s1 σ H1 Q I1 q1
end
def bE(K:vS)(H:Hp)(a:O)(xs:-V):Prop :=
 Rd H a (.lst xs) ∨
  ∃(o:Q)(au:Array L)(n:Nat),K.lookup a=U o/\o.cls=.type "list" /\ o.dict=Z/\o.data=.seq au n/\au.size<=sizeLine/\Vals xs au.toList
def bV(K:vS)(H:Hp)(a:O)(xs:-V):Prop :=
 Rd H a (.tup xs) ∨
  ∃(o:Q)(au:Array L)(n:Nat),K.lookup a=U o/\o.cls=.type "tuple" /\ o.data=.seq au n/\au.size<=sizeLine/\Vals xs au.toList
noncomputable def yq:L->Option V
 |.none=>U .non
 |.bool b=>U (.bl b)
 |.int i _=>U (.int i)
 |.str x _=>U (.str x)
 |.bytes b _=>U (.byt b)
 |.float b _=>U (.flt b)
 |.ref a=>U (.ref a)
 |.type n=>U (.ty n)
 |_=>Z
theorem RelV.abs{x:V}{u:L}(r:RelV x u):yq u=U x:=by
 cases x with
 |non=>cases r;rfl
 |bl _=>cases r;rfl
 |int _=>let⟨t,rfl⟩:=r;rfl
 |str _=>let⟨t,rfl⟩:=r;rfl
 |byt _=>let⟨t,rfl⟩:=r;rfl
 |flt _=>let⟨t,rfl⟩:=r;rfl
 |ref _=>cases r;rfl
 |ty _=>cases r;rfl
theorem RelV.inj{x y:V}{u:L}(r:RelV x u)(q:RelV y u):x=y:=Yf (r.abs.symm.trans q.abs)
theorem Vals.inj:∀{xs ys:-V}{us:-L},Vals xs us->Vals ys us->xs=ys
 |_,_,_,.nil,.nil=>Y
 |_,_,_,.cons r t,.cons r' t'=>by rw[r.inj r',Vals.inj t t']
section
variable{X:Cx}{pins:aH}{σ:St}{H:Hp}{s:B}{a:O}{xs ys:-V}
theorem bE.of{K:vS}(h:H a=U (.lst xs)):bE K H a xs:=.inl (.inl h)
theorem bV.of{K:vS}(h:H a=U (.tup xs)):bV K H a xs:=.inl (.inl h)
theorem Inv.list(I:Inv X pins σ H s)(h:bE X.K H a xs):∃au:-L,Vals xs au/\PlainL s.heap a au.toArray/\↑xs<=sizeLine:=by
 rcases h with h|⟨o,au,n,hk,hc,hd,hs,hz,r⟩
 .let⟨z,au,n,r,e⟩:=h.ok I.aY
  exact⟨au,r,⟨_,n,e,Y,Y,Y⟩,z⟩
 .refine⟨au.toList,r,⟨o,n,I.dY a o hk,hc,hd,by simpa using hs⟩,?_⟩
  let e:=↑r;erw[XU] at e;symm
theorem Inv.tuple(I:Inv X pins σ H s)(h:bV X.K H a xs):∃au:-L,Vals xs au/\IsTup s.heap a au.toArray/\↑xs<=sizeLine:=by
 rcases h with h|⟨o,au,n,hk,hc,hs,hz,r⟩
 .let⟨z,au,r,p⟩:=h.ok I.aY
  exact⟨au,r,p,z⟩
 .refine⟨au.toList,r,⟨o,I.dY a o hk,hc,n,by simpa using hs⟩,?_⟩
  let e:=↑r;erw[XU] at e;symm
theorem Inv.iq(I:Inv X pins σ H s)(h:bE X.K H a xs)(h':bE X.K H a ys):xs=ys:=by
 let⟨au,r,⟨o,n,e,_,_,d⟩,_⟩:=I.list h;let⟨its',r',⟨o',n',e',_,_,d'⟩,_⟩:=I.list h';rw[e] at e';cases e';rw[d] at d';injection d' with d1 _;let:au=its':=by simpa using congrArg q41 d1
 subst this;calc r.inj r'
theorem Inv.gF(I:Inv X pins σ H s)(h:bV X.K H a xs)(h':bV X.K H a ys):xs=ys:=by
 let⟨au,r,⟨o,e,_,n,d⟩,_⟩:=I.tuple h;let⟨its',r',⟨o',e',_,n',d'⟩,_⟩:=I.tuple h';rw[e] at e';cases e';rw[d] at d';injection d' with d1 _;let:au=its':=by simpa using congrArg q41 d1
 subst this;calc r.inj r'
end
noncomputable abbrev Cx.gj(X:Cx)(E:bc):Cx:={X with xe:=E}
noncomputable abbrev Cx.kz(X:Cx):Cx:=X.gj λ_ _=>False
theorem Cx.Ok.gj{X:Cx}(ok:X.Ok)(E:bc):(X.gj E).Ok :=
 ⟨ok.mod,ok.kind,ok.glob,ok.blt,ok.above,ok.inj,ok.has,ok.mw,ok.hd,ok.frames,ok.pz,ok.sx,ok.bs,ok.kx,ok.gL,ok.iW,ok.dG,ok.kR⟩
theorem Cx.Ok.dr{X:Cx}{E:bc}(ok:(X.gj E).Ok):X.Ok :=
 ⟨ok.mod,ok.kind,ok.glob,ok.blt,ok.above,ok.inj,ok.has,ok.mw,ok.hd,ok.frames,ok.pz,ok.sx,ok.bs,ok.kx,ok.gL,ok.iW,ok.dG,ok.kR⟩
section
variable{X:Cx}{pins:aH}{σ:St}{H:Hp}{s:B}{E:bc}
theorem Inv.gj(I:Inv X pins σ H s)(E:bc):Inv (X.gj E) pins σ H s:=⟨I.ok.gj E,I.os,I.bare,I.base,I.loc,I.cell,I.free,I.bU,I.pin,I.aY,I.len⟩
theorem Inv.dr(I:Inv (X.gj E) pins σ H s):Inv X pins σ H s:=⟨I.ok.dr,I.os,I.bare,I.base,I.loc,I.cell,I.free,I.bU,I.pin,I.aY,I.len⟩
theorem SP.dr{D:Ends}{f:Flow}{s':B}(h:SP (X.gj E) pins D f s'):SP X pins D f s':=by
 cases f with
 |next=>let⟨σ',H',I,q⟩:=h;exact⟨σ',H',I.dr,q⟩
 |brk=>let⟨σ',H',I,q⟩:=h;exact⟨σ',H',I.dr,q⟩
 |cont=>let⟨σ',H',I,q⟩:=h;exact⟨σ',H',I.dr,q⟩
 |ret u=>let⟨v,σ',H',I,r,q⟩:=h;calc⟨v,σ',H',I.dr,r,q⟩
theorem c6.kz{st:-R}{t:TS}(h:c6 X.kz st t):c6 X st t:=⟨λpins s σ H D I hw =>
 Zm (h pins s σ H D (I.gj _) hw) (λ_ _ q=>q.dr) λ_ _ z=>YN z⟩
end
section
variable{X:Cx}{st:R}{rest:-R}{t u:TS}{e:M}{te:TE}{pos:y}
def L8:TS:=λD σ H=>D.nx σ H
def my(t u:TS):TS:=λD σ H=>t {D with nx:=u D} σ H
theorem mz:c6 X [] L8:=⟨λ_ _ σ H _ I h=>q01 ⟨σ,H,I,h⟩⟩
theorem pB(h1:JS X st t)(h2:c6 X rest u):c6 X (st::rest) (my t u):=by
 calc⟨?_⟩;ext pins s σ H D I h;refine q3x (bg (h1 pins s σ H {D with nx:=u D} I h) λf s1 q=>?_)
 cases f with
 |next =>
  let⟨σ',H',I',q⟩:=q;exact h2 pins s1 σ' H' D I' q
 |ret v=>exact q
 |brk=>exact q
 |cont=>calc q
theorem sD(h1:JS X st t):c6 X [st] t:=by
 calc⟨?_⟩;ext pins s σ H D I h;refine q3x (bg (h1 pins s σ H D I h) λf s1 q=>?_)
 cases f with
 |next=>exact q01 q
 |ret v=>exact q
 |brk=>exact q
 |cont=>calc q
theorem Inv.quiet{pins:aH}{σ:St}{H:Hp}{s:B}(I:Inv X pins σ H s):interactive X.env=ι:=by simp[interactive,I.ok.kind]
def Ez(te:TE):TS:=λD σ H=>te σ H λ_ H1=>D.nx σ H1
theorem yr(he:JE X e te)(hs:‹swapsWith e Z pos.line X.env=pure ι›):JS X (.Expr e pos) (Ez te):=by
 calc⟨?_⟩;ext pins s σ H D I h;calc wpAny_Expr_any (bg (he pins s σ H _ I h) λv s1 ⟨x,H1,I1,r1,q1⟩↦⟨σ,H1,I1,q1⟩) I.quiet hs
def sE(te:TE):TS:=λD σ H=>te σ H D.rt
theorem yt(he:JE X e te):JS X (.Return (U e) pos) (sE te):=by
 calc⟨?_⟩;ext pins s σ H D I h;calc wpAny_Return_some (bg (he pins s σ H _ I h) λv s1 ⟨x,H1,I1,r1,q1⟩↦⟨x,σ,H1,I1,r1,q1⟩)
def yu(c:TT)(t u:TS):TS:=λD σ H=>c σ H λb H1=>if b=θ then t D σ H1 else u D σ H1
theorem L9{c:M}{a b:-R}{tc:TT}(hc:JT X c tc)(ha:c6 X a t)(hb:c6 X b u):JS X (.If c a b pos) (yu tc t u):=by
 calc⟨?_⟩;ext pins s σ H D I h;refine wpAny_If (bg (hc pins s σ H _ I h) λd s1 h0_=>el3 h0_ λH1 I1 q1=>?_)
 cases d with
 |true=>exact ha pins s1 σ H1 D I1 q1
 |false=>calc hb pins s1 σ H1 D I1 q1
end
abbrev TG:=V->St->Hp->(St->Hp->Prop)->Prop
abbrev kA:=-V->St->Hp->(St->Hp->Prop)->Prop
structure JG(X:Cx)(target:M)(t:TG):Prop where
 out:∀(pins:aH)(s:B)(σ:St)(H:Hp)(v:V)(u:L)(Q:St->Hp->Prop),Inv X pins σ H s->RelV v u->t v σ H Q →
  G (S X.prog X.w) X.A (assign target X.env u) (λ_ s'=>∃σ' H',Inv X pins σ' H' s'/\Q σ' H') X.xe s
instance {X:Cx} {target:M} {t:TG}:CoeFun (JG X target t) (λ_=>∀(pins:aH)(s:B)(σ:St)(H:Hp)(v:V)(u:L)(Q:St->Hp->Prop),Inv X pins σ H s->RelV v u->t v σ H Q->G (S X.prog X.w) X.A (assign target X.env u) (λ_ s'=>∃σ' H',Inv X pins σ' H' s'/\Q σ' H') X.xe s):=⟨JG.out⟩
structure jz(X:Cx)(ts:-M)(t:kA):Prop where
 out:∀(pins:aH)(s:B)(σ:St)(H:Hp)(vs:-V)(us:-L)(Q:St->Hp->Prop),Inv X pins σ H s->Vals vs us->t vs σ H Q →
  G (S X.prog X.w) X.A (assignInOrder ((assignEach ts X.env).map (·.2)) us) (λ_ s'=>∃σ' H',Inv X pins σ' H' s'/\Q σ' H') X.xe s
instance {X:Cx} {ts:-M} {t:kA}:CoeFun (jz X ts t) (λ_=>∀(pins:aH)(s:B)(σ:St)(H:Hp)(vs:-V)(us:-L)(Q:St->Hp->Prop),Inv X pins σ H s->Vals vs us->t vs σ H Q->G (S X.prog X.w) X.A (assignInOrder ((assignEach ts X.env).map (·.2)) us) (λ_ s'=>∃σ' H',Inv X pins σ' H' s'/\Q σ' H') X.xe s):=⟨jz.out⟩
abbrev pC:=V->V->V->Hp->(Hp->Prop)->Prop
def sF(X:Cx)(t:pC):Prop :=
 ∀(pins:aH)(s:B)(σ:St)(H:Hp)(o i v:V)(ov iv u:L)(Q:Hp->Prop),Inv X pins σ H s->RelV o ov->RelV i iv->RelV v u->t o i v H Q →
  G (S X.prog X.w) X.A (setItem ov iv u) (λ_ s'=>∃H',Inv X pins σ H' s'/\Q H') X.xe s
section
variable{X:Cx}{pos:y}
def pD(i:Nat):TG:=λv σ H Q=>Q (σ.set i (U v)) H
theorem sG{i:Nat}{x:J}(hN:X.N.Nodup)(hi:X.N[i]?=U x)(hx:Loc X.env.scope x)(hf:autoParam (gK X x) qz1._auto_1):JG X (.Name x pos) (pD i):=by
 calc⟨?_⟩;ext pins s σ H v u Q I r h;calc q3a (Eu I hN hi hx r (λs' I'=>⟨_,H,I',h⟩) hf)
def sH:kA:=λvs σ H Q=>vs=[]/\Q σ H
def yw(t:TG)(u:kA):kA:=λvs σ H Q=>∃v r,vs=v::r/\t v σ H fun σ' H'=>u r σ' H' Q
theorem gN:jz X [] sH:=by
 calc⟨?_⟩;ext pins s σ H vs us Q I r h;let⟨e,h⟩:=h;subst e;cases r
 calc assignInOrder_nil ⟨σ,H,I,h⟩
theorem sI{e:M}{es:-M}{t:TG}{u:kA}(h1:JG X e t)(h2:jz X es u)
  (hs:‹(assignEach (e::es) X.env).map (·.2)=assign e X.env::(assignEach es X.env).map (·.2)›):jz X (e::es) (yw t u):=by
 calc⟨?_⟩;ext pins s σ H vs us Q I r h;let⟨v,vr,e1,h⟩:=h;subst e1
 cases r with
 |cons r rr =>
  rw[hs];calc assignInOrder_cons (bg (h1 pins s σ H _ _ _ I r h) ?_);ext _ s1 ⟨σ1,H1,I1,q1⟩;calc h2 pins s1 σ1 H1 _ _ Q I1 rr q1
def sJ(K:vS)(n:Nat)(t:kA):TG:=λv σ H Q=>∃a xs,v=.ref a/\bV K H a xs/\↑xs=n/\t xs σ H Q
theorem yx{es:-M}{k:Nat}{t:kA}{n:Nat}(hc:X.calm=θ)(h:jz X es t)
  (hn:‹↑(assignEach es X.env)=n›) (fU:‹(assignEach es X.env).findIdx? (·.1)=Z›):JG X (.Tuple es k pos) (sJ X.K n t):=by
 calc⟨?_⟩;ext pins s σ H v u Q I r hw;let⟨a,xs,e1,hq,hl,hw⟩:=hw;subst e1;cases r
 let⟨au,rv,ht,hz⟩:=I.tuple hq;calc assign_Tuple_tuple (I.ok.hd hc) ht (by simp[hn,<-hl,rv.length]) fU λh' hx=>?_;let I1:Inv X pins σ H {s with heap:=h'}:=I.kept (t':=s.toks) λb o e=>hx b o (XQ (WJ e)) e;calc h pins _ σ H xs _ Q I1 rv⁻¹ hw
def sL(to ti:TE)(t:pC):TG:=λv σ H Q=>to σ H λo H1=>ti σ H1 λi H2=>t o i v H2 λH3=>Q σ H3
theorem EA{o i:M}{to ti:TE}{t:pC}(ho:JE X o to)(hi:JE X i ti)(hs:sF X t)
  (ha:‹∀v,assign (.Subscript o i pos) X.env v=(do
   let ov <- holding [v] (eval o X.env)
   let iv <- holding [v,ov] (eval i X.env)
   standAt pos
   holding [v,ov,iv] (setItem ov iv v)
   release [v,ov,iv] [])›):JG X (.Subscript o i pos) (sL to ti t):=by
 calc⟨?_⟩;ext pins s σ H v u Q I r h;rw[ha];calc tH (Yw (bg (ho pins s σ H _ I h) ?_));ext ov s1 ⟨x,H1,I1,r1,q1⟩;calc tH (Yw (bg (hi pins s1 σ H1 _ I1 q1) ?_));ext iv s2 ⟨y,H2,I2,r2,q2⟩;calc tH (Z9 (tH (Yw (bg (hs pins s2 σ H2 x y v ov iv u _ I2 r1 r2 r q2) λ_ s3 h0_=>el3 h0_ λH3 I3 q3=>?_))));calc wpAny_release ⟨σ,H3,I3,q3⟩
def jU(te:TE)(g:TG):TS:=λD σ H=>te σ H λx H1=>g x σ H1 D.nx
theorem yy{tg e:M}{te:TE}{g:TG}(he:JE X e te)(hg:JG X tg g)(hs:‹swapsWithSole [tg] e pos.line X.env=pure ι›)(hw:‹swappedStores [tg] e X.env=pure Z›)
  (h1:‹(assignEach [tg] X.env).map (·.2)=[assign tg X.env]›):JS X (.Assign [tg] e pos) (jU te g):=by
 calc⟨?_⟩;ext pins s σ H D I h;calc wpAny_Assign_stores (bg (he pins s σ H _ I h) λv s1 ⟨x,H1,I1,r1,q1⟩=>?_) hs hw;rw[h1];calc bg (hg pins s1 σ H1 x v _ I1 r1 q1) λ_ s2 q=>q
theorem vG{i:Nat}{x:J}{e:M}{te:TE}{pos':Ε}(hN:X.N.Nodup)(hi:X.N[i]?=U x)(hx:Loc X.env.scope x)(he:JE X e te)(hs:‹swapsWith e (U (.Name x pos')) pos.line X.env=pure ι›)(hf:autoParam (gK X x) qz1._auto_1):
  JS X (.Assign [.Name x pos'] e pos) (jU te (pD i)):=by
 calc⟨?_⟩;ext pins s σ H D I h;calc wpAny_Assign_Name (bg (he pins s σ H _ I h) λv s1 ⟨y,H1,I1,r1,q1⟩=>?_) hs;calc Eu I1 hN hi hx r1 (λs2 I2=>⟨_,H1,I2,q1⟩) hf
end
structure It where
 go:Nat->Hp->Prop
 qM:Nat->Hp->V->Hp->Prop
 stop:Nat->Hp->Prop
def bM(X:Cx)(pins:aH)(H:Hp)(b:O):Prop :=
 H b=Z/\b≠X.env.locals/\b∉X.fs/\(b∈X.ex\/⇑X.s₀<=b)/\(∀x c,X.env.cells.lookup x=U c->c≠b)/\∀p∈X.pn++pins,p.1≠b
theorem Inv.iX{X:Cx}{pins:aH}{σ:St}{H H':Hp}{s:B}{b:O}(I:Inv X pins σ H s)(hb:⇑s<=b)(hn:H' b=Z):bM X pins H' b:=by
 refine⟨hn,ZZ (XN I.lt hb),I.yg hb,.inr (Yi I.sz hb),λx c e z=>?_,λp hp z=>?_⟩
 .let⟨v,q⟩:=I.cell x c e
  exact absurd (XN q.lt (by rw[z];calc hb)) (Zi _)
 .calc absurd (XN (WJ (I.pin p hp).1) (by rw[z];calc hb)) (Zi _)
structure Turn(P:t)(w:ω)(K:vS)(tg:M)(J:It)(fp:-O)(it:O)(tn:Nat->I->Prop):Prop where
 mem:it∈fp
 obj:∀i h,tn i h->∀b∈fp,∃o,h.get? b=U o/\∀v,o.data≠.cell v
 keep:∀i h h',tn i h->(∀b∈fp,∀o,h.get? b=U o->h'.get? b=U o)->tn i h'
 item:∀(X:Cx),X.prog=P->X.w=w->X.K=K->X.calm=θ->∀(i:Nat)(pins:aH)(s:B)(σ:St)(H:Hp)(E:bc),Inv X pins σ H s->(∀b∈fp,bM X pins H b)->tn i s.heap->J.go i H →
  G (S P w) X.A (pyNext (.ref it)) (λr s1=>∃u,r=U u ∧
   G (S P w) X.A (letOwnedTupleGo tg (.ref it) u) (λ_ s2=>∃x H',Inv X pins σ H' s2/\RelV x u/\J.qM i H x H'/\tn (i+1) s2.heap/\∀b∈fp,H' b=Z) E s1) E s
 done:∀(X:Cx),X.prog=P->X.w=w->X.K=K->X.calm=θ->∀(i:Nat)(pins:aH)(s:B)(σ:St)(H:Hp)(E:bc),Inv X pins σ H s->(∀b∈fp,bM X pins H b)->tn i s.heap->J.stop i H →
  G (S P w) X.A (pyNext (.ref it)) (λr s1=>r=Z/\Inv X pins σ H s1) E s
 self:∀(A:q)(i:Nat)(s:B)(Q:bc)(E:bc),tn i s.heap->Q (.ref it) s->G (S P w) A (pyIter (.ref it)) Q E s
abbrev TI:=St->Hp->(It->Hp->Prop)->Prop
def yz(X:Cx)(pins:aH)(σ:St)(tg:M)(R:It->Hp->Prop)(yA:L)(s2:B):Prop :=
 ∃(it:O)(fp:-O)(tn:Nat->I->Prop)(J:It)(H':Hp),yA=.ref it/\Inv X pins σ H' s2/\Turn X.prog X.w X.K tg J fp it tn/\tn 0 s2.heap/\(∀b∈fp,bM X pins H' b)/\R J H'
structure JI(X:Cx)(tg iter:M)(wi:TI):Prop where
 out:∀(pins:aH)(s:B)(σ:St)(H:Hp)(R:It->Hp->Prop),Inv X pins σ H s->wi σ H R →
  G (S X.prog X.w) X.A (eval iter X.env) (λv s1=>G (S X.prog X.w) X.A (pyIter v) (yz X pins σ tg R) X.xe s1) X.xe s
instance {X:Cx} {tg iter:M} {wi:TI}:CoeFun (JI X tg iter wi) (λ_=>∀(pins:aH)(s:B)(σ:St)(H:Hp)(R:It->Hp->Prop),Inv X pins σ H s->wi σ H R->G (S X.prog X.w) X.A (eval iter X.env) (λv s1=>G (S X.prog X.w) X.A (pyIter v) (yz X pins σ tg R) X.xe s1) X.xe s):=⟨JI.out⟩
theorem yB {M:Model} {A:q} {E:bc} {s:B} {tg:υ} {it:O} {u:L} {o:Γ} {n:String} {vs:Array L} {Q:Unit->B->Prop} (ho:s.heap.get? it=U o) (hc:o.cls = .type n) (hd:o.data = .fields vs)
  (hn:["enumerate", "zip", "dict_itemiterator", "dict_reverseitemiterator", "odict_iterator", "itertools.zip_longest", "itertools.pairwise"].contains n=ι) (hQ:Q () s):G M A (letOwnedTupleGo tg (.ref it) u) Q E s:=by
 unfold letOwnedTupleGo
 cases tg<;>first
  | exact NH hQ
  | (cases u<;>first
    | exact NH hQ
    | (refine tH (wpAny_load ho ?_)
       rw[hc,hd];show G M A (if (["enumerate", "zip", "dict_itemiterator", "dict_reverseitemiterator", "odict_iterator", "itertools.zip_longest", "itertools.pairwise"].contains n && vs[0]? == U (rawInt _))=θ then _ else _) Q E s;rw[WK (by ext h;rw[hn,q2p] at h;cases h)]
       calc NH hQ))
noncomputable def EB(K:vS)(a:O):It :=
 ⟨λi H=>∃xs x,bE K H a xs/\xs[i]?=U x,λi H x H'=>H'=H/\∀xs,bE K H a xs->xs[i]?=U x,λi H=>∃xs,bE K H a xs/\↑xs<=i⟩
noncomputable def EC(K:vS)(a:O):It :=
 ⟨λi H=>∃xs x,bV K H a xs/\xs[i]?=U x,λi H x H'=>H'=H/\∀xs,bV K H a xs->xs[i]?=U x,λi H=>∃xs,bV K H a xs/\↑xs<=i⟩
noncomputable def sM(lo:Int)(n:Nat):It:=⟨λi _=>i<n,λi H x H'=>H'=H/\x=.int (lo+i),λi _=>n<=i⟩
theorem L_{P:t}{w:ω}{K:vS}{tg:M}(a it:O):Turn P w K tg (EB K a) [it] it (λi h=>h.IsListIter it a i) where
 mem:=by simp
 obj:=λi h st b hb=>by
  let e:b=it:=by simpa using hb
  subst e;let⟨o,e,c,d⟩:=st;exact⟨o,e,λv z=>by rw[d] at z;cases z⟩
 keep:=λi h h' st k=>st.at λo e=>k it (by simp) o e
 item:=by
  ext X hP hw hK hc i pins s σ H E I hf st hg;subst hP hw hK;let⟨xs,x,hq,hx⟩:=hg;let⟨au,rv,p,hz⟩:=I.list hq;let⟨u,hu,ru⟩:=rv.get hx;let⟨f0,f1,f2,f3,f4,f5⟩:=hf it (by simp);calc wpAny_pyNext_list_item st p.isList (x:=u) hu⁻¹ λh' jA sb=>?_;let I1:Inv X pins σ H {s with heap:=h'}:=I.turned (t':=s.toks) (λb o hb e=>(sb.2 b hb).trans e) f0 f1 f3 f4 f5;let⟨o,e,c,d⟩:=id jA;exact⟨u,Y,yB (s:={s with heap:=h'}) e c d (by decide) ⟨x,H,I1,ru,⟨Y,λys hy=>by rw[I.iq hy hq];calc hx⟩,jA,λb hb=>(hf b hb).1⟩⟩
 done:=by
  ext X hP hw hK hc i pins s σ H E I hf st hg;subst hP hw hK;let⟨xs,hq,hx⟩:=hg;let⟨au,rv,p,hz⟩:=I.list hq;let⟨f0,f1,f2,f3,f4,f5⟩:=hf it (by simp);let hl:=↑rv;exact wpAny_pyNext_list_end (I.ok.hd hc) st p.isList (by simp;symm) λh' eb=>⟨Y,I.turned (t':=s.toks) (λb o hb e=>eb b o hb e) f0 f1 f3 f4 f5⟩
 self:=λ_ _ _ _ _ st h=>wpAny_pyIter_listiter st h
theorem Ma{P:t}{w:ω}{K:vS}{tg:M}(a it:O):Turn P w K tg (EC K a) [it] it (λi h=>h.IsTupleIter it a i) where
 mem:=by simp
 obj:=λi h st b hb=>by
  let e:b=it:=by simpa using hb
  subst e;let⟨o,e,c,d⟩:=st;exact⟨o,e,λv z=>by rw[d] at z;cases z⟩
 keep:=λi h h' st k=>st.at λo e=>k it (by simp) o e
 item:=by
  ext X hP hw hK hc i pins s σ H E I hf st hg;subst hP hw hK;let⟨xs,x,hq,hx⟩:=hg;let⟨au,rv,p,hz⟩:=I.tuple hq;let⟨u,hu,ru⟩:=rv.get hx;let⟨f0,f1,f2,f3,f4,f5⟩:=hf it (by simp);calc wpAny_pyNext_tuple_item st (show s.heap.IsTuple a au.toArray from p) (x:=u) hu⁻¹ λh' jA sb=>?_;let I1:Inv X pins σ H {s with heap:=h'}:=I.turned (t':=s.toks) (λb o hb e=>(sb.2 b hb).trans e) f0 f1 f3 f4 f5;let⟨o,e,c,d⟩:=id jA;exact⟨u,Y,yB (s:={s with heap:=h'}) e c d (by decide) ⟨x,H,I1,ru,⟨Y,λys hy=>by rw[I.gF hy hq];calc hx⟩,jA,λb hb=>(hf b hb).1⟩⟩
 done:=by
  ext X hP hw hK hc i pins s σ H E I hf st hg;subst hP hw hK;let⟨xs,hq,hx⟩:=hg;let⟨au,rv,p,hz⟩:=I.tuple hq;let⟨f0,f1,f2,f3,f4,f5⟩:=hf it (by simp);let hl:=↑rv;exact wpAny_pyNext_tuple_end (I.ok.hd hc) st (show s.heap.IsTuple a au.toArray from p) (by simp;symm) λh' eb=>⟨Y,I.turned (t':=s.toks) (λb o hb e=>eb b o hb e) f0 f1 f3 f4 f5⟩
 self:=λ_ _ _ _ _ st h=>wpAny_pyIter_tupleiter st h
theorem Mb{P:ψ}{w:ω}{K:vS}{tg:M}(it:O)(lo:Int)(n:Nat):Turn P w K tg (sM lo n) [it] it (λi h=>IsRangeIter h it (lo+(i:Nat)*1) ((n:Int)-(i:Nat)) 1) where
 mem:=by simp
 obj:=λi h st b hb=>by
  let e:b=it:=by simpa using hb
  subst e
  exact⟨_,st,λv z=>by
   let z':Data.fields _=Data.cell v:=z
   cases z'⟩
 keep:=λi h h' st k=>k it (by simp) _ st
 item:=by
  ext X hP hw hK hc i pins s σ H E I hf st hg;subst hP hw hK;let⟨f0,f1,f2,f3,f4,f5⟩:=hf it (by simp);let W:=Walks.range (prog:=X.prog) (w:=X.w) (I.ok.hd hc) it lo 1 n;calc W.item i s _ _ hg st λv h' tk hv jA kk=>?_;let⟨t,rfl⟩:=hv;let I1:Inv X pins σ H {s with heap:=h',toks:=tk}:=I.turned (λb o hb e=>kk b o hb⁻¹ e) f0 f1 f3 f4 f5;calc⟨_,Y,yB (s:={s with heap:=h',toks:=tk}) (n:="range_iterator") jA Y Y (by decide) ⟨.int (lo+i),H,I1,⟨t,?_⟩,⟨Y,Y⟩,jA,λb hb=>(hf b hb).1⟩⟩;rw[q3Q]
 done:=by
  ext X hP hw hK hc i pins s σ H E I hf st hg;subst hP hw hK;let⟨f0,f1,f2,f3,f4,f5⟩:=hf it (by simp);exact wpAny_pyNext_range_end (I.ok.hd hc) st (by let:n<=i:=hg;symm) λh' eb=>⟨Y,I.turned (t':=s.toks) (λb o hb e=>eb b o hb e) f0 f1 f3 f4 f5⟩
 self:=λ_ _ _ _ _ st h=>wpAny_pyIter_rangeiter st h
section
variable{X:Cx}{tg:M}
theorem ED{pins:aH}{σ:St}{H:Hp}{s:B}{R:It->Hp->Prop}{E:bc}{lo hi:Int}{t u v:Tok}{tk:Nat}(I:Inv X pins σ H s)(h1 : -(2 ^ 62)<=lo)(h2:lo<2 ^ 62)(h3 : -(2 ^ 62)<=hi)(h4:hi<2 ^ 62)
  (q:R (sM lo (hi-lo).toNat) H):G (S X.prog X.w) X.A (pyIter (.ref ⇑s)) (yz X pins σ tg R) E {s with heap:=s.heap.push {cls:=.type "range",data:=.fields #[.int lo t,.int hi u,.int 1 v]},toks:=tk}:=by
 calc wpAny_pyIter_range (IsRange.new ..) (q4O h1 h2 h3 h4) ?_;let I1:Inv X pins σ H {s with heap:=s.heap.push {cls:=.type "range",data:=.fields #[.int lo t,.int hi u,.int 1 v]},toks:=tk}:=I.kept λb o e=>zk _ e
 refine⟨(s.heap.push {cls:=.type "range",data:=.fields #[.int lo t,.int hi u,.int 1 v]}).objs.size,[(s.heap.push {cls:=.type "range",data:=.fields #[.int lo t,.int hi u,.int 1 v]}).objs.size],_,_,H,Y,
  I1.kept (t':=tk) λb o e=>zk _ e,Mb _ lo (hi-lo).toNat,?_,λb hb=>?_,q⟩
 .let e1:lo+((0:Nat):Int)*1=lo:=by simp
  let e2:(((hi-lo).toNat:Nat):Int)-((0:Nat):Int)=ZV lo hi 1:=by rw[q2I];split<;>symm
  show IsRangeIter _ _ (lo+((0:Nat):Int)*1) ((((hi-lo).toNat:Nat):Int)-((0:Nat):Int)) 1;rw[e1,e2];exact WL _ Y
 .let e:b=(s.heap.push {cls:=.type "range",data:=.fields #[.int lo t,.int hi u,.int 1 v]}).objs.size:=by simpa using hb
  subst e;calc I1.iX (Fm _) (I1.aY.fresh (Fm _))
def Mc(ta:TA):TI:=fun σ H R=>ta σ H λvs H1=>∃j:Int,vs=[.int j] /\ -(2 ^ 62)<=j/\j<2 ^ 62/\R (sM 0 j.toNat) H1
def Md(ta:TA):TI:=fun σ H R=>ta σ H λvs H1=>∃i j:Int,vs=[.int i,.int j]/\(-(2 ^ 62)<=i/\i<2 ^ 62 /\ -(2 ^ 62)<=j/\j<2 ^ 62)/\R (sM i (j-i).toNat) H1
theorem Me{a:M}{ta:TA}{p pos:y}(hg:Gl X "range")(hm:X.mg "range" = Z)(ha:JA X [a] ta)(hs:‹starEach [a] X.env=[(ι,eval a X.env)]›):JI X tg (.Call (.Name "range" p) [a] [] pos) (Mc ta):=by
 calc⟨?_⟩;ext pins s σ H R I h;calc Call_ (oh I hg hm boot_range (Zh (bg (ha pos pins s σ H _ I h) λus s1 ⟨vs,H1,I1,r1,q1⟩=>?_) hs Y));let⟨j,e,q1,q2,q⟩:=q1;subst e
 cases r1 with
 |cons r rr =>
  cases rr
  let⟨t,rfl⟩:=r;calc call_range_1 (ED I1 ⋯ ⋯ q1 q2 q⁻¹)
theorem Mf{a b:M}{ta:TA}{p pos:y}(hg:Gl X "range")(hm:X.mg "range" = Z)(ha:JA X [a,b] ta)(hs:‹starEach [a,b] X.env=[(ι,eval a X.env),(ι,eval b X.env)]›)(iY:‹starEach [b] X.env=[(ι,eval b X.env)]›):
  JI X tg (.Call (.Name "range" p) [a,b] [] pos) (Md ta):=by
 calc⟨?_⟩;ext pins s σ H R I h;calc Call_ (oh I hg hm boot_range (Zh (bg (ha pos pins s σ H _ I h) λus s1 ⟨vs,H1,I1,r1,q1⟩=>?_) (by rw[hs,iY]) (by rw[iY];rfl)));let⟨i,j,e,⟨q1,q2,q3,q4⟩,q⟩:=q1;subst e
 cases r1 with
 |cons r rr =>
  cases rr with
  |cons r' rr =>
   cases rr
   let⟨t,rfl⟩:=r;let⟨t',rfl⟩:=r';calc call_range_2 (ED I1 q1 q2 q3 q4 q)
def sN(wi:TI)(g:TG)(tb:TS):TS:=λD σ H=>wi σ H λJ H1=>∃W:Nat->Nat->St->Hp->Prop,(∃m,W 0 m σ H1)/\∀i m σ H,W i m σ H →
 (J.stop i H/\D.nx σ H)\/(J.go i H/\∃N:St->Hp->Prop,(∀σ' H',N σ' H'->∃m',m'<m/\W (i+1) m' σ' H')/\∀x H',J.qM i H x H'->g x σ H' fun σ2 H2=>tb {D with nx:=N,ct:=N,bk:=D.nx} σ2 H2)
noncomputable def sO(fp:-O)(h:I):-(O×Q):=fp.filterMap λb=>(h.get? b).map λo=>(b,o)
theorem vH{fp:-O}{h:I}{b:O}{o:Q}(hb:b∈fp)(e:h.get? b=U o):(b,o)∈sO fp h:=q0x.mpr ⟨b,hb,by rw[e];rfl⟩
theorem Mg{fp:-O}{h:I}{p:O×Q}(hp:p∈sO fp h):p.1∈fp/\h.get? p.1=U p.2:=by
 let⟨b,hb,e⟩:=q0x.mp hp
 cases q:h.get? b with
 |none=>rw[q] at e;cases e
 |some o =>
  rw[q] at e;let e':(b,o)=p:=Yf e;subst e';calc⟨hb,q⟩
theorem Inv.pinned{pins:aH}{σ:St}{H:Hp}{s:B}{fp:-O}(I:Inv X pins σ H s)(hf:∀b∈fp,bM X pins H b)(ho:∀b∈fp,∃o,s.heap.get? b=U o/\∀v,o.data≠.cell v):Inv X (pins++sO fp s.heap) σ H s :=
 I.fM λp hp=>(Yc.mp hp).elim (λz=>I.pin p (XR _ z)) λz=>by
  let⟨hb,e⟩:=Mg z;let⟨f0,f1,f2,_⟩:=hf p.1 hb;let⟨o,e',d⟩:=ho p.1 hb;rw[e] at e';cases e';calc⟨e,f0,f1,f2,d⟩
theorem Inv.eB{pins pl:aH}{σ:St}{H:Hp}{s:B}(I:Inv X (pins++pl) σ H s):Inv X pins σ H s:=I.fM λp hp=>I.pin p (XR _ (Yj _ hp))
theorem yC{iter:M}{body:-R}{wi:TI}{g:TG}{tb:TS}{pos:y}(hp:PassesOwn (S X.prog X.w) X.A X.env X.xe)(hc:X.calm=θ)(hi:JI X tg iter wi)(hg:JG X tg g)(hb:c6 X body tb)
  (hs:‹∀x,foldedSetIterable iter X.env x=pure x›):JS X (.For tg iter body [] pos) (sN wi g tb):=by
 calc⟨?_⟩;ext pins s σ H D I h;calc wpAny_For (bg (hi pins s σ H _ I h) λv s1 h1=>bg h1 λyA s2 h2=>?_) hs;let⟨it,fp,tn,J,H2,e,I2,T,oj,f2,W,⟨m0,w0⟩,turn⟩:=h2;subst e;let iZ:∀{H':Hp},(∀b∈fp,H' b=Z)->∀b∈fp,bM X pins H' b:=λhn b hb=>⟨hn b hb,(f2 b hb).2⟩;calc codeAny_forLoop_any (λn s'=>∃i σ' H',Inv X pins σ' H' s'/\tn i s'.heap/\(∀b∈fp,H' b=Z)/\W i n σ' H') ?_ m0 ⟨0,σ,H2,I2,oj,λb hb=>(f2 b hb).1,w0⟩;ext n s3 ⟨i,σ3,H3,I3,qN,sP,w3⟩;rcases turn i n σ3 H3 w3 with⟨stop,qn⟩|⟨go,N,hN,step⟩
 .refine q0w hp (bg (T.done X Y Y Y hc i pins s3 σ3 H3 X.xe I3 (iZ sP) qN stop) ?_);ext r s4 ⟨hr,I4⟩
  subst hr;exact q01 ⟨σ3,H3,I4,qn⟩
 .refine q0w hp (bg (T.item X Y Y Y hc i pins s3 σ3 H3 X.xe I3 (iZ sP) qN go) ?_);ext r s4 ⟨u,hr,h4⟩
  subst hr;calc q0w hp (bg h4 ?_);ext _ s5 ⟨x,H5,I5,r5,y5,pE,yD⟩;let yE:=I5.pinned (iZ yD) (T.obj _ _ pE);calc q0w hp (bg (hg _ s5 σ3 H5 x u _ yE r5 (step x H5 y5)) ?_);ext _ s6 ⟨σ6,H6,I6,q6⟩;refine q0w hp (bg (hb _ s6 σ6 H6 _ I6 q6) λf s7 q7=>?_)
  let again:∀{σ7:St}{H7:Hp},Inv X (pins++sO fp s5.heap) σ7 H7 s7->N σ7 H7->∃m,m<n/\∃i σ' H',Inv X pins σ' H' s7/\tn i s7.heap/\(∀b∈fp,H' b=Z)/\W i m σ' H':=λ{σ7 H7} I7 n7=>by
   let⟨m',hm,w7⟩:=hN σ7 H7 n7;calc⟨m',hm,i+1,σ7,H7,I7.eB,T.keep _ _ _ pE λb hb o e=>(I7.pin (b,o) (XR _ (XR _ (vH hb e)))).1,λb hb=>?_,w7⟩;let⟨o,e,d⟩:=T.obj _ _ pE b hb;exact(I7.pin (b,o) (XR _ (XR _ (vH hb e)))).2.1
  cases f with
  |next=>let⟨σ7,H7,I7,n7⟩:=q7;exact again I7 n7
  |cont=>let⟨σ7,H7,I7,n7⟩:=q7;exact again I7 n7
  |brk=>let⟨σ7,H7,I7,q7⟩:=q7;exact⟨σ7,H7,I7.eB,q7⟩
  |ret v=>let⟨x7,σ7,H7,I7,r7,q7⟩:=q7;calc⟨x7,σ7,H7,I7.eB,r7,q7⟩
end
abbrev R2:=V->V->Hp->VK->Prop
def eT(X:Cx)(f:L->L->Sem L)(r:R2):Prop :=
 ∀(pins:aH)(s:B)(σ:St)(H:Hp)(x y:V)(v u:L)(Q:VK),Inv X pins σ H s->RelV x v->RelV y u->r x y H Q →
  G (S X.prog X.w) X.A (f v u) (EP X pins σ Q) X.xe s
def yF(X:Cx)(f:L->Sem L)(r:V->Hp->VK->Prop):Prop :=
 ∀(pins:aH)(s:B)(σ:St)(H:Hp)(x:V)(v:L)(Q:VK),Inv X pins σ H s->RelV x v->r x H Q →
  G (S X.prog X.w) X.A (f v) (EP X pins σ Q) X.xe s
def gO(X:Cx)(f:L)(r:-V->Hp->VK->Prop):Prop :=
 ∀(pins:aH)(s:B)(σ:St)(H:Hp)(xs:-V)(us:-L)(Q:VK),Inv X pins σ H s->Vals xs us->r xs H Q →
  G (S X.prog X.w) X.A (call f us) (EP X pins σ Q) X.xe s
def sQ(r:R2)(ta tb:TE):TE:=fun σ H Q=>ta σ H λx H1=>tb σ H1 λy H2=>r x y H2 Q
def Mh(r:V->Hp->VK->Prop)(ta:TE):TE:=fun σ H Q=>ta σ H λx H1=>r x H1 Q
def rI(C:Int->Int->Prop)(g:Int->Int->V):R2:=λx y H Q=>∃i j,x=.int i/\y=.int j/\C i j/\Q (g i j) H
def mB(g:Int->Int->V):R2:=λx y H Q=>∃i j,x=.int i/\y=.int j/\Q (g i j) H
def rU(g:Int->V):V->Hp->VK->Prop:=λx H Q=>∃i,x=.int i/\Q (g i) H
section
variable{X:Cx}{a b c:M}{ta tb tc:TE}{pos:y}
theorem pF(ha:JE X a ta)(hb:JE X b tb){pins:aH}{s:B}{σ:St}{H:Hp}{R:V->V->Hp->Prop}(I:Inv X pins σ H s)
  (h:ta σ H λx H1=>tb σ H1 λy H2=>R x y H2) {Q:bc} {f:L->L->Sem L}
  (hf:∀v u s2 x y H2,Inv X pins σ H2 s2->RelV x v->RelV y u->R x y H2->G (S X.prog X.w) X.A (f v u) Q X.xe s2) :
  G (S X.prog X.w) X.A (eval a X.env) (λv s₁=>G (S X.prog X.w) X.A (eval b X.env) (λu s₂=>G (S X.prog X.w) X.A (f v u) Q X.xe s₂) X.xe s₁) X.xe s:=by
 calc bg (ha pins s σ H _ I h) ?_;ext v s1 ⟨x,H1,I1,r1,q1⟩;calc bg (hb pins s1 σ H1 _ I1 q1) ?_;ext u s2 ⟨y,H2,I2,r2,q2⟩;calc hf v u s2 x y H2 I2 r1 r2 q2
theorem sR{op:Operator}{r:R2}(ho:eT X (binaryOp op) r)(ha:JE X a ta)(hb:JE X b tb):JE X (.BinOp a op b pos) (sQ r ta tb):=by
 calc⟨?_⟩;ext pins s σ H Q I h;calc wpAny_BinOp (pF ha hb I h λv u s2 x y H2 I2 rx ry q=>ho pins s2 σ H2 x y v u Q I2 rx ry q)
theorem EE{op:UnaryOp}{r:V->Hp->VK->Prop}(ho:yF X (unaryOp op) r)(ha:JE X a ta):JE X (.UnaryOp op a pos) (Mh r ta):=by
 calc⟨?_⟩;ext pins s σ H Q I h;calc UnaryOp_ (bg (ha pins s σ H _ I h) λv s1 ⟨x,H1,I1,r1,q1⟩↦ho pins s1 σ H1 x v Q I1 r1 q1)
theorem vI{f:L->L->Sem L}{C:Int->Int->Prop}{g:Int->Int->Int}
  (rule:∀(i j:Int)(t u:Tok)(s:B)(Q:bc)(E:bc),C i j->Q (.int (g i j) s.toks) {s with toks:=s.toks+1}->G (S X.prog X.w) X.A (f (.int i t) (.int j u)) Q E s) :
  eT X f (rI C λi j=>.int (g i j)):=by
 ext pins s σ H x y v u Q I rx ry h;let⟨i,j,rfl,rfl,hc,q⟩:=h;let⟨t,rfl⟩:=rx;let⟨t',rfl⟩:=ry;calc rule i j t t' s _ _ hc ⟨.int (g i j),H,I.tok _,⟨_,Y⟩,q⟩
theorem sS{f:L->L->Sem L}{g:Int->Int->Int}
  (rule:∀(i j:Int)(t u:Tok)(s:B)(Q:bc)(E:bc),Q (.int (g i j) s.toks) {s with toks:=s.toks+1}->G (S X.prog X.w) X.A (f (.int i t) (.int j u)) Q E s) :
  eT X f (mB λi j=>.int (g i j)):=by
 ext pins s σ H x y v u Q I rx ry h;let⟨i,j,rfl,rfl,q⟩:=h;let⟨t,rfl⟩:=rx;let⟨t',rfl⟩:=ry;calc rule i j t t' s _ _ ⟨.int (g i j),H,I.tok _,⟨_,Y⟩,q⟩
theorem mC{f:L->L->Sem L}{g:Int->Int->Bool}
  (rule:∀(i j:Int)(t u:Tok)(s:B)(Q:bc)(E:bc),Q (.bool (g i j)) s->G (S X.prog X.w) X.A (f (.int i t) (.int j u)) Q E s) :
  eT X f (mB λi j=>.bl (g i j)):=by
 ext pins s σ H x y v u Q I rx ry h;let⟨i,j,rfl,rfl,q⟩:=h;let⟨t,rfl⟩:=rx;let⟨t',rfl⟩:=ry;calc rule i j t t' s _ _ ⟨.bl (g i j),H,I,Y,q⟩
def eC(i j:Int):Prop:=0<=j/\j<=1000000/\i.natAbs<2 ^ 64
def mD(i j:Int):Prop:=(-(2 ^ 64)<i/\i<2 ^ 64)\/(-(2 ^ 64)<j/\j<2 ^ 64)
theorem mD.ok{i j:Int}(h:mD i j):IntMulOk i j:=by
 rcases h with⟨h1,h2⟩|⟨h1,h2⟩
 .exact .of_left (q4z h1 h2)
 .calc .of_right (q4z h1 h2)
theorem EF:eT X (binaryOp .Add) (mB λi j=>.int (i+j)):=sS λ_ _ _ _ _ _ _ q=>add_int q
theorem Mi:eT X (binaryOp .Sub) (mB λi j=>.int (i-j)):=sS λ_ _ _ _ _ _ _ q=>sub_int q
theorem Mj:eT X (binaryOp .Mult) (rI mD λi j=>.int (i*j)):=vI λ_ _ _ _ _ _ _ hc q=>mul_int q hc.ok
theorem yG:eT X (binaryOp .Mod) (rI (λ_ j=>0<j) λi j=>.int (i%j)):=vI λi j _ _ _ _ _ hc q=>by
 let h1:(0:Int)<j:=hc;calc mod_int' ⋯ (by rw[Int.fmod_eq_emod_of_nonneg i ⋯];calc q)
theorem Ml:eT X (binaryOp .Pow) (rI eC λi j=>.int (i ^ j.toNat)):=vI λ_ _ _ _ _ _ _ hc q=>pow_int_small hc.1 hc.2.1 hc.2.2 q
theorem Mm{f:L->Sem L}{g:Int->Int}
  (rule:∀(i:Int)(t:Tok)(s:B)(Q:bc)(E:bc),Q (.int (g i) s.toks) {s with toks:=s.toks+1}->G (S X.prog X.w) X.A (f (.int i t)) Q E s) :
  yF X f (rU λi=>.int (g i)):=by
 ext pins s σ H x v Q I rx h;let⟨i,rfl,q⟩:=h;let⟨t,rfl⟩:=rx;calc rule i t s _ _ ⟨.int (g i),H,I.tok _,⟨_,Y⟩,q⟩
theorem EG:yF X (unaryOp .USub) (rU λi=>.int (-(i:Int))):=Mm λ_ _ _ _ _ q=>neg_int q
theorem Mn{pins:aH}{σ:St}{H:Hp}{s:B}{Q:VK}{k k':Bool}(I:Inv X pins σ H s)(q:Q (.bl k) H)(e:k=k'):EP X pins σ Q (.bool k') s:=by
 subst e;calc⟨.bl k,H,I,Y,q⟩
theorem Mo:eT X (compareOp .Lt) (mB λi j=>.bl (l (i<j))):=mC λ_ _ _ _ _ _ _ q=>lt_int q
theorem Mp:eT X (compareOp .LtE) (mB λi j=>.bl (l (i<=j))):=mC λ_ _ _ _ _ _ _ q=>le_int q
theorem Mq:eT X (compareOp .Gt) (mB λi j=>.bl (l (j<i))):=mC λ_ _ _ _ _ _ _ q=>gt_int q
theorem Mr:eT X (compareOp .GtE) (mB λi j=>.bl (l (j<=i))):=mC λ_ _ _ _ _ _ _ q=>ge_int q
theorem Ms:eT X (compareOp .IsNot) (λx y H Q=>y=.non/\Q (.bl (!l (x=.non))) H):=by
 ext pins s σ H x y v u Q I rx ry h;let⟨rfl,q⟩:=h;cases ry
 refine isnot_none_gen (Mn I q ?_)
 cases x<;>first
  |(cases rx;rfl)
  |(let⟨t,rfl⟩:=rx;rfl)
theorem yH(b:M){op:CmpOp}(h: ~~~(op≠.In))(h2: ~~~(op≠.NotIn)):behindInMarks op b=ι:=by
 let e1:(op==CmpOp.In)=ι:=by cases op<;>first|rfl|exact absurd Y h
 let e2:(op==CmpOp.NotIn)=ι:=by cases op<;>first|rfl|exact absurd Y h2
 cases b<;>simp[behindInMarks,e1,e2]
theorem Mt{op:CmpOp}{r:R2}(ho:eT X (compareOp op) r)(ha:JE X a ta)(hb:JE X b tb)(hm:behindInMarks op b=ι):JE X (.Compare a [op] [b] pos) (sQ r ta tb):=by
 calc⟨?_⟩;ext pins s σ H Q I h;calc wpAny_Compare1 (pF ha hb I h λv u s2 x y H2 I2 rx ry q=>ho pins s2 σ H2 x y v u Q I2 rx ry q) hm
def Mu(t:TE):TT:=fun σ H Q=>t σ H λx H'=>∃k,x=.bl k/\Q k H'
theorem Mw{op:CmpOp}{r:R2}(ho:eT X (compareOp op) r)(ha:JE X a ta)(hb:JE X b tb)(hm:behindInMarks op b=ι):JT X (.Compare a [op] [b] pos) (Mu (sQ r ta tb)):=by
 calc⟨?_⟩;ext pins s σ H Q I h
 refine q2f (bg (ha pins s σ H _ I h) λv s1 ⟨x,H1,I1,r1,q1⟩=>bg (hb pins s1 σ H1 _ I1 q1) λu s2 ⟨y,H2,I2,r2,q2⟩ =>
  bg (ho pins s2 σ H2 x y v u _ I2 r1 r2 q2) λc s3 ⟨z,H3,I3,r3,k,e,q3⟩=>?_) hm
 subst e;cases r3
 calc Zn ⟨H3,I3,q3⟩
def Mx(r r':R2)(ta tb tc:TE):TE:=fun σ H Q=>ta σ H λx H1=>tb σ H1 λy H2=>r x y H2 λz H3=>∃k,z=.bl k ∧
 (if k=θ then tc σ H3 λw' H4=>r' y w' H4 Q else Q (.bl ι) H3)
theorem Mz{op pG:CmpOp}{r r':R2}(ho:eT X (compareOp op) r)(dq:eT X (compareOp pG) r')(ha:JE X a ta)(hb:JE X b tb)(hc:JE X c tc)
  (hm:autoParam (lastMarks [op,pG] [b,c]=ι) qz6._auto_1):JE X (.Compare a [op,pG] [b,c] pos) (Mx r r' ta tb tc):=by
 calc⟨?_⟩;ext pins s σ H Q I h
 refine Compare_chain (bg (ha pins s σ H _ I h) λv s1 ⟨x,H1,I1,r1,q1⟩=>chain_link (bg (hb pins s1 σ H1 _ I1 q1) λu s2 ⟨y,H2,I2,r2,q2⟩ =>
  bg (ho pins s2 σ H2 x y v u _ I2 r1 r2 q2) λd s3 ⟨z,H3,I3,r3,k,e,q3⟩=>?_)) hm
 subst e;cases r3
 refine Zn ?_
 cases k with
 |false=>exact ite_ff ⟨.bl ι,H3,I3,Y,q3⟩
 |true=>calc ite_tt (chain_last (bg (hc pins s3 σ H3 _ I3 q3) λw' s4 ⟨z',H4,I4,r4,q4⟩↦dq pins s4 σ H4 y z' u w' Q I4 r2 r4 q4))
theorem qO:(sizeLine:Nat)<2 ^ 63:=by rw[Zq];decide
theorem MA:eT X (binaryOp .Add) (λx y H Q=>∃i j,x=.str i/\y=.str j/\↑i+↑j<=sizeLine/\Q (.str (i++j)) H):=by
 ext pins s σ H x y v u Q I rx ry h;let⟨i,j,rfl,rfl,hz,q⟩:=h;let⟨t,rfl⟩:=rx;let⟨t',rfl⟩:=ry;calc add_str (λt' tk=>⟨.str (i++j),H,I.tok _,⟨_,Y⟩,q⟩) hz
theorem vals1{x:V}{us:-L}(r:Vals [x] us):∃u,us=[u]/\RelV x u:=by
 cases r with
 |cons r1 r2=>cases r2;calc⟨_,Y,r1⟩
theorem vals2{x y:V}{us:-L}(r:Vals [x,y] us):∃u w',us=[u,w']/\RelV x u/\RelV y w':=by
 cases r with
 |cons r1 r2 =>
  cases r2 with
  |cons r3 r4=>cases r4;calc⟨_,_,Y,r1,r3⟩
theorem MB(hc:X.calm=θ):gO X (.builtin "max") (λxs H Q=>∃i j,xs=[.int i,.int j]/\Q (.int (if j>i then j else i)) H):=by
 ext pins s σ H xs us Q I r h;let⟨i,j,rfl,q⟩:=h;let⟨u,w',rfl,⟨t,rfl⟩,⟨t',rfl⟩⟩:=vals2 r;refine max_two_ints (I.ok.hd hc) λh' tk k=>⟨_,H,I.kept k,?_,q⟩
 by_cases hj:j>i
 .rw[XI hj,XI hj];exact⟨_,Y⟩
 .rw[WK hj,WK hj];calc⟨_,Y⟩
theorem MC(hc:X.calm=θ):gO X (.builtin "min") (λxs H Q=>∃i j,xs=[.int i,.int j]/\Q (.int (if j<i then j else i)) H):=by
 ext pins s σ H xs us Q I r h;let⟨i,j,rfl,q⟩:=h;let⟨u,w',rfl,⟨t,rfl⟩,⟨t',rfl⟩⟩:=vals2 r;refine min_two_ints (I.ok.hd hc) λh' tk k=>⟨_,H,I.kept k,?_,q⟩
 by_cases hj:j<i
 .rw[XI hj,XI hj];exact⟨_,Y⟩
 .rw[WK hj,WK hj];calc⟨_,Y⟩
end
structure i5(h:I)(x dx C:O)(mA:J->Option L):Prop where
 obj:h.get? x=U (ZG C dx)
 ns:h.Ns1 dx mA
 ne:dx≠x
theorem MD{h:I}{dx:O}{mA:J->Option L}(n:h.Ns1 dx mA):∃od,h.get? dx=U od/\∀name,q1h name od=U (mA name):=by
 let⟨o,es,ep,ho,hd,hk,_,hm⟩:=n;calc⟨o,ho,λname=>?_⟩;let e:=hm name;unfold nsFind findBy at e;rw[<-Array.find?_toList] at e;unfold q1h;rw[hd];dsimp only;split
 .rename_i y q
  rw[q] at e;exact congrArg U e
 .rename_i q
  rw[q] at e
  let a:es.toList.any (·.refKey)=ι:=by
   rw[q0c];ext y hy;let⟨z,t,yI⟩:=hk y (Array.mem_toList_iff.mp hy);simp[DictEntry.refKey,yI]
  let a':¬ es.toList.any (·.refKey)=θ:=by rw[a];exact Ya
  rw[WK a'];calc congrArg U e
theorem i5.look{h:Α}{x dx C:O}{mA:J->Option L}(I:i5 h x dx C mA):∃od,PySem.W.InstAt h x (ZG C dx) C (U od)/\∀name,q1h name od=U (mA name) :=
 let⟨od,ho,hl⟩:=MD I.ns
 ⟨od,⟨I.obj,Y,Y,ho⟩,hl⟩
section
variable{prog:t}{w:X}{A:q}{E:bc}{s:B}{K:vS}{x dx C f:O}{mA:J->Option L}{name:J}{v:L}
theorem ME{expr:Bool}{Q:bc}(X:K.In s.heap)(I:i5 s.heap x dx C mA)(hg:q0V K C name=θ)(hh:q1x K C=θ)
  (ha:YW K (.ref C) name=U Z) (hv:mA name=U v) (vJ:q3y v=θ) (h:Q v {s with toks:=s.toks+1}) :
  G (S prog w) A (getAttr (.ref x) name expr) Q E s:=by
 let⟨od,J,hl⟩:=I.look;calc PySem.W.get_value X J (q06 hg).1 (PySem.W.findObj_own hh ha Y (by rw[hl,hv])) vJ h
theorem MF{pl:Sem Bool}{Q:L×-L->B->Prop}(X:K.In s.heap)(I:i5 s.heap x dx C mA)(hg:q0V K C name=θ)
  (hf:YW K (.ref C) name=U (U (.ref f))) (ht:q1W K (.ref f)=θ) (hv:mA name=Z) (h:Q (.ref f,[.ref x]) s) :
  G (S prog w) A (getMethod (.ref x) name pl) Q E s:=by
 let⟨od,J,hl⟩:=I.look;calc PySem.W.method_fn X J (q06 hg).1 (q06 hg).2 hf (q1X.mp ht) (by show(q1h name od).map (·.isSome)=U ι;rw[hl,hv];rfl) h
theorem MG{ns:-π}{Q:Unit->B->Prop}(X:K.In s.heap)(I:i5 s.heap x dx C mA)
  (hs:YW K (.ref C) "__setattr__" = U (U (.builtin "object.__setattr__"))) (hp:q3b K C=θ) (ht:q1_ K C name=U Z) (hh:q1x K C=θ)
  (hw:q2_ mA ns) (hsz:ns.length<=sizeLine)
  (h:∀h',i5 h' x dx C (λy=>if y=name then U v else mA y)->q0I dx s.heap h'->Q () {s with heap:=h',toks:=s.toks+2}) :
  G (S prog w) A (setAttr (.ref x) name v) Q E s:=by
 let⟨od,J,hl⟩:=I.look;calc PySem.W.set_plain X J hs (PySem.W.osa_open (s:={s with toks:=s.toks+1}) (r:=none) X J hp ht λb=>?_);let⟨cd,hc,yh⟩:=PySem.W.any_some hh;let hx:s.heap.get? x=U ⟨.ref C,U dx,.plain,#[]⟩:=I.obj;calc tH (NH (tH (tH (wpAny_loadPart hx (tH (q2V (s:={s with toks:=s.toks+1}) (PySem.W.looks_clsIn X hc) ?_))))));rw[yh];calc NH (a:=U dx) (tH (NH (tH ?_)));calc wpAny_nsSet1 (s:={s with toks:=s.toks+1}) I.ns λh' vK iY=>?_;let⟨oD,Ww,Wx,MH,MI,MJ⟩:=vK.count (PySem.Within.cons name v hw);refine tH (wpAny_lookBehind MH (by rw[MI];calc pastItsLine_dict (Yi MJ (by rw[NG];symm))) ?_)
 calc NH (h _ ⟨(iY.2 _ (Zl I.ne)).trans I.obj,vK,I.ne⟩ iY)
theorem MK{R:Result->B->Prop}{vs:-L}{kw:-(J×L)}(X:K.In s.heap)(hm:q3X K C=θ)
  (hi:YW K (.ref C) "__init__" = U (U (.ref f))) (hf:PySem.W.typeIn K (.ref f)=U (.type "function"))
  (h:codeAny (S prog w) (A.under (.builtin "type.__call__" ⟨.ref C::vs,kw⟩)) (.call (.ref f) ⟨.ref (⇑s+1)::vs,kw⟩) (PySem.W.InitBack (⇑s+1) R)
   {s with heap:=(s.heap.push Y3).push (ZG C ⇑s)}) :
  codeAny (S prog w) A (.call (.ref C) ⟨vs,kw⟩) R s:=by
 let⟨hh,g,d,t,os⟩:=s;calc PySem.W.make_core (PySem.W.makes_of X hm) (PySem.W.looks_findIn X hi) (λself=>PySem.W.bind_fn X self hf) (.inl Y) h
end
noncomputable def cU(f:J)(v:V):-(J×V)->-(J×V)
 |[]=>[(f,v)]
 |(g,x)::r=>if g=f then(g,v)::r else(g,x)::cU f v r
theorem EH(f g:J)(v:V):∀fs:-(J×V),(cU f v fs).lookup g=if g=f then U v else fs.lookup g
 |[]=>by
  show ZM g [(f,v)]=_
  by_cases h:g=f
  .let hb:(g==f)=θ:=q1X.mpr h
   erw[ZM,hb,XI h]
  .let hb:(g==f)=ι:=ZR.mpr h
   erw[ZM,hb,WK h]
 |(k,x)::r=>by
  let ih:=EH f g v r;rw[show cU f v ((k,x)::r)=(if k=f then(k,v)::r else(k,x)::cU f v r) from Y]
  by_cases hk:k=f
  .rw[XI hk]
   by_cases h:g=k
   .let hb:(g==k)=θ:=q1X.mpr h
    erw[ZM,hb,XI (h.trans hk)]
   .let hb:(g==k)=ι:=ZR.mpr h
    erw[ZM,hb,WK (λe:g=f=>h (e.trans hk.symm))]
  .rw[WK hk]
   by_cases h:g=k
   .let hb:(g==k)=θ:=q1X.mpr h
    erw[ZM,hb,WK (λe:g=f=>hk (h.symm.trans e))]
   .let hb:(g==k)=ι:=ZR.mpr h
    erw[ZM,hb];calc ih
theorem yJ(f:J)(v:V):∀fs:-(J×V),f∈(cU f v fs).map (·.1)/\∀g,g∈fs.map (·.1)->g∈(cU f v fs).map (·.1)
 |[]=>⟨by simp[cU],λg h=>by simp at h⟩
 |(k,x)::r=>by
  let⟨i1,i2⟩:=yJ f v r;rw[show cU f v ((k,x)::r)=(if k=f then(k,v)::r else(k,x)::cU f v r) from Y]
  by_cases hk:k=f
  .rw[XI hk]
   subst hk;exact⟨by simp,λg h=>by simpa using h⟩
  .rw[WK hk]
   refine⟨?_,λg h=>?_⟩
   .rw[X0]
    exact WH _ i1
   .rw[X0] at h ⊢
    rcases XJ.mp h with e|e
    .exact XJ.mpr (.inl e)
    .calc WH _ (i2 g e)
theorem EI(f:J)(v:V):∀fs:-(J×V),↑(cU f v fs)<=fs.length+1
 |[]=>by simp[cU]
 |(k,x)::r=>by
  let ih:=EI f v r;rw[show cU f v ((k,x)::r)=(if k=f then(k,v)::r else(k,x)::cU f v r) from Y]
  by_cases hk:k=f
  .rw[XI hk,NG,NG];symm
  .rw[WK hk,NG,NG];symm
theorem eg.some_of{v:V}{o:Option L}(r:eg (U v) o):∃u,o=U u/\RelV v u:=by
 cases o with
 |none=>exact(show False from r).elim
 |some u=>calc⟨u,Y,r⟩
theorem eg.none_of{o:Option L}(r:eg Z o):o=Z:=by
 cases o with
 |none=>rfl
 |some u=>calc(show False from r).elim
theorem ML{v:V}{u:L}(r:RelV v u):q3y u=θ:=by
 cases v with
 |non=>cases(show u=Yk from r);rfl
 |bl b=>cases(show u=q0h b from r);rfl
 |int i=>let⟨t,e⟩:=(show ∃t,u=Z8 i t from r);cases e;rfl
 |str x=>let⟨t,e⟩:=(show ∃t,u=q2t x t from r);cases e;rfl
 |byt b=>let⟨t,e⟩:=(show ∃t,u=Value.bytes b t from r);cases e;rfl
 |flt b=>let⟨t,e⟩:=(show ∃t,u=q3P b t from r);cases e;rfl
 |ref a=>cases(show u=Yg a from r);rfl
 |ty n=>cases(show u=q0y n from r);rfl
section
variable{P:t}{w:X}{H H':Hp}{h h':I}{a C dx:O}{fs LF:-(J×V)}
theorem vL(aY:c5 P w H h)(e:H a=U (.ins C dx fs)):∃mA,i5 h a dx C mA/\(∀f,eg (fs.lookup f) (mA f))/\q2_ mA (fs.map (·.1))/\fs.length<=1000/\H dx=U (.own a):=by
 let⟨d,z,ne,ob,mA,n,r,q⟩:=(show aU P w H h a (.ins C dx fs) from aY a _ e);calc⟨mA,⟨ob,n,ne⟩,r,q,z,d⟩
end
structure hX(K:vS)(C:O):Prop where
 pg:q0V K C Str.empty=θ
 hd:q1x K C=θ
 po:q3b K C=θ
 sa:YW K (.ref C) "__setattr__" = U (U (.builtin "object.__setattr__"))
theorem hX.get{K:vS}{C:O}(c:hX K C)(f:J):q0V K C f=θ:=c.pg
def cG(K:vS)(C:O)(f:J):Prop:=YW K (.ref C) f=U Z
theorem cG.sT{K:vS}{C:O}{f:J}(n:cG K C f):q1_ K C f=U Z:=by
 unfold q1_;rw[show YW K (.ref C) f=U Z from n];rfl
structure Meth(K:vS)(C:O)(m:J)(f:O):Prop where
 at_:YW K (.ref C) m=U (U (.ref f))
 fn:q1W K (.ref f)=θ
 kp:Yt K (.ref f)=θ
section
variable{X:Cx}{pins:aH}{σ:St}{H:Hp}{s:B}{a C dx:O}{fs:-(J×V)}{f:J}{v:V}{A:q}{E:bc}
theorem MM{b:Bool}{Q:bc}(I:Inv X pins σ H s)(e:H a=U (.ins C dx fs))(c:hX X.K C)(n:cG X.K C f)(l:fs.lookup f=U v)
  (h:∀u s',Inv X pins σ H s'->RelV v u->Q u s'):G (S X.prog X.w) A (getAttr (.ref a) f b) Q E s:=by
 let⟨mA,O,r,_,_,_⟩:=vL I.aY e;let⟨u,hu,ru⟩:=eg.some_of (v:=v) (o:=mA f) (by rw[<-l];calc r f);calc ME I.dY O (c.get f) c.hd n hu (ML ru) (h u _ (I.tok _) ru)
theorem EJ{m:J}{g:ξ}{pl:Sem Bool}{Q:L×-L->B->Prop}(I:Inv X pins σ H s)(e:H a=U (.ins C dx fs))(c:hX X.K C)(k:Meth X.K C m g)(l:fs.lookup m=Z)
  (h:Q (.ref g,[.ref a]) s):G (S X.prog X.w) A (getMethod (.ref a) m pl) Q E s:=by
 let⟨mA,O,r,_,_,_⟩:=vL I.aY e;let hn:mA m=Z:=eg.none_of (by rw[<-l];calc r m);calc MF I.dY O (c.get m) k.at_ k.fn hn h
theorem MN{y:V}{u:L}{Q:Unit->B->Prop}(I:Inv X pins σ H s)(e:H a=U (.ins C dx fs))(c:hX X.K C)(n:cG X.K C f)(hl:fs.length<1000)(ry:RelV y u)
  (h:∀s',Inv X pins σ (upd H a (.ins C dx (cU f y fs))) s'->Q () s'):G (S X.prog X.w) A (setAttr (.ref a) f u) Q E s:=by
 let⟨mA,O,r,wi,_,ho⟩:=vL I.aY e;let hz:↑(fs.map (·.1))<=sizeLine:=by rw[pR,Zq];symm
 calc MG I.dY O c.sa c.po n.sT c.hd wi hz λh' O' sb=>h _ ?_;let hd:∃o,h'.get? dx=U o:=let⟨o,_,_,e',_⟩:=O'.ns;⟨o,e'⟩;calc I.write (x:=a) (e:=dx) (by rw[e];calc ZI) (.inr ho) (λb q hb z=>(sb.2 b hb).trans z) hd ?_;refine⟨by rw[aZ O.ne];calc ho,?_,O.ne,O'.obj,_,O'.ns,λg=>?_,λg hg=>?_⟩
 .let:=EI f y fs;symm
 .show eg ((cU f y fs).lookup g) (if g=f then U u else mA g)
  rw[EH]
  by_cases q:g=f
  .rw[XI q,XI q];exact ry
  .rw[WK q,WK q];exact r g
 .by_cases q:g=f
  .rw[q];exact(yJ f y fs).1
  .refine (yJ f y fs).2 g (wi g λz=>hg ?_)
   show(if g=f then U u else mA g)=Z;rw[WK q];calc z
theorem Inv.made(I:Inv X pins σ H s):Inv X pins σ (upd (upd H ⇑s (.own (⇑s+1))) (⇑s+1) (.ins C ⇑s []))
  {s with heap:=(s.heap.push Y3).push (ZG C ⇑s)}:=by
 let e1:(s.heap.push Y3).get? ⇑s=U Y3:=WL s.heap Y
 let e2:((s.heap.push Y3).push (ZG C ⇑s)).get? (⇑s+1)=U (ZG C ⇑s):=by
  let:=WL (s.heap.push Y3) (o:=ZG C ⇑s) Y
  rwa [Zz] at this
 let e3:(s.heap.push Y3).Ns ⇑s (λ_=>Z):=⟨Y3,#[],_,e1,Y,(λe he=>absurd he (by simp)),λ_=>Y⟩;let I1:=I.laid (a:=s.heap.objs.size) (o:=.own (⇑s+1)) (h':=s.heap.push Y3) (t':=s.toks) (λb u q=>zk _ q) (Fm _) ⟨_,e1⟩;calc I1.laid (a:=⇑s+1) (o:=.ins C ⇑s []) (t':=s.toks) (λb u q=>zk _ q) (q1Y (Zz _ _)) ?_;let ne:⇑s≠⇑s+1:=XQ (ZT _);calc⟨by rw[aZ ne,bK],YD _,ne,e2,λ_=>Z,(Heap.Ns1.of_empty e3).at λo q=>zk _ q,λ_=>ZI,λy hy=>absurd Y hy⟩
theorem MO{prog:t}{w:ω}{env:u}{e:M}{f:J}{pos:y}{s:B}{Q:bc}(hb:attributeBase e f env (eval e env)=eval e env)
  (h:G (S prog w) A (eval e env) (λo s₁=>G (S prog w) A (getAttr o f θ) Q E s₁) E s):G (S prog w) A (eval (.Attribute e f pos) env) Q E s :=
 Attribute_any_ h (by rw[arm_eval_Attribute,hb])
end
def yK(K:vS)(ta:TE)(f:J):TE:=fun σ H Q=>ta σ H λx H1=>∃a C dx fs v,x=.ref a/\H1 a=U (.ins C dx fs)/\hX K C/\cG K C f/\fs.lookup f=U v/\Q v H1
def yL(K:vS)(ta tv:TE)(f:J):TS:=λD σ H=>tv σ H λy H1=>ta σ H1 λx H2=>∃a C dx fs,x=.ref a/\H2 a=U (.ins C dx fs)/\hX K C/\cG K C f/\fs.length<1000 ∧
 D.nx σ (upd H2 a (.ins C dx (cU f y fs)))
section
variable{X:Cx}{o e value:M}{f:J}{pos pos' yM:y}{ta tv:TE}
theorem MP(he:JE X e ta)(hb:attributeBase e f X.env (eval e X.env)=eval e X.env):JE X (.Attribute e f pos) (yK X.K ta f):=by
 calc⟨?_⟩;ext pins s σ H Q I h;calc MO hb (bg (he pins s σ H _ I h) ?_);ext u s1 ⟨x,H1,I1,rx,a,C,dx,fs,v,ex,ea,c,n,l,q⟩;subst ex;obtain rfl:u=Yg a:=rx;calc MM I1 ea c n l λu' s2 I2 ru=>⟨v,H1,I2,ru,q⟩
theorem MQ(ha:JE X o ta)(hv:JE X value tv)(hs:swapsWith value (U (.Attribute o f pos')) pos.line X.env=pure ι):JS X (.Assign [.Attribute o f pos'] value pos) (yL X.K ta tv f):=by
 calc⟨?_⟩;ext pins s σ H D I h;calc plainObj_wpAny_Assign_Attribute (bg (hv pins s σ H _ I h) λu s1 ⟨y,H1,I1,ry,q⟩=>bg (ha pins s1 σ H1 _ I1 q) λov s2 ⟨x,H2,I2,rx,a,C,dx,fs,ex,ea,c,n,l,q2⟩=>?_) hs;subst ex;obtain rfl:ov=Yg a:=rx;calc MN I2 ea c n l ry λs3 I3=>⟨σ,_,I3,q2⟩
end
section
variable{X:Cx}{pins:aH}{σ:St}{H:Hp}{s:B}{A:q}{E:bc}{Q:bc}{c:L}{b:Bool}
inductive eE (K:vS) (H:Hp):V->L->Prop where
 |non:eE K H .non (.type "NoneType")
 |bl (x:Bool):eE K H (.bl x) (.type "bool")
 |int (i:Int):eE K H (.int i) (.type "int")
 |str (x:J):eE K H (.str x) (.type "str")
 |flt (x:UInt64):eE K H (.flt x) (.type "float")
 |lst {a:O} {xs:-V} (e:H a=U (.lst xs)):eE K H (.ref a) (.type "list")
 |frz {a:O} {o:Γ} {xs:-V} (e:H a=U (.frz o (.lst xs))):eE K H (.ref a) (.type "list")
 |tup {a:O} {xs:-V} (e:H a=U (.tup xs)):eE K H (.ref a) (.type "tuple")
 |dK {a:O} {kvs:-(Key×V)} (e:H a=U (.dK kvs)):eE K H (.ref a) (.type "dict")
 |dT {a:O} {kvs:-(-Key×V)} (e:H a=U (.dT kvs)):eE K H (.ref a) (.type "dict")
 |ins {a C dx:O} {fs:-(J×V)} (e:H a=U (.ins C dx fs)) (cl:hX K C) (ha:YW K (.ref C) "__class__" = U (U (.builtin "object.__class__")))
   (hn:PySem.W.specialIn K (.builtin "object.__class__") "__get__" = U (U (.builtin "getset_descriptor.__get__"))) (EK:PySem.W.takesIn K (.builtin "object.__class__")=U θ)
   (hm:PySem.W.mroIn K C (.type "object")=U θ):eE K H (.ref a) (.ref C)
theorem MR{x:V}{u t:L}(I:Inv X pins σ H s)(rx:RelV x u)(ty:eE X.K H x t)(e:Y9 X.K t c=U b)(h:∀tk,Q (.bool b) {s with toks:=tk}):
  G (S X.prog X.w) A (call (.builtin "isinstance") [u,c]) Q E s:=by
 cases ty with
 |non=>cases(show u=Yk from rx);exact YX PySem.W.kitx_none I.dY ZI e (λz=>nomatch z) h
 |bl y=>cases(show u=q0h y from rx);exact YX PySem.W.kitx_bool I.dY ZI e (λz=>nomatch z) h
 |int i=>let⟨t,q⟩:=(show ∃t,u=Z8 i t from rx);cases q;exact YX PySem.W.kitx_int I.dY ZI e (λz=>nomatch z) h
 |str y=>let⟨t,q⟩:=(show ∃t,u=q2t y t from rx);cases q;exact YX PySem.W.kitx_str I.dY ZI e (λz=>nomatch z) h
 |flt y=>let⟨t,q⟩:=(show ∃t,u=q3P y t from rx);cases q;exact YX PySem.W.kitx_float I.dY ZI e (λz=>nomatch z) h
 | @lst a xs ea =>
  cases(show u=Yg a from rx)
  let⟨_,_,n,_,h1⟩:=(show aU X.prog X.w H s.heap a (.lst xs) from I.aY a _ ea);exact YX q3c I.dY ⟨_,h1,Y⟩ e (λz=>nomatch z) h
 | @frz a ob xs ea =>
  cases(show u=Yg a from rx)
  let⟨_,_,_,n,_,h1⟩:=(show aU X.prog X.w H s.heap a (.frz ob (.lst xs)) from I.aY a _ ea);exact YX q3c I.dY ⟨_,h1,Y⟩ e (λz=>nomatch z) h
 | @tup a xs ea =>
  cases(show u=Yg a from rx)
  let⟨_,_,_,p⟩:=(show aU X.prog X.w H s.heap a (.tup xs) from I.aY a _ ea);let⟨o,h1,h2,_⟩:=p;exact YX PySem.W.kitx_tuple I.dY ⟨o,h1,h2⟩ e (λz=>nomatch z) h
 | @dK a kvs ea =>
  cases(show u=Yg a from rx)
  let⟨_,_,vs,_,p⟩:=(show aU X.prog X.w H s.heap a (.dK kvs) from I.aY a _ ea);let⟨o,es,ep,h1,h2,_⟩:=p;exact YX q3d I.dY ⟨o,h1,h2.1⟩ e (λz=>nomatch z) h
 | @dT a kvs ea =>
  cases(show u=Yg a from rx)
  let⟨_,_,xs,_,o,es,ep,h1,h2,_⟩:=(show aU X.prog X.w H s.heap a (.dT kvs) from I.aY a _ ea);exact YX q3d I.dY ⟨o,h1,h2.1⟩ e (λz=>nomatch z) h
 | @ins a C dx fs ea cl ha hn EK hm =>
  cases(show u=Yg a from rx)
  let⟨mA,O,_⟩:=vL I.aY ea;let⟨od,J,_⟩:=O.look;calc YX (PySem.W.kitx_own (cl.get _) cl.hd ha hn EK hm) I.dY J e (λz=>nomatch z) h
end
structure a6(k:Nat)(A:q):Prop where
 hd:A.handled=Z
 dp:A.depth+3*k+5<recursionLimit
 un:A.units+16*k+200<cLine
 gd:A.guards=U []
theorem a6.mono{j k:Nat}{A:q}(r:a6 k A)(h:j<=k):a6 j A:=⟨r.hd,by let:=r.dp;symm,by let:=r.un;symm,r.gd⟩
theorem a6.deeper{k:Nat}{A:q}(r:a6 (k+1) A)(env:u):a6 k (A.deeper env) :=
 ⟨r.hd,by let:=r.dp;show A.depth+1+3*k+5<_;symm,by let:=r.un;show A.units+3+16*k+200<_;symm,r.gd⟩
theorem a6.in1{k:Nat}{A:q}(r:a6 (k+1) A):a6 k A.in1 :=
 ⟨r.hd,by let:=r.dp;show A.depth+3*k+5<_;symm,by let:=r.un;show A.units+1+16*k+200<_;symm,r.gd⟩
theorem MS{A:q}{C:O}{us:-L}{kw:-(J×L)}:(A.under (.builtin "type.__call__" ⟨.ref C::us,kw⟩)).depth=A.depth+1:=by
 first|rfl|simp[q3e,Code.weight,Code.isCreation,Code.isGuard,Code.isCaller,Code.frames,q3f,guardIds]
theorem MT{A:q}{C:O}{us:-L}{kw:-(J×L)}:(A.under (.builtin "type.__call__" ⟨.ref C::us,kw⟩)).units=A.units+1:=by
 first|rfl|simp[q3e,Code.cUnits,Code.frames,q3f]
theorem a6.make{k:Nat}{A:q}(r:a6 (k+1) A)(C:O)(us:-L)(kw:-(J×L)):a6 k (A.under (.builtin "type.__call__" ⟨.ref C::us,kw⟩)) :=
 ⟨r.hd,by let:=r.dp;rw[MS];symm,by let:=r.un;rw[MT];symm,r.gd⟩
theorem a6.depth{k:Nat}{A:q}(r:a6 k A):A.depth<recursionLimit:=by let:=r.dp;symm
theorem a6.units{k:Nat}{A:q}(r:a6 k A):A.units+64<cLine:=by let:=r.un;symm
def gP:TA:=λ_ H Q=>Q [] H
def iP(ta:TE)(tr:TA):TA:=fun σ H Q=>ta σ H λx H1=>tr σ H1 λxs H2=>Q (x::xs) H2
section
variable{X:Cx}{e:M}{es:-M}{te:TE}{t:TA}{pos:y}
theorem bF:JA X [] gP:=⟨λ_ _ _ _ H Q I h=>Calls.spliced_nil ⟨[],H,I,.nil,h⟩⟩
theorem jV(ha:JE X e te)(hr:JA X es t)(hs:‹cj X e es›):JA X (e::es) (iP te t):=by
 calc⟨?_⟩;ext pos pins s σ H Q I h;rw[hs];show G _ _ (spliced ((ι,eval e X.env)::backTo pos (starEach es X.env))) _ _ s;calc Calls.spliced_cons (bg (ha pins s σ H _ I h) ?_);ext u s1 ⟨x,H1,I1,r1,q1⟩;calc bg (hr pos pins s1 σ H1 _ I1 q1) λus s2 ⟨xs,H2,I2,r2,q2⟩↦⟨x::xs,H2,I2,.cons r1 r2,q2⟩
def yN(t:TA):TE:=fun σ H Q=>t σ H λxs H1=>↑xs<=sizeLine/\∀p,H1 p=Z->Q (.ref p) (upd H1 p (.tup xs))
def sU(t:TA):TE:=fun σ H Q=>t σ H λxs H1=>↑xs<=sizeLine/\∀p,H1 p=Z->Q (.ref p) (upd H1 p (.lst xs))
theorem MU{x1}(h:JA X es t):JE X (.Tuple es x1 pos) (yN t):=by
 calc⟨?_⟩;ext pins s σ H Q I hq;calc wpAny_Tuple_spliced (bg (h pos pins s σ H _ I hq) λus s1 ⟨xs,H1,I1,r,z,q⟩=>⟨by rw[<-↑r];calc z,?_⟩);let hf:H1 ⇑s1=Z:=I1.aY.fresh (Fm _);calc⟨.ref ⇑s1,upd H1 ⇑s1 (.tup xs),I1.laid (t':=s1.toks) (λb u e=>zk _ e) (Fm _) ?_,Y,q _ hf⟩;calc⟨z,us,r,⟨_,WL _ Y,Y,_,Y⟩⟩
theorem vM(h:JA X es t):JE X (.List es pos) (sU t):=by
 calc⟨?_⟩;ext pins s σ H Q I hq;calc wpAny_List_spliced (bg (h pos pins s σ H _ I hq) λus s1 ⟨xs,H1,I1,r,z,q⟩=>⟨by rw[<-↑r];calc z,?_⟩);let hf:H1 ⇑s1=Z:=I1.aY.fresh (Fm _);calc⟨.ref ⇑s1,upd H1 ⇑s1 (.lst xs),I1.laid (t':=s1.toks) (λb u e=>zk _ e) (Fm _) ?_,Y,q _ hf⟩;calc⟨z,us,0,r,WL _ Y⟩
end
abbrev Sp:=-V->Hp->VK->XK->Prop
abbrev jW:=-u->Hp->B->XK->L->B->Prop
structure i7(P:t)(w:X)(K:vS)(mg:J->Option L)(base:I)(A:q)(outer:-u)(s:B)(H:Hp):Prop where
 frames:A.frames=U outer
 mod:Mod K mg base
 bs:∀b o,base.get? b=U o->s.heap.get? b=U o/\(H b=Z\/∃xs,H b=U (.tup xs))
 kx:base.objs.size<=⇑s
 dG:s.heap.FunFrames base outer
 kR:∀b∈e_ outer,H b=Z
 aY:c5 P w H s.heap
 bare:AllBare s.gens
def CE(outer:-Ζ)(P:t)(w:X)(H:Hp)(s:B)(Q:VK)(u:L)(s':B):Prop :=
 ∃v H',s'.os=s.os/\AllBare s'.gens/\Un (e_ outer) [] H H' s.heap s'.heap/\c5 P w H' s'.heap/\RelV v u/\Q v H'
def CR(CX:jW)(outer:-Ζ)(P:t)(w:X)(H:Hp)(s:B)(Q:VK)(E:XK)(r:Result)(s':B):Prop :=
 match r with
 |.ok (.ret u)=>CE outer P w H s Q u s'
 |.ok _=>False
 |.error e=>CX outer H s E e s'
structure bN(P:t)(w:X)(K:vS)(mg:J->Option L)(base:I)(CX:jW)(k:Nat)(f:O)(fd:FuncData)(ps:-J)(sp:Sp):Prop where
 len:∀vs H Q E,sp vs H Q E->↑vs=↑ps
 run:∀(A:q)(outer:-u)(s:B)(H:Hp)(args:Args)(us:-L)(vs:-V)(Q:VK)(E:XK),a6 k A->i7 P w K mg base A outer s H->BindsTo s fd args (ps.zip us)->Vals vs us->sp vs H Q E →
  codeAny (S P w) A (.call (.ref f) args) (CR CX outer P w H s Q E) s
theorem i7.make{P:t}{w:X}{K:vS}{mg:J->Option L}{base:I}{A:q}{outer:-u}{s:B}{H:Hp}(e:i7 P w K mg base A outer s H)(C:O)(us:-L)(kw:-(J×L)):
  i7 P w K mg base (A.under (.builtin "type.__call__" ⟨.ref C::us,kw⟩)) outer s H:=⟨by first|exact e.frames|(simpa[q3e,Code.envs,q3f,pushEnvs] using e.frames),e.mod,e.bs,e.kx,e.dG,e.kR,e.aY,e.bare⟩
section
variable{X:Cx}{pins:aH}{σ:St}{H:Hp}{s s':B}
theorem Inv.pH(I:Inv X pins σ H s):i7 X.prog X.w X.K X.mg X.base X.A X.stack s H :=
 ⟨I.ok.frames,I.ok.mod,I.bs,Yi I.ok.kx I.sz,I.stack,I.eA,I.aY,I.bare⟩
theorem Inv.after{Q:VK}{u:L}(I:Inv X pins σ H s)(h:CE X.stack X.prog X.w H s Q u s'):EP X pins σ Q u s':=by
 let⟨v,H',os,bare,un,aY,r,q⟩:=h;let⟨hh,g,d,t,yc⟩:=s';obtain rfl:yc=s.os:=os;calc⟨v,H',I.call (h':=hh) (g':=g) (d':=d) (t':=t) (ch:=[]) un aY bare (λb z=>absurd z (by simp)),r,q⟩
end
def vN(sp:Sp)(gm:-V)(E:XK)(t:TA):TE:=fun σ H Q=>t σ H λvs H1=>sp (vs++gm) H1 Q E
def yO(C:O)(m:J)(sp:Sp)(gm:-V)(E:XK)(ta:TE)(t:TA):TE:=fun σ H Q=>ta σ H λx H1=>∃a dx fs,x=.ref a/\H1 a=U (.ins C dx fs)/\fs.lookup m=Z ∧
 t σ H1 λvs H2=>sp (x::(vs++gm)) H2 Q E
def MV(C:O)(sp:Sp)(gm:-V)(E:XK)(t:TA):TE:=fun σ H Q=>t σ H λvs H1=>∀x dx,H1 x=Z->H1 dx=Z->dx≠x →
 sp (.ref x::(vs++gm)) (upd (upd H1 dx (.own x)) x (.ins C dx [])) (λv H2=>v=.non/\Q (.ref x) H2) E
def Binds(K:vS)(fd:FuncData)(ps:-J)(ds:-L):Prop :=
 ∀(s:B)(us:-L),K.In s.heap->↑(us++ds)=↑ps->BindsTo s fd ⟨us,[]⟩ (ps.zip (us++ds))
theorem Binds.all{K:vS}{fd:FuncData}{ps:-J}(h:∀us:-L,↑us=↑ps->bindArgs fd ⟨us,[]⟩=pure (ps.zip us)):Binds K fd ps []:=λs us _ hl=>by
 rw[mJ] at hl ⊢;calc .of_eq (h us hl)
def lS(CX:jW)(X:Cx)(E:XK):Prop:=∀(pins:aH)(σ:St)(H:Hp)(s:B)(e:L)(s':B),Inv X pins σ H s->CX X.stack H s E e s'->X.xe e s'
section
variable{X:Cx}{CX:jW}{k:Nat}{f C:O}{fd:FuncData}{ps:-J}{sp:Sp}{gm:-V}{ds:-L}{E:XK}{x m:J}{p pos apos:y}{e o:M}{es:-M}{ta:TE}{t:TA}
theorem yP{pins:aH}{σ:St}{H:Hp}{s:B}{Q:VK}{us:-L}{vs:-V}(F:bN X.prog X.w X.K X.mg X.base CX k f fd ps sp)(hr:a6 k X.A)(hb:Binds X.K fd ps ds)(hd:Vals gm ds)(hx:lS CX X E)
  (I:Inv X pins σ H s) (r:Vals vs us) (h:sp (vs++gm) H Q E):G (S X.prog X.w) X.A (call (.ref f) us) (EP X pins σ Q) X.xe s:=by
 let r2:Vals (vs++gm) (us++ds):=r.append hd;let hl:↑(us++ds)=↑ps:=by rw[<-↑r2];exact F.len _ _ _ _ h
 refine q2R (q0J (F.run X.A X.stack s H ⟨us,[]⟩ (us++ds) (vs++gm) Q E hr I.pH (hb s us I.dY hl) r2 h) λr s' hq=>?_)
 cases r with
 |error e=>exact hx pins σ H s e s' I hq
 |ok fl =>
  cases fl with
  |ret u=>exact I.after hq
  |next=>exact YN hq
  |brk=>exact YN hq
  |cont=>calc YN hq
theorem sV(F:bN X.prog X.w X.K X.mg X.base CX k f fd ps sp)(hr:a6 k X.A)(hg:Gl X x)(hm:X.mg x=U (.ref f))(hk:Yt X.K (.ref f)=θ)(hb:Binds X.K fd ps ds)(hd:Vals gm ds)(hx:lS CX X E)
  (ha:JA X (e::es) t) (cV: ~~~(bL x)) (he:‹cj X e es›) (cw:‹cF X pos es›) :
  JE X (.Call (.Name x p) (e::es) [] pos) (vN sp gm E t):=by
 calc⟨?_⟩;ext pins s σ H Q I h;calc ZJ (sA I hg hm ?_ cV);calc q0z (h₀:=X.base) I.ok.mod.jy hk (bg (ha pos pins s σ H _ I h) λus s1 ⟨vs,H1,I1,r,q⟩=>⟨I1.dY,?_⟩) he cw;calc yP F hr hb hd hx I1 r q
theorem MW {pl:Sem Bool} (he:JE X o ta) (c:hX X.K C) (hm:Meth X.K C m f) (F:bN X.prog X.w X.K X.mg X.base CX k f fd ps sp) (hr:a6 k X.A) (hb:Binds X.K fd ps ds) (hd:Vals gm ds) (hx:lS CX X E) (ha:JA X (e :: es) t)
  (fU:‹cj X e es›) (cw:‹cF X pos es›)
  (ht:‹eval (.Call (.Attribute o m apos) (e :: es) [] pos) X.env=(do
   let ov <- eval o X.env
   standAt apos.atName
   let (f,first) <- holding [ov] (getMethod ov m pl)
   callWith pos f first (backTo pos (starEach (e :: es) X.env)) (backToKw pos (keywordEach [] X.env)))›) :
  JE X (.Call (.Attribute o m apos) (e :: es) [] pos) (yO C m sp gm E ta t):=by
 calc⟨?_⟩;ext pins s σ H Q I h;calc q2g (pl:=pl) (bg (he pins s σ H _ I h) λu s1 ⟨x,H1,I1,rx,a,dx,fs,ex,ea,l,q⟩ => ?_) ht;subst ex;obtain rfl:u=Yg a:=rx;calc EJ I1 ea c hm l ?_;calc q0z (first:=[.ref a]) (h₀ := X.base) I.ok.mod.jy hm.kp (bg (ha pos pins s1 σ H1 _ I1 q) λus s2 ⟨vs,H2,I2,r,q2⟩=>⟨I2.dY,?_⟩) fU cw;calc yP (us := .ref a :: us) (vs := .ref a :: vs) F hr hb hd hx I2 (.cons Y r) q2
theorem EL {pl:Sem Bool} (he:JE X o ta) (c:hX X.K C) (hm:Meth X.K C m f) (F:bN X.prog X.w X.K X.mg X.base CX k f fd ps sp) (hr:a6 k X.A) (hb:Binds X.K fd ps ds) (hd:Vals gm ds) (hx:lS CX X E)
  (ht:‹eval (.Call (.Attribute o m apos) [] [] pos) X.env=(do
   let ov <- eval o X.env
   standAt apos.atName
   let (f,first) <- holding [ov] (getMethod ov m pl)
   callWith pos f first (backTo pos (starEach [] X.env)) (backToKw pos (keywordEach [] X.env)))›) :
  JE X (.Call (.Attribute o m apos) [] [] pos) (yO C m sp gm E ta gP):=by
 calc⟨?_⟩;ext pins s σ H Q I h;calc q2g (pl:=pl) (bg (he pins s σ H _ I h) λu s1 ⟨x,H1,I1,rx,a,dx,fs,ex,ea,l,q⟩ => ?_) ht;subst ex;obtain rfl:u=Yg a:=rx;calc EJ I1 ea c hm l ?_;calc PySem.W.callWith_K0 (first:=[.ref a]) I1.dY hm.kp (yP (us:=[.ref a]) (vs:=[.ref a]) F hr hb hd hx I1 (.cons Y .nil) q)
structure Mk(K:vS)(C f:O):Prop where
 makes:q3X K C=θ
 init:YW K (.ref C) "__init__" = U (U (.ref f))
 fn:q1W K (.ref f)=θ
 kp:Yt K (.ref C)=θ
theorem MX{pins:aH}{σ:St}{H:Hp}{s:B}{Q:VK}{us:-L}{vs:-V}(M:Mk X.K C f)(F:bN X.prog X.w X.K X.mg X.base CX k f fd ps sp)(hr:a6 (k+1) X.A)(hb:Binds X.K fd ps ds)(hd:Vals gm ds)
  (hx:lS CX X E) (I:Inv X pins σ H s) (r:Vals vs us)
  (h:∀x dx,H x=Z->H dx=Z->dx≠x->sp (.ref x::(vs++gm)) (upd (upd H dx (.own x)) x (.ins C dx [])) (λv H2=>v=.non/\Q (.ref x) H2) E) :
  G (S X.prog X.w) X.A (call (.ref C) us) (EP X pins σ Q) X.xe s:=by
 let hq:=h (⇑s+1) ⇑s (I.aY.fresh (q0Y _)) (I.aY.fresh (Fm _)) (XQ (ZT _));let I2:=Inv.made (C:=C) I;let r2:Vals (V.ref (⇑s+1)::(vs++gm)) (Yg (⇑s+1)::(us++ds)):=.cons Y (r.append hd)
 let hl:↑(Yg (⇑s+1)::us++ds)=↑ps:=by
  let e:=↑r2;rw[F.len _ _ _ _ hq] at e;exact e.symm
 refine q2R (MK (f:=f) I.dY M.makes M.init (q1X.mp M.fn) (q0J (F.run _ X.stack _ _ ⟨Yg (⇑s+1)::us,[]⟩ (Yg (⇑s+1)::(us++ds)) _ _ E (hr.make C us [])
  (I2.pH.make C us []) (hb _ (Yg (⇑s+1)::us) I2.dY hl) r2 hq) λr s' om=>?_))
 cases r with
 |error e=>exact hx pins σ _ _ e s' I2 om
 |ok fl =>
  cases fl with
  |ret u =>
   let⟨v,H',I3,rv,ev,q3⟩:=I2.after om;subst ev;exact⟨rv,⟨V.ref (⇑s+1),H',I3,Y,q3⟩⟩
  |next=>exact YN om
  |brk=>exact YN om
  |cont=>calc YN om
theorem MY(M:Mk X.K C f)(F:bN X.prog X.w X.K X.mg X.base CX k f fd ps sp)(hr:a6 (k+1) X.A)(hg:Gl X x)(hm:X.mg x=U (.ref C))(hb:Binds X.K fd ps ds)(hd:Vals gm ds)(hx:lS CX X E)
  (ha:JA X (e::es) t) (cV: ~~~(bL x)) (he:‹cj X e es›) (cw:‹cF X pos es›) :
  JE X (.Call (.Name x p) (e::es) [] pos) (MV C sp gm E t):=by
 calc⟨?_⟩;ext pins s σ H Q I h;calc ZJ (sA I hg hm ?_ cV);calc q0z (h₀:=X.base) I.ok.mod.jy M.kp (bg (ha pos pins s σ H _ I h) λus s1 ⟨vs,H1,I1,r,q⟩=>⟨I1.dY,?_⟩) he cw;calc MX M F hr hb hd hx I1 r q
end
section
variable{X:Cx}{CX:jW}{k:Nat}{f C:O}{fd:FuncData}{ps ks:-J}{sp:Sp}{E:XK}{x m:J}{p pos apos i8:y}{e o:M}{es:-M}{Wz:-Keyword}{te ta:TE}{t tk:TA}{nm:Option J}
variable{g:-L->-L->-L}{gV:-V->-V->-V}
end
structure kW(N P:-J)(sc:o):Prop where
 kind:sc.kind=.function
 co:sc.isCoroutine=ι
 gen:sc.isGenerator=ι
 nd:N.Nodup
 pre:N.take ↑P=P
 par:∀x∈P,sc.names.lookup x=U .local\/sc.names.lookup x=U .cell
 pI:∀y∈sc.names,y.2≠.free
theorem EM{kindOf:J->Option NameKind}{x:J}:∀{binds:-(J×L)}{m:J->Option L},(∀v,(x,v)∉binds)->bindL kindOf binds m x=m x
 |[],_,_=>Y
 |(n,v)::r,m,h=>by
  unfold bindL;rw[EM λw hw=>h w (WH _ hw)];split
  .let:x≠n:=by ext rfl;exact h v NJ
   simp[this]
  .rfl
theorem EN{kindOf:J->Option NameKind}{x:J}:∀{binds:-(J×L)}{m:J->Option L},(∀v,(x,v)∉binds)->bindC kindOf binds m x=m x
 |[],_,_=>Y
 |(n,v)::r,m,h=>by
  unfold bindC;rw[EN λw hw=>h w (WH _ hw)];split
  .rfl
  .let:x≠n:=by ext rfl;exact h v NJ
   simp[this]
theorem EO{kindOf:J->Option NameKind}{x:J}{v:L}:∀{P:-J}{vs:-L}{i:Nat}{m:J->Option L},P.Nodup->P[i]?=U x->vs[i]?=U v->kindOf x=U .local →
  bindL kindOf (P.zip vs) m x=U v
 |[],_,_,_,_,h,_,_=>by simp at h
 |_::_,[],_,_,_,_,h,_=>by simp at h
 |p::P,w::vs,0,m,nd,h1,h2,hk=>by
  simp at h1 h2;subst h1;subst h2;show bindL kindOf ((p,w)::P.zip vs) m p=_;unfold bindL;rw[EM λv hv=>(Z4.mp nd).1 (q2a hv).1,XI hk];simp
 |p::P,w::vs,i+1,m,nd,h1,h2,hk=>by
  show bindL kindOf ((p,w)::P.zip vs) m x=_;unfold bindL;calc EO (i:=i) (Z4.mp nd).2 h1⁻¹ h2⁻¹ hk
theorem ER{kindOf:J->Option NameKind}{x:J}{v:L}:∀{P:-J}{vs:-L}{i:Nat}{m:J->Option L},P.Nodup->P[i]?=U x->vs[i]?=U v->kindOf x≠U .local →
  bindC kindOf (P.zip vs) m x=U v
 |[],_,_,_,_,h,_,_=>by simp at h
 |_::_,[],_,_,_,_,h,_=>by simp at h
 |p::P,w::vs,0,m,nd,h1,h2,hk=>by
  simp at h1 h2;subst h1;subst h2;show bindC kindOf ((p,w)::P.zip vs) m p=_;unfold bindC;rw[EN λv hv=>(Z4.mp nd).1 (q2a hv).1,WK hk];simp
 |p::P,w::vs,i+1,m,nd,h1,h2,hk=>by
  show bindC kindOf ((p,w)::P.zip vs) m x=_;unfold bindC;calc ER (i:=i) (Z4.mp nd).2 h1⁻¹ h2⁻¹ hk
noncomputable def start(N:-J)(vs:-V):St:=vs.map U++My (↑N-↑vs) Z
noncomputable def b8(CX:jW)(P:t)(w:X)(K:vS)(mg:J->Option L)(base:I)(N:-J)(qual:J)(scope:o)(f:O)(cd:L)(A:q)(outer:-u)(s:B)(H:Hp)(E:XK):Cx where
 prog:=P
 w:=w
 K:=K
 mg:=mg
 base:=base
 A:=A.deeper (envOfC qual scope ⇑s f cd)
 N:=N
 s₀:=s
 H₀:=H
 env:=envOfC qual scope ⇑s f cd
 outer:=outer
 stack:=envOfC qual scope ⇑s f cd::outer
 ex:=[]
 calm:=true
 fn:=λ_=>θ
 pn:=[]
 xe:=λe s'=>G (S P w) (A.deeper (envOfC qual scope ⇑s f cd)) (leaving (envOfC qual scope ⇑s f cd) e) (λ_ i9=>CX outer H s E e i9) (λe' i9=>CX outer H s E e' i9) s'
theorem ES{sc:o}{n:Nat}{x:J}(h:sc.names.lookup x=U .cell):∃c,(cellsFrom n sc.names []).lookup x=U c:=by
 let q:=q0K sc.names n [] (.inl h);calc q0p.mp q
theorem MZ{CX:jW}{P:t}{w:X}{K:vS}{mg:J->Option L}{base:I}{N ps:-J}{qual:J}{scope:o}{f:O}{cd:L}{A:Β}{outer:-Ζ}{s s1:B}{H:Hp}{E:XK}{us:-L}{vs:-V}
  (S:kW N ps scope) (hd:A.handled=Z) (e0:i7 P w K mg base A outer s H) (hl:↑vs=↑ps) (r:Vals vs us)
  (x:InCallC s ⇑s (bindL (envOfC qual scope ⇑s f cd).kindOf (ps.zip us) λ_=>Z) (cellsFrom (⇑s+1) scope.names []) (bindC (envOfC qual scope ⇑s f cd).kindOf (ps.zip us) λ_=>Z) s1) :
  Inv (b8 CX P w K mg base N qual scope f cd A outer s H E) [] (start N vs) H s1:=by
 let cw:↑ps<=↑N:=by let:=congrArg List.length S.pre;rw[Yb] at this;symm
 let⟨h1,tk,rfl,hk⟩:=x.done;let mE:∀b:O,b∉(b8 CX P w K mg base N qual scope f cd A outer s H E).ex:=λb z=>absurd (show b∈([]:-O) from z) (by simp)
 refine⟨⟨e0.mod,S.kind,Y,Y,Fm _,λy z c h1 h2=>?_,λy hy=>?_,λy c _ h=>?_,λ_=>hd,q2q e0.frames,.inr ⟨Y,Y⟩,λb z=>absurd z (mE b),e0.bs,e0.kx,λb _ _=>mE b,λb z=>absurd z (mE b),e0.dG,e0.kR⟩,
  Y,e0.bare,Un.kept hk,⟨_,x.toInCall.ns,λi y v h1 h2 h3=>?_⟩,λy c h=>⟨_,x.cell y c h⟩,e0.aY.fresh (Fm _),λy c h=>?_,λp hp=>absurd (show p∈([]:aH) from hp) (by simp),e0.aY.kept hk,?_⟩
 .exact name_of_addr x.apart (YL h1) (YL h2)
 .let hy:scope.names.lookup y=U .cell\/scope.names.lookup y=U .free:=hy
  rcases hy with hy|hy
  .exact ES hy
  .exact absurd Y (S.pI _ (YL hy))
 .exact Zx (x.above y c (YL h))
 .let hi:i<↑vs:=by
   unfold start at h2
   by_cases hi:i<↑vs
   .exact hi
   .rw[NK hi⁻¹] at h2
    rw[ZC] at h2;split at h2<;>cases h2
  let ha:vs[i]?=U v:=by
   unfold start at h2;rw[NI hi⁻¹,WD] at h2
   cases e:vs[i]? with
   |none=>rw[e] at h2;cases h2
   |some a=>rw[e] at h2;cases h2;rfl
  let⟨u,hu,rv⟩:=r.get ha
  let hp:ps[i]?=U y:=by
   rw[<-S.pre,Yd ⋯];exact h1
  let EU:ps.Nodup:=by rw[<-S.pre];exact S.nd.sublist (List.take_sublist _ _)
  calc⟨u,rv,?_⟩;rcases S.par y (Yl hp) with k|k
  .exact .inl ⟨k,EO EU hp hu k⟩
  .let⟨c,e⟩:=ES (n:=⇑s+1) k
   calc .inr ⟨.inl k,c,e,?_⟩;let q:=x.cell y c e;rw[ER EU hp hu (by show scope.names.lookup y≠_;rw[k];decide)] at q;exact q
 .exact e0.aY.fresh (Zx (x.above y c (YL h)))
 .unfold start
  show _=↑N;rw[Fs,pR,Zt];symm
theorem yQ{CX:jW}{P:ψ}{w:X}{K:vS}{mg:π->Option L}{base:Α}{k:Nat}{f:O}{name qual:π}{params:Arguments}{body:-R}{scope:Δ}{dV kV doc pm a9 ct oc:L}{an od:Option O}
  {lT:Array (Option L)} {N ps:-π} {sp:Sp} (lk:K.lookup f=U ⟨oc,od,.func (YA name qual params body scope dV kV doc pm an a9 ct),lT⟩) (fS:q0i K a9 qual=θ) (S:kW N ps scope)
  (len:∀vs H Q E,sp vs H Q E->↑vs=↑ps)
  (du:∀(A:Β)(outer:-Ζ)(s:B)(H:Hp)(vs:-V)(Q:VK)(E:XK),a6 k (A.deeper (envOfC qual scope ⇑s f a9))->sp vs H Q E →
   ∃t,c6 (b8 CX P w K mg base N qual scope f a9 A outer s H E) body t/\t {nx:=λ_ H'=>Q .non H',rt:=Q} (start N vs) H) :
  bN P w K mg base CX (k+1) f (YA name qual params body scope dV kV doc pm an a9 ct) ps sp:=by
 calc⟨len,λA outer s H args us vs Q E hr e0 hb r oo=>?_⟩;let hl:=len _ _ _ _ oo;let KX:K.In s.heap:=e0.mod.jy.keeps λb o e=>(e0.bs b o e).1;let lim:s.heap.NoLimit:=e0.mod.nolimit.keeps λb o e=>(e0.bs b o e).1
 let sW:∀y∈ps.zip us,scope.names.lookup y.1=U .local\/(scope.names.lookup y.1=U .cell/\((cellsFrom (⇑s+1) scope.names []).lookup y.1).isSome=θ):=λ⟨n,v⟩ hy↦by
  rcases S.par n (q2a hy).1 with q|q
  .exact .inl q
  .exact .inr ⟨q,q0K _ _ _ (.inl q)⟩
 calc codeAny_call_function hr.depth (KX _ _ lk) Y S.co S.gen Y (PySem.W.codeRec_of KX fS) (hb _ _ _ _ ?_);calc wpAny_newFunctionEnv_cells S.kind sW λenv he s1 x=>?_;subst he;calc⟨lim.keeps x.toInCall.keep,codeAny_func ?_⟩;let⟨t,ht,hq⟩:=du A outer s H vs Q E (hr.deeper _) oo;let I:Inv (b8 CX P w K mg base N qual scope f a9 A outer s H E) [] (start N vs) H s1:=MZ S hr.hd e0 hl r x;refine Zm (ht [] s1 (start N vs) H _ I hq) (λfl s' hs=>?_) λe s' hs=>hs
 let fin:∀{σ':St}{H':Hp}{v:V}{u:L},Inv (b8 CX P w K mg base N qual scope f a9 A outer s H E) [] σ' H' s'->RelV v u->Q v H'->CE outer P w H s Q u s' :=
  λ{σ' H' v u} J rv q=>⟨v,H',J.os,J.bare,J.base,J.aY,rv,q⟩
 cases fl with
 |ret u =>
  let⟨v,σ',H',J,rv,q⟩:=hs;exact fin J rv q
 |next =>
  let⟨σ',H',J,q⟩:=hs;exact fin (v:=V.non) (u:=Yk) J Y q
 |brk =>
  let⟨_,_,_,q⟩:=hs;exact YN q
 |cont =>
  let⟨_,_,_,q⟩:=hs;calc YN q
section
variable{X:Cx}{x:J}{p pos:y}{e:M}{es:-M}{t:TA}{id T:String}{r:-V->Hp->VK->Prop}
def sX(r:-V->Hp->VK->Prop)(t:TA):TE:=fun σ H Q=>t σ H λvs H1=>r vs H1 Q
theorem vO(hc:gO X (.builtin id) r)(hg:Gl X x)(hm:X.mg x=Z)(hv:bootBuiltins x=U (.builtin id))(ha:JA X (e::es) t)(hn:x≠"__name__" := by decide)(cV: ~~~(bL x))
  (he:‹cj X e es›) (cw:‹cF X pos es›):JE X (.Call (.Name x p) (e::es) [] pos) (sX r t):=by
 calc⟨?_⟩;ext pins s σ H Q I h;calc ZJ (oh I hg hm hv ?_ hn cV);calc PyProof.Rows.callWith_builtin1 (bg (ha pos pins s σ H _ I h) λus s1 ⟨vs,H1,I1,r1,q1⟩↦hc pins s1 σ H1 vs us Q I1 r1 q1) he cw
theorem oq(hc:gO X (.type T) r)(hg:Gl X x)(hm:X.mg x=Z)(hv:bootBuiltins x=U (.type T))(ha:JA X (e::es) t)(hn:x≠"__name__" := by decide)(cV: ~~~(bL x))
  (he:‹cj X e es›) (cw:‹cF X pos es›):JE X (.Call (.Name x p) (e::es) [] pos) (sX r t):=by
 calc⟨?_⟩;ext pins s σ H Q I h;calc ZJ (oh I hg hm hv ?_ hn cV);calc Zh (bg (ha pos pins s σ H _ I h) λus s1 ⟨vs,H1,I1,r1,q1⟩↦hc pins s1 σ H1 vs us Q I1 r1 q1) he cw
end
end L2
namespace HT
open PySem PyProof.Rows
noncomputable def lexLt:-Int->-Int->Bool
 |[],[]=>ι
 |[],_::_=>θ
 |_::_,[]=>ι
 |x::xs,y::ys=>if x=y then lexLt xs ys else l (x<y)
theorem qP(x y:Int)(xs ys:-Int):lexLt (x::xs) (y::ys)=if x=y then lexLt xs ys else l (x<y):=rfl
theorem M0:lexLt [] []=ι:=rfl
theorem M1(y:Int)(ys:-Int):lexLt [] (y::ys)=θ:=rfl
theorem M3(x:Int)(xs:-Int):lexLt (x::xs) []=ι:=rfl
theorem M4(A:q)(s:B)(a:Int)(t:Tok)(c:Int)(u:Tok):∃e,q1V A s (.int a t) (.int c u) e/\(e=θ↔a=c) :=
 ⟨(a==c),q2W a t c u,by simp⟩
theorem M5(A:q)(s:B)(a:Int)(t:Tok)(c:Int)(u:Tok)(prog:ψ)(w:X)(E:bc)(Q:bc)(h:Q (.bool (l (a<c))) s):
  G (S prog w) A (richCompare .Lt (.int a t) (.int c u)) Q E s :=
 (q2v h:G (S prog w) A (compareOp .Lt (.int a t) (.int c u)) Q E s)
section
open PySem.SeqAt
open PySem.AutoSeq1 (wpAny_loadPart')
open PySem.MeetsSeq PySem.MeetsSeq2 PySem.MeetsSeq3
theorem M6(l b:O)(items cH:Array L)(n n2:Nat)(dd ot:Option O)(sl ou:Array (Option L))(ns ms:-Int)(hi:IntsAre items.toList ns)(hj:IntsAre cH.toList ms):
  Meets (Builtin.«tuple.__lt__» ⟨[.ref l,.ref b],[]⟩)
   (λ_ R s=>s.heap.get? l=U {cls:=.type "tuple",dict:=dd,data:=.seq items n,slots:=sl}/\s.heap.get? b=U {cls:=.type "tuple",dict:=ot,data:=.seq cH n2,slots:=ou} ∧
    R (.ok (.ret (.bool (lexLt ns ms)))) s) :=
 .of_wp λprog w A R s h=>by
  let⟨hp,g,d,tk,os⟩:=s;let⟨hl,hb,h⟩:=h;let f2:=AutoSeq1.sub_tuple_tuple;let z1:items.size=ns.length:=by rw[<-↑hi];simp
  let z2:cH.size=↑ms:=by rw[<-↑hj];simp
  wp_walk using Zb hl,Zb hb,q3u _ (λrest b s'=>b.1=Z/\s'=⟨hp,g,d,tk,os⟩/\∃(vs ws:-L)(bO qQ:-Int),rest=vs.zip ws ∧
   IntsAre vs bO/\IntsAre ws qQ/\↑bO+cH.size=↑qQ+items.size/\R (.ok (.ret (.bool (lexLt bO qQ)))) ⟨hp,g,d,tk,os⟩) _
  case turn =>
   ext⟨y,x⟩ rest b s' ⟨hb',rfl,vs,ws,bO,qQ,hz,yR,vP,hlen,hR⟩
   cases yR with
   |nil=>rw[q1y] at hz;cases hz
   |cons a t yS =>
    cases vP with
    |nil=>rw[q2X] at hz;cases hz
    |cons c u yT =>
     rw[q1i] at hz;injection hz with M7 sY;injection M7 with hy hx;subst hy hx;rw[qP] at hR;erw[NG] at hlen;let⟨e,he,sZ⟩:=M4 A.in1 ⟨hp,g,d,tk,os⟩ a t c u;refine tH (he prog w _ _ ?_)
     cases e with
     |true =>
      rw[XI (sZ.mp Y)] at hR
      wp_walk
      exact⟨Y,Y,_,_,_,_,sY,yS,yT,⋯,hR⟩
     |false =>
      rw[WK (λq=>absurd (sZ.mpr q) Ya)] at hR;let M8:=M5 A.in1 ⟨hp,g,d,tk,os⟩ a t c u prog w
      wp_walk using M8
      exact⟨_,Y,by simpa using hR⟩
  case fin =>
   ext⟨b1,b2⟩ s' ⟨hb',rfl,vs,ws,bO,qQ,hz,yR,vP,hlen,hR⟩;simp only at hb';subst hb'
   let hv:lexLt bO qQ=μ (items.size<cH.size):=by
    cases yR with
    |nil =>
     cases vP with
     |nil =>
      erw[Z5] at hlen;rw[M0];exact(XO ⋯).symm
     |cons c u hw =>
      erw[Z5,NG] at hlen;rw[M1];exact(X7 ⋯).symm
    |cons a t hv =>
     cases vP with
     |nil =>
      erw[Z5,NG] at hlen;rw[M3];exact(XO ⋯).symm
     |cons c u hw =>
      rw[q1i] at hz;cases hz
   rw[hv] at hR
   wp_walk
   exact⟨_,Y,by simpa[Builtin.Tuple.tupleCompareSizes] using hR⟩
  case h =>
   calc⟨Y,Y,items.toList,cH.toList,ns,ms,Y,hi,hj,⋯,h⟩
end
section
variable{prog:t}{w:X}{A:q}{E:bc}{s:B}
theorem M_{l b:O}{items cH:Array L}{ns ms:-Int}{Q:bc}(hl:IsTup s.heap l items)(hb:IsTup s.heap b cH)(hi:IntsAre items.toList ns)(hj:IntsAre cH.toList ms)
  (hu:A.units<cLine) (h:Q (.bool (lexLt ns ms)) s):G (S prog w) A (compareOp .Lt (.ref l) (.ref b)) Q E s:=by
 let⟨⟨cls,dd,data,sl⟩,ho,hc,n,hd⟩:=id hl;let⟨⟨s_,ot,data2,ou⟩,hW,kB,n2,hd2⟩:=id hb;simp only at hc hd kB hd2;subst hc hd kB hd2
 exact richCompare_meets_room (op:=.Lt) ⟨_,ho,Y⟩ ⟨_,hW,Y⟩ PySem.F.slot_tuple_lt PySem.F.entry_tuple_lt (PySem.F.args_tuple_lt_2 _ _) (M6 l b items cH n n2 dd ot sl ou ns ms hi hj)
  ⟨ho,hW,show q0h (lexLt ns ms)≠Value.notImplemented/\Q (.bool (lexLt ns ms)) s from⟨(λx=>nomatch x),h⟩⟩ hu
theorem Na{t b:O}{vs ws:-L}{Q:bc}(ht:IsTup s.heap t vs.toArray)(hb:IsTup s.heap b ws.toArray)(hv:vs≠[])
  (h1:ws=[]->Q (.ref t) s) (h2:ws≠[]->Q (.ref ⇑s) {s with heap:=s.heap.push {cls:=.type "tuple",data:=.seq (vs++ws).toArray}})
  (hsz:↑vs+↑ws<=sizeLine):G (S prog w) A (binaryOp .Add (.ref t) (.ref b)) Q E s:=by
 let⟨⟨cls,dd,data,sl⟩,ho,hc,n,hd⟩:=id ht;let⟨⟨s_,ot,data2,ou⟩,hW,kB,n2,hd2⟩:=id hb;simp only at hc hd kB hd2;subst hc hd kB hd2;let e:vs.toArray++ws.toArray=(vs++ws).toArray:=by simp
 by_cases hw:ws=[]
 .exact q3g ⟨_,ho,Y⟩ ⟨_,hW,Y⟩ q1K q2J q0L q0C (q0q _ _)
   (tuple_addW1 t b vs.toArray ws.toArray n n2 dd ot sl ou hv⁻¹ (by simp[hw])) ⟨ho,hW,h1 hw⟩
 .refine q3g ⟨_,ho,Y⟩ ⟨_,hW,Y⟩ q1K q2J q0L q0C (q0q _ _)
   (tuple_addW2 t b vs.toArray ws.toArray n n2 dd ot sl ou hv⁻¹ hw⁻¹ (by rw[Fp,Fp];calc hsz)) ⟨ho,hW,?_⟩
  rw[e];calc h2 hw
noncomputable def bt(n d:Nat):Option Int->Nat
 |none=>d
 |some v=>if v<0 then(v+(n:Int)).toNat else min v.toNat n
theorem yU(n d:Nat):bt n d Z=d:=rfl
theorem tj(n d k:Nat):bt n d (U (k:Int))=min k n:=by
 show(if(k:Int)<0 then((k:Int)+(n:Int)).toNat else min (k:Int).toNat n)=min k n;rw[WK ⋯,XZ]
theorem Nc(n d:Nat)(hd:d<=n)(o:Option Int):bt n d o<=n:=by
 cases o with
 |none=>exact hd
 |some v =>
  show(if v<0 then(v+(n:Int)).toNat else min v.toNat n)<=n
  by_cases hv:v<0
  .rw[XI hv];symm
  .rw[WK hv];calc Nat.min_le_right _ _
theorem EV(v:Int)(n d:Nat):(if v<0 then max (v+(n:Int)) 0 else min v (n:Int))=((bt n d (U v):Nat):Int):=by
 show(if v<0 then max (v+(n:Int)) 0 else min v (n:Int))=(((if v<0 then(v+(n:Int)).toNat else min v.toNat n):Nat):Int)
 by_cases hv:v<0
 .erw[XI hv];symm
 .erw[WK hv];symm
theorem Nd(lo hi:Option Int)(n:Nat):q0l lo hi 1 (n:Int)=(((bt n 0 lo:Nat):Int),((bt n n hi:Nat):Int)):=by
 let h1:¬ ((1:Int)<0):=by symm
 unfold q0l;erw[h1,q0f];refine Prod.ext ?_ ?_
 .cases lo with
  |none=>rfl
  |some v=>exact EV v n 0
 .cases hi with
  |none=>rfl
  |some v=>calc EV v n n
theorem Nf(i j:Nat):YE (i:Int) (j:Int) 1=j-i:=by
 unfold YE;let h1:(1:Int)>0:=by symm
 erw[h1,q1z,q3h];split<;>symm
theorem tu{v:L}{o:Option Int}{Q:Option Int->B->Prop}(p:IsPart v o)(h:Q o s):G (S prog w) A (Builtin.Slice.slicePartIndex v) Q E s:=by
 cases p with
 |none=>exact slicePart_none h
 |int i t=>calc slicePart_int h
theorem EW{sl:O}{vl vu:L}{lo hi:Option Int}{n:Nat}{Q:Int×Int×Nat->B->Prop}(hs:s.heap.IsSliceOf sl vl vu .none)(pl:IsPart vl lo)(pu:IsPart vu hi)
  (h:Q (((bt n 0 lo:Nat):Int),1,bt n n hi-bt n 0 lo) s):G (S prog w) A (ZK (.ref sl) (pure (n:Int))) Q E s:=by
 let⟨os,jX,mF,lU⟩:=id hs;unfold ZK q1t;calc tH (tH (ZA jX lU (x:=vl) Y (tH (ZA jX lU (x:=vu) Y (tH (ZA jX lU (x:=.none) Y (NH ?_)))))));calc tH (slicePart_none ?_);show G _ _ (if((1:Int)==0)=θ then _ else _) _ _ s;rw[WK (by decide)];refine tH (tu pl (tH (tu pu (tH (NH ?_)))))
 show G _ _ (match q0l lo hi 1 (n:Int) with|(lo,hi)=>pure (lo,(1:Int),YE lo hi 1)) _ _ s;rw[Nd lo hi n];show G _ _ (pure (((bt n 0 lo:Nat):Int),(1:Int),YE ((bt n 0 lo:Nat):Int) ((bt n n hi:Nat):Int) 1)) _ _ s;rw[Nf];calc NH h
theorem Ng(xs:Array L)(i k:Nat):((X_ k).filterMap λ(m:Nat)=>xs[((i:Int)+(m:Int)*1).toNat]?).toArray=((xs.toList.drop i).take k).toArray:=by
 let e:(λ(m:Nat)=>xs[((i:Int)+(m:Int)*1).toNat]?)=λm=>xs[i+m]?:=by
  funext m;let:((i:Int)+(m:Int)*1).toNat=i+m:=by symm
  rw[this]
 rw[e];let:=pick_run xs i k;rw[q2Y] at this;let e2:((λx=>xs[x]?)∘λx=>i+x)=λm=>xs[i+m]?:=Y;rw[e2] at this;rw[this]
theorem Nh{t sl:O}{items:Array L}{vl vu:L}{lo hi:Option Int}{Q:bc}(ht:IsTup s.heap t items)(hs:s.heap.IsSliceOf sl vl vu .none)(pl:IsPart vl lo)(pu:IsPart vu hi)
  (hw:¬ (bt items.size 0 lo=0/\bt items.size items.size hi=items.size))
  (h:Q (.ref ⇑s) {s with heap:=s.heap.push {cls:=.type "tuple",data:=.seq ((items.toList.drop (bt items.size 0 lo)).take (bt items.size items.size hi-bt items.size 0 lo)).toArray}})
  (hsz:items.size<=sizeLine):G (S prog w) A (getItem (.ref t) (.ref sl)) Q E s:=by
 let eF:sizeOk (.seq ((items.toList.drop (bt items.size 0 lo)).take (bt items.size items.size hi-bt items.size 0 lo)).toArray):=by
  show((items.toList.drop (bt items.size 0 lo)).take (bt items.size items.size hi-bt items.size 0 lo)).toArray.size<=sizeLine;rw[Fp,Yb,Zu,XU];symm
 let hj:bt items.size items.size hi<=items.size:=Nc _ _ (Fm _) hi;let⟨os,jX,mF,lU⟩:=id hs;let tw:s.TypeIs (.ref sl) "slice" := ⟨os,jX,mF⟩;unfold getItem
 try with_reducible refine Yw ?_
 first|refine tH (NH ?_)|skip
 refine tH (q1A ht.typeIs (by decide) ?_)
 refine tH (ZD (name:=Z0 "__getitem__") ht.typeIs Ye
  (q0k Ye ht.typeIs q07 ?_ (q1j _ _)))
 show G _ _ (q0j (.ref t) >>= _) _ _ s;calc tH (q2K ht ?_);calc tH (q1Z tw ?_);rw[XI (by decide)];refine tH (EW hs pl pu ?_)
 let Ni:¬ ((((bt items.size 0 lo:Nat):Int)==0&&(1:Int)==1&&(bt items.size items.size hi-bt items.size 0 lo)==items.size)=θ):=by
  ext q;rw[YY,YY] at q;let q1:((bt items.size 0 lo:Nat):Int)=0:=Zg q.1.1;let q2:bt items.size items.size hi-bt items.size 0 lo=items.size:=Zg q.2;exact hw ⟨⋯,⋯⟩
 show G _ _ (if(((bt items.size 0 lo:Nat):Int)==0&&(1:Int)==1&&(bt items.size items.size hi-bt items.size 0 lo)==items.size)=θ then _ else _) _ _ s;rw[WK Ni,Ng]
 first
  |exact tH (m:=Yx _) (Yu (NH ⟨_,Y,NH h⟩) eF)
  |exact tH (m:=Yx _) (Yu (tH (NH (NH ⟨_,Y,NH h⟩))) eF)
  |exact tH (tH (m:=Yx _) (Yu (NH (NH ⟨_,Y,NH h⟩)) eF))
  |calc tH (tH (m:=Yx _) (Yu (NH ⟨_,Y,NH h⟩) eF))
end
end HT
namespace L2
open PySem PySem.Spec PyProof.Rows
abbrev TO:=St->Hp->(Option Int->Hp->Prop)->Prop
def PO(X:Cx)(e:Option M)(t:TO):Prop :=
 ∀(pins:aH)(s:B)(σ:St)(H:Hp)(Q:Option Int->Hp->Prop),Inv X pins σ H s->t σ H Q →
  G (S X.prog X.w) X.A (evalPart e X.env) (λu s'=>∃o H',Inv X pins σ H' s'/\IsPart u o/\Q o H') X.xe s
def Nj:TO:=λ_ H Q=>Q Z H
def Nk(t:TE):TO:=fun σ H Q=>t σ H λx H1=>∃i,x=.int i/\Q (U i) H1
theorem intsAre_of{ns:-Int}:∀{us:-L},Vals (ns.map V.int) us->IntsAre us ns:=by
 induction ns with
 |nil=>ext us r;rw[Zy] at r;cases r;exact .nil
 |cons n ns ih =>
  ext us r;rw[X0] at r
  cases r with
  |cons r1 r2 =>
   let⟨t,e⟩:=r1;subst e;calc .cons n t (ih r2)
section
variable{X:Cx}{e:M}{te:TE}{lo hi:Option M}{tl th:TO}{pos p2:y}
theorem EX:PO X Z Nj:=by
 ext pins s σ H Q I h;rw[q2L];calc NH ⟨Z,H,I,.none,h⟩
theorem vQ(h:JE X e te):PO X (U e) (Nk te):=by
 ext pins s σ H Q I hw;rw[q4B];calc bg (h pins s σ H _ I hw) ?_;ext u s1 ⟨x,H1,I1,r1,q1⟩;let⟨i,rfl,q⟩:=q1;let⟨t,rfl⟩:=r1;calc⟨U i,H1,I1,.int i t,q⟩
def oz(X:Cx)(r:V->Option Int->Option Int->Hp->VK->Prop):Prop :=
 ∀(pins:aH)(s:B)(σ:St)(H:Hp)(x:V)(v vl vu:L)(lo hi:Option Int)(sl:O)(Q:VK),Inv X pins σ H s->RelV x v->s.heap.IsSliceOf sl vl vu .none->IsPart vl lo->IsPart vu hi->r x lo hi H Q →
  ∃T id,typeLookup (.type T) "__getitem__" = pure (U (.builtin id))/\s.TypeIs v T/\G (S X.prog X.w) X.A (getItem v (.ref sl)) (EP X pins σ Q) X.xe s
theorem oz.or{r r':V->Option Int->Option Int->Hp->VK->Prop}(h:oz X r)(h':oz X r'):oz X (λx lo hi H Q=>r x lo hi H Q\/r' x lo hi H Q):=by
 ext pins s σ H x v vl vu lo hi sl Q I rx hs pl pu q;rcases q with q|q
 .exact h pins s σ H x v vl vu lo hi sl Q I rx hs pl pu q
 .calc h' pins s σ H x v vl vu lo hi sl Q I rx hs pl pu q
def Nl(r:V->Option Int->Option Int->Hp->VK->Prop)(te:TE)(tl th:TO):TE:=fun σ H Q=>te σ H λx H1=>tl σ H1 λl H2=>th σ H2 λu H3=>r x l u H3 Q
theorem yV{r:V->Option Int->Option Int->Hp->VK->Prop}(hr:oz X r)(he:JE X e te)(hl:PO X lo tl)(hu:PO X hi th):JE X (.Subscript e (.Slice lo hi Z p2) pos) (Nl r te tl th):=by
 calc⟨?_⟩;ext pins s σ H Q I h;calc Subscript_ (bg (he pins s σ H _ I h) ?_);ext v s1 ⟨x,H1,I1,r1,q1⟩;calc wpAny_Slice (bg (hl pins s1 σ H1 _ I1 q1) λvl s2 ⟨l,H2,I2,pl,q2⟩=>bg (hu pins s2 σ H2 _ I2 q2) ?_);ext vu s3 ⟨u,H3,I3,pu,q3⟩;rw[q2L];calc NH ?_;let I4:Inv X pins σ H3 {s3 with heap:=s3.heap.push {cls:=.type "slice",data:=.fields #[vl,vu,.none]}}:=I3.kept (t':=s3.toks) λb ob q=>zk _ q;let⟨T,id,hT,ht,hg⟩:=hr pins {s3 with heap:=s3.heap.push {cls:=.type "slice",data:=.fields #[vl,vu,.none]}} σ H3 x v vl vu l u ⇑s3 Q I4 r1 (q1k ..) pl pu q3
 show G (S X.prog X.w) X.A (subscriptTail e (.Slice lo hi Z p2) v (.ref ⇑s3)) (EP X pins σ Q) X.xe {s3 with heap:=s3.heap.push {cls:=.type "slice",data:=.fields #[vl,vu,.none]}};calc q4e (ops:=[.ref ⇑s3,v]) ht hT hg (by with_unfolding_all rfl)
noncomputable def dy(xs:-V)(lo hi:Option Int):-V:=(xs.drop (HT.bt ↑xs 0 lo)).take (HT.bt ↑xs ↑xs hi-HT.bt ↑xs 0 lo)
theorem EY(xs:-V)(lo hi:Option Int):↑(dy xs lo hi)<=↑xs:=by
 unfold dy;rw[Yb,Zu];symm
def yW(K:vS):V->Option Int->Option Int->Hp->VK->Prop:=λx lo hi H Q=>∃a xs,x=.ref a/\bV K H a xs ∧
 ¬ (HT.bt ↑xs 0 lo=0/\HT.bt ↑xs ↑xs hi=↑xs)/\∀p,H p=Z->Q (.ref p) (upd H p (.tup (dy xs lo hi)))
theorem Nm:oz X (yW X.K):=by
 ext pins s σ H x v vl vu lo hi sl Q I rx hs pl pu h;let⟨a,xs,rfl,hx,hw,q⟩:=h;cases rx
 let⟨au,r,ht,hz⟩:=I.tuple hx;let hlen:au.toArray.size=↑xs:=by rw[Fp];exact r.length.symm
 calc⟨"tuple",_,Ye.lookup,ht.typeIs,?_⟩;calc HT.Nh ht hs pl pu (by rw[hlen];calc hw) ?_ (by rw[hlen];calc hz);rw[hlen];calc⟨.ref ⇑s,_,I.laid (t':=s.toks) (o:=.tup (dy xs lo hi)) (λb ob q=>zk _ q) (Fm _) ?_,Y,q _ (I.aY.fresh (Fm _))⟩;calc⟨Yi (EY xs lo hi) hz,_,(r.drop (HT.bt ↑xs 0 lo)).take (HT.bt ↑xs ↑xs hi-HT.bt ↑xs 0 lo),q3A _ _⟩
def yX(K:vS):R2:=λx y H Q=>∃a b ns ms,x=.ref a/\y=.ref b/\bV K H a (ns.map V.int)/\bV K H b (ms.map V.int)/\Q (.bl (HT.lexLt ns ms)) H
theorem Nn(hu:X.A.units<cLine):eT X (compareOp .Lt) (yX X.K):=by
 ext pins s σ H x y v u Q I rx ry h;let⟨a,b,ns,ms,rfl,rfl,ha,hb,q⟩:=h;cases rx
 cases ry
 let⟨au,r1,p1,_⟩:=I.tuple ha;let⟨bD,r2,p2,_⟩:=I.tuple hb;let i1:IntsAre au.toArray.toList ns:=intsAre_of r1;let i2:IntsAre bD.toArray.toList ms:=intsAre_of r2;calc HT.M_ p1 p2 i1 i2 hu ⟨.bl (HT.lexLt ns ms),H,I,Y,q⟩
def Np(K:vS):R2:=λx y H Q=>∃a b xs ys,x=.ref a/\y=.ref b/\bV K H a xs/\bV K H b ys/\xs≠[]/\↑xs+↑ys<=sizeLine ∧
 (ys=[]->Q (.ref a) H)/\(ys≠[]->∀p,H p=Z->Q (.ref p) (upd H p (.tup (xs++ys))))
theorem Vals.fN{xs:-V}{us:-L}(r:Vals xs us):us=[]↔xs=[]:=by
 cases r with
 |nil=>simp
 |cons _ _=>simp
theorem Nq:eT X (binaryOp .Add) (Np X.K):=by
 ext pins s σ H x y v u Q I rx ry h;let⟨a,b,xs,ys,rfl,rfl,ha,hb,hx,hz,q1,q2⟩:=h;cases rx
 cases ry
 let⟨au,r1,p1,_⟩:=I.tuple ha;let⟨bD,r2,p2,_⟩:=I.tuple hb;calc HT.Na p1 p2 (λz=>hx (r1.fN.mp z)) (λz=>⟨.ref a,H,I,Y,q1 (r2.fN.mp z)⟩) (λz=>?_) (by rw[<-↑r1,<-↑r2];calc hz);calc⟨.ref ⇑s,_,I.laid (t':=s.toks) (o:=.tup (xs++ys)) (λb ob q=>zk _ q) (Fm _) ?_,Y,q2 (λw=>z (r2.fN.mpr w)) _ (I.aY.fresh (Fm _))⟩;calc⟨by rw[Fs];calc hz,_,r1.append r2,q3A _ _⟩
end
noncomputable def jB(n:Nat)(i:Int):Option Nat:=if 0<=i then(if i<n then U i.toNat else Z) else if -(n:Int)<=i then U (i+n).toNat else Z
noncomputable def eU{α:Type}(xs:-α)(i:Int):Option α:=(jB ↑xs i).bind λj=>xs[j]?
theorem EZ{n:Nat}{i:Int}{j:Nat}(h:jB n i=U j):seqIndex? i n=U j/\j<n /\ -(n:Int)<=i/\i<n:=by
 unfold jB at h
 by_cases h0:0<=i
 .rw[XI h0] at h
  by_cases h1:i<n
  .rw[XI h1] at h
   let e:i.toNat=j:=Yf h;exact⟨by rw[q3R h0 h1,e],⋯,⋯,h1⟩
  .rw[WK h1] at h;cases h
 .rw[WK h0] at h
  by_cases h1 : -(n:Int)<=i
  .rw[XI h1] at h
   let e:(i+n).toNat=j:=Yf h;exact⟨by rw[q3i ⋯ h1,e],⋯,h1,⋯⟩
  .rw[WK h1] at h;cases h
theorem yY{α:Type}{xs:-α}{i:Int}{v:α}(h:eU xs i=U v):∃j,seqIndex? i ↑xs=U j/\xs[j]?=U v/\j<↑xs /\ -(↑xs:Int)<=i/\i<↑xs:=by
 unfold eU at h
 cases e:jB ↑xs i with
 |none=>rw[e] at h;cases h
 |some j =>
  rw[e] at h;let⟨h1,h2,h3,h4⟩:=EZ e;calc⟨j,h1,h,h2,h3,h4⟩
theorem jC{α:Type}{xs:-α}{j:Nat}{v:α}(h:xs[j]?=U v):eU xs (j:Int)=U v:=by
 let hj:j<↑xs:=(qV.mp h).1
 let e:jB ↑xs (j:Int)=U j:=by
  unfold jB;rw[XI ⋯,XI ⋯];simp
 unfold eU;rw[e];calc h
def E5(b:M):Prop:=∀o i,subscripted b ι o i=operate [o,i] (getItem o i)
def tE(X:Cx)(r:R2):Prop :=
 ∀(value slice:M)(pins:aH)(s:B)(σ:St)(H:Hp)(x y:V)(v u:L)(Q:VK),Inv X pins σ H s->RelV x v->RelV y u->r x y H Q →
  subscripted slice ι v u=operate [v,u] (getItem v u)->G (S X.prog X.w) X.A (subscriptTail value slice v u) (EP X pins σ Q) X.xe s
def yZ(X:Cx)(id:String)(r:V->-V->Hp->VK->Prop):Prop :=
 ∀(pins:aH)(s:B)(σ:St)(H:Hp)(x:V)(xs:-V)(v:L)(us:-L)(Q:VK),Inv X pins σ H s->RelV x v->Vals xs us->r x xs H Q →
  G (S X.prog X.w) X.A (call (.builtin id) (v::us)) (EP X pins σ Q) X.xe s
section
variable{X:Cx}{a b:M}{ta tb:TE}{pos:y}
theorem E6{r:R2}(hr:tE X r)(ha:JE X a ta)(hb:JE X b tb)(hs:E5 b):JE X (.Subscript a b pos) (sQ r ta tb):=by
 calc⟨?_⟩;ext pins s σ H Q I h;calc Subscript_ (pF ha hb I h λv u s2 x y H2 I2 rx ry q=>hr a b pins s2 σ H2 x y v u Q I2 rx ry q (hs _ _))
def y0(K:vS):R2:=λx y H Q=>∃p xs i v,x=.ref p/\y=.int i/\bE K H p xs/\eU xs i=U v/\Q v H
def y6(K:vS):R2:=λx y H Q=>∃p xs i v,x=.ref p/\y=.int i/\bV K H p xs/\eU xs i=U v/\Q v H
def y7:R2:=λx y H Q=>∃z i c,x=.str z/\y=.int i/\↑z<=sizeLine/\eU z.cps.toList i=U c/\Q (.str ⟨#[c]⟩) H
theorem E7:tE X (y0 X.K):=by
 ext value slice pins s σ H x y v u Q I rx ry h hs;let⟨p,xs,i,z,rfl,rfl,hq,he,q⟩:=h;cases rx
 let⟨t,rfl⟩:=ry;let⟨au,r,pl,hz⟩:=I.list hq;let⟨j,h1,h2,h3,h4,h5⟩:=yY he;let⟨w,ew,tF⟩:=r.get h2;let hl:=↑r;let hn:=qO;let fin:EP X pins σ Q w s:=⟨z,H,I,tF,q⟩
 by_cases h0:0<=i
 .let hj:i.toNat=j:=by
   rw[q3R h0 h5] at h1;exact Yf h1
  exact item_listR pl.isList h0 ⋯ (by rw[hj];simpa using ew) fin hs
 .let hj:(i+(au.toArray.size:Int)).toNat=j:=by
   rw[q3i ⋯ h4] at h1;rw[Fp,<-hl];exact Yf h1
  exact q10 (x:=w) pl.isList.typeIs q1B.lookup
   (wpAny_getItem_list_neg (Q:=λr s'=>r=w/\EP X pins σ Q r s') pl.isList ⋯ (by rw[Fp]<;>symm) ⋯ (by rw[hj];simpa using ew) ⟨Y,fin⟩) hs
theorem Nr:tE X (y6 X.K):=by
 ext value slice pins s σ H x y v u Q I rx ry h hs;let⟨p,xs,i,z,rfl,rfl,hq,he,q⟩:=h;cases rx
 let⟨t,rfl⟩:=ry;let⟨au,r,pl,hz⟩:=I.tuple hq;let⟨j,h1,h2,h3,h4,h5⟩:=yY he;let⟨w,ew,tF⟩:=r.get h2;let hl:=↑r;let hn:=qO;let fin:EP X pins σ Q w s:=⟨z,H,I,tF,q⟩
 exact q10 (x:=w) pl.typeIs slot_tuple_getitem.lookup
  (getItem_tuple (j:=j) (Q:=λr s'=>r=w/\EP X pins σ Q r s') pl ⋯ ⋯ (by rw[Fp,<-hl];calc h1) ew⁻¹ ⟨Y,fin⟩) hs
theorem Nt:tE X y7:=by
 ext value slice pins s σ H x y v u Q I rx ry h hs;let⟨z,i,c,rfl,rfl,hz,he,q⟩:=h;let⟨t,rfl⟩:=rx;let⟨t',rfl⟩:=ry;let⟨j,h1,h2,h3,h4,h5⟩:=yY he;let hl:↑z.cps.toList=↑z:=by simp[Str.length]
 rw[hl] at h1 h4 h5;let hn:=qO
 exact q4e (typeIs_str s z t) slot_str_getitem.lookup (getItem_str (c:=c) (by
  let e1:l (i < -(2 ^ 63:Int))=ι:=XO ⋯;let e2:l (i ≥ 2 ^ 63)=ι:=XO ⋯
  rw[e1,e2,q4C]) (by rw[h1];simpa using h2) ⟨.str ⟨#[c]⟩,H,I.tok _,⟨_,Y⟩,q⟩) hs
theorem Nu(au:-L)(n j:Nat)(u:L):YC (·.setIfInBounds j u) {cls:=.type "list",data:=.seq au.toArray n}={cls:=.type "list",data:=.seq (au.set j u).toArray n}:=by
 simp[YC]
theorem Inv.lst{pins:aH}{σ:St}{H:Hp}{s:B}{p:O}{xs:-V}(I:Inv X pins σ H s)(h:H p=U (.lst xs)):
  ∃(au:-L)(n:Nat),Vals xs au/\s.heap.get? p=U {cls:=.type "list",data:=.seq au.toArray n}/\↑xs<=sizeLine:=by
 let⟨z,au,n,r,e⟩:=I.aY p _ h;calc⟨au,n,r,e,z⟩
theorem Inv.pJ{pins:aH}{σ:St}{H:Hp}{s:B}{p:O}{xs ys:-V}{au its':-L}{n n':Nat}{f:Q->Q}(I:Inv X pins σ H s)(h:H p=U (.lst xs))
  (ho:s.heap.get? p=U {cls:=.type "list",data:=.seq au.toArray n}) (hf:f {cls:=.type "list",data:=.seq au.toArray n}={cls:=.type "list",data:=.seq its'.toArray n'}) (r:Vals ys its') (hz:↑ys<=sizeLine) (t:Nat) :
  Inv X pins σ (upd H p (.lst ys)) {s with heap:=s.heap.update p f,toks:=t}:=by
 let e:(s.heap.update p f).get? p=U {cls:=.type "list",data:=.seq its'.toArray n'}:=by
  rw[Y6 f ho (by rw[hf]<;>rfl),hf]
 calc I.write (x:=p) (e:=p) (by rw[h];trivial) (.inl Y) (λb u hb q=>(Zo _ _ (Zl hb)).trans q) ⟨_,e⟩ ?_;calc⟨hz,its',n',r,e⟩
def E8:V->V->V->Hp->(Hp->Prop)->Prop:=λo i v H Q=>∃p xs k j,o=.ref p/\i=.int k/\H p=U (.lst xs)/\jB ↑xs k=U j/\Q (upd H p (.lst (xs.set j v)))
theorem set_list:sF X E8:=by
 ext pins s σ H o i v ov iv u Q I ro ri rv h;let⟨p,xs,k,j,rfl,rfl,hp,hj,q⟩:=h;cases ro
 let⟨t,rfl⟩:=ri;let⟨au,n,r,ho,hz⟩:=I.lst hp;let⟨h1,h2,h3,h4⟩:=EZ hj;let hl:=↑r;let hn:=qO
 let I':Inv X pins σ (upd H p (.lst (xs.set j v))) {s with heap:=s.heap.update p (YC (·.setIfInBounds j u))} :=
  I.pJ hp ho (Nu au n j u) (r.set rv j) (by rw[Yq];calc hz) s.toks
 by_cases h0:0<=k
 .let hk:k.toNat=j:=by
   rw[q3R h0 h4] at h1;exact Yf h1
  exact PySem.W.ki_setAt ho h0 ⋯ (by rw[Fp,<-hl];calc h4) (by rw[hk];calc⟨_,I',q⟩)
 .let hk:(k+(au.toArray.size:Int)).toNat=j:=by
   rw[q3i ⋯ h3] at h1;rw[Fp,<-hl];exact Yf h1
  calc PySem.W.ki_setBack ho ⋯ (by rw[Fp,<-hl];calc h3) ⋯ (by rw[hk];calc⟨_,I',q⟩)
theorem Nv(lo hi:Option Int)(n:Nat):(sliceBounds lo hi Z n).1=((HT.bt n 0 lo:Nat):Int)/\(sliceBounds lo hi Z n).2.1=((HT.bt n n hi:Nat):Int)/\(sliceBounds lo hi Z n).2.2=1:=by
 refine⟨?_,?_,Y⟩
 .cases lo with
  |none=>simp[sliceBounds,HT.bt]
  |some i =>
   erw[sliceBounds,HT.bt,q1I,show(1:Int)>0 by decide,q1z]
   by_cases h:i<0
   .erw[h,q1z]<;>symm
   .erw[h,q0f]<;>symm
 .cases hi with
  |none=>simp[sliceBounds,HT.bt]
  |some i =>
   erw[sliceBounds,HT.bt,q1I,show(1:Int)>0 by decide,q1z]
   by_cases h:i<0
   .erw[h,q1z]<;>symm
   .erw[h,q0f]<;>symm
theorem Nx(au:-L)(lo hi:Option Int):slicePick au.toArray lo hi Z=((au.drop (HT.bt ↑au 0 lo)).take (HT.bt ↑au ↑au hi-HT.bt ↑au 0 lo)).toArray:=by
 let⟨h1,h2,h3⟩:=Nv lo hi au.toArray.size;unfold slicePick;rw[h1,h2,h3];erw[sliceRange_one,pick_run,Fp]<;>rfl
def y8(K:vS):V->Option Int->Option Int->Hp->VK->Prop:=λx lo hi H Q=>∃a xs,x=.ref a/\bE K H a xs/\∀p,H p=Z->Q (.ref p) (upd H p (.lst (dy xs lo hi)))
theorem gQ:oz X (y8 X.K):=by
 ext pins s σ H x v vl vu lo hi sl Q I rx hs pl pu h;let⟨a,xs,rfl,hx,q⟩:=h;cases rx
 let⟨au,r,ht,hz⟩:=I.list hx;let hlen:=↑r;calc⟨"list",_,q1B.lookup,ht.isList.typeIs,?_⟩;calc q1F ht.isList hs pl pu .none (by simp) ?_ (by rw[Fp]<;>symm);rw[Nx,<-hlen];calc⟨.ref ⇑s,_,I.laid (t':=s.toks) (o:=.lst (dy xs lo hi)) (λb ob q=>zk _ q) (Fm _) ?_,Y,q _ (I.aY.fresh (Fm _))⟩;calc⟨Yi (EY xs lo hi) hz,_,0,(r.drop (HT.bt ↑xs 0 lo)).take (HT.bt ↑xs ↑xs hi-HT.bt ↑xs 0 lo),WL _ Y⟩
theorem E9:gO X (.builtin "len") (λxs H Q=>∃p ys,xs=[.ref p]/\(bE X.K H p ys\/bV X.K H p ys)/\Q (.int ↑ys) H):=by
 ext pins s σ H xs us Q I r h;let⟨p,ys,rfl,hq,q⟩:=h;let⟨u,rfl,rx⟩:=vals1 r;cases rx
 let hn:=qO;rcases hq with hq|hq
 .let⟨au,r',pl,hz⟩:=I.list hq
  let hlen:=↑r';exact Calls.call_len_list pl.isList (by erw[Fp]<;>symm) ⟨.int ↑ys,H,I.tok _,⟨s.toks+1,by rw[Fp,hlen]⟩,q⟩
 .let⟨au,r',pl,hz⟩:=I.tuple hq
  let hlen:=↑r';calc len_tuple pl (by erw[Fp]<;>symm) ⟨.int ↑ys,H,I.tok _,⟨s.toks+1,by rw[Fp,hlen]⟩,q⟩
theorem Ny:gO X (.builtin "len") (λxs H Q=>∃z,xs=[.str z]/\↑z<=sizeLine/\Q (.int ↑z) H):=by
 ext pins s σ H xs us Q I r h;let⟨z,rfl,hz,q⟩:=h;let⟨u,rfl,t,rfl⟩:=vals1 r;let hn:=qO;calc len_str ⋯ ⟨.int ↑z,H,I.tok _,⟨_,Y⟩,q⟩
theorem tG:gO X (.type "list") (λxs H Q=>∃p ys,xs=[.ref p]/\(bE X.K H p ys\/bV X.K H p ys)/\∀l,H l=Z->Q (.ref l) (upd H l (.lst ys))):=by
 ext pins s σ H xs us Q I r h;let⟨p,ys,rfl,hq,q⟩:=h;let⟨u,rfl,rx⟩:=vals1 r;cases rx
 let fin:∀(au:-L),Vals ys au->↑ys<=sizeLine->∀(h':Α)(c':Nat),(∀b o',s.heap.get? b=U o'->h'.get? b=U o') →
   h'.get? ⇑s=U {cls:=.type "list",dict:=none,data:=.seq au.toArray c',slots := #[]}->EP X pins σ Q (.ref ⇑s) {s with heap:=h'}:=λau r' hz h' c' kp e =>
  ⟨.ref ⇑s,_,I.laid (t':=s.toks) kp (Fm _) (show aU X.prog X.w _ h' _ (.lst ys) from⟨hz,au,c',r',e⟩),Y,q _ (I.aY.fresh (Fm _))⟩
 rcases hq with hq|hq
 .let⟨au,r',pl,hz⟩:=I.list hq
  let hlen:=↑r';let⟨o,ho,hc,n,hd⟩:=pl.isList;exact q4D p (.inl Y) ho hc hd (λh' c' kp e=>fin au r' hz h' c' kp e) (by erw[Fp]<;>symm)
 .let⟨au,r',pl,hz⟩:=I.tuple hq
  let hlen:=↑r';let⟨o,ho,hc,n,hd⟩:=pl;calc q4D p (.inr Y) ho hc hd (λh' c' kp e=>fin au r' hz h' c' kp e) (by erw[Fp]<;>symm)
theorem E_:gO X (.type "tuple") (λxs H Q=>∃p ys,xs=[.ref p]/\((bE X.K H p ys/\∀l,H l=Z->Q (.ref l) (upd H l (.tup ys)))\/(bV X.K H p ys/\Q (.ref p) H))):=by
 ext pins s σ H xs us Q I r h;let⟨p,ys,rfl,h⟩:=h;let⟨u,rfl,rx⟩:=vals1 r;cases rx
 rcases h with⟨hq,q⟩|⟨hq,q⟩
 .let⟨au,r',pl,hz⟩:=I.list hq
  let hlen:=↑r';calc call_tuple_list pl.isList (λh' kp=>?_) (by erw[Fp]<;>symm);let I1:Inv X pins σ H {s with heap:=h'}:=I.kept (t':=s.toks) kp
  let I2:Inv X pins σ (upd H h'.objs.size (.tup ys)) {s with heap:=h'.push {cls:=.type "tuple",data:=.seq au.toArray}} :=
   I1.laid (t':=s.toks) (λb o e=>zk _ e) (Fm _) (show aU X.prog X.w _ _ _ (.tup ys) from⟨hz,au,r',q3A _ _⟩)
  exact⟨.ref h'.objs.size,_,I2,Y,q _ (I1.aY.fresh (Fm _))⟩
 .let⟨au,r',pl,hz⟩:=I.tuple hq
  calc call_tuple_same pl ⟨.ref p,H,I,Y,q⟩
def y9(K:vS)(T:String)(x:V)(H:Hp):Prop:=match x with
 |.str _=>T="str"
 |.int _=>T="int"
 |.ref p=>(T="list" /\ ∃xs,bE K H p xs)\/(T="tuple" /\ ∃o,K.lookup p=U o/\o.cls=.type "tuple" /\ o.dict=Z) ∨
   (T="dict" /\ ((∃kvs,H p=U (.dK kvs))\/∃kvs,H p=U (.dT kvs)))\/(T="set" /\ ∃S n,H p=U (.set S n))
 |_=>False
theorem Fb{pins:aH}{σ:St}{H:Hp}{s:B}{T:String}{x:V}{v:L}(I:Inv X pins σ H s)(r:RelV x v)(ty:y9 X.K T x H):
  s.TypeIs v T/\∀a,v=.ref a->∃ob,s.heap.get? a=U ob/\ob.dict=Z:=by
 cases x with
 |str z =>
  let⟨t,rfl⟩:=r;cases(show T="str" from ty)
  exact⟨typeIs_str s z t,λ_ e=>nomatch e⟩
 |int i =>
  let⟨t,rfl⟩:=r;cases(show T="int" from ty)
  exact⟨q4f s i t,λ_ e=>nomatch e⟩
 |ref p =>
  cases r
  rcases ty with⟨rfl,xs,hq⟩|⟨rfl,o,hk,hc,hd⟩|⟨rfl,hk⟩|⟨rfl,S,n,hk⟩
  .let⟨au,_,pl,_⟩:=I.list hq
   calc⟨pl.isList.typeIs,λa e=>?_⟩;cases e
   let⟨o,n,e,c,hd,_⟩:=pl;exact⟨o,e,hd⟩
  .refine⟨⟨o,I.dY p o hk,hc⟩,λa e=>?_⟩
   cases e
   exact⟨o,I.dY _ o hk,hd⟩
  .let z:∃o,s.heap.get? p=U o/\o.ExactDict:=by
    rcases hk with⟨kvs,hk⟩|⟨kvs,hk⟩
    .let⟨_,_,_,_,o,_,_,e,ex,_⟩:=I.aY p _ hk
     exact⟨o,e,ex⟩
    .let⟨_,_,_,_,o,_,_,e,ex,_⟩:=I.aY p _ hk
     exact⟨o,e,ex⟩
   let⟨o,e,ex⟩:=z;calc⟨⟨o,e,ex.1⟩,λa e2=>?_⟩;cases e2
   exact⟨o,e,ex.2.1⟩
  .let⟨o,_,_,_,e,ex,_⟩:=I.aY p _ hk
   calc⟨⟨o,e,ex.1⟩,λa e2=>?_⟩;cases e2
   exact⟨o,e,ex.2.1⟩
 |_=>calc YN ty
def pK(K:vS)(T:String)(r:V->-V->Hp->VK->Prop)(to:TE):TE:=fun σ H Q=>to σ H λx H1=>y9 K T x H1/\r x [] H1 Q
def qR(K:vS)(T:String)(r:V->-V->Hp->VK->Prop)(to:TE)(t:TA):TE:=fun σ H Q=>to σ H λx H1=>y9 K T x H1/\t σ H1 λxs H2=>r x xs H2 Q
variable{o e:M}{es:-M}{to:TE}{t:TA}{name:J}{apos gq:y}{T id:String}{r:V->-V->Hp->VK->Prop}
theorem y_(pa:PlainAttrs T)(slot:Slot T name id)(za:typeOf (.builtin id)=pure (.type "method_descriptor"))(hm:yZ X id r)(ho:JE X o to)
  (kX:‹attributeBase o name X.env (eval o X.env)=eval o X.env›) (kY:‹(apos.endLine==gq.line)=θ›):JE X (.Call (.Attribute o name apos) [] [] gq) (pK X.K T r to):=by
 calc⟨?_⟩;ext pins s σ H Q I h;calc wpAny_Call_method0_late kX kY (bg (ho pins s σ H _ I h) ?_);ext v s1 ⟨x,H1,I1,r1,ty,q1⟩;let⟨h1,h2⟩:=Fb I1 r1 ty;calc⟨T,id,pa,slot,za,h1,h2,q11 Y (PySem.evalArgs_none (hm pins s1 σ H1 x [] v [] Q I1 r1 .nil q1))⟩
theorem qS(pa:PlainAttrs T)(slot:Slot T name id)(za:typeOf (.builtin id)=pure (.type "method_descriptor"))(hm:yZ X id r)(ho:JE X o to)(ha:JA X (e::es) t)
  (kX:‹attributeBase o name X.env (eval o X.env)=eval o X.env›)
  (zb:‹((backTo gq (starEach (e::es) X.env)).all (λx => !x.1)&&(backToKw gq (keywordEach [] X.env)).all (λx=>x.1.isSome)
   && l (↑(e::es)+↑([]:-Keyword)+(if([]:-Keyword).isEmpty then 0 else 1)<30))=θ›)
  (kY:‹(apos.endLine==gq.line)=θ›) (hs:‹cj X e es›) (pL:‹cF X gq es›) :
  JE X (.Call (.Attribute o name apos) (e::es) [] gq) (qR X.K T r to t):=by
 calc⟨?_⟩;ext pins s σ H Q I h;calc wpAny_Call_method_late kX zb kY Y (bg (ho pins s σ H _ I h) ?_);ext v s1 ⟨x,H1,I1,r1,ty,q1⟩;let⟨h1,h2⟩:=Fb I1 r1 ty;calc⟨T,id,pa,slot,za,h1,h2,?_⟩;let hA:=ha gq pins s1 σ H1 _ I1 q1;rw[hs] at hA ⊢;calc q11 (by show(ι||(backTo gq (starEach es X.env)).any (·.1))=ι;rw[pL]<;>rfl) (Calls.evalArgs_plain ?_);calc bg hA λus s2 ⟨vs,H2,I2,r2,q2⟩↦hm pins s2 σ H2 x vs v us Q I2 r1 r2 q2
end
def qT(X:Cx)(id:String)(r:V->-V->Hp->VK->Prop):Prop :=
 ∀(pins:aH)(s:B)(σ:St)(H:Hp)(x:V)(xs:-V)(v:L)(us:-L)(Q:VK),Inv X pins σ H s->RelV x v->Vals xs us->r x xs H Q →
  G (S X.prog X.w) X.A (call (.builtin id) (v::us)) (EP X pins σ Q) X.xe s
theorem Vals.one:∀{x:V}{us:-L},Vals [x] us->∃u,us=[u]/\RelV x u:=by
 ext x us h
 cases h with
 |cons r h=>cases h;calc⟨_,Y,r⟩
theorem Vals.two:∀{x y:V}{us:-L},Vals [x,y] us->∃u v,us=[u,v]/\RelV x u/\RelV y v:=by
 ext x y us h
 cases h with
 |cons r h =>
  let⟨v,rfl,q⟩:=Vals.one h;calc⟨_,_,Y,r,q⟩
theorem Vals.zero:∀{us:-L},Vals [] us->us=[]
 |_,.nil=>Y
theorem Vals.dropLast{xs:-V}{us:-L}(h:Vals xs us):Vals xs.dropLast us.dropLast:=by
 induction h with
 |nil=>exact .nil
 |cons r t ih =>
  cases t with
  |nil=>exact .nil
  |cons q t'=>calc .cons r ih
theorem Vals.eraseIdx:∀{xs:-V}{us:-L}(i:Nat),Vals xs us->Vals (xs.eraseIdx i) (us.eraseIdx i)
 |_,_,_,.nil=>.nil
 |_,_,0,.cons _ t=>t
 |_,_,i+1,.cons r t=>.cons r (Vals.eraseIdx i t)
theorem Vals.rep{xs:-V}{us:-L}(h:Vals xs us):∀k:Nat,Vals (My k xs).flatten (My k us).flatten
 |0=>.nil
 |k+1=>by
  rw[YM,YM,ZN,ZN];calc Vals.append h (Vals.rep h k)
theorem Nz{α:Type}(l:-α):l.eraseIdx (↑l-1)=l.dropLast:=by
 induction l with
 |nil=>rfl
 |cons a r ih =>
  cases r with
  |nil=>rfl
  |cons b r =>
   let e:↑(a::b::r)-1=(↑(b::r)-1)+1:=by
    let h1:↑(a::b::r)=↑r+2:=Y;let h2:↑(b::r)=↑r+1:=Y;symm
   rw[e,List.eraseIdx_cons_succ,ih]
   all_goals rfl
theorem Fd{α:Type}:∀(l:-α)(i:Nat),↑(l.eraseIdx i)<=↑l
 |[],_=>Fm _
 |_::_,0=>q0Y _
 |_::r,i+1=>q3B (Fd r i)
theorem foldl_rep(au:-L):∀(k:Nat)(acc:-L),
  q4g (λx1 x2=>x1++x2) acc.toArray (My k au.toArray)=(acc++(My k au).flatten).toArray
 |0,acc=>by simp
 |k+1,acc=>by
  let e:acc.toArray++au.toArray=(acc++au).toArray:=by simp
  let e2:(acc++au)++(My k au).flatten=acc++(My (k+1) au).flatten:=by
   rw[YM,ZN,ZE]
  rw[<-e2,<-foldl_rep au k (acc++au),<-e,YM,q18]
section
variable{X:Cx}{pins:aH}{σ:St}{H:Hp}{s:B}{l b:O}{xs ys zs:-V}
theorem Inv.mG{au its':-L}{n:Nat}{f:Array L->Array L}{t':Nat}(I:Inv X pins σ H s)(hH:H l=U (.lst xs))
  (e:s.heap.get? l=U {cls:=.type "list",data:=.seq au.toArray n}) (hf:f au.toArray=its'.toArray) (hv:Vals ys its') (hz:↑ys<=sizeLine) :
  Inv X pins σ (upd H l (.lst ys)) {s with heap:=s.heap.update l (YC f),toks:=t'}:=by
 let q:=PySem.IsL.update e f;rw[hf] at q;calc I.write (x:=l) (e:=l) (by rw[hH];calc trivial) (.inl Y) (λb' u hb hu=>(Zo s.heap (YC f) (Zl hb)).trans hu) ⟨_,q⟩ ?_;calc⟨hz,its',_,hv,q⟩
theorem Inv.b9{au:-L}{t':Nat}(I:Inv X pins σ H s)(hv:Vals ys au)(hz:↑ys<=sizeLine):
  Inv X pins σ (upd H ⇑s (.lst ys)) {s with heap:=s.heap.push {cls:=.type "list",data:=.seq au.toArray},toks:=t'} :=
 I.laid (λ_ _ q=>zk _ q) (Fm _) ⟨hz,au,0,hv,WL _ Y⟩
theorem Inv.fresh(I:Inv X pins σ H s):H ⇑s=Z:=I.aY.fresh (Fm _)
theorem Inv.ir(I:Inv X pins σ H s)(hH:H l=U (.lst xs)):↑xs<=sizeLine/\∃(au:-L)(n:Nat),Vals xs au/\↑xs=↑au/\s.heap.get? l=U {cls:=.type "list",data:=.seq au.toArray n}:=by
 let⟨z,au,n,r,e⟩:=I.aY l _ hH;calc⟨z,au,n,r,↑r,e⟩
theorem Fe{n:Nat}(h:n<=sizeLine):ZP n=ι:=by
 unfold ZP;calc XO ⋯
end
section
variable{X:Cx}
def zc:V->-V->Hp->VK->Prop:=λx vs H Q=>∃l xs y,x=.ref l/\vs=[y]/\H l=U (.lst xs)/\↑xs<sizeLine/\Q .non (upd H l (.lst (xs++[y])))
theorem vR:qT X "list.append" zc:=by
 ext pins s σ H x vs v us Q I rx rv h;let⟨l,xs,y,rfl,rfl,hH,hz,q⟩:=h;cases rx
 let⟨u,rfl,ru⟩:=rv.one;let⟨z,au,n,r,hl,e⟩:=I.ir hH;calc q1l F.slot_list_append ⟨_,e,Y⟩ F.entry_list_append (F.args_list_append_2 _ _) (PySem.list_append l au.toArray n u (by rw[Fp];symm)) ⟨e,?_⟩;calc⟨.non,_,I.mG (its':=au++[u]) hH e (by simp) (r.append (.cons ru .nil)) ?_,Y,q⟩;rw[Fs,Yz];symm
def Ff:V->-V->Hp->VK->Prop:=λx vs H Q=>∃l b xs zs,x=.ref l/\vs=[.ref b]/\H l=U (.lst xs)/\H b=U (.lst zs)/\↑xs+↑zs<=sizeLine/\Q .non (upd H l (.lst (xs++zs)))
theorem NA:qT X "list.extend" Ff:=by
 ext pins s σ H x vs v us Q I rx rv h;let⟨l,b,xs,zs,rfl,rfl,hH,hB,hz,q⟩:=h;cases rx
 let⟨u,rfl,ru⟩:=rv.one;cases ru
 let⟨z,au,n,r,hl,e⟩:=I.ir hH;let⟨z2,bD,n2,r2,tI,e2⟩:=I.ir hB;let hsz:au.toArray.size+bD.toArray.size<=sizeLine:=by rw[Fp,Fp];symm
 let kZ:¬ (!au.toArray.isEmpty&&ZP (au.toArray.size+bD.toArray.size))=θ:=by
  rw[Fe hsz,q4h];exact Ya
 refine q1l F.slot_list_extend ⟨_,e,Y⟩ F.entry_list_extend (F.args_list_extend_2 _ _)
  (AutoSeq1.list_extend_list_list_0 l au.toArray n b bD.toArray n2 kZ (by rw[Fp];symm) ⋯) ⟨e,e2,?_⟩
 calc⟨.non,_,I.mG (its':=au++bD) hH e (by simp) (r.append r2) ?_,Y,q⟩;rw[Fs];symm
def tJ:V->-V->Hp->VK->Prop:=λx vs H Q=>∃l xs y,x=.ref l/\vs=[]/\H l=U (.lst xs)/\xs[↑xs-1]?=U y/\Q y (upd H l (.lst xs.dropLast))
theorem Fg:qT X "list.pop" tJ:=by
 ext pins s σ H x vs v us Q I rx rv h;let⟨l,xs,y,rfl,rfl,hH,hy,q⟩:=h;cases rx
 let zd:=rv.zero;subst zd;let⟨z,au,n,r,hl,e⟩:=I.ir hH;let⟨u,hu,ru⟩:=r.get hy
 let qU:au.toArray[au.toArray.size-1]?=U u:=by
  show au.toArray[↑au-1]?=U u;rw[<-Ym,<-hl];exact hu
 calc q1l q0S ⟨_,e,Y⟩ q3C (F.args_list_pop_1 _) (MeetsSeq.list_pop_last l au.toArray n u qU (by rw[Fp];symm)) ⟨e,?_⟩;refine⟨y,_,I.mG (its':=au.dropLast) hH e ?_ r.dropLast ?_,ru,q⟩
 .show au.toArray.eraseIdxIfInBounds (au.toArray.size-1)=au.dropLast.toArray
  rw[Fp,q0Q,Nz]
 .rw[List.length_dropLast]
  symm
def Fh:V->-V->Hp->VK->Prop:=λx vs H Q=>∃l xs i k y,x=.ref l/\vs=[.int i]/\H l=U (.lst xs) /\ -(2 ^ 63)<=i/\i<2 ^ 63/\seqIndex? i ↑xs=U k/\xs[k]?=U y/\Q y (upd H l (.lst (xs.eraseIdx k)))
theorem NB:qT X "list.pop" Fh:=by
 ext pins s σ H x vs v us Q I rx rv h;let⟨l,xs,i,k,y,rfl,rfl,hH,h1,h2,hk,hy,q⟩:=h;cases rx
 let⟨u,rfl,ru⟩:=rv.one;let⟨t,rfl⟩:=ru;let⟨z,au,n,r,hl,e⟩:=I.ir hH;let⟨w,hw,tF⟩:=r.get hy
 refine q1l q0S ⟨_,e,Y⟩ q3C (F.args_list_pop_2 _ _)
  (MeetsSeq.list_pop_at l au.toArray n i t k w (q4i h1 h2) (by rw[Fp,<-hl];calc hk) (by rw[<-Ym];calc hw) (by rw[Fp];symm)) ⟨e,?_⟩
 refine⟨y,_,I.mG (its':=au.eraseIdx k) hH e ?_ (r.eraseIdx k) ?_,tF,q⟩
 .show au.toArray.eraseIdxIfInBounds k=(au.eraseIdx k).toArray
  rw[q0Q]
 .let:=Fd xs k
  symm
def ze:R2:=λx y H Q=>∃l b xs zs,x=.ref l/\y=.ref b/\H l=U (.lst xs)/\H b=U (.lst zs)/\↑xs+↑zs<=sizeLine/\∀p,H p=Z->Q (.ref p) (upd H p (.lst (xs++zs)))
theorem Fi:eT X (binaryOp .Add) ze:=by
 ext pins s σ H x y v u Q I rx ry h;let⟨l,b,xs,zs,rfl,rfl,hH,hB,hz,q⟩:=h;cases rx
 cases ry
 let⟨z,au,n,r,hl,e⟩:=I.ir hH;let⟨z2,bD,n2,r2,tI,e2⟩:=I.ir hB;calc PySem.P.add_list e e2 ?_ (by rw[Fp,Fp];symm);let ea:au.toArray++bD.toArray=(au++bD).toArray:=by simp
 rw[ea];calc⟨.ref _,_,I.b9 (t':=s.toks) (r.append r2) (by rw[Fs];symm),Y,q _ I.fresh⟩
def zf:R2:=λx y H Q=>∃l k xs,x=.ref l/\y=.int k/\H l=U (.lst xs) /\ -(2 ^ 63)<=k/\k<2 ^ 63/\↑xs*k.toNat<=sizeLine ∧
 ∀p,H p=Z->Q (.ref p) (upd H p (.lst (My k.toNat xs).flatten))
theorem len_rep{α:Type}(xs:-α)(k:Nat):(My k xs).flatten.length=k*↑xs:=by
 induction k with
 |zero=>simp
 |succ k ih=>rw[YM,ZN,Fs,ih,Nat.succ_mul,Nat.add_comm]
theorem NC:eT X (binaryOp .Mult) zf:=by
 ext pins s σ H x y v u Q I rx ry h;let⟨l,k,xs,rfl,rfl,hH,h1,h2,hz,q⟩:=h;cases rx
 let⟨t,rfl⟩:=ry;let⟨z,au,n,r,hl,e⟩:=I.ir hH;let hlen:au.toArray.size*k.toNat<=sizeLine:=by rw[Fp,<-hl];exact hz
 let zg:¬ au.toArray.size*k.toNat>(2 ^ 63-1) / 8:=by
  let:(sizeLine:Nat)<=(2 ^ 63-1) / 8:=by decide
  symm
 let zh:¬ (!Builtin.List.listFitsIndex k)=θ:=by
  rw[q4i h1 h2];exact Ya
 let kZ:¬ ZP (au.toArray.size*k.toNat)=θ:=by
  rw[Fe hlen];exact Ya
 let zi:q4g (λx1 x2=>x1++x2) #[] (My (if au.toArray.isEmpty=θ then 0 else k.toNat) au.toArray)=(My k.toNat au).flatten.toArray:=by
  let f0:∀m:Nat,q4g (λx1 x2=>x1++x2) #[] (My m au.toArray)=(My m au).flatten.toArray:=λm=>by
   let:=foldl_rep au m [];rw[Zr] at this;exact this
  rw[f0]
  cases au with
  |nil=>simp
  |cons a r'=>rw[WK (by simp)]
 refine wpAny_binaryOp_repeat_ref (T:="list") (U:="int") (by decide) ⟨_,e,Y⟩ (λs'=>q4f s' k t) noFill_list_mul F.fills_int_mul q3Z repeat_list F.slot_int_index.lookup
  (q1l q3Z (q4f s k t) F.entry_int_rmul (F.args_int_rmul_2 _ _) (int___rmul___int_list k t l au.toArray n)
   ⟨e,Y,⟨_,e,Y⟩,q1l F.slot_list_mul ⟨_,e,Y⟩ F.entry_list_mul (F.args_list_mul_2 _ _) (AutoListH.list___mul___list_int_3 l au.toArray n k t zh zg kZ) ⟨e,?_⟩⟩)
 rw[zi];calc⟨.ref _,_,I.b9 (t':=s.toks) (r.rep k.toNat) (by rw[len_rep,q4Z];calc hz),Y,q _ I.fresh⟩
end
section
variable{prog:t}{w:X}{A:q}{E:bc}{s:B}
end
section
variable{X:Cx}
end
end L2
namespace Att
open PySem PySem.W PySem.Calls PyProof.Rows
theorem fD{P:Params}{h:I}:∀(ns:-Int)(vs:-L),WellAll P h vs (ns.map WData.int)->IntsAre vs ns:=by
 ext ns
 induction ns with
 |nil =>
  ext vs w;rw[Zy] at w;cases w
  exact .nil
 |cons n ns ih =>
  ext vs w;rw[X0] at w
  cases w with
  |cons a b =>
   cases a
   calc .cons _ _ (ih _ b)
theorem jY{l:OpenLaw}{n:Nat}(hn:l.most=U n){P:Params}{h:I}{args:-WData}{vals:-L}
  (mH:l.row.toRowW.claim.pre args=θ) (zj:WellAll P h vals args) :
  ∃a vs ns,vals=[Yg a]/\args=[WData.list (ns.map WData.int)]/\h.get? a=U {cls:=.type "list",data:=.seq vs.toArray}/\IntsAre vs ns/\ns.length<=n:=by
 let ND:WShape.hasAll [] args [.list .int]=θ:=(pre_splitW mH).1;let hc:l.pre.holds [] {args:=args}=θ:=(pre_splitW mH).2;let⟨d,r,rfl,h1,h2⟩:=hasAllW_cons ND;obtain rfl:=hasAllW_nil h2;let⟨xs,rfl,h3⟩:=hasW_list h1;let⟨ns,rfl⟩:=items_int h3
 let hlen:ns.length<=n:=by
  unfold OpenLaw.pre at hc
  let h4:(WTm.not (.lt (.lit (.int (n:Int))) (.len (.arg 0)))).holds [] {args:=[.list (ns.map .int)]}=θ:=by
   let h4:=(holds_andW hc).1;rw[hn] at h4;exact h4
  let h5:=condW_of h4 (w_not (w_lt w_lit (w_len_list (w_arg Y))));rw[pR] at h5;calc Nat.le_of_not_lt λq=>?_;let q':(n:Int)<((ns.length:Nat):Int):=by symm
  first
   |(rw[X7 q'] at h5;calc absurd h5 (by decide))
   |(simp at h5;symm)
 cases zj with
 |cons w1 w2 =>
  cases w2
  cases w1 with
  |list ho ml=>calc⟨_,_,ns,Y,Y,ho,fD ns _ ml,hlen⟩
theorem jZ(l:OpenLaw)(args:-WData):l.row.toRowW.claim.post args (.bool θ) args=θ :=
 postW_of (r:=l.row.toRowW) (X:=(θ==θ))
  (show WShape.has [] (.bool θ) .bool=θ by first|rfl|decide|simp[WShape.has,WShape.arms,WShape.armsAll])
  (show(WTm.eq .res (.lit (.bool θ))).value [] {args:=args,res:=U (.bool θ),after:=args}=U (.bool (θ==θ)) from w_eq_bool (w_res Y) w_lit) Y
theorem iw{l:OpenLaw}{n:Nat}{q:t}{loose:-J}{XP:(J->Option L)->I->Prop}{YP:X->I->Prop}{d:DefRec}
  (hn:l.most=U n) (pM:d.params.defaults=[])
  (call:∀(w:X)(s₀ s₁:B)(mg mb:J->Option L)(fa:O)(o:Q)(pm cd doc:L)(a:O)(vs:-L)(ns:-Int),
   Ground q loose [] XP w s₀ mg mb s₁.heap->YP w s₁.heap →
   s₁.heap.get? fa=U o->o.data=.func (docDef d.name d.params d.body d.scope pm cd doc)->s₁.heap.CodeRec cd d.name->mg d.name=U (.ref fa) →
   s₁.heap.get? a=U {cls:=.type "list",data:=.seq vs.toArray}->IntsAre vs ns->ns.length<=n->s₁.gens = #[] →
   codeAny (S l.prog w) callerA (.call (.ref fa) ⟨[.ref a],[]⟩) (λr s'=>r=.ok (.ret (.bool θ))/\OldK s₁.heap s'.heap/\s'.os=s₁.os/\AllBare s'.gens) s₁) :
  WalkO q loose XP YP l.row.toRowW d [] (λf vs=>q2Z f vs):=by
 ext w s₀ s₁ mg mb G Y fa o pm cd doc dV kV ho hd fS hD mI hg args vals as mH NF WB zj WC;obtain rfl:dV=.none:=Dflts.none hD pM;obtain rfl:kV=.none:=Dflts.noKw hD;let⟨a,vs,ns,rfl,rfl,pN,hints,hlen⟩:=jY hn mH zj;calc enter_call (q0J (call w s₀ s₁ mg mb fa o pm cd doc a vs ns G Y ho (fd_plain hd) fS mI pN hints hlen hg) λr s' hq=>?_);let⟨rfl,h2,h3,h4⟩:=hq;calc⟨.inl ⟨.bool θ,.bool θ,[],rfl,λ_=>rfl,.bool θ,jZ l _,λ_=>⟨q3k,λ_ hm=>(nomatch hm)⟩⟩,h2,h3,h4⟩
section
variable{prog:t}{w:X}{A:q}{E:bc}{s:B}{K:Frag}
end
end Att
namespace L2
open PySem PySem.Spec PyProof.Rows
theorem Fj:∀{vs:-L}{ns:-Int},IntsAre vs ns->Vals (ns.map V.int) vs
 |_,_,.nil=>.nil
 |_,_,.cons n t h=>.cons ⟨t,Y⟩ (Fj h)
noncomputable def inClass(s:R)(j:Nat):R:=match s with
 |.ClassDef _ _ _ body _ _ _ _ _ _ _=>body.getD j (.Pass ⟨0,0,0,0⟩)
 |_=>.Pass ⟨0,0,0,0⟩
noncomputable def i_(s:R):Arguments:=match s with
 |.FunctionDef _ a _ _ _ _ _ _ _ _=>a
 |_=>{posonlyargs:=[],args:=[],vararg:=none,kwonlyargs:=[],kw_defaults:=[],kwarg:=none,defaults:=[]}
noncomputable def fE(s:R):-R:=match s with
 |.FunctionDef _ _ b _ _ _ _ _ _ _=>b
 |_=>[]
noncomputable def bW(s:R):o:=match s with
 |.FunctionDef _ _ _ _ _ _ sc _ _ _=>sc
 |_=>{kind:=.function,names:=[],isGenerator:=false,isCoroutine:=false}
abbrev eV:jW:=λ_ _ _ _ _ _=>False
abbrev E0:XK:=λ_ _ _=>False
theorem oA{X:Cx}:lS eV X E0:=λ_ _ _ _ _ _ _ h=>h.elim
structure fF(K:vS)(x qual:J)(st:R)(f:O)(fd:FuncData):Prop where
 ex:∃(oc:L)(od:Option O)(kV doc pm:L)(an:Option O)(a9 ct:L)(lT:Array (Option L)),
  fd=YA x qual (i_ st) (fE st) (bW st) .none kV doc pm an a9 ct/\K.lookup f=U ⟨oc,od,.func fd,lT⟩/\q0i K a9 qual=θ
 kp:Yt K (.ref f)=θ
section
variable{P:t}{w:X}{K:vS}{mg:J->Option L}{base:I}
theorem fF.tK{x qual:J}{st:R}{f:O}{fd:FuncData}{N ps:-J}{k:Nat}{sp:Sp}(F:fF K x qual st f fd)(S:kW N ps (bW st))(len:∀vs H Q E,sp vs H Q E->↑vs=↑ps)
  (du:∀(a9:L)(A:Β)(outer:-u)(s:B)(H:Hp)(vs:-V)(Q:VK)(E:XK),a6 k (A.deeper (envOfC qual (bW st) ⇑s f a9))->sp vs H Q E →
   ∃t,c6 (b8 eV P w K mg base N qual (bW st) f a9 A outer s H E).kz (fE st) t/\t {nx:=λ_ H'=>Q .non H',rt:=Q} (start N vs) H):bN P w K mg base eV (k+1) f fd ps sp:=by
 let⟨oc,od,kV,doc,pm,an,a9,ct,lT,rfl,lk,fS⟩:=F.ex;calc yQ lk fS S len λA outer s H vs Q E hr oo=>?_;let⟨t,h,q⟩:=du a9 A outer s H vs Q E hr oo;calc⟨t,h.kz,q⟩
theorem fF.binds{x qual:J}{st:R}{f:O}{fd:FuncData}{ps:-J}(F:fF K x qual st f fd)
  (h:∀(kV doc pm:L)(an:Option O)(a9 ct:L)(us:-L),↑us=↑ps->bindArgs (YA x qual (i_ st) (fE st) (bW st) .none kV doc pm an a9 ct) ⟨us,[]⟩=pure (ps.zip us)):Binds K fd ps []:=by
 let⟨oc,od,kV,doc,pm,an,a9,ct,lT,rfl,lk,fS⟩:=F.ex;calc .all (h kV doc pm an a9 ct)
theorem vT{x qual:J}{st:R}{f:O}{oc:L}{od an:Option O}{lT:Array (Option L)}{kV doc pm a9 ct:L}(l:K.lookup f=U ⟨oc,od,.func (YA x qual (i_ st) (fE st) (bW st) .none kV doc pm an a9 ct),lT⟩)
  (c:q0i K a9 qual=θ) (k:Yt K (.ref f)=θ):fF K x qual st f (YA x qual (i_ st) (fE st) (bW st) .none kV doc pm an a9 ct):=⟨⟨oc,od,kV,doc,pm,an,a9,ct,lT,Y,l,c⟩,k⟩
end
theorem mK{n:Nat}(h:n<=1000):n<sizeLine:=q1f h (by decide)
section
variable{X:Cx}
theorem jv(i:Nat){x:J}{pos:y}(hN:‹X.N[i]?=U x›)(hv:sv X.env.scope x:=by first|exact q1a Y|exact q2k (q1a Y)|calc q2k (q2k Y))(hd: ~~~(bL x))
  (fS: ~~~((x==("__classdict__" : J))=ι)):JE X (.Name x pos) (ip i):=Ew hN hv hd fS
end
def aO(H H':Hp):Prop:=∀b o,H b=U o->H' b=U o
theorem aO.trans{H H1 H2:Hp}(a:aO H H1)(b:aO H1 H2):aO H H2:=λc o h=>b c o (a c o h)
theorem aO.free{H H':Hp}(e:aO H H'){l:O}(h:H' l=q5V):H l=q5V:=by
 cases q:H l with
 |none=>rfl
 |some o =>
  rw[e l o q] at h;cases h
theorem aO.seq{K:vS}{H H':Hp}{a:O}{xs:-V}(e:aO H H')(h:bE K H a xs):bE K H' a xs:=by
 rcases h with(h|⟨o,h⟩)|h
 .exact .inl (.inl (e _ _ h))
 .exact .inl (.inr ⟨o,e _ _ h⟩)
 .calc .inr h
theorem NL{prog:t}{w:X}{A:q}{R:Result->B->Prop}{s:B}{elt target iter:M}{ifs:-M}{scope:o}{pos:y}{it acc:L}{env:u}(I:Nat->B->Prop)
  (turn:∀n s,I n s->G (S prog w) A (pyNext it) (λr s₁=>match r with
   |none=>R (.ok .next) s₁
   |some v=>G (S prog w) A (letOwnedTupleGo target it v) (λ_ s₂=>G (S prog w) A (assign target env v) (λ_ s₃ =>
     G (S prog w) A (forIn ifs θ λc r=>if r=θ then do let ok <- isTrue c env (eval c env);pure (Zc ok) else pure (Zc r)) (λok s₄ =>
      if ok=θ then G (S prog w) A (eval elt env) (λx s₅ =>
       G (S prog w) A (call (.builtin "list.append") [acc,x]) (λ_ s₆=>∃m,m<n/\I m s₆) (λ_ _=>False) s₅) (λ_ _=>False) s₄
      else ∃m,m<n/\I m s₄) (λ_ _=>False) s₃) (λ_ _=>False) s₂) (λ_ _=>False) s₁) (λ_ _=>False) s)
  (n:Nat) (h:I n s) :
  codeAny (S prog w) A (.compLoop (.ListComp elt [⟨target,iter,ifs,0⟩] scope pos) 0 it acc env) R s:=by
 calc codeAny_loop Y I (λn s hI=>?_) n h;show G _ A ((compTurn (.ListComp elt [⟨target,iter,ifs,0⟩] scope pos) 0 it acc env).onRaise (λx=>do noteFrame x env;theTreesLotGoes x)) _ _ s;calc wpAny_noted ?_;rw[compTurn_list];refine tH (Z9 (tH (Zm (turn n s hI) (λr s₁ h₁=>?_) λ_ _ h'=>YN h')))
 cases r with
 |none=>exact NH h₁
 |some v =>
  calc tH (Zm h₁ (λ_ s₂ h₂=>?_) λ_ _ h'=>YN h');refine tH (Zm h₂ (λ_ s₃ h₃=>tH (Zm h₃ (λok s₄ h₄=>?_) λ_ _ h'=>YN h')) λ_ _ h'=>YN h')
  cases ok with
  |false=>exact NH ⟨Y,h₄⟩
  |true =>
   calc tH (tH (Zm h₄ (λx s₄ h₄=>tH (Zm h₄ (λ_ s₅ h₅=>NH (NH ⟨Y,h₅⟩)) λ_ _ h'=>YN h')) λ_ _ h'=>YN h'))
theorem zl{env:u}:∀(names:-(J×NameKind))(acc:-(J×O)),(∀y∈names,y.2=.free->∃c,env.cells.lookup y.1=U c)->(∀x c,acc.lookup x=U c->env.cells.lookup x=U c) →
  ∃cl,(forIn names acc (λ(x:Str×NameKind) (cs:-(Str×Addr))=>if x.2==Zj then cellOf env x.1 >>= λa=>pure (Zc ((x.1,a)::cs)) else pure (Zc cs)):Sem (-(J×O)))=pure cl ∧
   (∀x c,cl.lookup x=U c->env.cells.lookup x=U c)/\(∀y∈names,y.2=.free->∃c,cl.lookup y.1=U c)/\(∀x c,acc.lookup x=U c->∃c,cl.lookup x=U c)
 |[],acc,_,h2=>⟨acc,Y,h2,λ_ hy=>absurd hy (by simp),λx c e=>⟨c,e⟩⟩
 |(n,k)::r,acc,h1,h2=>by
  rw[List.forIn_cons]
  by_cases hk:k=.free
  .subst hk
   let⟨c,hc⟩:=h1 (n,.free) NJ Y;let ky:env.cells.lookup n=U c:=hc;let ec:cellOf env n=pure c:=by unfold cellOf;rw[ky]
   let iy:∀x d,((n,c)::acc).lookup x=U d->env.cells.lookup x=U d:=λx d e=>by
    rw[X9] at e
    cases q:x==n with
    |true =>
     rw[q] at e;cases e
     rw[Zg q];exact ky
    |false =>
     rw[q] at e;exact h2 x d e
   let⟨cl,e,p1,p2,p3⟩:=zl r ((n,c)::acc) (λy hy=>h1 y (WH _ hy)) iy;refine⟨cl,?_,p1,λy hy hf=>?_,λx d e=>?_⟩
   .dsimp only
    rw[XI (by decide),ec];exact e
   .rcases XJ.mp hy with rfl|hy
    .exact p3 n c (by simp)
    .exact p2 y hy hf
   .cases q:x==n with
    |true=>exact p3 x c (by rw[X9,q])
    |false=>exact p3 x d (by rw[X9,q];calc e)
  .let⟨cl,e,p1,p2,p3⟩:=zl r acc (λy hy=>h1 y (WH _ hy)) h2
   refine⟨cl,?_,p1,λy hy hf=>?_,p3⟩
   .dsimp only
    rw[WK hk⁻¹];exact e
   .rcases XJ.mp hy with rfl|hy
    .exact absurd hf hk
    .calc p2 y hy hf
theorem Ft{scope:o}{env:u}(h:∀y∈scope.names,y.2=.free->∃c,env.cells.lookup y.1=U c):
  ∃cl,closureFor scope env=pure cl/\(∀x c,cl.lookup x=U c->env.cells.lookup x=U c)/\∀y∈scope.names,y.2=.free->∃c,cl.lookup y.1=U c:=by
 let⟨cl,e,p1,p2,_⟩:=zl scope.names [] h (λx c e=>by simp at e);calc⟨cl,?_,p1,p2⟩;let e':closureFor scope env=(forIn scope.names ([]:-(J×O)) (λ(x:Str×NameKind) (cs:-(Str×Addr))=>if x.2==Zj then cellOf env x.1 >>= λa=>pure (Zc ((x.1,a)::cs)) else pure (Zc cs)):Sem (-(J×O))) >>= pure:=Y;rw[e',e];rfl
structure BD where
 cl:-(J×O)
 C:O
 s:B
 H:Hp
 fp:-O
@[reducible] noncomputable def cK (X:Cx) (scope:o) (Nb:-J) (d:BD):Cx where
 prog:=X.prog
 w:=X.w
 K:=X.K
 mg:=X.mg
 base:=X.base
 A:=X.A
 N:=Nb
 s₀:=d.s
 H₀:=d.H
 env:=compEnvC scope d.cl d.C X.env
 outer:=X.stack
 stack:=X.stack
 ex:=d.fp
 fn:=λx=>l (scope.names.lookup x=U .cell)
 calm:=X.calm
 pn:=[]
 xe:=λ_ _=>False
noncomputable def iQ(cp:-(Option Nat))(σ:St):St:=cp.map λo=>match o with
 |some i=>(σ[i]?).join
 |none=>Z
noncomputable def k6(N:-J)(vU scope:o)(Nb:-J)(cp:-(Option Nat)):Bool :=
 (scope.names.all λy=>(l (y.2≠.cell)||l (scope.names.lookup y.1=U .cell))&&(l (y.2≠.local)||l (scope.names.lookup y.1=U .local))&&(l (y.2≠.free)||l (vU.names.lookup y.1=U .cell)||l (vU.names.lookup y.1=U .free))) &&
 l (↑cp=↑Nb)&&(cp.zip Nb).all λz=>match z.1 with
  |none=>θ
  |some i=>l (N[i]?=U z.2)&&l (scope.names.lookup z.2=U .free)
structure vV(X:Cx)(scope:o)(Nb:-J)(cp:-(Option Nat)):Prop where
 kind:scope.kind=.function
 cell:∀y∈scope.names,y.2=.cell->scope.names.lookup y.1=U .cell
 names:∀y∈scope.names,y.2=.local->scope.names.lookup y.1=U .local
 free:∀y∈scope.names,y.2=.free->(X.env.kindOf y.1=U .cell\/X.env.kindOf y.1=U .free)
 len:↑cp=↑Nb
 tL:∀(j i:Nat)(x:J),cp[j]?=U (U i)->Nb[j]?=U x->X.N[i]?=U x/\scope.names.lookup x=U .free
theorem x1y{X:Cx}{scope:o}{Nb:-J}{cp:-(Option Nat)}(hk:scope.kind=.function)(h:k6 X.N X.env.scope scope Nb cp=θ):vV X scope Nb cp:=by
 unfold k6 at h;erw[YY,Zf,Bool.or_eq_true,Y4] at h;let⟨⟨h1,h2⟩,h3⟩:=h;refine⟨hk,λy hy e=>(h1 y hy).1.1.resolve_left (λz=>z e),λy hy e=>?_,λy hy e=>?_,h2,λj i x e1 e2=>?_⟩
 .rcases (h1 y hy).1.2 with z|z
  .exact absurd e z
  .exact z
 .rcases (h1 y hy).2 with(z|z)|z
  .exact absurd e z
  .exact .inl z
  .exact .inr z
 .let hm:(U i,x)∈cp.zip Nb:=by
   let:(cp.zip Nb)[j]?=U (U i,x):=by
    rw[List.getElem?_zip_eq_some];exact⟨e1,e2⟩
   exact Yl this
  let:=h3 _ hm;simpa using this
theorem zm{env:u}{x:J}:∀{names:-(J×NameKind)}{k:NameKind},names.lookup x=U k →
  (names.map λ(n,k)=>if(k==Zj&&env.scope.kind==.function&&env.kindOf n==U .cell) then(n,Y_) else(n,k)).lookup x =
   U (if(k==Zj&&env.scope.kind==.function&&env.kindOf x==U .cell) then Y_ else k)
 |[],k,h=>by simp at h
 |(n,k')::r,k,h=>by
  let ih:=@zm env x r k;show ZM x ((if(k'==Zj&&env.scope.kind==.function&&env.kindOf n==U .cell)=θ then(n,Y_) else(n,k'))::_)=_
  cases hx:x==n with
  |true =>
   erw[X9,hx] at h;cases h
   let e:x=n:=Zg hx;subst e
   by_cases hc:(k'==Zj&&env.scope.kind==.function&&env.kindOf x==U .cell)=θ
   .rw[XI hc,XI hc];simp[X9]
   .rw[WK hc,WK hc];simp[X9]
  |false =>
   erw[X9,hx] at h
   by_cases hc:(k'==Zj&&env.scope.kind==.function&&env.kindOf n==U .cell)=θ
   .rw[XI hc];erw[X9,hx];exact ih h
   .rw[WK hc];erw[X9,hx];calc ih h
theorem Fu{env:u}{x:J}:∀{names:-(J×NameKind)},names.lookup x=Z →
  (names.map λ(n,k)=>if(k==Zj&&env.scope.kind==.function&&env.kindOf n==U .cell) then(n,Y_) else(n,k)).lookup x=Z
 |[],h=>by simp
 |(n,k')::r,h=>by
  let ih:=@Fu env x r;show ZM x ((if(k'==Zj&&env.scope.kind==.function&&env.kindOf n==U .cell)=θ then(n,Y_) else(n,k'))::_)=_
  cases hx:x==n with
  |true=>erw[X9,hx] at h;cases h
  |false =>
   erw[X9,hx] at h
   by_cases hc:(k'==Zj&&env.scope.kind==.function&&env.kindOf n==U .cell)=θ
   .rw[XI hc];erw[X9,hx];exact ih h
   .rw[WK hc];erw[X9,hx];calc ih h
structure JF(X:Cx)(ifs:-M)(t:TT):Prop where
 out:∀(pins:aH)(s:B)(σ:St)(H:Hp)(Q:Bool->Hp->Prop),Inv X pins σ H s->t σ H Q →
  G (S X.prog X.w) X.A (forIn ifs θ λc r=>if r=θ then do let ok <- isTrue c X.env (eval c X.env);pure (Zc ok) else pure (Zc r)) (TP X pins σ Q) X.xe s
instance {X:Cx} {ifs:-M} {t:TT}:CoeFun (JF X ifs t) (λ_=>∀(pins:aH)(s:B)(σ:St)(H:Hp)(Q:Bool->Hp->Prop),Inv X pins σ H s->t σ H Q->G (S X.prog X.w) X.A (forIn ifs θ λc r=>if r=θ then do let ok <- isTrue c X.env (eval c X.env);pure (Zc ok) else pure (Zc r)) (TP X pins σ Q) X.xe s):=⟨JF.out⟩
def zo:TT:=λ_ H Q=>Q θ H
theorem pS{X:Cx}:JF X [] zo:=⟨λ_ _ _ H _ I h=>wpAny_tests_nil ⟨H,I,h⟩⟩
theorem NM{X:Cx}{c:M}{t:TT}(h:JT X c t):JF X [c] t:=⟨λpins s σ H Q I hw=>wpAny_tests_one (h pins s σ H Q I hw)
⟩
def NN(g:TG)(tf:TT)(te:TE)(l:O)(x:V)(τ:St)(H:Hp)(N:St->Hp->Prop):Prop :=
 g x τ H fun τ2 H2=>tf τ2 H2 λb H3=>if b=θ then te τ2 H3 λy H4=>∃ys,H4 l=U (.lst ys)/\↑ys<sizeLine/\N τ2 (upd H4 l (.lst (ys++[y]))) else N τ2 H3
def Fv(J:It)(g:TG)(tf:TT)(te:TE)(l:O)(τ0:St)(H0:Hp)(Q:VK):Prop :=
 ∃W:Nat->Nat->St->Hp->Prop,(∃m,W 0 m τ0 H0)/\∀i m τ H,W i m τ H →
  (J.stop i H/\Q (.ref l) H)\/(J.go i H/\∃N:St->Hp->Prop,(∀τ' H',N τ' H'->∃m',m'<m/\W (i+1) m' τ' H')/\∀x H',J.qM i H x H'->NN g tf te l x τ H' N)
def tM(wi:TI)(cp:-(Option Nat))(g:BD->TG)(tf:BD->TT)(te:BD->TE):TE:=fun σ H Q=>wi σ H λJ H1=>∀(d:BD)(l:O),H1 l=Z->Fv J (g d) (tf d) (te d) l (iQ cp σ) (upd H1 l (.lst [])) Q
theorem qW:∀{names:-(J×NameKind)}{n:Nat}{acc:-(J×O)}{x:J}{c:O},(cellsFrom n names acc).lookup x=U c->acc.lookup x=U c\/(n<=c/\(x,Y_)∈names)
 |[],n,acc,x,c,h=>.inl h
 |(y,k)::r,n,acc,x,c,h=>by
  unfold cellsFrom at h;split at h
  .rename_i hk
   let ek:k=.cell:=Zg hk;subst ek;rcases qW h with h|⟨h,m⟩
   .rw[X9] at h
    cases q:x==y with
    |true=>rw[q] at h;cases h;rw[Zg q];exact .inr ⟨Fm _,NJ ..⟩
    |false=>rw[q] at h;exact .inl h
   .exact .inr ⟨⋯,WH _ m⟩
  .rcases qW h with h|⟨h,m⟩
   .exact .inl h
   .calc .inr ⟨h,WH _ m⟩
theorem zp:∀{names:-(J×NameKind)}{n:Nat}{acc:-(J×O)}{x:J}{c:O},(x,Y_)∈names->(cellsFrom n names acc).lookup x=U c->n<=c
 |[],n,acc,x,c,m,h=>by cases m
 |(y,k)::r,n,acc,x,c,m,h=>by
  unfold cellsFrom at h
  by_cases mr:(x,Y_)∈r
  .split at h
   .let:=zp mr h;symm
   .exact zp mr h
  .let e:(x,Y_)=(y,k):=by
    rcases XJ.mp m with e|e
    .exact e
    .exact absurd e mr
   cases e
   rw[XI (by decide)] at h;rcases qW h with h|⟨h,_⟩
   .rw[X9,beq_self_eq_true] at h
    cases h;exact Fm _
   .omega
theorem zq:∀{names:-(J×NameKind)}{n:Nat}{acc:-(J×O)}{x y:J}{c:O},(∀u v c,acc.lookup u=U c->acc.lookup v=U c->u=v)->(∀u c,acc.lookup u=U c->c<n)->(cellsFrom n names acc).lookup x=U c->(cellsFrom n names acc).lookup y=U c->x=y
 |[],n,acc,x,y,c,hi,_,h1,h2=>hi x y c h1 h2
 |(z,k)::r,n,acc,x,y,c,hi,hb,h1,h2=>by
  unfold cellsFrom at h1 h2;split at h1
  .rename_i hk
   rw[XI hk] at h2;refine zq (λu v c q1 q2=>?_) (λu c q=>?_) h1 h2
   .rw[X9] at q1 q2
    cases e1:u==z with
    |true =>
     rw[e1] at q1;cases q1
     cases e2:v==z with
     |true=>rw[Zg e1,Zg e2]
     |false=>rw[e2] at q2;exact absurd (hb v _ q2) (Zi _)
    |false =>
     rw[e1] at q1
     cases e2:v==z with
     |true=>rw[e2] at q2;cases q2;exact absurd (hb u _ q1) (Zi _)
     |false=>rw[e2] at q2;exact hi u v c q1 q2
   .rw[X9] at q
    cases e1:u==z with
    |true=>rw[e1] at q;cases q;exact ZT _
    |false=>rw[e1] at q;exact Zk (hb u c q)
  .rename_i hk
   rw[WK hk] at h2;calc zq hi hb h1 h2
theorem zr:∀{names:-(J×NameKind)}{n:Nat}{acc:-(J×O)}{x:J},(x,Y_)∉names->(cellsFrom n names acc).lookup x=acc.lookup x
 |[],n,acc,x,_=>Y
 |(y,k)::r,n,acc,x,m=>by
  unfold cellsFrom;split
  .rename_i hk
   let ek:k=.cell:=Zg hk;subst ek;rw[zr λz=>m (WH _ z),X9]
   cases q:x==y with
   |true=>exact absurd (by rw[Zg q];calc NJ ..) m
   |false=>rfl
  .calc zr λz=>m (WH _ z)
theorem zt:∀{names:-(J×NameKind)}{h:I}{acc:-(J×O)}{x:J}{c:O},(∀u c,acc.lookup u=U c->∃v,h.IsCell c v)->(cellsFrom h.objs.size names acc).lookup x=U c->∃v,(pushCells h names).IsCell c v
 |[],h,acc,x,c,hc,e=>hc x c e
 |(y,k)::r,h,acc,x,c,hc,e=>by
  unfold cellsFrom at e;unfold pushCells;split at e
  .rename_i hk
   rw[XI hk];let hz:(h.push {cls:=.type "cell",data:=.cell Z}).objs.size=h.objs.size+1:=Zz ..;rw[<-hz] at e;calc zt (λu c q=>?_) e;rw[X9] at q
   cases e1:u==y with
   |true=>rw[e1] at q;cases q;exact⟨Z,_,WL _ Y,Y⟩
   |false =>
    rw[e1] at q;let⟨v,o,g1,g2⟩:=hc u c q;exact⟨v,o,zk _ g1,g2⟩
  .rename_i hk
   rw[WK hk];calc zt hc e
theorem NO{M:Model}{A:q}{E:bc}{s:B}{scope:o}{g:O}{cl:-(J×O)}{qual:J}{env:u}{Q:u->B->Prop}
  (h:Q (newEnv scope ⇑s g (cellsFrom (⇑s+1) scope.names cl) qual Z .none (U env) builtinsNs) {s with heap:=pushCells (s.heap.push {cls:=.type "dict",data:=.dict #[]}) scope.names}) :
  G M A (newFunctionEnv scope g cl [] qual Z .none (U env)) Q E s:=by
 erw[newFunctionEnv,q20,q1z];calc tH (wpAny_alloc ?_);calc tH (wpAny_layCells _ (λname kind cells=>by cases NP:kind==Y_<;>simp[NP]) _ _ _ _ ?_);rw[show({s with heap:=s.heap.push {cls:=.type "dict",data:=.dict #[]}}:B).heap.objs.size=⇑s+1 from Zz ..];calc tH ?_;rw[List.forIn_nil];calc NH (NH h)
section
variable{X:Cx}{elt tg iter:M}{ifs:-M}{scope:o}{pos:y}{Nb:-J}{cp:-(Option Nat)}{wi:TI}{g:BD->TG}{tf:BD->TT}{te:BD->TE}
variable{pins:aH}{σ:St}{H:Hp}{s:B}
noncomputable abbrev tN(scope:o)(s:B)(cl:-(J×O)):-(J×O):=cellsFrom (⇑s+1) scope.names cl
theorem NQ{fp:-O}{cl:-(J×O)}(S:vV X scope Nb cp)(I:Inv X pins σ H s)(hf:∀b∈fp,bM X pins H b)(ho:∀b∈fp,∃o,s.heap.get? b=U o)
  (c1:∀x c,cl.lookup x=U c->X.env.cells.lookup x=U c) (c2:∀y∈scope.names,y.2=.free->∃c,cl.lookup y.1=U c):(cK X scope Nb ⟨tN scope s cl,⇑s,s,H,fp⟩).Ok:=by
 let NR:∀b∈fp,b∉e_ X.stack:=λb hb z=>by
  let⟨_,f1,f2,_⟩:=hf b hb;rcases XJ.mp (I.gM b z) with e|e
  .exact f1 e
  .exact f2 e
 let lt:∀u c,cl.lookup u=U c->c<⇑s:=λu c e=>by
  let⟨v,q⟩:=I.cell u c (c1 _ _ e);exact q.lt
 refine⟨I.ok.mod,?_,I.ok.glob,I.ok.blt,Fm _,λx y c h1 h2=>?_,λx hx=>?_,λx c h hc=>?_,I.ok.hd,I.ok.frames,.inl Y,λb hb=>⟨?_,λx c e=>?_⟩,I.bs,Yi I.ok.kx I.sz,λb o e hb=>?_,NR,I.stack,I.eA⟩
 .exact S.kind
 .exact zq (λu v c q1 q2=>I.ok.inj u v c (c1 _ _ q1) (c1 _ _ q2)) (λu c e=>Zk (lt u c e)) h1 h2
 .cases q:scope.names.lookup x with
  |none =>
   let z:(relabel scope X.env).names.lookup x=Z:=Fu q;let k7:(relabel scope X.env).names.lookup x=U .cell\/(relabel scope X.env).names.lookup x=U .free:=hx;rw[z] at k7;rcases k7 with h|h<;>cases h
  |some k =>
   let hm:=YL q;let z:(relabel scope X.env).names.lookup x=_:=zm (env:=X.env) q;let k7:(relabel scope X.env).names.lookup x=U .cell\/(relabel scope X.env).names.lookup x=U .free:=hx;rw[z] at k7
   let kf:k=.free\/k=.cell:=by
    by_cases hk:k=.free
    .exact .inl hk
    .let:(k==Zj)=ι:=by simpa using hk
     erw[this,q2p,Ze,q0f] at k7;rcases k7 with h|h
     .exact .inr (Yf h)
     .exact absurd (Yf h) hk
   calc q0p.mp (q0K scope.names _ cl ?_);rcases kf with rfl|rfl
   .let⟨c,e⟩:=c2 (x,.free) hm Y
    exact .inr (by rw[show cl.lookup x=U c from e];rfl)
   .exact .inl q
 .let hl:scope.names.lookup x=U .cell:=YQ h
  let:=zp (YL hl) hc;exact q3l this
 .let⟨o,e⟩:=ho b hb
  exact XQ (WJ e)
 .rcases qW e with e|⟨e,_⟩
  .exact (hf b hb).2.2.2.2.1 x c (c1 _ _ e)
  .let⟨o,eo⟩:=ho b hb
   let zu:=WJ eo;ext z;subst z;exact absurd (q3m e) (q65.mpr (Zx zu))
 .rcases (hf b hb).2.2.2.1 with z|z
  .exact I.ok.gL b o e z
  .calc absurd (XN (WJ (I.ok.bs b o e).1) z) (Zi _)
theorem NS{cp:-(Option Nat)}{σ:St}{j:Nat}{v:V}(h:(iQ cp σ)[j]?=U (U v)):∃i,cp[j]?=U (U i)/\σ[i]?=U (U v):=by
 unfold iQ at h;rw[WD] at h
 cases e:cp[j]? with
 |none=>rw[e] at h;cases h
 |some o =>
  rw[e] at h
  cases o with
  |none=>cases h
  |some i =>
   calc⟨i,Y,?_⟩;let h':(σ[i]?).join=U v:=Yf h
   cases q:σ[i]? with
   |none=>rw[q] at h';cases h'
   |some z =>
    rw[q] at h';let:z=U v:=h';rw[this]
theorem NU{fp:-O}{cl:-(J×O)}{h1:Α}{tk:Nat}(S:vV X scope Nb cp)(I:Inv X pins σ H s)(hf:∀b∈fp,bM X pins H b)(ho:∀b∈fp,∃o,s.heap.get? b=U o)
  (c1:∀x c,cl.lookup x=U c->X.env.cells.lookup x=U c) (c2:∀y∈scope.names,y.2=.free->∃c,cl.lookup y.1=U c)
  (hn:h1.Ns ⇑s (λx=>([]:-(J×L)).reverse.lookup x)) (hk:∀b o,s.heap.get? b=U o->h1.get? b=U o) (mF:∀x c,(tN scope s cl).lookup x=U c->∃v,h1.IsCell c v) :
  Inv (cK X scope Nb ⟨tN scope s cl,⇑s,s,H,fp⟩) [] (iQ cp σ) H {s with heap:=h1,toks:=tk}:=by
 refine⟨NQ S I hf ho c1 c2,Y,I.bare,Un.kept hk,⟨_,hn,λj x v e1 e2 e3=>?_⟩,mF,I.aY.fresh (Fm _),λx c e=>?_,λp hp=>absurd (show p∈([]:aH) from hp) (by simp),I.aY.kept hk,?_⟩
 .let⟨i,q1,q2⟩:=NS e2
  let⟨q3,q4⟩:=S.tL j i x q1 e1;let hm:=YL q4;let oB:=S.free _ hm Y;let⟨m,_,hl⟩:=I.loc
  let NV:sv X.env.scope x:=by
   rcases oB with h|h
   .exact .inr (.inl h)
   .exact .inr (.inr h)
  let⟨u,ru,lk⟩:=hl i x v q3 q2 NV;refine⟨u,ru,?_⟩
  let nl:X.env.kindOf x≠U .local:=by
   rcases oB with h|h
   .ext z;rw[h] at z;cases z
   .ext z;rw[h] at z;cases z
  rcases lk with⟨k,_⟩|⟨_,c,ec,hc⟩
  .exact absurd k nl
  .let⟨c',Fw⟩:=c2 (x,.free) hm Y
   let Fy:=c1 _ _ Fw;rw[ec] at Fy;cases Fy;let nc:(x,Y_)∉scope.names:=λz=>by let:=S.cell _ z Y;rw[show scope.names.lookup x=U .free from q4] at this;cases this
   refine .inr ⟨?_,c,(zr nc).trans Fw,?_⟩
   .let z:(relabel scope X.env).names.lookup x=_:=zm (env:=X.env) q4
    show(relabel scope X.env).names.lookup x=U .cell\/(relabel scope X.env).names.lookup x=U .free;rw[z];split
    .exact .inl Y
    .exact .inr Y
   .let⟨o,e,d⟩:=hc
    exact⟨o,hk _ _ e,d⟩
 .rcases qW e with e|⟨e,_⟩
  .exact I.bU x c (c1 _ _ e)
  .exact I.aY.fresh (q3l e)
 .unfold iQ
  rw[pR];calc S.len
theorem NW{fp:-O}{d:BD}{it l:O}{tn:Nat->I->Prop}{J:It}{R:Result->B->Prop}{Q:VK}{H1:Hp}{s1:B}{τ:St}(hc:X.calm=θ)
  (hg:JG (cK X scope Nb d) tg (g d)) (hf:JF (cK X scope Nb d) ifs (tf d)) (he:JE (cK X scope Nb d) elt (te d)) (T:Turn X.prog X.w X.K tg J fp it tn)
  (WN:d.fp=fp) (I1:Inv (cK X scope Nb d) [] τ H1 s1) (fU:tn 0 s1.heap) (FA:∀b∈fp,bM (cK X scope Nb d) [] H1 b)
  (W:Nat->Nat->St->Hp->Prop) (w0:∃m,W 0 m τ H1)
  (turn:∀i m τ H,W i m τ H->(J.stop i H/\Q (.ref l) H)\/(J.go i H/\∃N:St->Hp->Prop,(∀τ' H',N τ' H'->∃m',m'<m/\W (i+1) m' τ' H')/\∀x H',J.qM i H x H'->g d x τ H' fun τ2 H2=>tf d τ2 H2 λb H3 =>
   if b=θ then te d τ2 H3 λy H4=>∃ys,H4 l=U (.lst ys)/\↑ys<sizeLine/\N τ2 (upd H4 l (.lst (ys++[y]))) else N τ2 H3))
  (fin:∀τ' H' s',Inv (cK X scope Nb d) [] τ' H' s'->Q (.ref l) H'->R (.ok .next) s') :
  codeAny (S X.prog X.w) X.A (.compStart (.ListComp elt [⟨tg,iter,ifs,0⟩] scope pos) 0 (.ref it) (.ref l) (compEnvC scope d.cl d.C X.env)) R s1:=by
 let iZ:∀{H':Hp},(∀b∈fp,H' b=Z)->∀b∈fp,bM (cK X scope Nb d) [] H' b:=λhn b hb=>⟨hn b hb,(FA b hb).2⟩
 let loop:codeAny (S X.prog X.w) X.A (.compLoop (.ListComp elt [⟨tg,iter,ifs,0⟩] scope pos) 0 (.ref it) (.ref l) (compEnvC scope d.cl d.C X.env)) R s1:=by
  let⟨m0,w0⟩:=w0;calc NL (λn s'=>∃i τ' H',Inv (cK X scope Nb d) [] τ' H' s'/\tn i s'.heap/\(∀b∈fp,H' b=Z)/\W i n τ' H') ?_ m0 ⟨0,τ,H1,I1,fU,λb hb=>(FA b hb).1,w0⟩;ext n s3 ⟨i,σ3,H3,I3,qN,sP,w3⟩;rcases turn i n σ3 H3 w3 with⟨stop,qn⟩|⟨go,N,hN,step⟩
  .refine bg (T.done (cK X scope Nb d) Y Y Y hc i [] s3 σ3 H3 (λ_ _=>False) I3 (iZ sP) qN stop) ?_;ext r s4 ⟨hr,I4⟩
   subst hr;exact fin σ3 H3 s4 I4 qn
  .refine bg (T.item (cK X scope Nb d) Y Y Y hc i [] s3 σ3 H3 (λ_ _=>False) I3 (iZ sP) qN go) ?_;ext r s4 ⟨u,hr,h4⟩
   subst hr;calc bg h4 ?_;ext _ s5 ⟨x,H5,I5,r5,y5,pE,yD⟩;let yE:=I5.pinned (iZ yD) (T.obj _ _ pE);refine bg (hg _ s5 σ3 H5 x u _ yE r5 (step x H5 y5)) ?_;ext _ s6 ⟨σ6,H6,I6,q6⟩
   let again:∀{σ7:St}{H7:Hp}{s7:B}{m':Nat},Inv (cK X scope Nb d) ([]++sO fp s5.heap) σ7 H7 s7->m'<n->W (i+1) m' σ7 H7->∃m,m<n/\∃i σ' H',Inv (cK X scope Nb d) [] σ' H' s7/\tn i s7.heap/\(∀b∈fp,H' b=Z)/\W i m σ' H':=λ{σ7 H7 s7 m'} I7 hm w7=>by
    calc⟨m',hm,i+1,σ7,H7,I7.eB,T.keep _ _ _ pE λb hb o e=>(I7.pin (b,o) (XR _ (XR _ (vH hb e)))).1,λb hb=>?_,w7⟩;let⟨o,e,d⟩:=T.obj _ _ pE b hb;exact(I7.pin (b,o) (XR _ (XR _ (vH hb e)))).2.1
   refine bg (hf _ s6 σ6 H6 _ I6 q6) λok s7 h0_=>el3 h0_ λH7 I7 q7=>?_
   cases ok with
   |false =>
    rw[WK Ya] at q7 ⊢;let⟨m',hm,w7⟩:=hN _ _ q7;exact again I7 hm w7
   |true =>
    rw[XI Y] at q7 ⊢;calc bg (he _ s7 σ6 H7 _ I7 q7) ?_;ext y s8 ⟨yv,H8,I8,r8,ys,hy,hz,q8⟩;let⟨m',hm,w8⟩:=hN _ _ q8;calc bg (vR _ s8 σ6 H8 (.ref l) [yv] (.ref l) [y] (λ_ H9=>H9=upd H8 l (.lst (ys++[yv]))) I8 Y (.cons r8 .nil) ⟨l,ys,yv,Y,Y,hy,hz,Y⟩) ?_;ext _ s9 ⟨_,H9,I9,_,e9⟩;subst e9;exact again I9 hm w8
 calc codeAny_compStart_list loop (T.self _ 0 s1 _ _ fU loop)
theorem NX{fp:-O}{d:BD}{τ:St}{H1 H':Hp}{s1 s':B}(I1:Inv X pins σ H1 s1)(hs:d.s=s1)(hH:d.H=H1)(hd:d.fp=fp)(hf:∀b∈fp,bM X pins H1 b)(J:Inv (cK X scope Nb d) [] τ H' s'):Inv X pins σ H' s':=by
 subst hs hH hd;calc I1.kU (ch:=d.fp) J.os J.base J.aY J.bare λb hb=>⟨(hf b hb).2.2.2.1,(hf b hb).2.1,(hf b hb).2.2.2.2.1,(hf b hb).2.2.2.2.2⟩
theorem FC{use:Option (L->Sem Unit)}{P:bc}{Q:VK}(hc:X.calm=θ)(S:vV X scope Nb cp)(hi:JI X tg iter wi)(hg:∀d,JG (cK X scope Nb d) tg (g d))(hf:∀d,JF (cK X scope Nb d) ifs (tf d))(he:∀d,JE (cK X scope Nb d) elt (te d))
  (hs:∀x,foldedSetIterable iter X.env x=pure x) (I:Inv X pins σ H s) (h:tM wi cp g tf te σ H Q)
  (fin:∀(l C:O)(H':Hp)(s':B)(m:π->Option L),Inv X pins σ H' s'->bM X pins H' C->(∀p c,X.env.cells.lookup p=U c->c≠C)->s'.heap.Ns C m->Q (.ref l) H'->compPost (ς X.prog X.w) X.A X.xe use P (.ref l) C (.ok .next) s') :
  G (ς X.prog X.w) X.A (comprehension (.ListComp elt [⟨tg,iter,ifs,0⟩] scope pos) scope X.env (firstIterPos [⟨tg,iter,ifs,0⟩] pos) (newList []) ι (eval iter X.env) use) P X.xe s:=by
 let⟨cl,NY,c1,c2⟩:=Ft (scope:=scope) (env:=X.env) λy hy kC=>by
  rcases S.free y hy kC with z|z
  .exact I.ok.has _ (.inl z)
  .exact I.ok.has _ (.inr z)
 calc wpAny_comprehension_free (cl:=cl) Y hs NY S.kind S.names (bg (hi pins s σ H _ I h) λv s1 h1=>bg h1 λyA s2 h2=>?_);let⟨it,fp,tn,J,H2,e,I2,T,oj,f2,q2⟩:=h2;subst e;calc Yu ?_;let hl:H2 ⇑s2=Z:=I2.fresh;let I3:Inv X pins σ (upd H2 ⇑s2 (.lst [])) {s2 with heap:=s2.heap.push {cls:=.type "list",data:=.seq ([]:-L).toArray}}:=I2.b9 (t':=s2.toks) (ys:=[]) .nil (YD _);let k3:∀b o,s2.heap.get? b=U o->(s2.heap.push {cls:=.type "list",data:=.seq ([]:-L).toArray}).get? b=U o:=λb o e=>zk _ e
 let f3:∀b∈fp,bM X pins (upd H2 ⇑s2 (.lst [])) b:=λb hb=>by
  let⟨o,e,_⟩:=T.obj _ _ oj b hb;calc⟨?_,(f2 b hb).2⟩;rw[aZ (XQ (WJ e))];exact(f2 b hb).1
 generalize NZ:upd H2 ⇑s2 (.lst [])=H3 at I3 f3;generalize N3:({s2 with heap:=s2.heap.push {cls:=.type "list",data:=.seq ([]:-L).toArray}}:B)=s3 at I3;let FD:∀b o,s2.heap.get? b=U o->s3.heap.get? b=U o:=by rw[<-N3];exact k3
 let o3:∀b∈fp,∃o,s3.heap.get? b=U o:=λb hb=>let⟨o,e,_⟩:=T.obj _ _ oj b hb;⟨o,FD b o e⟩;calc NO ?_;let k4:∀b o,s3.heap.get? b=U o->(pushCells (s3.heap.push {cls:=.type "dict",data:=.dict #[]}) scope.names).get? b=U o:=λb o e=>q30 _ _ _ _ (zk _ e);let tO:(pushCells (s3.heap.push {cls:=.type "dict",data:=.dict #[]}) scope.names).Ns ⇑s3 (λx=>([]:-(π×L)).reverse.lookup x):=(Heap.Ns.new s3.heap (.type "dict")).keeps (q30 _ _)
 let I4:=NU (Nb:=Nb) (tk:=s3.toks) S I3 f3 o3 c1 c2 tO k4 λx c e=>by
  let hz:(s3.heap.push {cls:=.type "dict",data:=.dict #[]}).objs.size=⇑s3+1:=Zz ..;let e':(cellsFrom (s3.heap.push {cls:=.type "dict",data:=.dict #[]}).objs.size scope.names cl).lookup x=U c:=by rw[hz];exact e
  calc zt (λu c q=>?_) e';let⟨v,o,g1,g2⟩:=I3.cell u c (c1 _ _ q);exact⟨v,o,zk _ g1,g2⟩
 generalize N4:pushCells (s3.heap.push {cls:=.type "dict",data:=.dict #[]}) scope.names=h₁ at k4 tO I4 ⊢;let⟨W,w0,turn⟩:=q2 ⟨tN scope s3 cl,⇑s3,s3,H3,fp⟩ ⇑s2 hl;rw[NZ] at w0;refine NW (d:=⟨tN scope s3 cl,⇑s3,s3,H3,fp⟩) (fp:=fp) (tn:=tn) (J:=J) (Q:=Q) hc (hg _) (hf _) (he _) T Y I4 (T.keep _ _ _ oj λb hb o e=>k4 b o (FD b o e)) (λb hb=>?_) W w0 turn fun τ' H' s' I5 q5=>?_
 .let⟨o,e⟩:=o3 b hb
  refine⟨(f3 b hb).1,XQ (WJ e),λz=>?_,.inl hb,λx c ec=>?_,λp hp=>absurd (show p∈([]:aH) from hp) (by simp)⟩
  .rcases XJ.mp (I3.gM b z) with r|r
   .exact (f3 b hb).2.1 r
   .exact (f3 b hb).2.2.1 r
  .rcases qW ec with q|⟨q,_⟩
   .exact (f3 b hb).2.2.2.2.1 x c (c1 _ _ q)
   .let zu:=WJ e
    ext z;subst z;exact absurd (q3m q) (q65.mpr (Zx zu))
 .let I6:Inv X pins σ H' s':=NX I3 Y Y Y f3 I5
  let⟨m,hn,_⟩:=I5.loc;let fC:bM X pins H' ⇑s3:=I3.iX (Fm _) I5.free;calc fin _ _ _ _ m I6 fC (λp c e=>fC.2.2.2.2.1 p c e) hn q5
theorem FE(cp:-(Option Nat))(Nb:-J)(hc:X.calm=θ)(hi:JI X tg iter wi)(hg:∀d,JG (cK X scope Nb d) tg (g d))(hf:∀d,JF (cK X scope Nb d) ifs (tf d))(he:∀d,JE (cK X scope Nb d) elt (te d))
  (hk:‹scope.kind=.function›) (ho:autoParam (k6 X.N X.env.scope scope Nb cp=θ) qz2._auto_1) (hs:‹∀x,foldedSetIterable iter X.env x=pure x›) :
  JE X (.ListComp elt [⟨tg,iter,ifs,0⟩] scope pos) (tM wi cp g tf te):=by
 calc⟨?_⟩;ext pins s σ H Q I h;rw[eval_ListComp];calc FC (use:=none) hc (x1y hk ho) hi hg hf he hs I h λl C H' s' m I' fC hcc hn q=>⟨m,hn,λh' tP=>⟨.ref l,H',?_,Y,q⟩⟩;calc I'.turned (t':=s'.toks) (λb o hb e=>(tP.2 b hb).trans e) fC.1 fC.2.1 fC.2.2.2.1 fC.2.2.2.2.1 fC.2.2.2.2.2
theorem N5(cp:-(Option Nat))(Nb:-J){i:Nat}{x:J}{pos' iz:y}(hN:X.N.Nodup)(hi:X.N[i]?=U x)(hx:Loc X.env.scope x)(hc:X.calm=θ)(hit:JI X tg iter wi)(hg:∀d,JG (cK X scope Nb d) tg (g d))(hf:∀d,JF (cK X scope Nb d) ifs (tf d))(he:∀d,JE (cK X scope Nb d) elt (te d))
  (hk:‹scope.kind=.function›) (ho:autoParam (k6 X.N X.env.scope scope Nb cp=θ) qz2._auto_1) (hs:‹∀x,foldedSetIterable iter X.env x=pure x›)
  (tQ:‹swapsWith (.ListComp elt [⟨tg,iter,ifs,0⟩] scope pos) (U (.Name x pos')) iz.line X.env=pure θ›)
  (lR:autoParam (gK X x) qz1._auto_1) :
  JS X (.Assign [.Name x pos'] (.ListComp elt [⟨tg,iter,ifs,0⟩] scope pos) iz) (jU (tM wi cp g tf te) (pD i)):=by
 calc⟨?_⟩;ext pins s σ H D I h;rw[exec_Assign_Name_used _ _ _ _ tQ];calc tH (Z9 (tH ?_));show G _ X.A (do let _ <- comprehension (.ListComp elt [⟨tg,iter,ifs,0⟩] scope pos) scope X.env _ (newList []) ι (eval iter X.env) (U (assign (.Name x pos') X.env))) _ _ s;calc tH (bg (FC (use:=U (assign (.Name x pos') X.env)) (P:=λ_ s'=>SP X pins D .next s') hc (x1y hk ho) hit hg hf he hs I h λl C H' s' m I' fC hcc hn q=>?_) λ_ s' hq=>NH (NH hq));show G _ X.A (assign (.Name x pos') X.env (.ref l)) _ _ s';refine q3a (Er I' hN hi hx (v:=.ref l) Y (λi9 N6 ⟨a,sb,ha⟩=>?_) lR)
 let nC:C≠a:=by
  rcases ha with e|e
  .rw[e];exact fC.2.1
  .exact Zl (hcc _ _ e)
 calc⟨m,hn.sameBut sb nC,λh' tP=>⟨_,H',?_,q⟩⟩;calc N6.turned (t':=i9.toks) (λb o hb e=>(tP.2 b hb).trans e) fC.1 fC.2.1 fC.2.2.2.1 fC.2.2.2.2.1 fC.2.2.2.2.2
end
section
variable{g:TG}{tf:TT}{te:TE}
end
section
variable{X:Cx}{pins:aH}{σ:St}{H:Hp}{s:B}{h':I}{T:O}{o:HO}{ch:-O}{t':Nat}
theorem Inv.iA(I:Inv X pins σ H s)(hf:∀b∈ch,bM X pins H b)(k:∀b u,b∉ch->s.heap.get? b=U u->h'.get? b=U u)(hT:⇑s<=T)(new:aU X.prog X.w (upd H T o) h' T o):
  Inv X pins σ (upd H T o) {s with heap:=h',toks:=t'}:=by
 let hn:H T=Z:=I.aY.fresh hT;let oa:∀b u,H b=U u->b∉ch:=λb u e hb=>by rw[(hf b hb).1] at e;cases e
 refine I.step (g':=s.gens) (d':=s.drawn) (ch:=ch) (λb hb=>⟨(hf b hb).2.2.2.1,(hf b hb).2.1,(hf b hb).2.2.2.2.1,(hf b hb).2.2.2.2.2⟩) (λb u _ _ hc e _=>k b u hc e) (λb u _ _ hc e _=>⟨u.slots,k b u hc e⟩)
  (λb u _ e n=>by rw[aZ (XQ (XN (WJ e) hT))];calc n) (λb u hc e=>⟨u,k b u hc e⟩) (λb xs e=>by rw[aZ (cR e hn)];calc e)
  (λb u xs e=>by rw[aZ (cR e hn)];calc e) (λb ps e=>⟨#[],by rw[aZ (cR e hn),e];simp⟩) (λb _ u _ e hc=>k b u hc e) (λm hm=>?_) (λb u e=>?_) I.bare
 .let⟨u,es,ep,ho,r⟩:=hm
  exact⟨u,es,ep,k _ u (λhb=>(hf _ hb).2.1 Y) ho,r⟩
 .by_cases hb:b=T
  .subst hb;rw[bK] at e;cases e;exact new
  .rw[aZ hb] at e
   refine(I.aY b u e).eW (λc v hc q=>k c v ?_ q) (λc q=>by rw[aZ (cR q hn)];calc q) λc xs q=>by rw[aZ (cR q hn)];exact q
   rcases hc with z|z
   .rw[z];exact oa b u e
   .calc oa c _ z
end
noncomputable def qX(K:vS)(a:O):It :=
 ⟨λi H=>∃xs x,bE K H a xs/\xs[i]?=U x,λi H x H'=>∃T v,x=.ref T/\H T=Z/\H'=upd H T (.tup [.int (i:Nat),v])/\∀xs,bE K H a xs->xs[i]?=U v,λi H=>∃xs,bE K H a xs/\↑xs<=i⟩
theorem FF{P:t}{w:ω}{K:vS}{elts:-M}{x1}{tp:y}(a e it:O)(ja:e≠it):
  Turn P w K (.Tuple elts x1 tp) (qX K a) [e,it] e (λi h=>(∃old,IsEnum h e it (i:Nat) old)/\h.IsListIter it a i) where
 mem:=by simp
 obj:=λi h st b hb=>by
  let⟨⟨old,he⟩,o,hi,hc,hd⟩:=st;rcases XJ.mp hb with rfl|hb
  .exact⟨_,he,λv z=>by cases z⟩
  .let z:b=it:=by simpa using hb
   subst z;exact⟨o,hi,λv z=>by rw[hd] at z;cases z⟩
 keep:=λi h h' st k=>by
  let⟨⟨old,he⟩,hi⟩:=st;exact⟨⟨old,k e (by simp) _ he⟩,hi.at λo q=>k it (by simp) o q⟩
 item:=by
  ext X hP hw hK hc i pins s σ H E I hf st hg;subst hP hw hK;let⟨⟨old,he⟩,hi⟩:=st;let⟨xs,x,hq,hx⟩:=hg;let⟨au,rv,p,hz⟩:=I.list hq;let⟨u,hu,ru⟩:=rv.get hx;calc wpAny_pyNext_enum_item he hi p.isList (x:=u) hu⁻¹ ja λh1 lP zv tR hsz hk=>⟨_,Y,?_⟩;calc q1m lP λh2 vW iY=>?_;let hT:⇑s≠e:=ZZ (WJ he);let mi:h2.get? ⇑s=U {cls:=.type "tuple",data:=.seq #[.int i s.toks,u]}:=(iY.2 _ hT).trans tR
  let k2:∀b o,b∉[e,it]->s.heap.get? b=U o->h2.get? b=U o:=λb o hb q=>by
   let tT:b≠e:=λz=>hb (by simp[z]);let iy:b≠it:=λz=>hb (by simp[z]);exact(iY.2 _ tT).trans (hk b o tT iy q)
  let hn:H ⇑s=Z:=I.aY.fresh (Fm _);refine⟨.ref ⇑s,upd H ⇑s (.tup [.int i,x]),I.iA (ch:=[e,it]) (t':=s.toks+1) hf k2 (Fm _) ?_,Y,⟨_,x,Y,hn,Y,λys hy=>by rw[I.iq hy hq];calc hx⟩,⟨⟨u,?_⟩,?_⟩,λb hb=>?_⟩
  .exact⟨by show 2<=sizeLine;decide,[.int i s.toks,u],.cons ⟨_,Y⟩ (.cons ru .nil),_,mi,Y,_,Y⟩
  .let e3:((i:Int)+1)=(((i+1:Nat)):Int):=by symm
   rw[e3] at vW;exact vW
  .exact zv.at λo q=>(iY.2 _ (Zl ja)).trans q
  .let:b<⇑s:=by
    let⟨o,q,_⟩:=hi;rcases XJ.mp hb with rfl|hb
    .exact WJ he
    .let z:b=it:=by simpa using hb
     subst z;exact WJ q
   rw[aZ (XQ this)];exact(hf b hb).1
 done:=by
  ext X hP hw hK hc i pins s σ H E I hf st hg;subst hP hw hK;let⟨⟨old,he⟩,hi⟩:=st;let⟨xs,hq,hx⟩:=hg;let⟨au,rv,p,hz⟩:=I.list hq;let hl:=↑rv;calc wpAny_pyNext_enum_end (I.ok.hd hc) he hi p.isList (by simp;symm) λh1 eb=>⟨Y,?_⟩;let⟨f0,f1,f2,f3,f4,f5⟩:=hf it (by simp);exact I.turned (t':=s.toks) (λb o hb q=>eb b o hb q) f0 f1 f3 f4 f5
 self:=λA i s Q E st h=>by
  let⟨⟨old,he⟩,hi⟩:=st;let hT:s.TypeIs (.ref e) "enumerate" := ⟨_,he,Y⟩;calc ZF he h
section
variable{X:Cx}{elts:-M}{x1:Nat}{tp:y}
def FG(K:vS)(ta:TA):TI:=fun σ H R=>ta σ H λvs H1=>∃a,vs=[.ref a]/\(∃xs,bE K H1 a xs)/\R (qX K a) H1
theorem FH:bootBuiltins "enumerate" = U (.type "enumerate"):=by decide +kernel
theorem FI{a:M}{ta:TA}{p pos:y}(hg:Gl X "enumerate")(hm:X.mg "enumerate" = Z)(ha:JA X [a] ta)(hs:‹starEach [a] X.env=[(ι,eval a X.env)]›):
  JI X (.Tuple elts x1 tp) (.Call (.Name "enumerate" p) [a] [] pos) (FG X.K ta):=by
 calc⟨?_⟩;ext pins s σ H R I h;calc Call_ (oh I hg hm FH (Zh (bg (ha pos pins s σ H _ I h) λus s1 ⟨vs,H1,I1,r1,q1⟩=>?_) hs Y));let⟨l,e,⟨xs,hq⟩,q⟩:=q1;subst e
 cases r1 with
 |cons r rr =>
  cases rr
  cases r
  let⟨au,rv,p,hz⟩:=I1.list hq;calc q2w p.isList λh' he hi hsz hk=>?_;let I2:Inv X pins σ H1 {s1 with heap:=h'}:=I1.kept (t':=s1.toks) hk;calc ZF he ?_;refine⟨_,_,_,_,H1,Y,I2,FF l (⇑s1+1) ⇑s1 (q1L _),⟨⟨_,he⟩,hi⟩,λb hb=>?_,q⟩
  let hb':⇑s1<=b:=by
   rcases XJ.mp hb with rfl|hb
   .exact q0Y _
   .let z:b=⇑s1:=by simpa using hb
    rw[z];exact Fm _
  calc I1.iX hb' (I1.aY.fresh hb')
end
section
variable{X:Cx}{nm:J}{tp:y}
end
end L2
namespace L2
open PySem PySem.Spec PyProof.Rows PySem.W
open Builtin Builtin.ObjectAttr
section
variable{prog:t}{w:X}{A:q}{E:bc}{s:B}{K:Frag}{x D:O}{ox:Q}{WQ:Option Q}{name:J}
variable{h:I}{g:Array GenState}{d:Drawn}{t:Nat}{os:OsState}{nm q:J}{C N:O}{bs bm WR:-L}{j4:Bool}{sn:-J}{sub:-L}{ab:Bool}{col:Option Bool}{dd:Option O}{k0 k1 k2 k3 k5:Option L}{B newId zw:String}
end
end L2
namespace L2
open PySem PySem.Spec PyProof.Rows
noncomputable def gr(a C:O)(dx:Option O):HO:=.ext λh=>∃t,h.get? a=U ⟨.ref C,dx,.fields #[.ref t,.none,.none,.none,.bool ι,.none],#[]⟩
theorem N7{P:ψ}{w:X}{H:Hp}{h:I}{a C t:O}{dx:Option O}(e:h.get? a=U ⟨.ref C,dx,.fields #[.ref t,.none,.none,.none,.bool ι,.none],#[]⟩):aU P w H h a (gr a C dx) :=
 ⟨⟨t,e⟩,⟨_,e⟩,λh1 h2 ⟨t',e1⟩ k↦⟨t',k _ e1⟩⟩
theorem N8{P:ψ}{w:X}{H:Hp}{h:I}{a C:O}{dx:Option O}(x:aU P w H h a (gr a C dx)):∃t,h.get? a=U ⟨.ref C,dx,.fields #[.ref t,.none,.none,.none,.bool ι,.none],#[]⟩:=x.1
def tU(K:vS)(N:O)(name:J)(r:Option L):Prop:=∃oc od es ep sl,K.lookup N=U ⟨oc,od,.dict es ep,sl⟩/\(es.all λe=>match e.key with|.str _ _=>θ|_=>ι)=θ/\nsFind es name=r
theorem tU.ns{K:vS}{N:O}{name:J}{r:Option L}(x:tU K N name r){h:I}(k:K.In h):∃m,h.Ns N m/\m name=r:=by
 let⟨oc,od,es,ep,sl,l,hk,e⟩:=x;calc⟨λn=>nsFind es n,⟨_,es,ep,k _ _ l,Y,λen vX=>?_,λ_=>Y⟩,e⟩;let:=(Array.all_eq_true'.mp hk) en vX;split at this
 .rename_i s t q;exact⟨s,t,q⟩
 .cases this
noncomputable abbrev pT:-L:=[.type "ValueError",.type "Exception",.type "BaseException",.type "object"]
inductive cI (K:vS):-L->Prop
 |base:cI K pT
 |own {A:O} {c0:L} {dd:Option O} {cd:ClassData} {sl:Array (Option L)} {tl:-L}:K.lookup A=U ⟨c0,dd,.cls cd,sl⟩->tU K cd.ns "__init__" Z->cI K tl->cI K (.ref A::tl)
theorem cI.tail{K:vS}{l:-L}(x:cI K l){h:I}(k:K.In h):OwnTail h pT l:=by
 induction x with
 |base=>exact .base
 |own l n _ ih =>
  let⟨m,hn,e⟩:=n.ns k;calc .own (k _ _ l) hn e ih
structure tV(K:vS)(C:O)(k8:Option L):Prop where
 FJ:∃(nm q:J)(N:O)(bs bm:-L)(j4:Bool)(sn:-J)(sub:-L)(ab:Bool)(col:Option Bool)(dd:Option O)(k0 k1 k2 k3 k5:Option L),
  K.lookup C=U (excClassObj nm q C N bs bm j4 sn sub ab col dd k0 k1 k2 k3 k5 "ValueError.__new__")/\cI K bm/\tU K N "__init__" k8
 kp:Yt K (.ref C)=θ
section
variable{X:Cx}{pins:aH}{σ:St}{H:Hp}{s:B}{C f:O}{CX:jW}{k:Nat}{fd:FuncData}{ps:-J}{sp:Sp}{E:XK}{x:J}{p pos pos':y}{e o value:M}{es:-M}{ta tv:TE}{t:TA}
theorem FK{P:ψ}{w:ω}{H:Hp}{h:I}{a:O}{o:HO}(x:aU P w H h a o):∃ob,h.get? a=U ob:=by
 cases o with
 |lst xs=>let⟨_,_,_,_,e⟩:=x;exact⟨_,e⟩
 |tup xs=>let⟨_,_,_,p⟩:=x;let⟨o,e,_⟩:=p;exact⟨_,e⟩
 |dK kvs=>let⟨_,_,_,_,o,_,_,e,_⟩:=x;exact⟨_,e⟩
 |dT kvs=>let⟨_,_,_,_,o,_,_,e,_⟩:=x;exact⟨_,e⟩
 |set S n=>let⟨o,_,_,_,e,_⟩:=x;exact⟨_,e⟩
 |ins C dx fs=>let⟨_,_,_,e,_⟩:=x;exact⟨_,e⟩
 |own y=>exact x
 |xd fs=>let⟨_,⟨_,_,_,e,_⟩,_⟩:=x;exact⟨_,e⟩
 |rng lo hi=>let⟨_,_,_,e⟩:=x;exact⟨_,e⟩
 |frz ob u=>let⟨e,_⟩:=x;exact⟨_,e⟩
 |tbl ps=>exact⟨_,(show h.get? a=U _ from x)⟩
 |met f y=>exact⟨_,(show h.get? a=U _ from x)⟩
 |ext φ=>let⟨_,e,_⟩:=x;calc e
theorem Inv.oC{a:O}(I:Inv X pins σ H s)(hn:s.heap.get? a=Z):H a=Z:=by
 cases q:H a with
 |none=>rfl
 |some u =>
  let⟨o,ho⟩:=FK (I.aY a u q);rw[hn] at ho;cases ho
theorem Inv.tW{h':Α}{a:O}{u:HO}{t':Nat}(I:Inv X pins σ H s)(k:∀b u,s.heap.get? b=U u->h'.get? b=U u)(hn:s.heap.get? a=Z)(new:aU X.prog X.w (upd H a u) h' a u):
  Inv X pins σ (upd H a u) {s with heap:=h',toks:=t'}:=by
 let hf:=I.oC hn;let ne:∀b ob,s.heap.get? b=U ob->b≠a:=λb ob e z=>by rw[z,hn] at e;cases e
 refine I.un ⟨λb o q _ _ _=>k b o q,λb o q _ _ _=>⟨o.slots,k b o q⟩,λb o q n _=>by rw[aZ (ne b o q)];calc n,λb o q _=>⟨o,k b o q⟩,λb xs q=>by rw[aZ (cR q hf)];calc q,λb o xs q=>by rw[aZ (cR q hf)];calc q,λb ps q=>⟨#[],by rw[aZ (cR q hf),q];simp⟩,λb _ o _ q _=>k b o q⟩ λb o q=>?_
 by_cases hb:b=a
 .subst hb;rw[bK] at q;cases q;exact new
 .rw[aZ hb] at q
  calc(I.aY b o q).eW (λc v _ z=>k c v z) (λc z=>by rw[aZ (cR z hf)];calc z) λc xs z=>by rw[aZ (cR z hf)];calc z
theorem Inv.mL{h':Α}{a:O}{us:-L}(I:Inv X pins σ H s)(m:Heap.MadeExcOf s.heap h' a (.ref C) us):H a=Z/\Inv X pins σ (upd H a (gr a C Z)) {s with heap:=h'}:=by
 let⟨t,ht,_,_⟩:=m.there;calc⟨I.oC m.new,I.tW (t':=s.toks) m.keeps m.new (N7 ht)⟩
def zx(C:O)(t:TA):TE:=fun σ H Q=>t σ H λvs H1=>↑vs<=sizeLine/\∀a,H1 a=Z->Q (.ref a) (upd H1 a (gr a C Z))
theorem N9(M:tV X.K C Z)(hg:Gl X x)(hm:X.mg x=U (.ref C))(ha:JA X (e::es) t)(cV: ~~~(bL x))
  (he:‹cj X e es›) (cw:‹cF X pos es›) :
  JE X (.Call (.Name x p) (e::es) [] pos) (zx C t):=by
 calc⟨?_⟩;ext pins s σ H Q I h;calc ZJ (sA I hg hm ?_ cV);calc q0z (h₀:=X.base) I.ok.mod.jy M.kp (bg (ha pos pins s σ H _ I h) λus s1 ⟨vs,H1,I1,r,hz,q⟩=>⟨I1.dY,?_⟩) he cw;let⟨nm,q',N,bs,bm,j4,sn,sub,ab,col,dd,k0,k1,k2,k3,k5,l,T,n⟩:=M.FJ;let⟨mN,hN,hi⟩:=n.ns I1.dY;let⟨hp,g,d,tk,os⟩:=s1;calc wpAny_call_exc_subT PySem.F.excBase_ValueError (T.tail I1.dY) (I1.dY _ _ l) hN hi (λh' a hm=>?_) (by rw[Zr,<-↑r];calc hz);let⟨hf,I2⟩:=I1.mL hm;calc⟨.ref a,_,I2,Y,q a hf⟩
end
section
variable{X:Cx}
noncomputable def tX:V->Option L
 |.ty n=>U (.type n)
 |.ref a=>U (.ref a)
 |_=>Z
theorem N_{y:V}{u c:L}(r:RelV y u)(e:tX y=U c):u=c:=by
 cases y with
 |ty n=>cases e;exact r
 |ref a=>cases e;exact r
 |_=>cases e
theorem Oa:gO X (.builtin "isinstance") (λxs H Q=>∃x y c t b,xs=[x,y]/\tX y=U c/\eE X.K H x t/\Y9 X.K t c=U b/\Q (.bl b) H):=by
 ext pins s σ H xs us Q I rv h;let⟨x,y,c,t,b,rfl,hc,ty,e,q⟩:=h;let⟨u,w',rfl,rx,ry⟩:=rv.two;rw[N_ ry hc];calc MR I rx ty e λtk=>⟨.bl b,H,I.tok tk,Y,q⟩
end
theorem FL{K:vS}{a:O}{xs:-V}{g:TG}{tb:TS}{D:Ends}{σ:St}{H:Hp}(Pv:Nat->St->Hp->Prop)(h0:Pv 0 σ H)(hl:∀i σ H,i<=↑xs->Pv i σ H->bE K H a xs)
  (hs:∀i x T σ H,xs[i]?=U x->Pv i σ H->H T=Z->g (.ref T) σ (upd H T (.tup [.int (i:Nat),x])) fun σ2 H2=>tb {D with nx:=Pv (i+1),ct:=Pv (i+1),bk:=D.nx} σ2 H2) (hd:∀σ H,Pv ↑xs σ H->D.nx σ H) :
  ∃W:Nat->Nat->St->Hp->Prop,(∃m,W 0 m σ H)/\∀i m σ H,W i m σ H →
   ((qX K a).stop i H/\D.nx σ H)\/((qX K a).go i H/\∃N:St->Hp->Prop,(∀σ' H',N σ' H'->∃m',m'<m/\W (i+1) m' σ' H')/\∀x H',(qX K a).qM i H x H'->g x σ H' fun σ2 H2=>tb {D with nx:=N,ct:=N,bk:=D.nx} σ2 H2):=by
 calc⟨λi m σ H=>m=↑xs-i/\i<=↑xs/\Pv i σ H,⟨↑xs,by simp,YD _,h0⟩,?_⟩;ext i m σ H ⟨rfl,hi,p⟩;let q:=hl i σ H hi p
 by_cases fL:i<↑xs
 .refine .inr ⟨⟨xs,xs[i],q,by simp[fL]⟩,Pv (i+1),fun σ' H' p'=>⟨↑xs-(i+1),⋯,Y,fL,p'⟩,λx H' y=>?_⟩
  let⟨T,v,rfl,hT,rfl,y⟩:=y;exact hs i v T σ H (y xs q) p hT
 .let e:i=↑xs:=by symm
  subst e;calc .inl ⟨⟨xs,q,Fm _⟩,hd σ H p⟩
section
variable{g:TG}{tf:TT}{te:TE}{l:O}{τ0:St}{H0:Hp}{Q:VK}
end
section
variable{X:Cx}{es:-M}{te:TE}{t:TA}
theorem tY{c j p}(ha:JE X (.Constant c j p) te)(hr:JA X es t):JA X (.Constant c j p::es) (iP te t):=jV ha hr Y
theorem jc{x p}(ha:JE X (.Name x p) te)(hr:JA X es t):JA X (.Name x p::es) (iP te t):=jV ha hr Y
theorem j5{f a k p}(ha:JE X (.Call f a k p) te)(hr:JA X es t):JA X (.Call f a k p::es) (iP te t):=jV ha hr Y
theorem tZ{a p}(ha:JE X (.List a p) te)(hr:JA X es t):JA X (.List a p::es) (iP te t):=jV ha hr Y
theorem zy{a k p}(ha:JE X (.Tuple a k p) te)(hr:JA X es t):JA X (.Tuple a k p::es) (iP te t):=jV ha hr Y
theorem zz{a k p}(ha:JE X (.Subscript a k p) te)(hr:JA X es t):JA X (.Subscript a k p::es) (iP te t):=jV ha hr Y
end
inductive D where
 |non|bl (b:Bool)|int (i:Int)|str (x:J)|tup (xs:-D)|lst (xs:-D)
mutual
def Is (H:Hp):D->V->Prop
 |.non,v=>v=.non
 |.bl b,v=>v=.bl b
 |.int i,v=>v=.int i
 |.str x,v=>v=.str x
 |.tup ds,v=>∃a vs,v=.ref a/\H a=U (.tup vs)/\ah H ds vs
 |.lst ds,v=>∃a vs,v=.ref a/\H a=U (.lst vs)/\ah H ds vs
def ah (H:Hp):-D->-V->Prop
 |[],vs=>vs=[]
 |d::ds,vs=>∃v r,vs=v::r/\Is H d v/\ah H ds r
end
mutual
theorem Is.same {H H':Hp} (s:aO H H'):∀{d:D}{v:V},Is H d v->Is H' d v
 |.non,_,h=>h
 |.bl _,_,h=>h
 |.int _,_,h=>h
 |.str _,_,h=>h
 |.tup _,_,h=>by
  erw[Is] at h ⊢;let⟨a,vs,e,h1,h2⟩:=h;exact⟨a,vs,e,s _ _ h1,ah.same s h2⟩
 |.lst _,_,h=>by
  erw[Is] at h ⊢;let⟨a,vs,e,h1,h2⟩:=h;calc⟨a,vs,e,s _ _ h1,ah.same s h2⟩
theorem ah.same {H H':Hp} (s:aO H H'):∀{d:-D}{v:-V},ah H d v->ah H' d v
 |[],_,h=>h
 |_::_,_,h=>by
  erw[ah] at h ⊢;let⟨v,r,e,h1,h2⟩:=h;calc⟨v,r,e,Is.same s h1,ah.same s h2⟩
end
theorem ah.length{H:Hp}:∀{ds:-D}{vs:-V},ah H ds vs->↑vs=↑ds
 |[],_,h=>by erw[ah] at h;rw[h];rfl
 |_::_,_,h=>by
  erw[ah] at h;let⟨v,r,rfl,_,h2⟩:=h;rw[NG,NG,ah.length h2]
theorem ah.get{H:Hp}:∀{ds:-D}{vs:-V}{i:Nat}{v:V},ah H ds vs->vs[i]?=U v->∃d,ds[i]?=U d/\Is H d v
 |[],_,i,v,h,e=>by erw[ah] at h;rw[h] at e;simp at e
 |d::ds,_,i,v,h,e=>by
  erw[ah] at h;let⟨v',r,rfl,h1,h2⟩:=h
  cases i with
  |zero=>simp at e;subst e;exact⟨d,Y,h1⟩
  |succ i=>simp at e;simpa using ah.get h2 e
theorem ah.nil{H:Hp}:ah H [] []:=by erw[ah]
theorem ah.cons{H:Hp}{d:D}{ds:-D}{v:V}{vs:-V}(h:Is H d v)(r:ah H ds vs):ah H (d::ds) (v::vs):=by
 erw[ah];calc⟨v,vs,Y,h,r⟩
theorem ah.snoc{H:Hp}{d:D}{v:V}:∀{ds:-D}{vs:-V},ah H ds vs->Is H d v->ah H (ds++[d]) (vs++[v])
 |[],_,h,q=>by erw[ah] at h;subst h;exact .cons q .nil
 |_::_,_,h,q=>by
  erw[ah] at h;let⟨v',r,rfl,h1,h2⟩:=h;exact .cons h1 (ah.snoc h2 q)
mutual
noncomputable def dep:D->Nat
 |.tup ds=>bG ds+1
 |.lst ds=>bG ds+1
 |_=>0
noncomputable def bG:-D->Nat
 |[]=>0
 |d::ds=>max (dep d) (bG ds)
end
theorem zA:∀{ds:-D}{i:Nat}{d:D},ds[i]?=U d->dep d<=bG ds
 |[],i,d,e=>by simp at e
 |d'::ds,0,d,e=>by simp at e;subst e;erw[bG];exact Nat.le_max_left _ _
 |d'::ds,i+1,d,e=>by simp at e;erw[bG];calc Yi (zA e) (Nat.le_max_right _ _)
noncomputable def gR:D->String
 |.non=>"NoneType" | .bl _=>"bool" | .int _=>"int" | .str _=>"str" | .tup _=>"tuple" | .lst _=>"list"
theorem Is.ty{K:vS}{H:Hp}:∀{d:D}{v:V},Is H d v->eE K H v (.type (gR d))
 |.non,_,h=>by cases(show _=_ from h);exact .non
 |.bl b,_,h=>by cases(show _=_ from h);exact .bl b
 |.int i,_,h=>by cases(show _=_ from h);exact .int i
 |.str x,_,h=>by cases(show _=_ from h);exact .str x
 |.tup _,_,h=>by
  erw[Is] at h;let⟨a,vs,rfl,h1,_⟩:=h;exact .tup h1
 |.lst _,_,h=>by
  erw[Is] at h;let⟨a,vs,rfl,h1,_⟩:=h;calc .lst h1
noncomputable def eI(T c:String):Bool:=T==c||(T=="bool" && c=="int")
section
variable{K:vS}
theorem Ob:∀T∈["NoneType", "bool", "int", "str", "tuple", "list"],Y9 K (.type T) (.type "bool")=U (eI T "bool"):=by
 ext T hT;erw[XJ,Yh,q1e] at hT;rcases hT with rfl|rfl|rfl|rfl|rfl|rfl<;>kernel_rfl
theorem Oc:∀T∈["NoneType", "bool", "int", "str", "tuple", "list"],Y9 K (.type T) (.type "int")=U (eI T "int"):=by
 ext T hT;erw[XJ,Yh,q1e] at hT;rcases hT with rfl|rfl|rfl|rfl|rfl|rfl<;>kernel_rfl
theorem kit_tuple:∀T∈["NoneType", "bool", "int", "str", "tuple", "list"],Y9 K (.type T) (.type "tuple")=U (eI T "tuple"):=by
 ext T hT;erw[XJ,Yh,q1e] at hT;rcases hT with rfl|rfl|rfl|rfl|rfl|rfl<;>kernel_rfl
theorem Od:∀T∈["NoneType", "bool", "int", "str", "tuple", "list"],Y9 K (.type T) (.type "list")=U (eI T "list"):=by
 ext T hT;erw[XJ,Yh,q1e] at hT;rcases hT with rfl|rfl|rfl|rfl|rfl|rfl<;>kernel_rfl
theorem vY(d:D):gR d∈["NoneType", "bool", "int", "str", "tuple", "list"]:=by cases d<;>simp[gR]
end
section
variable{X:Cx}
theorem JE.weak{e:M}{t t':TE}(h:JE X e t)(k:∀σ H Q,t' σ H Q->t σ H Q):JE X e t':=⟨λpins s σ H Q I q=>h pins s σ H Q I (k σ H Q q)⟩
theorem JT.weak{e:M}{t t':TT}(h:JT X e t)(k:∀σ H Q,t' σ H Q->t σ H Q):JT X e t':=⟨λpins s σ H Q I q=>h pins s σ H Q I (k σ H Q q)⟩
theorem JA.weak{es:-M}{t t':TA}(h:JA X es t)(k:∀σ H Q,t' σ H Q->t σ H Q):JA X es t':=⟨λpos pins s σ H Q I q=>h pos pins s σ H Q I (k σ H Q q)⟩
theorem JS.weak{st:R}{t t':TS}(h:JS X st t)(k:∀D σ H,t' D σ H->t D σ H):JS X st t':=⟨λpins s σ H D I q=>h pins s σ H D I (k D σ H q)⟩
theorem c6.weak{st:-R}{t t':TS}(h:c6 X st t)(k:∀D σ H,t' D σ H->t D σ H):c6 X st t':=⟨λpins s σ H D I q=>h pins s σ H D I (k D σ H q)⟩
end
section
variable{κ:Type}[DecidableEq κ]
noncomputable def cz(kvs:-(κ×V))(k:κ):Option V:=(kvs.find? λkv=>l (kv.1=k)).map (·.2)
noncomputable def putK(kvs:-(κ×V))(k:κ)(v:V):-(κ×V) :=
 if(kvs.any λkv=>l (kv.1=k))=θ then kvs.map (λkv=>if kv.1=k then(kv.1,v) else kv) else kvs++[(k,v)]
theorem t4{p:κ×V}{r:-(κ×V)}{k:κ}(e:p.1=k):cz (p::r) k=U p.2:=by simp[cz,Z6,e]
theorem t5{p:κ×V}{r:-(κ×V)}{k:κ}(e:¬ p.1=k):cz (p::r) k=cz r k:=by simp[cz,Z6,e]
theorem zB(k:κ):∀kvs:-(κ×V),(kvs.any λkv=>l (kv.1=k))=(cz kvs k).isSome
 |[]=>Y
 |p::r=>by
  rw[ZQ]
  by_cases e:p.1=k
  .erw[t4 e,X7 e,q45,q20]
  .rw[t5 e,XO e,Bool.false_or];calc zB k r
theorem zC(kvs:-(κ×V))(k:κ)(v:V):↑(putK kvs k v)<=↑kvs+1:=by
 unfold putK;split
 .rw[pR];symm
 .rw[Fs,NG,Z5];symm
theorem Oe{kvs:-(κ×V)}{k:κ}(v:V)(h:cz kvs k=Z):putK kvs k v=kvs++[(k,v)]:=by
 unfold putK;rw[zB,h];calc WK (by decide)
theorem eg.fc{o:Option V}{u:Option L}(r:eg o u):o.isSome=u.isSome:=by
 cases o with
 |none=>cases u with
  |none=>rfl
  |some _=>exact(show False from r).elim
 |some _=>cases u with
  |none=>exact(show False from r).elim
  |some _=>rfl
theorem KV.val{kvs:-(κ×V)}{vs:-(κ×L)}(r:KV kvs vs)(k:κ):eg (cz kvs k) (valueAt vs k):=by
 unfold KV at r
 induction r with
 |nil=>exact ZI
 | @cons p q ps qs h t ih =>
  let⟨h1,h2⟩:=h
  by_cases e:p.1=k
  .let e':q.1=k:=h1.symm.trans e
   let b:valueAt (q::qs) k=U q.2:=by simp[valueAt,Z6,e']
   rw[t4 e,b];exact h2
  .let e':¬ q.1=k:=λz=>e (h1.trans z)
   let b:valueAt (q::qs) k=valueAt qs k:=by simp[valueAt,Z6,e']
   rw[t5 e,b];calc ih
theorem KV.any{kvs:-(κ×V)}{vs:-(κ×L)}(r:KV kvs vs)(k:κ):(kvs.any λkv=>l (kv.1=k))=vs.any λkv=>l (kv.1=k):=by
 unfold KV at r
 induction r with
 |nil=>rfl
 |cons h t ih=>rw[ZQ,ZQ,ih,h.1]
theorem KV.jd{kvs:-(κ×V)}{vs:-(κ×L)}(r:KV kvs vs)(k:κ){y:V}{u:L}(ry:RelV y u):
  KV (kvs.map λkv=>if kv.1=k then(kv.1,y) else kv) (vs.map λkv=>if kv.1=k then(kv.1,u) else kv):=by
 unfold KV at r ⊢
 induction r with
 |nil=>exact .nil
 | @cons p q ps qs h t ih =>
  rw[X0,X0];calc .cons ?_ ih;let⟨h1,h2⟩:=h
  by_cases e:p.1=k
  .rw[XI e,XI (h1.symm.trans e)];exact⟨h1,ry⟩
  .rw[WK e,WK (λz=>e (h1.trans z))];calc⟨h1,h2⟩
theorem KV.put{kvs:-(κ×V)}{vs:-(κ×L)}(r:KV kvs vs)(k:κ){y:V}{u:L}(ry:RelV y u):KV (putK kvs k y) (stored vs k u):=by
 unfold putK stored;rw[r.any k]
 by_cases e:(vs.any λkv=>l (kv.1=k))=θ
 .rw[XI e,XI e];exact r.jd k ry
 .rw[WK e,WK e];calc Paired.snoc r ⟨Y,ry⟩
theorem KV.length{kvs:-(κ×V)}{vs:-(κ×L)}(r:KV kvs vs):↑kvs=↑vs:=q2H r
end
theorem vZ{P:ψ}{w:X}{k:Key}{u:L}(r:RelV (kV k) u):(ik P w).is k u=θ:=by
 cases k with
 |inl i=>let⟨t,e⟩:=(show ∃t,u=Z8 i t from r);subst e;exact LB P w i t
 |inr x=>let⟨t,e⟩:=(show ∃t,u=q2t x t from r);subst e;calc LC P w x t
theorem FN{P:ψ}{w:X}:∀{ks:-Key}{us:-L},Vals (ks.map kV) us->ItemsAre (ik P w) ks us
 |[],_,r=>by rw[Zy] at r;cases r;exact .nil
 |k::ks,_,r=>by
  rw[X0] at r
  cases r with
  |cons h t=>calc .cons (vZ h) (FN t)
abbrev KT(H:Hp):-(-Key×V)->-(-Key×O×L)->Prop:=Paired λp q=>p.1=q.1/\H q.2.1=U (.tup (p.1.map kV))/\RelV p.2 q.2.2
theorem KT.val{H:Hp}{kvs:-(-Key×V)}{xs:-(-Key×O×L)}(r:KT H kvs xs)(k:-Key):eg (cz kvs k) ((atKey xs k).map (·.2)):=by
 induction r with
 |nil=>exact ZI
 | @cons p q ps qs h t ih =>
  let⟨h1,_,h2⟩:=h
  by_cases e:p.1=k
  .let e':q.1=k:=h1.symm.trans e
   let b:atKey (q::qs) k=U q.2:=by simp[atKey,Z6,e']
   rw[t4 e,b];exact h2
  .let e':¬ q.1=k:=λz=>e (h1.trans z)
   let b:atKey (q::qs) k=atKey qs k:=by simp[atKey,Z6,e']
   rw[t5 e,b];calc ih
theorem KT.jd{H:Hp}{kvs:-(-Key×V)}{xs:-(-Key×O×L)}(r:KT H kvs xs)(k:-Key){y:V}{u:L}(ry:RelV y u):
  KT H (kvs.map λkv=>if kv.1=k then(kv.1,y) else kv) (xs.map (putAt k u)):=by
 induction r with
 |nil=>exact .nil
 | @cons p q ps qs h t ih =>
  rw[X0,X0];calc .cons ?_ ih;let⟨h1,h2,h3⟩:=h;unfold putAt
  by_cases e:p.1=k
  .rw[XI e,XI (h1.symm.trans e)];exact⟨h1,h2,ry⟩
  .rw[WK e,WK (λz=>e (h1.trans z))];calc⟨h1,h2,h3⟩
theorem KT.put{H:Hp}{kvs:-(-Key×V)}{xs:-(-Key×O×L)}(r:KT H kvs xs)(k:-Key){b:O}{y:V}{u:L}(hb:H b=U (.tup (k.map kV)))(ry:RelV y u):
  KT H (putK kvs k y) (storedH xs k b u):=by
 let e:(kvs.any λkv=>l (kv.1=k))=(atKey xs k).isSome:=by
  rw[zB,(r.val k).fc,q3n]
 unfold putK storedH;rw[e]
 by_cases q:(atKey xs k).isSome=θ
 .rw[XI q,XI q];exact r.jd k ry
 .rw[WK q,WK q];calc Paired.snoc r ⟨Y,hb,ry⟩
theorem KT.keeps{H H':Hp}{kvs:-(-Key×V)}{xs:-(-Key×O×L)}(r:KT H kvs xs)(ht:∀b ys,H b=U (.tup ys)->H' b=U (.tup ys)):KT H' kvs xs :=
 Paired.pv r λ_ _ z=>⟨z.1,ht _ _ z.2.1,z.2.2⟩
section
variable{P:t}{w:X}{H:Hp}{h:I}{a:O}
theorem FO{u:HO}(ok:c5 P w H h)(e:Rd H a u):aU P w H h a u:=e.ok ok
theorem FP{kvs:-(Key×V)}(ok:c5 P w H h)(e:Rd H a (.dK kvs)):↑kvs<=sizeLine/\(a==sysModules)=ι/\∃vs,KV kvs vs/\h.DictOf (ik P w) a vs :=
 show aU P w H h a (.dK kvs) from FO ok e
theorem v3{kvs:-(Key×V)}(ok:c5 P w H h)(e:H a=U (.dK kvs)):↑kvs<=sizeLine/\(a==sysModules)=ι/\∃vs,KV kvs vs/\h.DictOf (ik P w) a vs:=FP ok (.inl e)
theorem zD{ks:-Key}(ok:c5 P w H h)(e:H a=U (.tup (ks.map kV))):(tupleKind (ik P w)).is h ks a:=by
 let⟨_,au,r,o,h1,h2,n,h3⟩:=(show aU P w H h a (.tup (ks.map kV)) from ok a _ e);calc⟨o,au.toArray,n,h1,h2,h3,by simpa using FN r⟩
theorem FQ{kvs:-(-Key×V)}(ok:c5 P w H h)(e:Rd H a (.dT kvs)):↑kvs<=sizeLine/\(a==sysModules)=ι ∧
  ∃xs,KT H kvs xs/\h.DictOfH (tupleKind (ik P w)) a xs:=by
 let⟨z,y,xs,r,o,es,ep,h1,h2,h3,h4,h5⟩:=(show aU P w H h a (.dT kvs) from FO ok e);refine⟨z,y,xs,r,o,es,ep,h1,h2,h3,h4,λx hx=>?_,h5⟩
 let all:∀{l:-(-Key×V)}{m:-(-Key×O×L)},KT H l m->∀x∈m,(tupleKind (ik P w)).is h x.1 x.2.1:=by
  ext l m q
  induction q with
  |nil=>ext x hx;exact nomatch hx
  | @cons p q ps qs hq t ih =>
   ext x hx;rcases XJ.mp hx with e|hx
   .subst e
    exact zD ok (by rw[<-hq.1];calc hq.2.1)
   .exact ih x hx
 calc all r x hx
theorem Of{kvs:-(-Key×V)}(ok:c5 P w H h)(e:H a=U (.dT kvs)):↑kvs<=sizeLine/\(a==sysModules)=ι ∧
  ∃xs,KT H kvs xs/\h.DictOfH (tupleKind (ik P w)) a xs:=FQ ok (.inl e)
end
def j6(H:Hp)(a:O)(y:V)(r:Option V):Prop :=
 (∃kvs k,Rd H a (.dK kvs)/\y=kV k/\r=cz kvs k)\/∃kvs k b,Rd H a (.dT kvs)/\y=.ref b/\H b=U (.tup (k.map kV))/\r=cz kvs k
def k9(H:Hp)(a:O)(y v:V)(H':Hp):Prop :=
 (∃kvs k,H a=U (.dK kvs)/\y=kV k/\↑kvs<sizeLine/\H'=upd H a (.dK (putK kvs k v))) ∨
 ∃kvs k b,H a=U (.dT kvs)/\y=.ref b/\H b=U (.tup (k.map kV))/\↑kvs<sizeLine/\H'=upd H a (.dT (putK kvs k v))
theorem j6.k{H:Hp}{a:O}{kvs:-(Key×V)}{k:Key}(e:H a=U (.dK kvs)):j6 H a (kV k) (cz kvs k):=.inl ⟨kvs,k,.inl e,Y,Y⟩
theorem k9.k{H:Hp}{a:O}{kvs:-(Key×V)}{k:Key}{v:V}(e:H a=U (.dK kvs))(hl:↑kvs<sizeLine):k9 H a (kV k) v (upd H a (.dK (putK kvs k v))):=.inl ⟨kvs,k,e,Y,hl,Y⟩
section
variable{X:Cx}{pins:aH}{σ:St}{H:Hp}{s:B}{a:O}{y v:V}{u r:L}{o:Option V}{A:q}{E:bc}
theorem Inv.big(I:Inv X pins σ H s):sysModules<⇑s:=by
 let h:mainGlobals<⇑s:=(I.mod.glob.keeps I.bk).lt;calc q40 (by decide) h
theorem zE{Q:bc}(hu:A.units+1<cLine)(I:Inv X pins σ H s)(g:j6 H a y o)(ry:RelV y u)(h:∀s',Inv X pins σ H s'->Q (.bool o.isSome) s'):
  G (S X.prog X.w) A (compareOp .In u (.ref a)) Q E s:=by
 rcases g with⟨kvs,k,e,ey,l⟩|⟨kvs,k,b,e,ey,eb,l⟩
 .subst ey
  let⟨z,hd,vs,rel,dd⟩:=FP I.aY e;calc wpAny_in_of (vZ ry) hd dd.mapOf ?_;rw[<-(rel.val k).fc,<-l];exact h _ (I.tok _)
 .subst ey
  cases(show u=Yg b from ry)
  let⟨z,hd,xs,rel,dd⟩:=FQ I.aY e;calc wpAny_in_heap (q21 hu) (zD I.aY eb) hd dd ?_;let q:=(rel.val k).fc;rw[q3n] at q;rw[<-q,<-l];calc h _ (I.tok _)
theorem zF{h':Α}{t':Nat}{ob:HO}(I:Inv X pins σ H s)(mu:sq (H a))(hs:q0I a s.heap h')(he:∃q,h'.get? a=U q)(new:aU X.prog X.w (upd H a ob) h' a ob):
  Inv X pins σ (upd H a ob) {s with heap:=h',toks:=t'} :=
 I.write (x:=a) (e:=a) mu (.inl Y) (λb q hb z=>(hs.2 b hb).trans z) he new
theorem FR{P:t}{w:ω}{H':Hp}{h':I}{kvs:-(Key×V)}{vs:-(Key×L)}(z:↑kvs<=sizeLine)(hd:(a==sysModules)=ι)(rel:KV kvs vs)(dd:h'.DictOf (ik P w) a vs):
  aU P w H' h' a (.dK kvs):=⟨z,hd,vs,rel,dd⟩
theorem Og{H':Hp}{Q:Unit->B->Prop}(hu:A.units+1<cLine)(I:Inv X pins σ H s)(g:k9 H a y v H')(ry:RelV y u)(rv:RelV v r)(h:∀s',Inv X pins σ H' s'->Q () s'):
  G (S X.prog X.w) A (setItem (.ref a) u r) Q E s:=by
 rcases g with⟨kvs,k,e,ey,l,eH⟩|⟨kvs,k,b,e,ey,eb,l,eH⟩
 .subst ey eH
  let⟨z,hd,vs,rel,dd⟩:=v3 I.aY e;let hz:↑vs<=sizeLine:=by rw[<-↑rel];exact z
  let hl:↑(putK kvs k v)<=sizeLine:=by let:=zC kvs k v;symm
  calc wpAny_setItem_pairs (hsz:=hz) (vZ ry) dd λh' pU hs=>h _ ?_;let he:∃q,h'.get? a=U q:=let⟨q,_,_,hq,_⟩:=pU;⟨q,hq⟩;exact zF I (by rw[e];calc ZI) hs he (FR hl hd (rel.put k rv) pU)
 .subst ey eH
  cases(show u=Yg b from ry)
  let⟨z,hd,xs,rel,dd⟩:=Of I.aY e;let hz:↑xs<=sizeLine:=by rw[<-q2H rel];exact z
  let hl:↑(putK kvs k v)<=sizeLine:=by let:=zC kvs k v;symm
  calc wpAny_setItem_heap (hsz:=hz) (q21 hu) (zD I.aY eb) dd λh' pU hs=>h _ ?_;let⟨q,es,ep,hq,h2,h3,h4,_,h5⟩:=pU;calc zF I (by rw[e];calc ZI) hs ⟨q,hq⟩ ⟨hl,hd,_,(rel.put k eb rv).keeps λc ys ec=>?_,q,es,ep,hq,h2,h3,h4,h5⟩;rw[aZ (vC ec e (λz=>nomatch z))];calc ec
end
section
variable{X:Cx}{pins:aH}{σ:St}{H:Hp}{s:B}{a:O}{kvs:-(Key×V)}{k:Key}{u:L}{A:q}{E:bc}
end
def t6(ty td:TE):TE:=fun σ H Q=>ty σ H λy H1=>td σ H1 λx H2=>∃a o,x=.ref a/\j6 H2 a y o/\Q (.bl o.isSome) H2
def Oh(td ty tv:TE):TS:=λD σ H=>tv σ H λv H1=>td σ H1 λx H2=>ty σ H2 λy H3=>∃a H4,x=.ref a/\k9 H3 a y v H4/\D.nx σ H4
section
variable{X:Cx}{o i e value:M}{pos pos' yM:y}{td ty tv:TE}
theorem Oi(hu:X.A.units+1<cLine)(hi:JE X i ty)(ho:JE X o td):JC X .In i o (t6 ty td):=by
 calc⟨?_⟩;ext pins s σ H Q I h;calc bg (hi pins s σ H _ I h) λiv s1 ⟨y,H1,I1,ry,q1⟩=>bg (ho pins s1 σ H1 _ I1 q1) ?_;ext u s2 ⟨x,H2,I2,rx,a,ov,ex,g,q2⟩;subst ex;obtain rfl:u=Yg a:=rx;calc zE hu I2 g ry λs3 I3=>⟨.bl ov.isSome,H2,I3,Y,q2⟩
theorem Oj(hu:X.A.units+1<cLine)(ho:JE X o td)(hi:JE X i ty)(hv:JE X value tv)(hs:swapsWith value (U (.Subscript o i pos')) pos.line X.env=pure ι):
  JS X (.Assign [.Subscript o i pos'] value pos) (Oh td ty tv):=by
 calc⟨?_⟩;ext pins s σ H D I h;calc wpAny_Assign_Subscript (bg (hv pins s σ H _ I h) λr s1 ⟨v,H1,I1,rv,q1⟩=>bg (ho pins s1 σ H1 _ I1 q1) λu s2 ⟨x,H2,I2,rx,q2⟩=>bg (hi pins s2 σ H2 _ I2 q2) λiv s3 ⟨y,H3,I3,ry,a,H4,ex,g,q3⟩=>?_) hs;subst ex;obtain rfl:u=Yg a:=rx;calc Og hu I3 g ry rv λs4 I4=>⟨σ,H4,I4,q3⟩
end
theorem Ol{P:t}{w:X}{H:Hp}(h:I)(hb:sysModules<h.objs.size):aU P w H (h.push {cls:=.type "dict",data:=.dict #[]}) h.objs.size (.dK []) :=
 ⟨YD _,ZR.mpr (Zl (XQ hb)),[],.nil,Heap.DictOf.new h⟩
def FT:TE:=λ_ H Q=>∀p,H p=Z->Q (.ref p) (upd H p (.dK []))
section
variable{X:Cx}{pos:y}
theorem iB:JE X (.Dict [] [] pos) FT:=⟨λpins s σ H Q I h =>
 wpAny_Dict_empty ⟨.ref ⇑s,_,I.laid (a:=s.heap.objs.size) (o:=.dK []) (t':=s.toks) (λ_ _ q=>zk _ q) (Fm _) (Ol s.heap I.big),Y,h _ (I.aY.fresh (Fm _))⟩⟩
end
section
variable{X:Cx}{pins:aH}{σ:St}{H:Hp}{s:B}{a:O}{y d:V}{u r:L}{o:Option V}{A:q}{E:bc}
end
section
variable{X:Cx}{o e f:M}{apos gq:y}{td ty tx:TE}
end
section
variable{X:Cx}{pins:aH}{σ:St}{H:Hp}{s:B}{a:O}{kvs:-(Key×V)}{A:q}{E:bc}
end
section
variable{X:Cx}{pins:aH}{σ:St}{H:Hp}{s:B}{a:O}{y:V}{u:L}{A:q}{E:bc}
end
end L2
namespace L2
section
variable{κ:Type}[DecidableEq κ]
end
end L2
namespace L2
open PySem PySem.Spec PyProof.Rows
end L2
namespace LJS
open PySem
noncomputable def hp(i j:Int):Int:=reduceHash (Builtin.Tuple.tupleHashOf [hashInt i,hashInt j])
theorem FU{prog:t}{w:X}(i j:Int):hT prog w [i,j]=hp i j:=rfl
noncomputable def v5:-(Int×Int):=(X_ 12).flatMap λj=>(X_ j).map λi:Nat=>(q3E i,q3E j)
theorem Om:∀a∈v5,∀b∈v5,hp a.1 a.2=hp b.1 b.2->a=b:=by decide +kernel
theorem FW{i j:Int}(h0:0<=i)(h1:i<j)(h2:j<12):(i,j)∈v5:=by
 let⟨a,rfl⟩:∃a:Nat,i=a:=⟨i.toNat,⋯⟩;let⟨b,rfl⟩:∃b:Nat,j=b:=⟨j.toNat,⋯⟩;unfold v5;calc List.mem_flatMap.mpr ⟨b,Yo.mpr ⋯,XM.mpr ⟨a,Yo.mpr ⋯,Y⟩⟩
end LJS
namespace L2
open PySem PySem.Spec PyProof.Rows
noncomputable def k_(S:O)(n:Nat):HO:=.ext λh=>∃hs:-Int,↑hs=n/\LJS.fQ h S hs
theorem Oo{P:t}{w:X}{H:Hp}{h:I}{S:O}{hs:-Int}{n:Nat}(e:LJS.fQ h S hs)(hn:↑hs=n):aU P w H h S (k_ S n) :=
 ⟨⟨hs,hn,e⟩,let⟨o,_,_,_,ho,_⟩:=e;⟨o,ho⟩,λh1 h2 ⟨v7,en,e1⟩ k↦⟨v7,en,LJS.yb e1 λo eo=>k o eo⟩⟩
section
variable{X:Cx}
theorem FX:∀{ps:-O}{au:-L},Vals (ps.map V.ref) au->au=ps.map Yg
 |[],_,.nil=>Y
 |_::_,_,.cons r rs=>by cases r;rw[FX rs];rfl
theorem Ou(hc:X.calm=θ)(hu:X.A.units+64<cLine):gO X (.type "set") (λxs H Q=>∃(l:O)(ps:-O)(ks:-(Int×Int)),xs=[.ref l]/\bE X.K H l (ps.map V.ref)/\↑ps=↑ks ∧
  (∀(i:Nat)(a:O)(k:Int×Int),ps[i]?=U a->ks[i]?=U k->H a=U (.tup [.int k.1,.int k.2]))/\(∀k∈ks,0<=k.1/\k.1<k.2/\k.2<12)/\ks.Nodup/\↑ks<=30/\∀p,H p=Z->Q (.ref p) (upd H p (k_ p ↑ks))):=by
 ext pins s σ H xs us Q I r h;let⟨l,ps,ks,rfl,hq,hl,df,bd,mM,fR,q⟩:=h;let⟨u,rfl,rx⟩:=vals1 r;cases rx
 let⟨au,r',pl,_⟩:=I.list hq;obtain rfl:=FX r';let sz:(ps.map Yg).toArray.size=↑ks:=by rw[Fp,pR,hl]
 let pV:∀i,i<↑ks->∃k,ks[i]?=U k/\ks.getD i (0,0)=k:=λi hi=>⟨ks[i],pQ hi,by rw[Fl,pQ hi];rfl⟩;let zG:∀i,i<↑ks->∃a,ps[i]?=U a/\ps.getD i 0=a:=λi hi=>⟨ps[i]'(by rw[hl];calc hi),pQ (by rw[hl];calc hi),by rw[Fl,pQ (by rw[hl];calc hi)];rfl⟩;refine LJS.Lm (λi=>ps.getD i 0) (λi=>[(ks.getD i (0,0)).1,(ks.getD i (0,0)).2]) (I.ok.hd hc) ⋯ pl.isList (λi v hv=>?_) (λi hi=>?_) (λi j hi hj=>?_) (by rw[sz];calc fR) λh' tk se kp=>?_
 .rw[Y7,WD] at hv
  let⟨a,ea,rfl⟩:=XX.mp hv;rw[Fl,ea];rfl
 .rw[sz] at hi
  let⟨k,ek,dk⟩:=pV i hi;let⟨a,ea,da⟩:=zG i hi;show IsTupleKey _ _ [(ks.getD i (0,0)).1,(ks.getD i (0,0)).2] (ps.getD i 0);rw[dk,da];let⟨_,bD,r2,o,ho,oE,n,hd⟩:=I.aY a _ (df i a k ea ek)
  cases r2 with
  |cons ra rr =>
   cases rr with
   |cons rb rn =>
    cases rn
    let⟨t1,rfl⟩:=ra;let⟨t2,rfl⟩:=rb;exact⟨o,_,n,ho,oE,hd,.cons (intKind_is ..) (.cons (intKind_is ..) .nil)⟩
 .rw[sz] at hi
  let⟨k,ek,dk⟩:=pV i hi;let⟨k',zH,Ov⟩:=pV j ⋯;show LJS.hT _ _ [(ks.getD j (0,0)).1,(ks.getD j (0,0)).2]≠LJS.hT _ _ [(ks.getD i (0,0)).1,(ks.getD i (0,0)).2];rw[dk,Ov,LJS.FU,LJS.FU];ext z;let b1:=bd k (WM.mpr ⟨i,ek⟩);let b2:=bd k' (WM.mpr ⟨j,zH⟩);let e:=LJS.Om (k'.1,k'.2) (LJS.FW b2.1 b2.2.1 b2.2.2) (k.1,k.2) (LJS.FW b1.1 b1.2.1 b1.2.2) z;let e':k'=k:=e;rw[e'] at zH;let⟨Ox,Oy⟩:=qV.mp zH;let⟨gG,Oz⟩:=qV.mp ek;let:=(ZU (h₀:=Ox) (h₁:=gG) mM).mp (by rw[Oy,Oz]);symm
 .calc⟨.ref ⇑s,upd H ⇑s (k_ ⇑s ↑ks),I.laid (t':=tk) (λb o e=>kp b o (WJ e) e) (Fm _) (Oo se (by rw[pR,Ys,sz])),Y,q _ (I.aY.fresh (Fm _))⟩
theorem OA:gO X (.builtin "len") (λxs H Q=>∃(p:O)(n:Nat),xs=[.ref p]/\H p=U (k_ p n)/\n<1000/\Q (.int n) H):=by
 ext pins s σ H xs us Q I r h;let⟨p,n,rfl,hp,hn,q⟩:=h;let⟨u,rfl,rx⟩:=vals1 r;cases rx
 let⟨⟨hs,hl,o,es,ep,t,ho,hex,hd,T⟩,_⟩:=I.aY p _ hp;let e:es.size=n:=by rw[T.num,hl]
 calc call_len_set ho hex hd T.fits ⋯ ⟨.int n,H,I.tok _,⟨_,by rw[e]⟩,q⟩
theorem FY:∀{bs:-Bool}{au:-L},Vals (bs.map V.bl) au->au=bs.map q0h
 |[],_,.nil=>Y
 |_::_,_,.cons r rs=>by cases r;rw[FY rs];rfl
theorem all_range(bs:-Bool):(X_ bs.length).all (λi=>bs.getD i θ)=bs.all id:=by
 rw[Bool.eq_iff_iff,Zf,Zf]
 constructor
 .ext h b hb
  let⟨i,hi⟩:=WM.mp hb;let hl:=(qV.mp hi).1;let:=h i (Yo.mpr hl);rw[Fl,hi] at this;exact this
 .ext h i hi
  let hl:=Yo.mp hi;rw[Fl,pQ hl];calc h _ (Zv hl)
theorem OB(hc:X.calm=θ):gO X (.builtin "all") (λxs H Q=>∃(l:O)(bs:-Bool),xs=[.ref l]/\bE X.K H l (bs.map V.bl)/\Q (.bl (bs.all id)) H):=by
 ext pins s σ H xs us Q I r h;let⟨l,bs,rfl,hq,q⟩:=h;let⟨u,rfl,rx⟩:=vals1 r;cases rx
 let⟨au,r',pl,_⟩:=I.list hq;obtain rfl:=FY r';let hL:=pl.isList;let ll:l<⇑s:=by let⟨o,e,_⟩:=hL;exact WJ e
 let nI:l≠⇑s:=XQ ll;calc call_all_walk (q0a hL ?_);refine⟨⇑s,_,_,_,_,_,λi=>bs.getD i θ,Y,q2S (by rw[Z1];calc I.ok.hd hc) ⇑s l nI _,⟨⟨_,WL _ Y,Y,Y⟩,hL.push _⟩,λi v s' Q' E' hv v8=>?_,λh' tk kp=>?_⟩
 .let hv:(bs.map q0h).toArray[i]?=U v:=hv
  let v8:Q' (bs.getD i θ) s':=v8;rw[Y7,WD] at hv;let⟨b,eb,rfl⟩:=XX.mp hv;rw[Fl,eb] at v8;exact Zn v8
 .refine⟨.bl (bs.all id),H,I.kept (t':=tk) λb o e=>kp b o (λz=>?_) (zk _ e),?_,q⟩
  .let:=WJ e
   rw[X1.mp z] at this;exact Zi _ this
  .show q0h _=q0h _
   rw[Fp,pR,all_range]
end
end L2
namespace LJ
open PySem L2
structure Fn(P:t)(w:X)(K:vS)(mg:J->Option L)(base:I)(k:Nat)(x:J)(ps:-J)(sp:Sp)(f:O)(fd:FuncData):Prop where
 ok:bN P w K mg base eV k f fd ps sp
 t7:mg x=U (.ref f)
 kp:Yt K (.ref f)=θ
 bd:Binds K fd ps []
theorem OC:bootBuiltins "bool" = U (.type "bool"):=by decide +kernel
theorem OD:bootBuiltins "int" = U (.type "int"):=by decide +kernel
theorem zI:bootBuiltins "tuple" = U (.type "tuple"):=by decide +kernel
theorem qY:bootBuiltins "list" = U (.type "list"):=by decide +kernel
theorem OE:bootBuiltins "set" = U (.type "set"):=by decide +kernel
theorem OF:bootBuiltins "all" = U (.builtin "all"):=by decide +kernel
section
variable{K:vS}
end
structure aV(many:Int)(ys:-(Int×Int×Int)):Prop where
 m1:1<=many
 kD:many<=12
 fR:↑ys<=30
 ends:∀y∈ys,0<=y.1/\y.1<y.2.1/\y.2.1<many/\0<=y.2.2/\y.2.2<=1000000000
 unlike:(ys.map λy=>(y.1,y.2.1)).Nodup
end LJ
namespace L2
open PySem PySem.Spec PyProof.Rows
section
variable{X:Cx}
end
end L2
namespace LJ
open PySem L2
noncomputable def jD:Nat->-(Int×Int)
 |0=>[]
 |n+1=>jD n++(X_ n).map λa:Nat=>(q3E a,q3E n)
theorem zJ:∀{n:Nat}{k:Int×Int},k∈jD n->0<=k.1/\k.1<k.2/\k.2<n
 |0,_,h=>nomatch h
 |n+1,k,h=>by
  rcases Yc.mp h with h|h
  .let:=zJ h;symm
  .let⟨a,ha,rfl⟩:=XM.mp h
   let:=Yo.mp ha;refine⟨Int.natCast_nonneg a,?_,?_⟩
   .show (a:Int)<(n:Int);symm
   .show (n:Int)<((n+1:Nat):Int);symm
theorem FZ:∀n:Nat,(jD n).Nodup
 |0=>q2r
 |n+1=>by
  refine Y5.mpr ⟨FZ n,?_,λk h1 k' h2 e=>?_⟩
  .refine Zp.mpr (q0U.imp λ{a b} ne e=>ne ?_)
   exact q2M (congrArg q5X e)
  .subst e
   let⟨a,ha,rfl⟩:=XM.mp h2;let:=(zJ h1).2.2;let:(n:Int)<(n:Int):=this;symm
theorem F7:∀n:Nat,n<=12->↑(jD n)<=66:=by
 ext n h;rcases n with _|_|_|_|_|_|_|_|_|_|_|_|_|n
 all_goals first|decide|symm
end LJ
namespace LJ
open PySem
theorem OG{j n:Nat}(h:j<n):seqIndex? (j:Int) n=U j:=by
 unfold seqIndex?
 first|(simp;symm)|skip
end LJ
namespace L2
open PySem PySem.Spec PyProof.Rows
section
variable{X:Cx}
theorem F8:gO X (.type "range") (λxs H Q=>∃j:Int,xs=[.int j]/\∀r,H r=Z->Q (.ref r) (upd H r (.rng 0 j))):=by
 ext pins s σ H xs us Q I r h;let⟨j,rfl,q⟩:=h;let⟨u,rfl,t,rfl⟩:=vals1 r;calc call_range_1 ⟨.ref ⇑s,_,I.laid (t':=s.toks+1+1) (o:=.rng 0 j) (λb o e=>zk _ e) (Fm _) ?_,Y,q _ (I.aY.fresh (Fm _))⟩;calc⟨_,_,_,WL _ Y⟩
noncomputable def br(n:Nat):-Int:=(X_ n).map λa:Nat=>(a:Int)
theorem zK:∀{ns:-Int}{us:-L},↑us=ns.length->(∀(i:Nat)(u:L),us[i]?=U u->∃t,u=.int (ns.getD i 0) t)->Vals (ns.map V.int) us
 |[],[],_,_=>.nil
 |[],_::_,h,_=>by simp at h
 |_::_,[],h,_=>by simp at h
 |n::ns,u::us,h,g=>by
  let⟨t,e⟩:=g 0 u Y;calc .cons ⟨t,e⟩ (zK h⁻¹ λi v e2=>?_);let⟨t,e⟩:=g (i+1) v e2⁻¹;calc⟨t,by simpa using e⟩
theorem OH(hc:X.calm=θ):gO X (.type "list") (λxs H Q=>∃(r:O)(n:Nat),xs=[.ref r]/\H r=U (.rng 0 (n:Int))/\n<=1000/\∀l,H l=Z->Q (.ref l) (upd H l (.lst ((br n).map V.int)))):=by
 ext pins s σ H xs us Q I r h;let⟨a,n,rfl,ha,hn,q⟩:=h;let⟨u,rfl,rx⟩:=vals1 r;cases rx
 let⟨t,u,v,e⟩:=(show ∃t u v,s.heap.get? a=U {cls:=.type "range",data:=.fields #[.int 0 t,.int (n:Int) u,.int 1 v]} from I.aY a _ ha);let hs:ZV 0 (n:Int) 1=n:=by rw[q2I];split<;>symm
 calc call_list_range (n:=n) (I.ok.hd hc) e (q4O ⋯ ⋯ ⋯ ⋯) hs ⋯ λh' tk acc c' kp e' it=>?_;calc⟨.ref ⇑s,_,I.laid (t':=tk) (o:=.lst ((br n).map V.int)) kp (Fm _) ?_,Y,q _ (I.aY.fresh (Fm _))⟩;calc⟨Zx (mK (by rw[pR,br,pR,Ys];calc hn)),acc.toList,c',?_,by simpa using e'⟩;refine zK ?_ λi u e=>?_
 .rw[XU,it.1,br,pR,Ys]
 .rw[Ym] at e
  let⟨t',e2⟩:=it.2 i u e;let hi:i<n:=by rw[<-it.1];exact(YT.mp e).1
  calc⟨t',e2.trans ?_⟩;rw[br,Fl,WD,Y0 hi];show Z8 (0+(i:Int)*1) t'=Z8 (i:Int) t';rw[q12,q3Q]
theorem zL:∀(ns:-Int)(j:Nat),j<=ns.length->q46 (λi=>ns.getD i 0) j=(ns.take j).sum
 |ns,0,_=>by rw[q0M];rfl
 |ns,j+1,h=>by
  show q46 _ j+ns.getD j 0=_;let hj:j<ns.length:=by symm
  rw[zL ns j ⋯,List.take_add_one,pQ hj,Fl,pQ hj,List.sum_append];simp
theorem F9:∀{ns:-Int},(∀x∈ns,0<=x/\x<=1000000000)->0<=ns.sum/\ns.sum<=ns.length*1000000000
 |[],_=>by simp
 |n::ns,h=>by
  let ih:=F9 λx hx=>h x (WH _ hx);let:=h n (NJ ..);rw[List.sum_cons,NG];symm
theorem OI(hc:X.calm=θ):gO X (.builtin "sum") (λxs H Q=>∃(l:O)(ns:-Int),xs=[.ref l]/\bE X.K H l (ns.map V.int)/\(∀x∈ns,0<=x/\x<=1000000000)/\ns.length<=1000/\Q (.int ns.sum) H):=by
 ext pins s σ H xs us Q I r h;let⟨l,ns,rfl,hq,bd,F_,q⟩:=h;let⟨u,rfl,rx⟩:=vals1 r;cases rx
 let⟨au,r',pl,_⟩:=I.list hq;let hl:=↑r';rw[pR] at hl;let hL:=pl.isList;let ll:l<⇑s:=by let⟨o,e,_⟩:=hL;exact WJ e
 let nI:l≠⇑s:=XQ ll;let sz:au.toArray.size=ns.length:=by rw[Fp];exact hl.symm
 calc call_sum_walk (q0a hL ?_);refine⟨⇑s,_,_,_,_,_,λi=>ns.getD i 0,Y,q2S (by rw[Z1];calc I.ok.hd hc) ⇑s l nI _,⟨⟨_,WL _ Y,Y,Y⟩,hL.push _⟩,λb hb=>?_,λi v hv=>?_,λj hj=>?_,λh' tk t' kp=>?_⟩
 .erw[XJ,Yh,q1e] at hb
  rw[Zz];rcases hb with e|e
  .rw[e];exact ZT _
  .rw[e];exact Zk ll
 .let hv:au.toArray[i]?=U v:=hv
  rw[Y7] at hv;let hi:i<ns.length:=by rw[hl];exact(qV.mp hv).1
  let⟨u,e1,t,e2⟩:=r'.get (x:=V.int (ns.getD i 0)) (i:=i) (by rw[WD,pQ hi,Fl,pQ hi];rfl);rw[hv] at e1;cases e1
  exact⟨t,e2⟩
 .rw[sz] at hj
  let a1:=bd _ (Zv hj);let e1:ns.getD j 0=ns[j]:=by rw[Fl,pQ hj];rfl
  let a2:=F9 (ns:=ns.take (j+1)) λx hx=>bd x (q0X hx);let a3:↑(ns.take (j+1))<=1000:=by rw[Yb];symm
  rw[zL ns (j+1) ⋯];show InLong (ns.getD j 0)/\_;rw[e1];refine⟨⟨⋯,⋯⟩,⟨⋯,⋯⟩⟩
 .refine⟨.int ns.sum,H,I.kept (t':=tk) λb o e=>kp b o (λz=>?_) (zk _ e),⟨t',?_⟩,q⟩
  .let:=WJ e
   rw[X1.mp z] at this;exact Zi _ this
  .rw[sz,zL ns ns.length (Fm _),YI (Fm _)]
theorem Ga:∀{us:-L}{ns:-Int},IntsAre us ns->Vals (ns.map V.int) us
 |_,_,.nil=>.nil
 |_,_,.cons n t r=>.cons ⟨t,Y⟩ (Ga r)
theorem Gb:gO X (.builtin "sorted") (λxs H Q=>∃(l:O)(ns:-Int),xs=[.ref l]/\bE X.K H l (ns.map V.int)/\ns.length<64/\∀(r:O)(bO:-Int),bO.Perm ns->bO.Pairwise (· <= ·)->H r=Z->Q (.ref r) (upd H r (.lst (bO.map V.int)))):=by
 ext pins s σ H xs us Q I r h;let⟨l,ns,rfl,hq,oF,q⟩:=h;let⟨u,rfl,rx⟩:=vals1 r;cases rx
 let⟨au,r',pl,_⟩:=I.list hq;let hl:=↑r';rw[pR] at hl;calc sorted_ints pl.isList (intsAre_of r')⁻¹ ⋯ λout bO hI pm pw=>?_;let hf:H (⇑s+1)=Z:=I.aY.fresh (q0Y _);let⟨e,he⟩:=sortedAll_at s.heap au out;calc⟨.ref (⇑s+1),_,I.laid (t':=s.toks) (o:=.lst (bO.map V.int)) (λb o e=>sortedAll_old e) (q0Y _) ?_,Y,q _ bO pm pw hf⟩;calc⟨Zx (mK (by rw[pR,pm.length_eq];symm)),out.toList,e,Ga hI,?_⟩;simpa[seqObj] using he
theorem Gd{prog:t}{w:ω}{A:q}{E:bc}{I l:O}{items:Array L}(W:Walks prog w A I [I,l] [I] items.size (λi v=>items[i]?=U v) (λi h=>h.IsListIter I l i/\h.IsList l items)):
  ∀(k i:Nat)(s:B)(Q:-L->B->Prop),i+k<=items.size->(s.heap.IsListIter I l i/\s.heap.IsList l items) →
   (∀h' tk,(h'.IsListIter I l (i+k)/\h'.IsList l items)->(∀b o,b∉[I]->s.heap.get? b=U o->h'.get? b=U o)->Q ((items.toList.drop i).take k) {s with heap:=h',toks:=tk})->G (S prog w) A (draw (.ref I) k) Q E s
 |0,i,s,Q,_,st,g=>by
  show G _ _ (pure []) Q E s;calc NH ?_;let:=g s.heap s.toks st λ_ _ _ e=>e;rw[q0M] at this;exact this
 |k+1,i,s,Q,hk,st,g=>by
  let hi:i<items.size:=by symm
  show G _ _ (pyNext (.ref I) >>= _) Q E s;calc tH (W.item i s _ _ hi st λv h1 n_ hv lO zM=>?_);refine tH (Yw (Gd W k (i+1) _ _ ⋯ lO λh2 zN oj zO=>NH ?_))
  let e:items.toList.drop i=v::items.toList.drop (i+1):=by
   rw[q0m (by rw[XU];calc hi)];congr 1;let vJ:items[i]?=U v:=hv;rw[Zs hi] at vJ;simpa using vJ
  let:=g h2 zN (by rw[show i+(k+1)=i+1+k by symm];calc oj) λb o hb e=>zO b o hb (zM b o hb e);rw[e,q2x] at this;calc this
theorem OJ{prog:t}{w:ω}{A:q}{E:bc}{s:B}{l:O}{items:Array L}{Q:-L->B->Prop}(hh:A.handled=Z)(hl:s.heap.IsList l items)
  (g:∀h' tk,(∀b o,b≠⇑s->s.heap.get? b=U o->h'.get? b=U o)->Q items.toList {s with heap:=h',toks:=tk}):G (S prog w) A (unpackItems (.ref l) items.size Z) Q E s:=by
 let ll:l<⇑s:=by let⟨o,e,_⟩:=hl;exact WJ e
 let W:=q2S (prog:=prog) (w:=w) hh ⇑s l (XQ ll) items;unfold unpackItems;calc tH ?_;unfold notIterableAtAll;calc tH (q3V hl.typeIs slot_list_iter.lookup (NH ?_));erw[Ze,q0f];calc tH (Yw (q0a hl ?_));calc tH (Yw (Gd W items.size 0 _ _ ⋯ ⟨⟨_,WL _ Y,Y,Y⟩,hl.push _⟩ λh1 n_ lO zM=>?_));rw[q1n,YI (by rw[XU];calc Fm _),WK (by rw[XU];calc Zi _)];rw[YF] at lO;calc tH (Yw (W.done _ _ _ lO λh2 zN zO=>?_));erw[Option.isSome_none,Ze,q0f];calc NH (g h2 zN λb o hb e=>zO b o hb⁻¹ (zM b o hb⁻¹ (zk _ e)))
def OK(K:vS)(n:Nat)(t:kA):TG:=λv σ H Q=>∃a xs,v=.ref a/\bE K H a xs/\↑xs=n/\t xs σ H Q
theorem OL{es:-M}{k:Nat}{t:kA}{n:Nat}{pos:y}(hc:X.calm=θ)(h:jz X es t)
  (hn:‹↑(assignEach es X.env)=n›) (fU:‹(assignEach es X.env).findIdx? (·.1)=Z›):JG X (.Tuple es k pos) (OK X.K n t):=by
 calc⟨?_⟩;ext pins s σ H v u Q I r hw;let⟨a,xs,e1,hq,hl,hw⟩:=hw;subst e1;cases r
 let⟨au,rv,ht,hz⟩:=I.list hq;let hlen:=↑rv;rw[assign_Tuple];calc tH (Z9 ?_);unfold unpack;rw[fU,show↑(assignEach es X.env)=au.toArray.size by rw[hn,<-hl,hlen];simp];calc tH (Yw (OJ (I.ok.hd hc) ht.isList λh' tk kp=>?_));let I1:Inv X pins σ H {s with heap:=h',toks:=tk}:=I.kept λb o e=>kp b o (XQ (WJ e)) e;calc h pins _ σ H xs _ Q I1 rv⁻¹ hw
theorem OM:qT X "dict.setdefault" (λx vs H Q=>∃(d:O)(kvs:-(Key×V))(k:Key)(dv:V),x=.ref d/\vs=[kV k,dv]/\H d=U (.dK kvs)/\↑kvs<sizeLine/\(∀v,cz kvs k=U v->Q v H)/\(cz kvs k=Z->Q dv (upd H d (.dK (putK kvs k dv))))):=by
 ext pins s σ H x xs v us Q I rx rv h;let⟨d,kvs,k,dv,rfl,rfl,hd,hz,q1,q2⟩:=h;cases rx
 cases rv with
 |cons rk rr =>
  cases rr with
  |cons rd rn =>
   cases rn
   rename_i uk ud;let⟨z,lo,vs,rel,dd⟩:=v3 I.aY hd;let rl:=rel.val k;refine call_meetsIn q02 dd.typeIs PySem.F.entry_dict_setdefault (PySem.F.args_dict_setdefault_3 _ _ _) (PySem.kt_meets_setdefault (ik X.prog X.w) d (vZ rk) lo ud) ⟨vs,dd,by rw[<-↑rel];calc z,λv hv=>?_,λhn h' pU hs=>?_⟩
   .rw[hv] at rl
    cases e:cz kvs k with
    |none=>rw[e] at rl;exact rl.elim
    |some y =>
     rw[e] at rl;exact⟨y,H,I.tok _,rl,q1 y e⟩
   .rw[hn] at rl
    cases e:cz kvs k with
    |some y=>rw[e] at rl;exact rl.elim
    |none =>
     let he:∃q,h'.get? d=U q:=let⟨q,_,_,hq,_⟩:=pU;⟨q,hq⟩;let hl:=zC kvs k dv;calc⟨dv,_,zF (t':=s.toks+1) I (by rw[hd];calc ZI) hs he (FR ⋯ lo (rel.put k rd) pU),rd,q2 e⟩
noncomputable def iC(v d:O):HO:=.ext λh=>h.IsValuesView v d
theorem ON:qT X "dict.values" (λx vs H Q=>∃(d:O)(kvs:-(Key×V)),x=.ref d/\vs=[]/\H d=U (.dK kvs)/\∀r,H r=Z->Q (.ref r) (upd H r (iC r d))):=by
 ext pins s σ H x xs v us Q I rx rv h;let⟨d,kvs,rfl,rfl,hd,q⟩:=h;cases rx
 cases rv
 let⟨z,lo,vs,rel,dd⟩:=v3 I.aY hd;calc call_meetsIn q1G dd.typeIs PySem.F.entry_dict_values (PySem.F.args_dict_values_1 _) (meets_dict_values (ik X.prog X.w) d lo) ⟨⟨vs,dd⟩,?_⟩;let e:(s.heap.push {cls:=.type "dict_values",data:=.fields #[.ref d]}).IsValuesView ⇑s d:=⟨_,WL _ Y,Y,Y⟩;calc⟨.ref ⇑s,_,I.laid (t':=s.toks) (o:=iC ⇑s d) (λb o e=>zk _ e) (Fm _) ⟨e,⟨_,WL _ Y⟩,λh1 h2 ⟨o,ho,r⟩ k↦⟨o,k o ho,r⟩⟩,Y,q _ (I.aY.fresh (Fm _))⟩
theorem Ge:∀{kvs:-(Key×V)}{vs:-(Key×L)},KV kvs vs->Vals (kvs.map (·.2)) (vs.map (·.2))
 |[],_,.nil=>.nil
 |_::_,_,.cons r rs=>.cons r.2 (Ge rs)
theorem OO(hc:X.calm=θ):gO X (.type "list") (λxs H Q=>∃(r d:O)(kvs:-(Key×V)),xs=[.ref r]/\H r=U (iC r d)/\H d=U (.dK kvs)/\∀l,H l=Z->Q (.ref l) (upd H l (.lst (kvs.map (·.2))))):=by
 ext pins s σ H xs us Q I r' h;let⟨r,d,kvs,rfl,hr,hd,q⟩:=h;let⟨u,rfl,rx⟩:=vals1 r';cases rx
 let⟨iv,_⟩:=I.aY r _ hr;let⟨z,lo,vs,rel,dd⟩:=v3 I.aY hd;let⟨o,es,ep,ho,rest⟩:=dd;let da:s.heap.DictAt (ik X.prog X.w) d vs ep:=⟨o,es,ho,rest⟩;let lv:=↑rel;calc PySem.W.kdl_call (PySem.W.kdl_values (r:=r) (d:=d) (kvs:=vs) (ep:=ep) (knd:=ik X.prog X.w)) (I.ok.hd hc) ⟨iv,da⟩ ⋯ λh' tk acc c' kp e' it=>?_;let ea:acc.toList=vs.map (·.2):=PySem.W.kdl_vals_eq acc.toList (by rw[XU];calc it.1) λj v e=>it.2 j v (by rw[<-Ym];calc e);calc⟨.ref ⇑s,_,I.laid (t':=tk) (o:=.lst (kvs.map (·.2))) kp (Fm _) ?_,Y,q _ (I.aY.fresh (Fm _))⟩;calc⟨by rw[pR];calc z,acc.toList,c',by rw[ea];calc Ge rel,by simpa using e'⟩
end
theorem OP(au:-L):slicePick au.toArray Z Z (U (-1))=au.reverse.toArray:=by
 unfold slicePick;congr 1
 let e:sliceBounds Z Z (U (-1)) au.toArray.size=((↑au:Int)-1,-1,-1):=by
  unfold sliceBounds;simp
 rw[e];unfold sliceRange;simp only
 let ec:(if(-1:Int)>0 then(if(↑au:Int)-1 < -1 then(-1-((↑au:Int)-1) + -1-1) / -1 else 0) else(if(↑au:Int)-1 > -1 then((↑au:Int)-1 - -1 - -1-1) / (-( -1:Int)) else 0))=(↑au:Int):=by
  rw[WK (by decide)];split
  .rw[show(-( -1:Int):Int)=1 by decide,q3h];symm
  .omega
 rw[ec,XZ];rw[q2Y]
 let hc:∀(n:Nat),(∀k∈X_ n,k<↑au)->(X_ n).filterMap ((λk:Nat=>au.toArray[k]?)∘λk:Nat=>((↑au:Int)-1 + -1*(k:Int)).toNat)=(X_ n).map λk=>au.getD (↑au-1-k) .none:=by
  ext n hn;generalize hr:X_ n=l at hn;clear hr
  induction l with
  |nil=>rfl
  |cons k l ih =>
   let hk:=hn k (NJ ..);let e1:((↑au:Int)-1 + -1*(k:Int)).toNat=↑au-1-k:=by symm
   let hl:↑au-1-k<↑au:=by symm
   rw[List.filterMap_cons_some (b:=au.getD (↑au-1-k) .none),X0,ih λx hx=>hn x (WH _ hx)];show au.toArray[((↑au:Int)-1 + -1*(k:Int)).toNat]?=_;rw[e1,Y7,pQ hl,Fl,pQ hl];rfl
 rw[hc ↑au λk hk=>Yo.mp hk];calc q3G (by simp) λi h1 h2=>?_;rw[Yr,List.getElem_range,List.getElem_reverse];let hi:i<↑au:=by simpa using h1
 rw[Fl,pQ ⋯];rfl
section
variable{X:Cx}{e:M}{te:TE}{pos p2 p3 p4:y}
theorem zP:∀{xs:-V}{us:-L},Vals xs us->Vals xs.reverse us.reverse
 |[],_,.nil=>.nil
 |x::xs,_,.cons r rs=>by
  rw[q0d,q0d];calc Vals.append (zP rs) (.cons r .nil)
end
inductive FV where
 |p (d:D)|w (a:O)
inductive DV where
 |p (d:D)|o (k:Nat)|t (d:D) (k:Nat)|w (a:O)|u (t:Bool) (fs:-FV)
noncomputable def FV.v:FV->DV
 |.p d=>.p d
 |.w a=>.w a
inductive OV where
 |lst (ds:-D)|dct (kvs:-(Key×D))|dtt (kvs:-(-Int×Int))
 |al (a:O) (ds:-D)|ac (a:O) (kvs:-(Key×D))|ins (a C:O) (fs:-(J×FV))|av (a:O) (kvs:-(Key×FV))
structure aJ where
 sl:-(Option DV)
 mu:-(Option OV)
def fz{κ α:Type}(R:α->V->Prop):-(κ×α)->-(κ×V)->Prop
 |[],ws=>ws=[]
 |kd::r,ws=>∃v t,ws=(kd.1,v)::t/\R kd.2 v/\fz R r t
def kE(F:Hp):FV->V->Prop
 |.p d,v=>Is F d v
 |.w a,v=>v=.ref a
abbrev v9(F:Hp):-(Key×D)->-(Key×V)->Prop:=fz (Is F)
abbrev oG(F:Hp){κ:Type}:-(κ×FV)->-(κ×V)->Prop:=fz (kE F)
theorem fz.mono{κ α:Type}{R R':α->V->Prop}(s:∀a v,R a v->R' a v):∀{ks:-(κ×α)}{ws:-(κ×V)},fz R ks ws->fz R' ks ws
 |[],_,h=>h
 |_::_,_,⟨v,t,e,h1,h2⟩=>⟨v,t,e,s _ _ h1,fz.mono s h2⟩
theorem kE.same{F F':Hp}(s:aO F F'):∀(f:FV)(v:V),kE F f v->kE F' f v
 |.p _,_,h=>Is.same s h
 |.w _,_,h=>h
def eJ(F:Hp)(a:O):OV->HO->Prop
 |.lst ds,o=>∃vs,o=.lst vs/\ah F ds vs
 |.dct kvs,o=>∃ws,o=.dK ws/\v9 F kvs ws
 |.dtt kvs,o=>o=.dT (kvs.map λp=>(p.1.map q0b,V.int p.2))
 |.al b ds,o=>b=a/\∃vs,o=.lst vs/\ah F ds vs
 |.ac b kvs,o=>b=a/\∃ws,o=.dK ws/\v9 F kvs ws
 |.ins b C fs,o=>b=a/\∃dx ws,o=.ins C dx ws/\oG F fs ws
 |.av b kvs,o=>b=a/\∃ws,o=.dK ws/\oG F kvs ws
theorem eJ.same{F F':Hp}{a:O}(s:aO F F'):∀{ov:OV}{o:HO},eJ F a ov o->eJ F' a ov o
 |.lst _,_,⟨vs,e,h⟩=>⟨vs,e,h.same s⟩
 |.dct _,_,⟨ws,e,h⟩=>⟨ws,e,h.mono λ_ _=>Is.same s⟩
 |.dtt _,_,e=>e
 |.al _ _,_,⟨z,vs,e,h⟩=>⟨z,vs,e,h.same s⟩
 |.ac _ _,_,⟨z,ws,e,h⟩=>⟨z,ws,e,h.mono λ_ _=>Is.same s⟩
 |.ins _ _ _,_,⟨z,dx,ws,e,h⟩=>⟨z,dx,ws,e,h.mono (kE.same s)⟩
 |.av _ _,_,⟨z,ws,e,h⟩=>⟨z,ws,e,h.mono (kE.same s)⟩
noncomputable def t8:Bool->-V->HO
 |true,us=>.tup us
 |false,us=>.lst us
def je(F:Hp):-FV->-V->Prop
 |[],us=>us=[]
 |f::r,us=>∃v t,us=v::t/\kE F f v/\je F r t
theorem je.same{F F':Hp}(s:aO F F'):∀{fs:-FV}{us:-V},je F fs us->je F' fs us
 |[],_,h=>h
 |_::_,_,⟨v,t,e,h1,h2⟩=>⟨v,t,e,kE.same s _ _ h1,je.same s h2⟩
def dF(F:Hp)(ad:-O):DV->V->Prop
 |.p d,v=>Is F d v
 |.o k,v=>∃a,ad[k]?=U a/\v=.ref a
 |.w a,v=>v=.ref a
 |.u t fs,v=>∃b us,v=.ref b/\F b=U (t8 t us)/\je F fs us
 |.t d k,v=>∃a b u,v=.ref a/\F a=U (.tup [u,.ref b])/\Is F d u/\ad[k]?=U b
def Lv(ad:-O)(mu:-(Option OV))(a:O):Prop:=∃(k:Nat)(ov:OV),ad[k]?=U a/\mu[k]?=U (U ov)
class aM where
 ad:-O
 ok:Hp->Prop
 same:∀{H H':Hp},ok H->aO H H'->ok H'
 put:∀{H:Hp}{a:O}{o o':HO},ok H->H a=U o->((∃vs,o=.lst vs)\/(∃ws,o=.dK ws)\/(∃ws,o=.dT ws)\/∃C dx ws,o=.ins C dx ws)->ok (upd H a o')
 tb:∀{H:Hp}{a:O},ok H->a∈ad->∃ps,H a=U (.tbl ps)
 cs:Hp
 ct:∀{a:O}{o:HO},cs a=U o->∃vs,o=.tup vs
 co:∀{H:Hp},ok H->aO cs H
theorem eJ.kd{F:Hp}{a:O}:∀{ov:OV}{o:HO},eJ F a ov o->(∃vs,o=.lst vs)\/(∃ws,o=.dK ws)\/(∃ws,o=.dT ws)\/∃C dx ws,o=.ins C dx ws
 |.lst _,_,⟨vs,e,_⟩=>.inl ⟨vs,e⟩
 |.dct _,_,⟨ws,e,_⟩=>.inr (.inl ⟨ws,e⟩)
 |.dtt _,_,e=>.inr (.inr (.inl ⟨_,e⟩))
 |.al _ _,_,⟨_,vs,e,_⟩=>.inl ⟨vs,e⟩
 |.ac _ _,_,⟨_,ws,e,_⟩=>.inr (.inl ⟨ws,e⟩)
 |.av _ _,_,⟨_,ws,e,_⟩=>.inr (.inl ⟨ws,e⟩)
 |.ins _ _ _,_,⟨_,dx,ws,e,_⟩=>.inr (.inr (.inr ⟨_,dx,ws,e⟩))
theorem eJ.kind{F:Hp}{a:O}{ov:OV}{o:HO}(h:eJ F a ov o)(ps:Array L)(z:o=.tbl ps):False:=by
 rcases h.kd with⟨_,e⟩|⟨_,e⟩|⟨_,e⟩|⟨_,_,_,e⟩<;>rw[e] at z<;>cases z
variable[aM]
structure NT(F:Hp):Prop where
 no:∀a∈aM.ad,F a=Z
 cs:aO aM.cs F
instance {F:Hp}:CoeFun (NT F) λ_=>∀a∈aM.ad,F a=Z:=⟨NT.no⟩
theorem NT.up{F F':Hp}(h:NT F)(s:aO F F')(n:∀a∈aM.ad,F' a=Z):NT F':=⟨n,λa o e=>s a o (h.cs a o e)⟩
structure SR(F:Hp)(ad:-O)(δ:aJ)(σ:St)(H:Hp):Prop where
 sub:aO F H
 off:∀a,Lv ad δ.mu a->F a=Z
 bX:↑ad=↑δ.mu
 inj:∀(k l:Nat)(a:O)(ov ow:OV),ad[k]?=U a->ad[l]?=U a->δ.mu[k]?=U (U ov)->δ.mu[l]?=U (U ow)->k=l
 mu:∀(k:Nat)(ov:OV),δ.mu[k]?=U (U ov)->∃a o,ad[k]?=U a/\H a=U o/\eJ F a ov o
 sl:∀(i:Nat)(x:DV),δ.sl[i]?=U (U x)->∃v,σ[i]?=U (U v)/\dF F ad x v
 len:↑σ=↑δ.sl
 tab:aM.ok H
 nt:NT F
structure Ext(F:Hp)(ad:-O)(mu:-(Option OV))(H:Hp)(F':Hp)(aG:-O)(cW:-(Option OV))(H':Hp):Prop where
 same:aO F F'
 new:∀a o,F' a=U o->F a=U o\/H a=Z\/Lv ad mu a
 keep:∀a o,H a=U o->¬ Lv ad mu a->a∉aM.ad->H' a=U o
 pre:∀(k:Nat)(a:O),ad[k]?=U a->aG[k]?=U a
 b9:∀a,Lv aG cW a->Lv ad mu a\/H a=Z
 gu:∀a o,H a=U o->∃o',H' a=U o'
section
variable{F F' Gf H H' lg:Hp}{ad aG t_:-O}{mu cW uc:-(Option OV)}{δ:aJ}{σ:St}
theorem cL{H:Hp}{a:O}{o:HO}(h:H a=Z):aO H (upd H a o):=λb u e=>by rw[aZ (cR e h)];calc e
theorem Ext.refl:Ext F ad mu H F ad mu H:=⟨λ_ _ e=>e,λ_ _ e=>.inl e,λ_ _ e _ _=>e,λ_ _ e=>e,λ_ e=>.inl e,λ_ o e=>⟨o,e⟩⟩
theorem Ext.trans(x:Ext F ad mu H F' aG cW H')(y:Ext F' aG cW H' Gf t_ uc lg):Ext F ad mu H Gf t_ uc lg where
 same:=x.same.trans y.same
 new:=λa o e=>by
  rcases y.new a o e with h|h|h
  .exact x.new a o h
  .refine .inr (.inl ?_)
   cases q:H a with
   |none=>rfl
   |some u=>let⟨u',h'⟩:=x.gu a u q;rw[h] at h';cases h'
  .rcases x.b9 a h with h|h
   .exact .inr (.inr h)
   .exact .inr (.inl h)
 keep:=λa o e n t=>y.keep a o (x.keep a o e n t) (λl=>by
  rcases x.b9 a l with h|h
  .exact n h
  .rw[e] at h;cases h) t
 pre:=λk a e=>y.pre k a (x.pre k a e)
 b9:=λa l=>by
  rcases y.b9 a l with h|h
  .exact x.b9 a h
  .refine .inr ?_
   cases q:H a with
   |none=>rfl
   |some u=>let⟨u',h'⟩:=x.gu a u q;rw[h] at h';cases h'
 gu:=λa o e=>let⟨o1,e1⟩:=x.gu a o e;y.gu a o1 e1
theorem dF.ext{x:DV}{v:V}(h:dF F ad x v)(e:Ext F ad mu H F' aG cW H'):dF F' aG x v:=by
 cases x with
 |p d=>exact Is.same e.same h
 |o k=>let⟨a,h1,h2⟩:=h;exact⟨a,e.pre k a h1,h2⟩
 |w a=>exact h
 |u t fs=>let⟨b,us,h1,h2,h3⟩:=h;exact⟨b,us,h1,e.same _ _ h2,h3.same e.same⟩
 |t d k=>let⟨a,b,u,h1,h2,h3,h4⟩:=h;calc⟨a,b,u,h1,e.same _ _ h2,h3.same e.same,e.pre k b h4⟩
theorem dF.same{x:DV}{v:V}(h:dF F ad x v)(s:aO F F'):dF F' ad x v:=by
 cases x with
 |p d=>exact Is.same s h
 |o k=>exact h
 |w a=>exact h
 |u t fs=>let⟨b,us,h1,h2,h3⟩:=h;exact⟨b,us,h1,s _ _ h2,h3.same s⟩
 |t d k=>let⟨a,b,u,h1,h2,h3,h4⟩:=h;calc⟨a,b,u,h1,s _ _ h2,h3.same s,h4⟩
theorem dF.pre{bP:-O}{x:DV}{v:V}(h:dF F ad x v)(s:∀k a,ad[k]?=U a->x=.o k\/(∃d,x=.t d k)->bP[k]?=U a):dF F bP x v:=by
 cases x with
 |p d=>exact h
 |o k=>let⟨a,h1,h2⟩:=h;exact⟨a,s k a h1 (.inl Y),h2⟩
 |w a=>exact h
 |u t fs=>exact h
 |t d k=>let⟨a,b,u,h1,h2,h3,h4⟩:=h;calc⟨a,b,u,h1,h2,h3,s k b h4 (.inr ⟨d,Y⟩)⟩
noncomputable def Nw(F H H':Hp):Hp:=λa=>match H a with
 |none=>H' a
 |some _=>F a
theorem Nw.same(s:aO F H):aO F (Nw F H H'):=λa o e=>by
 unfold Nw;rw[s a o e];calc e
theorem Nw.sub(s:aO F H)(k:aO H H'):aO (Nw F H H') H':=λa o e=>by
 unfold Nw at e
 cases q:H a with
 |none=>rw[q] at e;exact e
 |some u=>rw[q] at e;calc k a o (s a o e)
theorem Nw.upd{p:O}{o:HO}(s:aO F H)(hp:H p=Z):Nw F H (upd H p o)=upd F p o:=by
 funext a;unfold Nw L2.upd
 by_cases c:a=p
 .subst c;rw[hp,XI Y];simp
 .rw[WK c,WK c]
  cases q:H a with
  |none =>
   cases q2:F a with
   |none=>rfl
   |some u=>rw[s a u q2] at q;cases q
  |some u=>rfl
theorem Nw.refl(s:aO F H):Nw F H H=F:=by
 funext a;unfold Nw
 cases q:H a with
 |none =>
  cases q2:F a with
  |none=>rfl
  |some u=>rw[s a u q2] at q;cases q
 |some u=>rfl
theorem SR.al(S:SR F ad δ σ H)(k:aO H H'):SR (Nw F H H') ad δ σ H':=by
 let sm:=Nw.same (H':=H') S.sub;refine⟨Nw.sub S.sub k,λa l=>?_,S.bX,S.inj,λi ov e=>?_,λi x e=>?_,S.len,aM.same S.tab k,S.nt.up sm λa ha=>by let⟨ps,q⟩:=aM.tb S.tab ha;unfold Nw;rw[q];calc S.nt a ha⟩
 .let⟨i,ov,e1,e2⟩:=l
  let⟨a',o,e3,e4,_⟩:=S.mu i ov e2;rw[e1] at e3;cases e3;unfold Nw;rw[e4];exact S.off a ⟨i,ov,e1,e2⟩
 .let⟨a,o,e1,e2,h⟩:=S.mu i ov e
  exact⟨a,o,e1,k a o e2,h.same sm⟩
 .let⟨v,e1,h⟩:=S.sl i x e
  calc⟨v,e1,h.same sm⟩
theorem Ext.al(S:SR F ad δ σ H)(k:aO H H'):Ext F ad δ.mu H (Nw F H H') ad δ.mu H' where
 same:=Nw.same S.sub
 new:=λa o e=>by
  unfold Nw at e
  cases q:H a with
  |none=>exact .inr (.inl Y)
  |some u=>rw[q] at e;exact .inl e
 keep:=λa o e _ _=>k a o e
 pre:=λ_ _ e=>e
 b9:=λ_ l=>.inl l
 gu:=λa o e=>⟨o,k a o e⟩
theorem SR.own{p:O}{o:HO}{ov:OV}(S:SR F ad δ σ H)(hp:H p=Z)(h:eJ F p ov o):SR F (ad++[p]) ⟨δ.sl,δ.mu++[U ov]⟩ σ (upd H p o):=by
 let old:∀{k:Nat}{w:OV},(δ.mu++[U ov])[k]?=U (U w)->(k<↑δ.mu/\δ.mu[k]?=U (U w))\/(k=↑δ.mu/\w=ov):=λ{k w} e=>by
  by_cases c:k<↑δ.mu
  .rw[NI c] at e;exact .inl ⟨c,e⟩
  .let hl:=(qV.mp e).1
   rw[Fs,Yz] at hl;let ek:k=↑δ.mu:=by symm
   subst ek;rw[NK (Fm _),Yv] at e;exact .inr ⟨Y,by simpa using e.symm⟩
 let pre:∀{k:Nat},k<↑δ.mu->(ad++[p])[k]?=ad[k]?:=λ{k} c=>NI (by rw[S.bX];calc c);let last:(ad++[p])[↑δ.mu]?=U p:=by rw[<-S.bX,NK (Fm _),Yv];rfl
 let np:∀{k:Nat}{a:O}{w:OV},ad[k]?=U a->δ.mu[k]?=U (U w)->a≠p:=λ{k a w} e1 e2=>by
  let⟨a',u,e3,e4,_⟩:=S.mu k w e2;rw[e1] at e3;cases e3;exact cR e4 hp
 refine⟨λa u e=>?_,λa l=>?_,by rw[Fs,Fs,S.bX];rfl,λk l a w w' e1 e2 e3 e4=>?_,λk w e=>?_,λi x e=>?_,S.len,aM.same S.tab (cL hp),S.nt⟩
 .let:=S.sub a u e
  rw[aZ (cR this hp)];exact this
 .let⟨k,w,e1,e2⟩:=l
  rcases old e2 with⟨c,e3⟩|⟨c,e3⟩
  .rw[pre c] at e1;exact S.off a ⟨k,w,e1,e3⟩
  .subst c;rw[last] at e1;cases e1
   cases q:F p with
   |none=>rfl
   |some u=>rw[S.sub p u q] at hp;cases hp
 .rcases old e3 with⟨c,q⟩|⟨c,q⟩
  .rw[pre c] at e1
   rcases old e4 with⟨c',q'⟩|⟨c',q'⟩
   .rw[pre c'] at e2;exact S.inj k l a w w' e1 e2 q q'
   .subst c';rw[last] at e2;cases e2;exact absurd Y (np e1 q)
  .subst c;rw[last] at e1;cases e1
   rcases old e4 with⟨c',q'⟩|⟨c',q'⟩
   .rw[pre c'] at e2;exact absurd Y (np e2 q')
   .exact c'.symm
 .rcases old e with⟨c,q⟩|⟨c,q⟩
  .let⟨a,u,e1,e2,h'⟩:=S.mu k w q
   exact⟨a,u,by rw[pre c];calc e1,by rw[aZ (np e1 q)];calc e2,h'⟩
  .subst c;subst q;exact⟨p,o,last,bK,h⟩
 .let⟨v,e1,h'⟩:=S.sl i x e
  calc⟨v,e1,h'.pre λk a e2 _=>by rw[NI (qV.mp e2).1];calc e2⟩
theorem Ext.own{p:O}{o:HO}{ov:OV}(S:SR F ad δ σ H)(hp:H p=Z):Ext F ad δ.mu H F (ad++[p]) (δ.mu++[U ov]) (upd H p o) where
 same:=λ_ _ e=>e
 new:=λ_ _ e=>.inl e
 keep:=λa u e _ _=>by rw[aZ (cR e hp)];exact e
 pre:=λk a e=>by rw[NI (qV.mp e).1];exact e
 b9:=λa l=>by
  let⟨k,w,e1,e2⟩:=l
  by_cases c:k<↑δ.mu
  .rw[NI c] at e2
   rw[NI (by rw[S.bX];calc c)] at e1;exact .inl ⟨k,w,e1,e2⟩
  .let hl:=(qV.mp e2).1
   rw[Fs,Yz] at hl;let ek:k=↑ad:=by rw[S.bX];symm
   subst ek;rw[NK (Fm _),Yv] at e1;let:p=a:=by simpa using e1
   subst this;exact .inr hp
 gu:=λa u e=>⟨u,by rw[aZ (cR e hp)];calc e⟩
theorem SR.put{k:Nat}{a:O}{o:HO}{ov ow:OV}(S:SR F ad δ σ H)(hk:δ.mu[k]?=U (U ow))(ha:ad[k]?=U a)(h:eJ F a ov o):SR F ad ⟨δ.sl,δ.mu.set k (U ov)⟩ σ (upd H a o):=by
 let kl:=(qV.mp hk).1
 let old:∀{l:Nat}{w:OV},(δ.mu.set k (U ov))[l]?=U (U w)->(l≠k/\δ.mu[l]?=U (U w))\/(l=k/\w=ov):=λ{l w} e=>by
  by_cases c:k=l
  .subst c;rw[YH kl] at e;exact .inr ⟨Y,by simpa using e.symm⟩
  .rw[Yp c] at e;exact .inl ⟨λz=>c z.symm,e⟩
 let lv:∀{l:Nat}{w:OV}{b:O},ad[l]?=U b->(δ.mu.set k (U ov))[l]?=U (U w)->Lv ad δ.mu b:=λ{l w b} e1 e2=>by
  rcases old e2 with⟨_,q⟩|⟨c,_⟩
  .exact⟨l,w,e1,q⟩
  .subst c;exact⟨l,ow,e1,hk⟩
 let tk:aM.ok (upd H a o):=by
  let⟨a',u,e1,e2,h'⟩:=S.mu k ow hk;rw[ha] at e1;cases e1;exact aM.put S.tab e2 h'.kd
 refine⟨λb u e=>?_,λb l=>?_,by rw[Yq];calc S.bX,λl l' b w w' e1 e2 e3 e4=>?_,λl w e=>?_,λi x e=>?_,S.len,tk,S.nt⟩
 .let nb:b≠a:=λz=>by
   subst z;rw[S.off b ⟨k,ow,ha,hk⟩] at e;cases e
  rw[aZ nb];exact S.sub b u e
 .let⟨l,w,e1,e2⟩:=l
  exact S.off b (lv e1 e2)
 .let h1:∃w,δ.mu[l]?=U (U w):=by
   rcases old e3 with⟨_,q⟩|⟨c,_⟩
   .exact⟨_,q⟩
   .subst c;exact⟨_,hk⟩
  let h2:∃w,δ.mu[l']?=U (U w):=by
   rcases old e4 with⟨_,q⟩|⟨c,_⟩
   .exact⟨_,q⟩
   .subst c;exact⟨_,hk⟩
  let⟨w1,q1⟩:=h1;let⟨w2,q2⟩:=h2;exact S.inj l l' b _ _ e1 e2 q1 q2
 .rcases old e with⟨c,q⟩|⟨c,q⟩
  .let⟨b,u,e1,e2,h'⟩:=S.mu l w q
   let nb:b≠a:=λz=>by subst z;exact c (S.inj l k b _ _ e1 ha q hk)
   exact⟨b,u,e1,by rw[aZ nb];calc e2,h'⟩
  .subst c;subst q;exact⟨a,o,ha,bK,h⟩
 .calc S.sl i x e
theorem Ext.put{k:Nat}{a:O}{o:HO}{ov ow:OV}(S:SR F ad δ σ H)(hk:δ.mu[k]?=U (U ow))(ha:ad[k]?=U a):Ext F ad δ.mu H F ad (δ.mu.set k (U ov)) (upd H a o) where
 same:=λ_ _ e=>e
 new:=λ_ _ e=>.inl e
 keep:=λb u e n _=>by rw[aZ λz=>n (by subst z;calc⟨k,ow,ha,hk⟩)];exact e
 pre:=λ_ _ e=>e
 b9:=λb l=>by
  let⟨l,w,e1,e2⟩:=l
  by_cases c:k=l
  .subst c;exact .inl ⟨k,ow,e1,hk⟩
  .rw[Yp c] at e2;exact .inl ⟨l,w,e1,e2⟩
 gu:=λb u e=>by
  by_cases c:b=a
  .subst c;exact⟨o,bK⟩
  .calc⟨u,by rw[aZ c];calc e⟩
theorem SR.fix{k:Nat}{a:O}{o:HO}{ow:OV}(S:SR F ad δ σ H)(hk:δ.mu[k]?=U (U ow))(ha:ad[k]?=U a)(ho:H a=U o):SR (upd F a o) ad ⟨δ.sl,δ.mu.set k Z⟩ σ H:=by
 let kl:=(qV.mp hk).1;let fa:=S.off a ⟨k,ow,ha,hk⟩;let sm:aO F (upd F a o):=λb u e=>by rw[aZ (cR e fa)];exact e
 let old:∀{l:Nat}{w:OV},(δ.mu.set k Z)[l]?=U (U w)->l≠k/\δ.mu[l]?=U (U w):=λ{l w} e=>by
  by_cases c:k=l
  .subst c;rw[YH kl] at e;cases e
  .rw[Yp c] at e;exact⟨λz=>c z.symm,e⟩
 refine⟨λb u e=>?_,λb l=>?_,by rw[Yq];calc S.bX,λl l' b w w' e1 e2 e3 e4=>S.inj l l' b w w' e1 e2 (old e3).2 (old e4).2,λl w e=>?_,λi x e=>?_,S.len,S.tab,S.nt.up sm λb hb=>?_⟩
 .by_cases c:b=a
  .subst c;rw[bK] at e;cases e;exact ho
  .rw[aZ c] at e;exact S.sub b u e
 .let⟨l,w,e1,e2⟩:=l
  let⟨c,q⟩:=old e2;let nb:b≠a:=λz=>by subst z;exact c (S.inj l k b _ _ e1 ha q hk)
  rw[aZ nb];exact S.off b ⟨l,w,e1,q⟩
 .let⟨b,u,e1,e2,h'⟩:=S.mu l w (old e).2
  exact⟨b,u,e1,e2,h'.same sm⟩
 .let⟨v,e1,h'⟩:=S.sl i x e
  exact⟨v,e1,h'.same sm⟩
 .let⟨ps,q⟩:=aM.tb S.tab hb
  let nb:b≠a:=λz=>by
   subst z;let⟨a',u,e1,e2,h'⟩:=S.mu k ow hk;rw[ha] at e1;cases e1;rw[q] at e2;cases e2;exact h'.kind ps Y
  rw[aZ nb];calc S.nt b hb
theorem Ext.fix{k:Nat}{a:O}{o:HO}{ow:OV}(S:SR F ad δ σ H)(hk:δ.mu[k]?=U (U ow))(ha:ad[k]?=U a):Ext F ad δ.mu H (upd F a o) ad (δ.mu.set k Z) H where
 same:=λb u e=>by rw[aZ (cR e (S.off a ⟨k,ow,ha,hk⟩))];exact e
 new:=λb u e=>by
  by_cases c:b=a
  .subst c;exact .inr (.inr ⟨k,ow,ha,hk⟩)
  .rw[aZ c] at e;exact .inl e
 keep:=λb u e _ _=>e
 pre:=λ_ _ e=>e
 b9:=λb l=>by
  let⟨l,w,e1,e2⟩:=l
  by_cases c:k=l
  .subst c;rw[YH (qV.mp hk).1] at e2;cases e2
  .rw[Yp c] at e2;exact .inl ⟨l,w,e1,e2⟩
 gu:=λb u e=>⟨u,e⟩
theorem SR.set{i:Nat}{x:DV}{v:V}(S:SR F ad δ σ H)(h:dF F ad x v):SR F ad ⟨δ.sl.set i (U x),δ.mu⟩ (σ.set i (U v)) H:=by
 refine⟨S.sub,S.off,S.bX,S.inj,S.mu,λj y e=>?_,by rw[Yq,Yq];calc S.len,S.tab,S.nt⟩
 by_cases c:i=j
 .subst c
  let hl:=(qV.mp e).1;rw[Yq] at hl;rw[YH hl] at e;cases e
  exact⟨v,YH (by rw[S.len];calc hl),h⟩
 .rw[Yp c] at e
  let⟨w,e1,h1⟩:=S.sl j y e;calc⟨w,by rw[Yp c];calc e1,h1⟩
end
abbrev WE:=aJ->(DV->aJ->Prop)->Prop
abbrev WA:=aJ->(-DV->aJ->Prop)->Prop
abbrev WT:=aJ->(Bool->aJ->Prop)->Prop
def cM(F:Hp)(ad:-O):-DV->-V->Prop
 |[],vs=>vs=[]
 |x::xs,vs=>∃v r,vs=v::r/\dF F ad x v/\cM F ad xs r
theorem cM.ext{F F' H H':Hp}{ad aG:-O}{mu cW:-(Option OV)}(e:Ext F ad mu H F' aG cW H'):∀{xs:-DV}{vs:-V},cM F ad xs vs->cM F' aG xs vs
 |[],_,h=>h
 |_::_,_,⟨v,r,q,h1,h2⟩=>⟨v,r,q,h1.ext e,cM.ext e h2⟩
inductive tD (f:WE) (σ:St) (H:Hp) (Q:VK):Prop
 |mk (F:Hp) (ad:-O) (δ:aJ) (K:DV->aJ->Prop) (S:SR F ad δ σ H) (q:f δ K) (k:∀x δ',K x δ'->∀v F' aG H',Ext F ad δ.mu H F' aG δ'.mu H'->SR F' aG δ' σ H'->dF F' aG x v->Q v H')
inductive b_ (f:WA) (σ:St) (H:Hp) (Q:-V->Hp->Prop):Prop
 |mk (F:Hp) (ad:-O) (δ:aJ) (K:-DV->aJ->Prop) (S:SR F ad δ σ H) (q:f δ K) (k:∀xs δ',K xs δ'->∀vs F' aG H',Ext F ad δ.mu H F' aG δ'.mu H'->SR F' aG δ' σ H'->cM F' aG xs vs->Q vs H')
inductive di (f:WT) (σ:St) (H:Hp) (Q:Bool->Hp->Prop):Prop
 |mk (F:Hp) (ad:-O) (δ:aJ) (K:Bool->aJ->Prop) (S:SR F ad δ σ H) (q:f δ K) (k:∀b δ',K b δ'->∀F' aG H',Ext F ad δ.mu H F' aG δ'.mu H'->SR F' aG δ' σ H'->Q b H')
def jE(F H:Hp):D->V->Prop
 |.lst ds,v=>∃a vs,v=.ref a/\H a=U (.lst vs)/\ah F ds vs
 |d,v=>Is F d v
def hZ(x:DV)(δ:aJ)(K:D->Prop):Prop:=match x with
 |.p d=>K d
 |.o k=>match δ.mu[k]? with
  |some (some (.lst ds))=>K (.lst ds)
  |some (some (.al _ ds))=>K (.lst ds)
  |_=>False
 |.w _=>False
 |.u _ _=>False
 |.t _ _=>False
theorem jE.of{F H:Hp}(s:aO F H):∀{d:D}{v:V},Is F d v->jE F H d v
 |.lst _,_,h=>by
  erw[Is] at h;let⟨a,vs,e,h1,h2⟩:=h;exact⟨a,vs,e,s _ _ h1,h2⟩
 |.tup _,_,h=>h
 |.non,_,h=>h
 |.bl _,_,h=>h
 |.int _,_,h=>h
 |.str _,_,h=>h
theorem jE.is{F H:Hp}(s:aO F H):∀{d:D}{v:V},jE F H d v->Is H d v
 |.lst _,_,h=>by
  let⟨a,vs,e,h1,h2⟩:=h;erw[Is];exact⟨a,vs,e,h1,h2.same s⟩
 |.tup _,_,h=>Is.same s h
 |.non,_,h=>Is.same s h
 |.bl _,_,h=>Is.same s h
 |.int _,_,h=>Is.same s h
 |.str _,_,h=>Is.same s h
theorem jF{F H:Hp}{ad:-O}{δ:aJ}{σ:St}{x:DV}{v:V}{K:D->Prop}(S:SR F ad δ σ H)(hv:dF F ad x v)(h:hZ x δ K):∃d,K d/\jE F H d v:=by
 cases x with
 |p d=>exact⟨d,h,jE.of S.sub hv⟩
 |o k =>
  unfold hZ at h;dsimp only at h;split at h
  .rename_i ds e
   let⟨a,e1,rfl⟩:=hv;let⟨a',o,e2,e3,vs,rfl,h4⟩:=S.mu k _ e;rw[e1] at e2;cases e2;exact⟨_,h,a,vs,Y,e3,h4⟩
  .rename_i ds e
   let⟨a,e1,rfl⟩:=hv;let⟨a',o,e2,e3,_,vs,rfl,h4⟩:=S.mu k _ e;rw[e1] at e2;cases e2;exact⟨_,h,a,vs,Y,e3,h4⟩
  .exact h.elim
 |w _=>exact h.elim
 |u _ _=>exact h.elim
 |t _ _=>calc h.elim
def lh:-DV->aJ->(-D->Prop)->Prop
 |[],_,K=>K []
 |x::xs,δ,K=>hZ x δ λd=>lh xs δ λds=>K (d::ds)
def jf(F H:Hp):-D->-V->Prop
 |[],vs=>vs=[]
 |d::ds,vs=>∃v r,vs=v::r/\jE F H d v/\jf F H ds r
theorem v_{F H:Hp}{ad:-O}{δ:aJ}{σ:St}(S:SR F ad δ σ H):∀{xs:-DV}{vs:-V}{K:-D->Prop},cM F ad xs vs->lh xs δ K->∃ds,K ds/\jf F H ds vs
 |[],_,_,hv,h=>⟨[],h,hv⟩
 |x::xs,_,_,⟨v,r,rfl,h1,h2⟩,h=>by
  let⟨d,h',rd⟩:=jF S h1 h;let⟨ds,qZ,pW⟩:=v_ S h2 h';calc⟨d::ds,qZ,v,r,Y,rd,pW⟩
abbrev Made(F H:Hp)(K:D->Prop)(Q:VK):Prop:=∀z v H',K z->aO H H'->Is (Nw F H H') z v->Q v H'
inductive zQ (g:D->D->(D->Prop)->Prop) (x y:V) (H:Hp) (Q:VK):Prop
 |mk (F:Hp) (d e:D) (K:D->Prop) (s:aO F H) (rd:jE F H d x) (re:jE F H e y) (q:g d e K) (md:Made F H K Q)
inductive Gg (g:-D->(D->Prop)->Prop) (xs:-V) (H:Hp) (Q:VK):Prop
 |mk (F:Hp) (ds:-D) (K:D->Prop) (s:aO F H) (rd:jf F H ds xs) (q:g ds K) (md:Made F H K Q)
def fO(X:Cx)(f:L->L->Sem L)(g:D->D->(D->Prop)->Prop):Prop :=
 eT X f λx y H Q=>zQ g x y H Q
def Gh(X:Cx)(g:D->D->(D->Prop)->Prop):Prop :=
 tE X λx y H Q=>zQ g x y H Q
def dU(X:Cx)(f:L)(g:-D->(D->Prop)->Prop):Prop :=
 gO X f λxs H Q=>Gg g xs H Q
def d2(f g:WE)(op:D->D->(D->Prop)->Prop):WE:=fun δ K=>f δ λx δ1=>g δ1 λy δ2=>hZ x δ2 λd=>hZ y δ2 λe=>op d e λz=>K (.p z) δ2
def d1(f:WE)(op:D->(D->Prop)->Prop):WE:=fun δ K=>f δ λx δ1=>hZ x δ1 λd=>op d λz=>K (.p z) δ1
def dN(f:WA)(op:-D->(D->Prop)->Prop):WE:=fun δ K=>f δ λxs δ1=>lh xs δ1 λds=>op ds λz=>K (.p z) δ1
def dC(d:D):WE:=fun δ K=>K (.p d) δ
def aa(i:Nat):WE:=fun δ K=>match δ.sl[i]? with
 |some (some x)=>K x δ
 |_=>False
def ai:WA:=fun δ K=>K [] δ
def aq(f:WE)(g:WA):WA:=fun δ K=>f δ λx δ1=>g δ1 λxs δ2=>K (x::xs) δ2
section
variable{X:Cx}{a b c:M}{f g h:WE}{fa:WA}{pos:y}
theorem ue{e:M}{d:D}{v:V}(h:JE X e (tC v))(hi:∀F,Is F d v):JE X e (tD (dC d)):=h.weak fun σ H Q ⟨F,ad,δ,K,S,q,k⟩↦k _ _ q _ _ _ _ .refl S (hi F)
theorem cX{i j pos}:JE X (.Constant (.int i) j pos) (tD (dC (.int i))):=ue mx λ_=>Y
theorem mO{i j pos}:JE X (.Constant (.bool i) j pos) (tD (dC (.bl i))):=ue LI λ_=>Y
theorem wa{j pos}:JE X (.Constant .none j pos) (tD (dC .non)):=ue LL λ_=>Y
theorem uf{x j pos}:JE X (.Constant (.str x) j pos) (tD (dC (.str x))):=ue Ex λ_=>Y
theorem OQ{x:J}{i:Int}{u:L}{pos:y}(hg:Gl X x)(hm:X.mg x=U u)(r:RelV (.int i) u)(hd: ~~~(bL x)):JE X (.Name x pos) (tD (dC (.int i))):=ue (LM hg hm r hd) λ_=>Y
theorem dv(i:Nat){x:J}{pos:y}(hN:‹X.N[i]?=U x›)(hv:sv X.env.scope x:=by first|exact q1a Y|exact q2k (q1a Y)|calc q2k (q2k Y))
  (hd: ~~~(bL x)) (fS: ~~~((x==("__classdict__" : J))=ι)):JE X (.Name x pos) (tD (aa i)) :=
 (Ew hN hv hd fS).weak fun σ H Q ⟨F,ad,δ,K,S,q,k⟩↦by
  unfold aa at q;split at q
  .rename_i x e
   let⟨v,e1,h1⟩:=S.sl i x e;exact⟨v,e1,k _ _ q _ _ _ _ .refl S h1⟩
  .calc q.elim
theorem wc{r:R2}{ta tb:TE}{op:D->D->(D->Prop)->Prop}(hr:∀x y H Q,(zQ op x y H Q)->r x y H Q):∀σ H Q,tD (d2 f g op) σ H Q->sQ r (tD f) (tD g) σ H Q:=by
 ext σ H Q ⟨F,ad,δ,K,S,q,k⟩;calc⟨F,ad,δ,_,S,q,λx δ1 h1 v1 F1 aW H1 E1 S1 V1=>⟨F1,aW,δ1,_,S1,h1,λy δ2 h2 v2 F2 bP H2 E2 S2 V2=>hr _ _ _ _ ?_⟩⟩;let⟨d,h3,rd⟩:=jF S2 (V1.ext E2) h2;let⟨e,h4,re⟩:=jF S2 V2 h3;calc⟨F2,d,e,_,S2.sub,rd,re,h4,λz v H' hz sm is=>k _ _ hz _ _ _ _ ((E1.trans E2).trans (Ext.al S2 sm)) (S2.al sm) is⟩
theorem mP{op:Operator}{o:D->D->(D->Prop)->Prop}(ho:fO X (binaryOp op) o)(ha:JE X a (tD f))(hb:JE X b (tD g)):JE X (.BinOp a op b pos) (tD (d2 f g o)) :=
 (sR ho ha hb).weak (wc (ta:=tD f) (tb:=tD g) λ_ _ _ _ h=>h)
theorem mQ{op:CmpOp}{o:D->D->(D->Prop)->Prop}(ho:fO X (compareOp op) o)(ha:JE X a (tD f))(hb:JE X b (tD g))(hm:behindInMarks op b=ι):JE X (.Compare a [op] [b] pos) (tD (d2 f g o)) :=
 (Mt ho ha hb hm).weak (wc (ta:=tD f) (tb:=tD g) λ_ _ _ _ h=>h)
theorem dH{o:D->D->(D->Prop)->Prop}(ho:Gh X o)(ha:JE X a (tD f))(hb:JE X b (tD g))(hs:E5 b):JE X (.Subscript a b pos) (tD (d2 f g o)) :=
 (E6 ho ha hb hs).weak (wc (ta:=tD f) (tb:=tD g) λ_ _ _ _ h=>h)
theorem bH:JA X [] (b_ ai):=bF.weak fun σ H Q ⟨F,ad,δ,K,S,q,k⟩↦k _ _ q _ _ _ _ .refl S Y
theorem pX:∀σ H Q,b_ (aq f fa) σ H Q->iP (tD f) (b_ fa) σ H Q:=by
 ext σ H Q ⟨F,ad,δ,K,S,q,k⟩;calc⟨F,ad,δ,_,S,q,λx δ1 h1 v1 F1 aW H1 E1 S1 V1=>⟨F1,aW,δ1,_,S1,h1,λxs δ2 h2 vs F2 bP H2 E2 S2 V2=>k _ _ h2 _ _ _ _ (E1.trans E2) S2 ⟨v1,vs,Y,V1.ext E2,V2⟩⟩⟩
theorem gT{e:M}{es:-M}(ha:JE X e (tD f))(hr:JA X es (b_ fa))(hs:‹cj X e es›):JA X (e::es) (b_ (aq f fa)):=(jV ha hr hs).weak pX
theorem fg{es:-M}{c j p}(ha:JE X (.Constant c j p) (tD f))(hr:JA X es (b_ fa)):JA X (.Constant c j p::es) (b_ (aq f fa)):=(tY ha hr).weak pX
theorem bp{es:-M}{x p}(ha:JE X (.Name x p) (tD f))(hr:JA X es (b_ fa)):JA X (.Name x p::es) (b_ (aq f fa)):=(jc ha hr).weak pX
theorem eK{es:-M}{x y k p}(ha:JE X (.Call x y k p) (tD f))(hr:JA X es (b_ fa)):JA X (.Call x y k p::es) (b_ (aq f fa)):=(j5 ha hr).weak pX
theorem zR{es:-M}{x p}(ha:JE X (.List x p) (tD f))(hr:JA X es (b_ fa)):JA X (.List x p::es) (b_ (aq f fa)):=(tZ ha hr).weak pX
theorem pY{es:-M}{x k p}(ha:JE X (.Tuple x k p) (tD f))(hr:JA X es (b_ fa)):JA X (.Tuple x k p::es) (b_ (aq f fa)):=(zy ha hr).weak pX
theorem dZ{es:-M}{x k p}(ha:JE X (.Subscript x k p) (tD f))(hr:JA X es (b_ fa)):JA X (.Subscript x k p::es) (b_ (aq f fa)):=(zz ha hr).weak pX
theorem Gi{r:-V->Hp->VK->Prop}{op:-D->(D->Prop)->Prop}(hr:∀xs H Q,(Gg op xs H Q)->r xs H Q):∀σ H Q,tD (dN fa op) σ H Q->sX r (b_ fa) σ H Q:=by
 ext σ H Q ⟨F,ad,δ,K,S,q,k⟩;calc⟨F,ad,δ,_,S,q,λxs δ1 h1 vs F1 aW H1 E1 S1 V1=>hr _ _ _ ?_⟩;let⟨ds,h2,pW⟩:=v_ S1 V1 h1;calc⟨F1,ds,_,S1.sub,pW,h2,λz v H' hz sm is=>k _ _ hz _ _ _ _ (E1.trans (Ext.al S1 sm)) (S1.al sm) is⟩
theorem kF{x:J}{p:y}{e:M}{es:-M}{id:String}{o:-D->(D->Prop)->Prop}(hc:dU X (.builtin id) o)(hg:Gl X x)(hm:X.mg x=Z)(hv:bootBuiltins x=U (.builtin id))(ha:JA X (e::es) (b_ fa))(hn:x≠"__name__" := by decide)(cV: ~~~(bL x))
  (he:‹cj X e es›) (cw:‹cF X pos es›):JE X (.Call (.Name x p) (e::es) [] pos) (tD (dN fa o)) :=
 (vO hc hg hm hv ha hn cV he cw).weak (Gi λ_ _ _ h=>h)
theorem wd{x:J}{p:y}{e:M}{es:-M}{T:String}{o:-D->(D->Prop)->Prop}(hc:dU X (.type T) o)(hg:Gl X x)(hm:X.mg x=Z)(hv:bootBuiltins x=U (.type T))(ha:JA X (e::es) (b_ fa))(hn:x≠"__name__" := by decide)(cV: ~~~(bL x))
  (he:‹cj X e es›) (cw:‹cF X pos es›):JE X (.Call (.Name x p) (e::es) [] pos) (tD (dN fa o)) :=
 (oq hc hg hm hv ha hn cV he cw).weak (Gi λ_ _ _ h=>h)
end
noncomputable def Gj(k:Nat)(ds:-D):Option DV->Option DV
 |some (.o j)=>if j=k then U (.p (.lst ds)) else U (.o j)
 |some (.t d j)=>if j=k then Z else U (.t d j)
 |s=>s
noncomputable def aJ.fix(δ:aJ)(k:Nat)(ds:-D):aJ:=⟨δ.sl.map (Gj k ds),δ.mu.set k Z⟩
def mR(x:DV)(δ:aJ)(K:D->aJ->Prop):Prop:=match x with
 |.p d=>K d δ
 |.o k=>match δ.mu[k]? with
  |some (some (.lst ds))=>K (.lst ds) (δ.fix k ds)
  |_=>False
 |.w _=>False
 |.u _ _=>False
 |.t _ _=>False
def j7:-DV->aJ->(-D->aJ->Prop)->Prop
 |[],δ,K=>K [] δ
 |x::xs,δ,K=>mR x δ λd δ1=>j7 xs δ1 λds δ2=>K (d::ds) δ2
section
variable{F F' H H':Hp}{ad aG:-O}{δ δ':aJ}{σ σ':St}
theorem SR.fixed{k:Nat}{a:O}{vs:-V}{ds:-D}(S:SR F ad δ σ H)(hk:δ.mu[k]?=U (U (.lst ds)))(ha:ad[k]?=U a)(ho:H a=U (.lst vs))(hi:ah F ds vs):SR (upd F a (.lst vs)) ad (δ.fix k ds) σ H:=by
 let S1:=S.fix hk ha ho;let sm:aO F (upd F a (.lst vs)):=(Ext.fix (o:=.lst vs) S hk ha).same;calc⟨S1.sub,S1.off,S1.bX,S1.inj,S1.mu,λi x e=>?_,by rw[S.len];unfold aJ.fix;rw[pR],S1.tab,S1.nt⟩;unfold aJ.fix at e;rw[WD] at e;let⟨s,e1,e2⟩:=XX.mp e
 match s,e2 with
 |none,e2=>cases e2
 |some (.p d),e2 =>
  cases(show U (DV.p d)=U x from e2)
  exact S1.sl i _ e1
 |some (.w d),e2 =>
  cases(show U (DV.w d)=U x from e2)
  exact S1.sl i _ e1
 |some (.u t fs),e2 =>
  cases(show U (DV.u t fs)=U x from e2)
  exact S1.sl i _ e1
 |some (.t d j),e2 =>
  let e3:(if j=k then Z else U (DV.t d j))=U x:=e2
  by_cases c:j=k
  .rw[XI c] at e3;cases e3
  .rw[WK c] at e3;cases e3;exact S1.sl i _ e1
 |some (.o j),e2 =>
  let e3:(if j=k then U (DV.p (.lst ds)) else U (DV.o j))=U x:=e2;clear e2;let⟨v,h1,a',h2,h3⟩:=S.sl i _ e1
  by_cases c:j=k
  .rw[XI c] at e3
   subst c;cases e3
   rw[ha] at h2;cases h2;calc⟨v,h1,?_⟩;show Is _ (.lst ds) v;erw[Is];exact⟨a,vs,h3,bK,hi.same sm⟩
  .rw[WK c] at e3
   cases e3
   calc⟨v,h1,a',h2,h3⟩
theorem ug{x:DV}{v:V}{K:D->aJ->Prop}(S:SR F ad δ σ H)(hv:dF F ad x v)(h:mR x δ K):∃d δ' F',K d δ'/\Ext F ad δ.mu H F' ad δ'.mu H/\SR F' ad δ' σ H/\Is F' d v:=by
 cases x with
 |p d=>exact⟨d,δ,F,h,.refl,S,hv⟩
 |o k =>
  unfold mR at h;dsimp only at h;split at h
  .rename_i ds e
   let⟨a,e1,rfl⟩:=hv;let⟨a',o,e2,e3,vs,rfl,h4⟩:=S.mu k _ e;rw[e1] at e2;cases e2;calc⟨_,_,_,h,Ext.fix S e e1,S.fixed e e1 e3 h4,?_⟩;erw[Is];exact⟨a,vs,Y,bK,h4.same (Ext.fix (o:=.lst vs) S e e1).same⟩
  .exact h.elim
 |w _=>exact h.elim
 |u _ _=>exact h.elim
 |t _ _=>calc h.elim
theorem wj:∀{xs:-DV}{vs:-V}{δ:aJ}{F:Hp}{K:-D->aJ->Prop},SR F ad δ σ H->cM F ad xs vs->j7 xs δ K->∃ds δ' F',K ds δ'/\Ext F ad δ.mu H F' ad δ'.mu H/\SR F' ad δ' σ H/\ah F' ds vs
 |[],_,δ,F,_,S,hv,h=>⟨[],δ,F,h,.refl,S,by erw[ah];calc hv⟩
 |x::xs,_,δ,F,_,S,⟨v,r,e,h1,h2⟩,h=>by
  subst e;let⟨d,δ1,F1,h',E1,S1,i1⟩:=ug S h1 h;let⟨ds,δ2,F2,qZ,E2,S2,i2⟩:=wj S1 (h2.ext E1) h';calc⟨d::ds,δ2,F2,qZ,E1.trans E2,S2,.cons (i1.same E2.same) i2⟩
end
def bz(fa:WA):WE:=fun δ K=>fa δ λxs δ1=>j7 xs δ1 λds δ2=>↑ds<=1000/\K (.p (.tup ds)) δ2
def cN(fa:WA):WE:=fun δ K=>fa δ λxs δ1=>j7 xs δ1 λds δ2=>↑ds<=1000/\K (.p (.lst ds)) δ2
def q_(fa:WA):WE:=fun δ K=>fa δ λxs δ1=>j7 xs δ1 λds δ2=>↑ds<=1000/\K (.o ↑δ2.mu) ⟨δ2.sl,δ2.mu++[U (.lst ds)]⟩
section
variable{X:Cx}{a b c:M}{es:-M}{f g h:WE}{fa:WA}{t u:WT}{pos:y}
theorem lj{n:Nat}(h:n<=1000):n<=sizeLine:=Zx (mK h)
theorem uh{x1}(ha:JA X es (b_ fa)):JE X (.Tuple es x1 pos) (tD (bz fa)):=(MU ha).weak fun σ H Q ⟨F,ad,δ,K,S,q,k⟩ =>
 ⟨F,ad,δ,_,S,q,λxs δ1 h1 vs F1 aW H1 E1 S1 V1=>by
  let⟨ds,δ2,F2,⟨hl,h2⟩,E2,S2,i2⟩:=wj S1 V1 h1;calc⟨lj (by rw[↑i2];calc hl),λp hp=>?_⟩;let sm:aO H1 (upd H1 p (.tup vs)):=cL hp;calc k _ _ h2 _ _ _ _ ((E1.trans E2).trans (Ext.al S2 sm)) (S2.al sm) ?_;show Is _ (.tup ds) _;erw[Is];rw[Nw.upd S2.sub hp];refine⟨p,vs,Y,bK,i2.same λb o e=>?_⟩
  rw[aZ (cR (S2.sub b o e) hp)];calc e⟩
theorem oH(ha:JA X es (b_ fa)):JE X (.List es pos) (tD (cN fa)):=(vM ha).weak fun σ H Q ⟨F,ad,δ,K,S,q,k⟩ =>
 ⟨F,ad,δ,_,S,q,λxs δ1 h1 vs F1 aW H1 E1 S1 V1=>by
  let⟨ds,δ2,F2,⟨hl,h2⟩,E2,S2,i2⟩:=wj S1 V1 h1;calc⟨lj (by rw[↑i2];calc hl),λp hp=>?_⟩;let sm:aO H1 (upd H1 p (.lst vs)):=cL hp;calc k _ _ h2 _ _ _ _ ((E1.trans E2).trans (Ext.al S2 sm)) (S2.al sm) ?_;show Is _ (.lst ds) _;erw[Is];rw[Nw.upd S2.sub hp];refine⟨p,vs,Y,bK,i2.same λb o e=>?_⟩
  rw[aZ (cR (S2.sub b o e) hp)];calc e⟩
theorem Gk(ha:JA X es (b_ fa)):JE X (.List es pos) (tD (q_ fa)):=(vM ha).weak fun σ H Q ⟨F,ad,δ,K,S,q,k⟩ =>
 ⟨F,ad,δ,_,S,q,λxs δ1 h1 vs F1 aW H1 E1 S1 V1=>by
  let⟨ds,δ2,F2,⟨hl,h2⟩,E2,S2,i2⟩:=wj S1 V1 h1;calc⟨lj (by rw[↑i2];calc hl),λp hp=>?_⟩;let oi:∀{jG},eJ F2 jG (.lst ds) (.lst vs):=λ{jG}=>⟨vs,Y,i2⟩;refine k _ _ h2 _ _ _ _ ((E1.trans E2).trans (Ext.own S2 hp)) (S2.own hp oi) ⟨p,?_,Y⟩
  rw[<-S2.bX,NK (Fm _),Yv];rfl⟩
def pZ(x:DV)(P:Bool->Prop):Prop:=match x with
 |.p (.bl b)=>P b
 |_=>False
def dT(f:WE):WT:=fun δ K=>f δ λx δ1=>pZ x λb=>K b δ1
def jg(t u:WT):WT:=fun δ K=>t δ λb δ1=>if b=θ then u δ1 K else K ι δ1
def kG(t u:WT):WT:=fun δ K=>t δ λb δ1=>if b=θ then K θ δ1 else u δ1 K
def dJ(t:WT):WT:=fun δ K=>t δ λb δ1=>K (!b) δ1
def rh(t:WT)(f g:WE):WE:=fun δ K=>t δ λb δ1=>if b=θ then f δ1 K else g δ1 K
def mS(f g:WE):WE:=fun δ K=>f δ λx δ1=>pZ x λb=>if b=θ then g δ1 K else K (.p (.bl ι)) δ1
def p8(f g:WE):WE:=fun δ K=>f δ λx δ1=>pZ x λb=>if b=θ then K (.p (.bl θ)) δ1 else g δ1 K
def zS(f:WE):WE:=fun δ K=>f δ λx δ1=>pZ x λb=>K (.p (.bl (!b))) δ1
theorem rj{F:Hp}{ad:-O}{x:DV}{v:V}{P:Bool->Prop}(hv:dF F ad x v)(h:pZ x P):∃b,v=.bl b/\P b:=by
 unfold pZ at h;split at h
 .rename_i b
  exact⟨b,hv,h⟩
 .calc h.elim
theorem mT(ha:JE X a (tD f))(he:‹∀whole,isTrue a X.env whole=(do let v <- whole;standAt a.pos;holding [v] (truthy v))›):JT X a (di (dT f)) :=
 (LP ha he).weak fun σ H Q ⟨F,ad,δ,K,S,q,k⟩↦⟨F,ad,δ,_,S,q,λx δ1 h1 v F1 aW H1 E1 S1 V1=>by
  let⟨b,rfl,h2⟩:=rj V1 h1
  calc⟨b,Y,k _ _ h2 _ _ _ E1 S1⟩⟩
theorem fP{op:CmpOp}{o:D->D->(D->Prop)->Prop}(ho:fO X (compareOp op) o)(ha:JE X a (tD f))(hb:JE X b (tD g))(hm:behindInMarks op b=ι):JT X (.Compare a [op] [b] pos) (di (dT (d2 f g o))) :=
 (Mw ho ha hb hm).weak fun σ H Q ⟨F,ad,δ,K,S,q,k⟩↦wc (ta:=tD f) (tb:=tD g) (λ_ _ _ _ h=>h) σ H _ ⟨F,ad,δ,_,S,q,λx δ1 h1 v F1 aW H1 E1 S1 V1=>by
  let⟨b,rfl,h2⟩:=rj V1 h1
  calc⟨b,Y,k _ _ h2 _ _ _ E1 S1⟩⟩
theorem oJ(ha:JT X a (di t)):JT X (.UnaryOp .Not a pos) (di (dJ t)):=(LW ha).weak fun σ H Q ⟨F,ad,δ,K,S,q,k⟩↦⟨F,ad,δ,_,S,q,λb δ1 h1 F1 aW H1 E1 S1=>k _ _ h1 _ _ _ E1 S1⟩
theorem OR:∀σ H Q,di (jg t u) σ H Q->sC (di t) (di u) σ H Q:=fun σ H Q ⟨F,ad,δ,K,S,q,k⟩↦⟨F,ad,δ,_,S,q,λb δ1 h1 F1 aW H1 E1 S1=>by
 cases b with
 |true =>
  rw[XI Y] at h1 ⊢;exact⟨F1,aW,δ1,_,S1,h1,λb δ2 h2 F2 bP H2 E2 S2=>k _ _ h2 _ _ _ (E1.trans E2) S2⟩
 |false =>
  rw[WK Ya] at h1 ⊢
  calc k _ _ h1 _ _ _ E1 S1⟩
theorem OS:∀σ H Q,di (kG t u) σ H Q->Ey (di t) (di u) σ H Q:=fun σ H Q ⟨F,ad,δ,K,S,q,k⟩↦⟨F,ad,δ,_,S,q,λb δ1 h1 F1 aW H1 E1 S1=>by
 cases b with
 |false =>
  rw[WK Ya] at h1 ⊢;exact⟨F1,aW,δ1,_,S1,h1,λb δ2 h2 F2 bP H2 E2 S2=>k _ _ h2 _ _ _ (E1.trans E2) S2⟩
 |true =>
  rw[XI Y] at h1 ⊢
  calc k _ _ h1 _ _ _ E1 S1⟩
theorem JW.weak{e:M}{t t':TT}(h:JW X e t)(k:∀σ H Q,t' σ H Q->t σ H Q):JW X e t':=⟨λwh pins s σ H Q I q=>h wh pins s σ H Q I (k σ H Q q)⟩
theorem Gm(ha:JT X a (di t)):JW X (.BoolOp .And [a] pos) (di t):=LQ ha
theorem ui(ha:JT X a (di t)):JW X (.BoolOp .Or [a] pos) (di t):=LR ha
theorem zT{rest:-M}(ha:JT X a (di t))(hb:JW X (.BoolOp .And (b::rest) pos) (di u)):JW X (.BoolOp .And (a::b::rest) pos) (di (jg t u)):=(LU ha hb).weak OR
theorem oK{rest:-M}(ha:JT X a (di t))(hb:JW X (.BoolOp .Or (b::rest) pos) (di u)):JW X (.BoolOp .Or (a::b::rest) pos) (di (kG t u)):=(LV ha hb).weak OS
theorem zU{op}(ha:JE X a (tD f)):JE X (.BoolOp op [a] pos) (tD f):=LZ ha
theorem Gn{rest:-M}(ha:JE X a (tD f))(hb:JE X (.BoolOp .And (b::rest) pos) (tD g)):JE X (.BoolOp .And (a::b::rest) pos) (tD (mS f g)) :=
 (L0 ha hb).weak fun σ H Q ⟨F,ad,δ,K,S,q,k⟩=>⟨F,ad,δ,_,S,q,λx δ1 h1 v F1 aW H1 E1 S1 V1=>by
  let⟨b,rfl,h2⟩:=rj V1 h1;refine⟨b,Y,?_⟩
  cases b with
  |true =>
   rw[XI Y] at h2 ⊢;exact⟨F1,aW,δ1,_,S1,h2,λx δ2 h3 v F2 bP H2 E2 S2 V2=>k _ _ h3 _ _ _ _ (E1.trans E2) S2 V2⟩
  |false =>
   rw[WK Ya] at h2 ⊢
   calc k _ _ h2 _ _ _ _ E1 S1 Y⟩
theorem OT{rest:-M}(ha:JE X a (tD f))(hb:JE X (.BoolOp .Or (b::rest) pos) (tD g)):JE X (.BoolOp .Or (a::b::rest) pos) (tD (p8 f g)) :=
 (L1 ha hb).weak fun σ H Q ⟨F,ad,δ,K,S,q,k⟩=>⟨F,ad,δ,_,S,q,λx δ1 h1 v F1 aW H1 E1 S1 V1=>by
  let⟨b,rfl,h2⟩:=rj V1 h1;refine⟨b,Y,?_⟩
  cases b with
  |false =>
   rw[WK Ya] at h2 ⊢;exact⟨F1,aW,δ1,_,S1,h2,λx δ2 h3 v F2 bP H2 E2 S2 V2=>k _ _ h3 _ _ _ _ (E1.trans E2) S2 V2⟩
  |true =>
   rw[XI Y] at h2 ⊢
   calc k _ _ h2 _ _ _ _ E1 S1 Y⟩
theorem OU(ha:JE X a (tD f)):JE X (.UnaryOp .Not a pos) (tD (zS f)) :=
 (L3 ha).weak fun σ H Q ⟨F,ad,δ,K,S,q,k⟩↦⟨F,ad,δ,_,S,q,λx δ1 h1 v F1 aW H1 E1 S1 V1=>by
  let⟨b,rfl,h2⟩:=rj V1 h1
  calc⟨b,Y,k _ _ h2 _ _ _ _ E1 S1 Y⟩⟩
theorem Gp(hc:JT X c (di t))(ha:JE X a (tD f))(hb:JE X b (tD g)):JE X (.IfExp c a b pos) (tD (rh t f g)) :=
 (L7 hc ha hb).weak fun σ H Q ⟨F,ad,δ,K,S,q,k⟩↦⟨F,ad,δ,_,S,q,λb δ1 h1 F1 aW H1 E1 S1=>by
  cases b with
  |true =>
   rw[XI Y] at h1 ⊢;exact⟨F1,aW,δ1,_,S1,h1,λx δ2 h3 v F2 bP H2 E2 S2 V2=>k _ _ h3 _ _ _ _ (E1.trans E2) S2 V2⟩
  |false =>
   rw[WK Ya] at h1 ⊢
   calc⟨F1,aW,δ1,_,S1,h1,λx δ2 h3 v F2 bP H2 E2 S2 V2=>k _ _ h3 _ _ _ _ (E1.trans E2) S2 V2⟩⟩
end
structure KS where
 nx:aJ->Prop
 rt:DV->aJ->Prop
 bk:aJ->Prop:=λ_=>False
 ct:aJ->Prop:=λ_=>False
abbrev WS:=KS->aJ->Prop
def Cn(F:Hp)(ad:-O)(mu:-(Option OV))(H:Hp)(P:aJ->Prop)(R:St->Hp->Prop):Prop:=∀δ',P δ'->∀F' aG σ' H',Ext F ad mu H F' aG δ'.mu H'->SR F' aG δ' σ' H'->R σ' H'
class d_ where
 ok:Nat->Int->Prop
 kp:Hp->-O->-(Option OV)->Hp->Prop
 st:∀{F ad mu H F' aG cW H'},Ext F ad mu H F' aG cW H'->kp F ad mu H->kp F' aG cW H'
instance (priority:=low) OW:d_:=⟨λ_ _=>False,λ_ _ _ _=>True,λ_ _=>trivial⟩
section
variable[d_]
structure wk(F:Hp)(ad:-O)(mu:-(Option OV))(H:Hp)(K:KS)(D:Ends):Prop where
 nx:Cn F ad mu H K.nx D.nx
 bk:Cn F ad mu H K.bk D.bk
 ct:Cn F ad mu H K.ct D.ct
 rt:∀x δ',K.rt x δ'->∀v F' aG σ' H',Ext F ad mu H F' aG δ'.mu H'->SR F' aG δ' σ' H'->dF F' aG x v->D.rt v H'
 kp:d_.kp F ad mu H
theorem Cn.ext{F F' H H':Hp}{ad aG:-O}{mu cW:-(Option OV)}{P:aJ->Prop}{R:St->Hp->Prop}(c:Cn F ad mu H P R)(e:Ext F ad mu H F' aG cW H'):Cn F' aG cW H' P R:=fun δ' h _ _ _ _ E S=>c δ' h _ _ _ _ (e.trans E) S
theorem wk.ext{F F' H H':Hp}{ad aG:-O}{mu cW:-(Option OV)}{K:KS}{D:Ends}(c:wk F ad mu H K D)(e:Ext F ad mu H F' aG cW H'):wk F' aG cW H' K D :=
 ⟨c.nx.ext e,c.bk.ext e,c.ct.ext e,λx δ' h _ _ _ _ _ E S V=>c.rt x δ' h _ _ _ _ _ (e.trans E) S V,d_.st e c.kp⟩
inductive cY (G:WS) (D:Ends) (σ:St) (H:Hp):Prop
 |mk (F:Hp) (ad:-O) (δ:aJ) (K:KS) (S:SR F ad δ σ H) (q:G K δ) (k:wk F ad δ.mu H K D)
def aw(G G':WS):WS:=λK δ=>G {K with nx:=G' K} δ
def dz:WS:=λK δ=>K.nx δ
def aP(i:Nat)(f:WE):WS:=λK δ=>f δ λx δ1=>K.nx ⟨δ1.sl.set i (U x),δ1.mu⟩
def iR(f:WE):WS:=λK δ=>f δ λ_ δ1=>K.nx δ1
def aR(f:WE):WS:=λK δ=>f δ λx δ1=>K.rt x δ1
def bA(t:WT)(G G':WS):WS:=λK δ=>t δ λb δ1=>if b=θ then G K δ1 else G' K δ1
section
variable{X:Cx}{e c:M}{st:R}{rest:-R}{f:WE}{t:WT}{G G':WS}{pos:y}
theorem jh:c6 X [] (cY dz):=mz.weak λD σ H ⟨F,ad,δ,K,S,q,k⟩↦k.nx _ q _ _ _ _ .refl S
theorem c7(h:JS X st (cY G)):c6 X [st] (cY G):=sD h
theorem cv(h:JS X st (cY G))(r:c6 X rest (cY G')):c6 X (st::rest) (cY (aw G G')) :=
 (pB h r).weak λD σ H ⟨F,ad,δ,K,S,q,k⟩↦⟨F,ad,δ,_,S,q,⟨fun δ' h _ _ _ _ E S'=>⟨_,_,δ',K,S',h,k.ext E⟩,k.bk,k.ct,k.rt,k.kp⟩⟩
theorem OX{i:Nat}:∀D σ H,cY (aP i f) D σ H->jU (tD f) (pD i) D σ H:=λD σ H ⟨F,ad,δ,K,S,q,k⟩↦⟨F,ad,δ,_,S,q,λx δ1 h1 v F1 aW H1 E1 S1 V1=>k.nx _ h1 _ _ _ _ E1 (S1.set V1)⟩
theorem gb{i:Nat}{x:J}{pos':y}(hN:X.N.Nodup)(hi:X.N[i]?=U x)(hx:Loc X.env.scope x)(he:JE X e (tD f))(hs:‹swapsWith e (U (.Name x pos')) pos.line X.env=pure ι›)
  (hf:autoParam (gK X x) qz1._auto_1):JS X (.Assign [.Name x pos'] e pos) (cY (aP i f)):=(vG hN hi hx he hs hf).weak OX
theorem oM(he:JE X e (tD f))(hs:‹swapsWith e Z pos.line X.env=pure ι›):JS X (.Expr e pos) (cY (iR f)) :=
 (yr he hs).weak λD σ H ⟨F,ad,δ,K,S,q,k⟩↦⟨F,ad,δ,_,S,q,λx δ1 h1 v F1 aW H1 E1 S1 V1=>k.nx _ h1 _ _ _ _ E1 S1⟩
theorem fG(he:JE X e (tD f)):JS X (.Return (U e) pos) (cY (aR f)) :=
 (yt he).weak λD σ H ⟨F,ad,δ,K,S,q,k⟩↦⟨F,ad,δ,_,S,q,λx δ1 h1 v F1 aW H1 E1 S1 V1=>k.rt _ _ h1 _ _ _ _ _ E1 S1 V1⟩
theorem ji{a b:-R}(hc:JT X c (di t))(ha:c6 X a (cY G))(hb:c6 X b (cY G')):JS X (.If c a b pos) (cY (bA t G G')) :=
 (L9 hc ha hb).weak λD σ H ⟨F,ad,δ,K,S,q,k⟩↦⟨F,ad,δ,_,S,q,λb δ1 h1 F1 aW H1 E1 S1=>by
  cases b with
  |true =>
   rw[XI Y] at h1 ⊢;exact⟨F1,aW,δ1,K,S1,h1,k.ext E1⟩
  |false =>
   rw[WK Ya] at h1 ⊢
   calc⟨F1,aW,δ1,K,S1,h1,k.ext E1⟩⟩
def lV:WS:=λ_ _=>False
abbrev WG:=DV->aJ->(aJ->Prop)->Prop
inductive jH (g:WG) (v:V) (σ:St) (H:Hp) (Q:St->Hp->Prop):Prop
 |mk (F:Hp) (ad:-O) (δ:aJ) (x:DV) (K:aJ->Prop) (S:SR F ad δ σ H) (V:dF F ad x v) (q:g x δ K) (k:Cn F ad δ.mu H K Q)
abbrev p9:=-D->aJ->(aJ->Prop)->Prop
def mU(g:p9):kA:=λvs σ H Q=>∃F ad δ ds K,SR F ad δ σ H/\ah F ds vs/\g ds δ K/\Cn F ad δ.mu H K Q
def b7(i:Nat):WG:=λx δ K=>K ⟨δ.sl.set i (U x),δ.mu⟩
def mV:p9:=λds δ K=>match ds with
 |[]=>K δ
 |_=>False
def jI(g:WG)(g':p9):p9:=λds δ K=>match ds with
 |d::r=>g (.p d) δ fun δ1=>g' r δ1 K
 |[]=>False
theorem JG.weak{tg:M}{t t':TG}(h:JG X tg t)(k:∀v σ H Q,t' v σ H Q->t v σ H Q):JG X tg t':=⟨λpins s σ H v u Q I r q=>h pins s σ H v u Q I r (k v σ H Q q)⟩
theorem jz.weak{ts:-M}{t t':kA}(h:jz X ts t)(k:∀v σ H Q,t' v σ H Q->t v σ H Q):jz X ts t':=⟨λpins s σ H v u Q I r q=>h pins s σ H v u Q I r (k v σ H Q q)⟩
theorem lq{i:Nat}{x:J}(hN:X.N.Nodup)(hi:X.N[i]?=U x)(hx:Loc X.env.scope x)(hf:autoParam (gK X x) qz1._auto_1):JG X (.Name x pos) (jH (b7 i)) :=
 (sG hN hi hx hf).weak λv σ H Q ⟨F,ad,δ,x,K,S,V,q,k⟩↦k _ q _ _ _ _ .refl (S.set V)
theorem Gq:jz X [] (mU mV):=gN.weak λvs σ H Q ⟨F,ad,δ,ds,K,S,V,q,k⟩↦by
 unfold mV at q;split at q
 .erw[ah] at V
  exact⟨V,k _ q _ _ _ _ .refl S⟩
 .calc q.elim
theorem zV{es:-M}{g:WG}{g':p9}(h1:JG X e (jH g))(h2:jz X es (mU g'))(hs:‹(assignEach (e::es) X.env).map (·.2)=assign e X.env::(assignEach es X.env).map (·.2)›):jz X (e::es) (mU (jI g g')) :=
 (sI h1 h2 hs).weak λvs σ H Q ⟨F,ad,δ,ds,K,S,V,q,k⟩↦by
  unfold jI at q;split at q
  .rename_i d r
   erw[ah] at V;let⟨v,r',e,i1,i2⟩:=V;exact⟨v,r',e,F,ad,δ,.p d,_,S,i1,q,fun δ' h _ _ _ _ E S'=>⟨_,_,δ',r,K,S',i2.same E.same,h,k.ext E⟩⟩
  .calc q.elim
def oN(n:Nat)(g:p9):WG:=λx δ K=>hZ x δ λd=>match d with
 |.tup ds=>↑ds=n/\g ds δ K
 |.lst ds=>↑ds=n/\g ds δ K
 |_=>False
theorem JG.or{tg:M}{t t':TG}(h:JG X tg t)(h':JG X tg t'):JG X tg (λv σ H Q=>t v σ H Q\/t' v σ H Q):=⟨λpins s σ H v u Q I r q=>q.elim (λq=>h pins s σ H v u Q I r q) λq=>h' pins s σ H v u Q I r q⟩
theorem Gr{es:-M}{k:Nat}{g:p9}{n:Nat}(hc:X.calm=θ)(h:jz X es (mU g))(hn:‹↑(assignEach es X.env)=n›)(fU:‹(assignEach es X.env).findIdx? (·.1)=Z›):JG X (.Tuple es k pos) (jH (oN n g)) :=
 ((yx hc h hn fU).or (OL hc h hn fU)).weak λv σ H Q ⟨F,ad,δ,x,K,S,V,q,k⟩↦by
  let⟨d,q,rd⟩:=jF S V q;split at q
  .rename_i ds
   let wm:Is F (.tup ds) v:=rd;erw[Is] at wm;let⟨a,vs,e,h1,h2⟩:=wm;exact .inl ⟨a,vs,e,bV.of (S.sub _ _ h1),by rw[↑h2];calc q.1,F,ad,δ,ds,K,S,h2,q.2,k⟩
  .rename_i ds
   let⟨a,vs,e,h1,h2⟩:=rd;exact .inr ⟨a,vs,e,bE.of h1,by rw[↑h2];calc q.1,F,ad,δ,ds,K,S,h2,q.2,k⟩
  .calc q.elim
def j8(f:WE)(g:WG):WS:=λK δ=>f δ λx δ1=>g x δ1 K.nx
theorem Gs{tg:M}{g:WG}(he:JE X e (tD f))(hg:JG X tg (jH g))(hs:‹swapsWithSole [tg] e pos.line X.env=pure ι›)(hw:‹swappedStores [tg] e X.env=pure Z›)
  (h1:‹(assignEach [tg] X.env).map (·.2)=[assign tg X.env]›):JS X (.Assign [tg] e pos) (cY (j8 f g)) :=
 (yy he hg hs hw h1).weak λD σ H ⟨F,ad,δ,K,S,q,k⟩↦⟨F,ad,δ,_,S,q,λx δ1 h1 v F1 aW H1 E1 S1 V1=>⟨F1,aW,δ1,x,K.nx,S1,V1,h1,k.nx.ext E1⟩⟩
end
end
structure oO where
 items:-D
 bQ:aJ->Prop
abbrev WI:=aJ->(oO->aJ->Prop)->Prop
def p_(F:Hp)(ad:-O)(it:oO)(J:It):Prop:=∀(F':Hp)(aG:-O)(δ:aJ)(σ:St)(H:Hp),aO F F'->(∀(k:Nat)(a:O),ad[k]?=U a->aG[k]?=U a)->SR F' aG δ σ H->it.bQ δ →
 J.stop ↑it.items H/\∀(i:Nat)(d:D),it.items[i]?=U d->J.go i H/\∀x H',J.qM i H x H'->aO H H'/\Is (Nw F' H H') d x
inductive j9 (w:WI) (σ:St) (H:Hp) (R:It->Hp->Prop):Prop
 |mk (F:Hp) (ad:-O) (δ:aJ) (K:oO->aJ->Prop) (S:SR F ad δ σ H) (q:w δ K) (k:∀it δ',K it δ'->∀J F' aG H',Ext F ad δ.mu H F' aG δ'.mu H'->SR F' aG δ' σ H'->p_ F' aG it J->R J H')
noncomputable def wo(n:Nat):Option DV->Option DV->Option DV
 |none,_=>Z
 |some _,some (.o k)=>if k<n then U (.o k) else Z
 |some _,some (.t d k)=>if k<n then U (.t d k) else Z
 |some _,s=>s
noncomputable def gv(n:Nat):-(Option DV)->-(Option DV)->-(Option DV)
 |s0::r0,s::r=>wo n s0 s::gv n r0 r
 |[],_::r=>Z::gv n [] r
 |_,[]=>[]
noncomputable def aJ.trim(δ0 δ:aJ):aJ:=⟨gv ↑δ0.mu δ0.sl δ.sl,δ.mu.take ↑δ0.mu⟩
theorem zW{n:Nat}:∀(l0 l:-(Option DV)),↑(gv n l0 l)=↑l
 |_::r0,_::r=>by rw[gv,NG,NG,zW r0 r]
 |[],_::r=>by rw[gv,NG,NG,zW [] r]
 |[],[]=>Y
 |_::_,[]=>Y
theorem zX{n:Nat}:∀{l0 l:-(Option DV)}{i:Nat}{x:DV},(gv n l0 l)[i]?=U (U x)->l[i]?=U (U x)/\∀k,x=.o k\/(∃d,x=.t d k)->k<n
 |s0::r0,s::r,0,x,h=>by
  let h:wo n s0 s=U x:=by simpa[gv] using h
  match s0,s,h with
  |none,_,h=>cases h
  |some _,none,h=>cases h
  |some _,some (.p d),h=>cases(show U (DV.p d)=U x from h);exact⟨Y,λk e=>by rcases e with e|⟨_,e⟩<;>cases e⟩
  |some _,some (.w d),h=>cases(show U (DV.w d)=U x from h);exact⟨Y,λk e=>by rcases e with e|⟨_,e⟩<;>cases e⟩
  |some _,some (.u t d),h=>cases(show U (DV.u t d)=U x from h);exact⟨Y,λk e=>by rcases e with e|⟨_,e⟩<;>cases e⟩
  |some _,some (.t d k),h =>
   let h:(if k<n then U (DV.t d k) else Z)=U x:=h
   by_cases c:k<n
   .rw[XI c] at h;cases h;exact⟨Y,λk' e=>by rcases e with e|⟨_,e⟩<;>cases e;calc c⟩
   .rw[WK c] at h;cases h
  |some _,some (.o k),h =>
   let h:(if k<n then U (DV.o k) else Z)=U x:=h
   by_cases c:k<n
   .rw[XI c] at h;cases h;exact⟨Y,λk' e=>by rcases e with e|⟨_,e⟩<;>cases e;calc c⟩
   .rw[WK c] at h;cases h
 |s0::r0,s::r,i+1,x,h=>by
  let h:(gv n r0 r)[i]?=U (U x):=by simpa[gv] using h
  simpa using zX h
 |[],s::r,0,x,h=>by simp[gv] at h
 |[],s::r,i+1,x,h=>by
  let h:(gv n [] r)[i]?=U (U x):=by simpa[gv] using h
  simpa using zX h
 |[],[],i,x,h=>by simp[gv] at h
 |_::_,[],i,x,h=>by simp[gv] at h
section
variable{F F' H H':Hp}{ad aG:-O}{δ δ' δ0:aJ}{σ σ' τ:St}{mu cW:-(Option OV)}{l:O}{o:HO}
theorem Lv.take{n:Nat}{a:O}(h:Lv (ad.take n) (mu.take n) a):Lv ad mu a:=by
 let⟨k,ov,e1,e2⟩:=h
 let hk:k<n:=by
  let:=(qV.mp e1).1;rw[Yb] at this;symm
 rw[Yd hk] at e1 e2;calc⟨k,ov,e1,e2⟩
theorem SR.trim(S:SR F ad δ σ H):SR F (ad.take ↑δ0.mu) (δ0.trim δ) σ H:=by
 let tk:∀{k:Nat}{a:O},(ad.take ↑δ0.mu)[k]?=U a->k<↑δ0.mu/\ad[k]?=U a:=λ{k a} e=>by
  let hk:k<↑δ0.mu:=by
   let:=(qV.mp e).1;rw[Yb] at this;symm
  rw[Yd hk] at e;exact⟨hk,e⟩
 let tm:∀{k:Nat}{w:Option OV},(δ.mu.take ↑δ0.mu)[k]?=U w->k<↑δ0.mu/\δ.mu[k]?=U w:=λ{k w} e=>by
  let hk:k<↑δ0.mu:=by
   let:=(qV.mp e).1;rw[Yb] at this;symm
  rw[Yd hk] at e;exact⟨hk,e⟩
 refine⟨S.sub,λa x=>S.off a x.take,?_,λk l a w w' e1 e2 e3 e4=>S.inj k l a w w' (tk e1).2 (tk e2).2 (tm e3).2 (tm e4).2,λk ov e=>?_,λi x e=>?_,?_,S.tab,S.nt⟩
 .show ↑(ad.take _)=↑(δ.mu.take _)
  rw[Yb,Yb,S.bX]
 .let⟨a,o,e1,e2,h⟩:=S.mu k ov (tm e).2
  exact⟨a,o,by rw[Yd (tm e).1];calc e1,e2,h⟩
 .let⟨e1,e2⟩:=zX e
  let⟨v,h1,h2⟩:=S.sl i x e1;exact⟨v,h1,h2.pre λk a h3 z=>by rw[Yd (e2 k z)];calc h3⟩
 .show ↑σ=↑(gv _ _ _)
  rw[zW];calc S.len
theorem Ext.trim{n:Nat}(e:Ext F ad mu H F' aG cW H')(hn:↑ad=n):Ext F ad mu H F' (aG.take n) (cW.take n) H' :=
 ⟨e.same,e.new,e.keep,λk a h=>by rw[Yd (by rw[<-hn];calc(qV.mp h).1)];calc e.pre k a h,λa x=>e.b9 a x.take,e.gu⟩
theorem SR.other(S:SR F ad δ σ H)(hf:F l=Z)(hl:¬ Lv ad δ.mu l)(tk:aM.ok (upd H l o)):SR F ad δ σ (upd H l o):=by
 refine⟨λa u e=>?_,S.off,S.bX,S.inj,λk ov e=>?_,S.sl,S.len,tk,S.nt⟩
 .rw[aZ (cR e hf)];exact S.sub a u e
 .let⟨a,u,e1,e2,h⟩:=S.mu k ov e
  calc⟨a,u,e1,by rw[aZ λz=>hl (by subst z;calc⟨k,ov,e1,e⟩)];calc e2,h⟩
theorem Ext.other(e:Ext F ad mu H F' aG cW H')(hl:H l=Z):Ext F ad mu H F' aG cW (upd H' l o) :=
 ⟨e.same,e.new,λa u h n t=>by rw[aZ (cR h hl)];calc e.keep a u h n t,e.pre,e.b9,λa u h=>by rw[aZ (cR h hl)];calc e.gu a u h⟩
theorem SR.adopt(S:SR F ad δ σ H)(hf:F l=Z)(ho:H l=U o)(hl:¬ Lv ad δ.mu l)(no:∀ps,o≠.tbl ps:=by ext _ z;cases z):SR (upd F l o) ad δ σ H:=by
 let sm:aO F (upd F l o):=cL hf
 refine⟨λa u e=>?_,λa x=>?_,S.bX,S.inj,λk ov e=>?_,λi x e=>?_,S.len,S.tab,S.nt.up sm λa ha=>by
  let⟨ps,q⟩:=aM.tb S.tab ha;rw[aZ λz=>by subst z;rw[ho] at q;calc no ps (Yf q)]
  calc S.nt a ha⟩
 .by_cases c:a=l
  .subst c;rw[bK] at e;cases e;exact ho
  .rw[aZ c] at e;exact S.sub a u e
 .rw[aZ λz=>hl (by subst z;calc x)];exact S.off a x
 .let⟨a,u,e1,e2,h⟩:=S.mu k ov e
  exact⟨a,u,e1,e2,h.same sm⟩
 .let⟨v,e1,h⟩:=S.sl i x e
  calc⟨v,e1,h.same sm⟩
theorem Ext.adopt(e:Ext F ad mu H F' aG cW H')(hl:H l=Z)(hf:F' l=Z):Ext F ad mu H (upd F' l o) aG cW H' :=
 ⟨e.same.trans (cL hf),λa u h=>by
  by_cases c:a=l
  .subst c;exact .inr (.inl hl)
  .rw[aZ c] at h;calc e.new a u h,e.keep,e.pre,e.b9,e.gu⟩
theorem SR.cb{ov:OV}(S:SR F ad δ σ H)(hf:F l=Z)(ho:H l=U o)(hl:¬ Lv ad δ.mu l)(h:eJ F l ov o):SR F (ad++[l]) ⟨δ.sl,δ.mu++[U ov]⟩ σ H:=by
 let old:∀{k:Nat}{w:OV},(δ.mu++[U ov])[k]?=U (U w)->(k<↑δ.mu/\δ.mu[k]?=U (U w))\/(k=↑δ.mu/\w=ov):=λ{k w} e=>by
  by_cases c:k<↑δ.mu
  .rw[NI c] at e;exact .inl ⟨c,e⟩
  .let hl:=(qV.mp e).1
   rw[Fs,Yz] at hl;let ek:k=↑δ.mu:=by symm
   subst ek;rw[NK (Fm _),Yv] at e;exact .inr ⟨Y,by simpa using e.symm⟩
 let pre:∀{k:Nat},k<↑δ.mu->(ad++[l])[k]?=ad[k]?:=λ{k} c=>NI (by rw[S.bX];calc c);let last:(ad++[l])[↑δ.mu]?=U l:=by rw[<-S.bX,NK (Fm _),Yv];rfl
 refine⟨S.sub,λa x=>?_,by rw[Fs,Fs,S.bX];rfl,λk k' a w w' e1 e2 e3 e4=>?_,λk w e=>?_,λi x e=>?_,S.len,S.tab,S.nt⟩
 .let⟨k,w,e1,e2⟩:=x
  rcases old e2 with⟨c,e3⟩|⟨c,e3⟩
  .rw[pre c] at e1;exact S.off a ⟨k,w,e1,e3⟩
  .subst c;rw[last] at e1;cases e1;exact hf
 .rcases old e3 with⟨c,q⟩|⟨c,q⟩
  .rw[pre c] at e1
   rcases old e4 with⟨c',q'⟩|⟨c',q'⟩
   .rw[pre c'] at e2;exact S.inj k k' a w w' e1 e2 q q'
   .subst c';rw[last] at e2;cases e2;exact absurd ⟨k,w,e1,q⟩ hl
  .subst c;rw[last] at e1;cases e1
   rcases old e4 with⟨c',q'⟩|⟨c',q'⟩
   .rw[pre c'] at e2;exact absurd ⟨k',w',e2,q'⟩ hl
   .exact c'.symm
 .rcases old e with⟨c,q⟩|⟨c,q⟩
  .let⟨a,u,e1,e2,h'⟩:=S.mu k w q
   exact⟨a,u,by rw[pre c];calc e1,e2,h'⟩
  .subst c;subst q;exact⟨l,o,last,ho,h⟩
 .let⟨v,e1,h'⟩:=S.sl i x e
  calc⟨v,e1,h'.pre λk a e2 _=>by rw[NI (qV.mp e2).1];calc e2⟩
theorem Ext.cb{ov:OV}(e:Ext F ad mu H F' aG cW H')(hl:H l=Z)(hm:↑aG=↑cW):Ext F ad mu H F' (aG++[l]) (cW++[U ov]) H' :=
 ⟨e.same,e.new,e.keep,λk a h=>by rw[NI (qV.mp (e.pre k a h)).1];calc e.pre k a h,λa x=>by
  let⟨k,w,e1,e2⟩:=x
  by_cases c:k<↑cW
  .rw[NI c] at e2
   rw[NI (by rw[hm];calc c)] at e1;exact e.b9 a ⟨k,w,e1,e2⟩
  .let jj:=(qV.mp e2).1
   rw[Fs,Yz] at jj;let ek:k=↑aG:=by rw[hm];symm
   subst ek;rw[NK (Fm _),Yv] at e1;let:l=a:=by simpa using e1
   subst this;calc .inr hl,e.gu⟩
theorem SR.back{sl:-(Option DV)}(S0:SR F ad δ σ H)(e:Ext F ad δ.mu H F' aG cW H')(S:SR F' aG ⟨sl,cW⟩ τ H'):SR F' aG ⟨δ.sl,cW⟩ σ H' :=
 ⟨S.sub,S.off,S.bX,S.inj,S.mu,λi x q=>let⟨v,h1,h2⟩:=S0.sl i x q;⟨v,h1,h2.ext e⟩,S0.len,S.tab,S.nt⟩
noncomputable def dM(cp:-(Option Nat))(sl:-(Option DV)):-(Option DV):=cp.map λo=>match o with
 |some i=>(sl[i]?).join
 |none=>Z
theorem SR.uj{cp:-(Option Nat)}(S:SR F ad δ σ H):SR F ad ⟨dM cp δ.sl,δ.mu⟩ (iQ cp σ) H:=by
 calc⟨S.sub,S.off,S.bX,S.inj,S.mu,λj x e=>?_,by unfold iQ dM;rw[pR,pR],S.tab,S.nt⟩;unfold dM at e;rw[WD] at e;let⟨o,e1,e2⟩:=XX.mp e
 match o,e2 with
 |none,e2=>cases e2
 |some i,e2 =>
  let e2:(δ.sl[i]?).join=U x:=e2
  cases q:δ.sl[i]? with
  |none=>rw[q] at e2;cases e2
  |some z =>
   rw[q] at e2;let e3:z=U x:=e2;subst e3;let⟨v,h1,h2⟩:=S.sl i x q;calc⟨v,?_,h2⟩;unfold iQ;rw[WD,e1];show U ((σ[i]?).join)=U (U v);rw[h1];rfl
end
def lu(δ0:aJ)(bQ:aJ->Prop)(g:WG)(b:WS)(K:KS):-D->aJ->Prop
 |[],δ=>bQ δ/\K.nx δ
 |d::r,δ=>bQ δ/\g (.p d) δ fun δ1=>b {nx:=fun δ2=>lu δ0 bQ g b K r (δ0.trim δ2),ct:=fun δ2=>lu δ0 bQ g b K r (δ0.trim δ2),bk:=K.nx,rt:=K.rt} δ1
def fH(w:WI)(g:WG)(b:WS):WS:=λK δ=>w δ λit δ1=>lu δ1 it.bQ g b K it.items δ1
def jJ(δ0:aJ)(bQ:aJ->Prop)(g:WG)(t:WT)(f:WE)(K:-D->aJ->Prop):-D->-D->aJ->Prop
 |[],acc,δ=>bQ δ/\K acc δ
 |d::r,acc,δ=>bQ δ/\g (.p d) δ fun δ1=>t δ1 λb δ2=>if b=θ then f δ2 λx δ3=>mR x δ3 λe δ4=>↑acc<1000/\jJ δ0 bQ g t f K r (acc++[e]) (δ0.trim δ4) else jJ δ0 bQ g t f K r acc (δ0.trim δ2)
def fV(w:WI)(cp:-(Option Nat))(g:WG)(t:WT)(f:WE):WE:=fun δ K=>w δ λit δ1=>jJ ⟨dM cp δ1.sl,δ1.mu⟩ it.bQ g t f (λacc δ'=>K (.p (.lst acc)) ⟨δ1.sl,δ'.mu⟩) it.items [] ⟨dM cp δ1.sl,δ1.mu⟩
def mW(w:WI)(cp:-(Option Nat))(g:WG)(t:WT)(f:WE):WE:=fun δ K=>w δ λit δ1=>jJ ⟨dM cp δ1.sl,δ1.mu⟩ it.bQ g t f (λacc δ'=>K (.o ↑δ'.mu) ⟨δ1.sl,δ'.mu++[U (.lst acc)]⟩) it.items [] ⟨dM cp δ1.sl,δ1.mu⟩
section
variable{X:Cx}{tg iter elt:M}{body:-R}{w:WI}{g:WG}{b:WS}{pos:y}{ifs:-M}{t:WT}{f:WE}{scope:o}
theorem wq[d_](hp:PassesOwn (ς X.prog X.w) X.A X.env X.xe)(hc:X.calm=θ)(hi:JI X tg iter (j9 w))(hg:JG X tg (jH g))(hb:c6 X body (cY b))(hs:‹∀x,foldedSetIterable iter X.env x=pure x›):
  JS X (.For tg iter body [] pos) (cY (fH w g b)):=(yC hp hc hi hg hb hs).weak λD σ H ⟨F,ad,δ,K,S,q,k⟩=>by
 calc⟨F,ad,δ,_,S,q,λit δ1 h1 J F1 aW H1 E1 S1 I1=>?_⟩;let k1:=k.ext E1;calc⟨λi m σ' H'=>∃F' aG δ',i+m=↑it.items/\Ext F1 aW δ1.mu H1 F' aG δ'.mu H'/\SR F' aG δ' σ' H'/\lu δ1 it.bQ g b K (it.items.drop i) δ',⟨↑it.items,F1,aW,δ1,⋯,.refl,S1,h1⟩,?_⟩;ext i m σ' H' ⟨F',aG,δ',hm,E',S',h⟩
 by_cases fL:i<↑it.items
 .rw[q0m fL] at h
  let⟨ck,h⟩:=h;let⟨go,yl⟩:=(I1 F' aG δ' σ' H' E'.same E'.pre S' ck).2 i _ (pQ fL);calc .inr ⟨go,fun σ2 H2=>∃F2 bP δ2,Ext F1 aW δ1.mu H1 F2 bP δ2.mu H2/\SR F2 bP δ2 σ2 H2/\lu δ1 it.bQ g b K (it.items.drop (i+1)) δ2,fun σ2 H2 ⟨F2,bP,δ2,e1,e2,e3⟩↦⟨m-1,⋯,F2,bP,δ2,⋯,e1,e2,e3⟩,λx H2 y=>?_⟩;let⟨sm,is⟩:=yl x H2 y;let E2:=E'.trans (Ext.al S' sm);calc⟨_,aG,δ',.p _,_,S'.al sm,is,h,fun δ3 h3 F3 rm σ3 H3 E3 S3=>?_⟩;let um:=E2.trans E3;refine⟨F3,rm,δ3,_,S3,h3,⟨fun δ4 h4 F4 wt σ4 H4 E4 S4=>⟨F4,_,_,(um.trans E4).trim S1.bX,S4.trim,h4⟩,k1.nx.ext um,fun δ4 h4 F4 wt σ4 H4 E4 S4=>⟨F4,_,_,(um.trans E4).trim S1.bX,S4.trim,h4⟩,(k1.ext um).rt,(k1.ext um).kp⟩⟩
 .let ei:i=↑it.items:=by symm
  subst ei;rw[q13 (Fm _)] at h;let⟨ck,h⟩:=h;calc .inl ⟨(I1 F' aG δ' σ' H' E'.same E'.pre S' ck).1,k1.nx _ h _ _ _ _ E' S'⟩
def fh:WT:=fun δ K=>K θ δ
theorem JF.weak{ifs:-M}{t t':TT}(h:JF X ifs t)(k:∀σ H Q,t' σ H Q->t σ H Q):JF X ifs t':=⟨λpins s σ H Q I q=>h pins s σ H Q I (k σ H Q q)⟩
theorem wu:JF X [] (di fh):=pS.weak fun σ H Q ⟨F,ad,δ,K,S,q,k⟩↦k _ _ q _ _ _ .refl S
theorem zY{c:M}(h:JT X c (di t)):JF X [c] (di t):=NM h
theorem Gu{J:It}{l:O}{F1:Hp}{aW:-O}{δ1:aJ}{σ:St}{H1:Hp}{it:oO}{cp:-(Option Nat)}{Q:VK}{K:-D->aJ->Prop}(S1:SR F1 aW δ1 σ H1)(I1:p_ F1 aW it J)(hl:H1 l=Z)
  (h:jJ ⟨dM cp δ1.sl,δ1.mu⟩ it.bQ g t f K it.items [] ⟨dM cp δ1.sl,δ1.mu⟩)
  (fin:∀acc δ' F' aG τ H' ys,K acc δ'->Ext F1 aW δ1.mu H1 F' aG δ'.mu H'->SR F' aG δ' τ H'->H' l=U (.lst ys)->F' l=Z->¬ Lv aG δ'.mu l->ah F' acc ys->Q (.ref l) H') :
  Fv J (jH g) (di t) (tD f) l (iQ cp σ) (upd H1 l (.lst [])) Q:=by
 let f1:F1 l=Z:=by
  cases q:F1 l with
  |none=>rfl
  |some u=>rw[S1.sub l u q] at hl;cases hl
 let nl:∀{ad mu},(∀a,Lv ad mu a->Lv aW δ1.mu a\/H1 a=Z)->True:=λ_=>trivial
 let l1:¬ Lv aW δ1.mu l:=λ⟨k,ov,e1,e2⟩↦by
  let⟨a,o,e3,e4,_⟩:=S1.mu k ov e2;rw[e1] at e3;cases e3;rw[hl] at e4;cases e4
 let S0:SR F1 aW ⟨dM cp δ1.sl,δ1.mu⟩ (iQ cp σ) (upd H1 l (.lst [])):=S1.uj.other f1 l1 (aM.same S1.tab (cL hl));calc⟨λi m τ H'=>∃F' aG δ' acc ys,i+m=↑it.items/\Ext F1 aW δ1.mu H1 F' aG δ'.mu H'/\SR F' aG δ' τ H'/\H' l=U (.lst ys)/\F' l=Z/\¬ Lv aG δ'.mu l/\ah F' acc ys/\jJ ⟨dM cp δ1.sl,δ1.mu⟩ it.bQ g t f K (it.items.drop i) acc δ',⟨↑it.items,F1,aW,_,[],[],⋯,Ext.refl.other hl,S0,bK,f1,l1,.nil,h⟩,?_⟩;ext i m τ H' ⟨F',aG,δ',acc,ys,hm,E',S',jj,mX,oP,ia,h⟩
 by_cases fL:i<↑it.items
 .rw[q0m fL] at h
  let⟨ck,h⟩:=h;let⟨go,yl⟩:=(I1 F' aG δ' τ H' E'.same E'.pre S' ck).2 i _ (pQ fL)
  let step:∀{F2:Hp}{bP:-O}{zZ:-(Option OV)}{H2:Hp},Ext F' aG δ'.mu H' F2 bP zZ H2->H2 l=U (.lst ys)/\F2 l=Z/\¬ Lv bP zZ l/\ah F2 acc ys:=λ{F2 bP zZ H2} e=>by
   refine⟨e.keep _ _ jj oP (λz=>by let⟨ps,q⟩:=aM.tb S1.tab z;rw[hl] at q;cases q),?_,λz=>?_,ia.same e.same⟩
   .cases q:F2 l with
    |none=>rfl
    |some u =>
     rcases e.new l u q with z|z|z
     .rw[mX] at z;cases z
     .rw[jj] at z;cases z
     .exact absurd z oP
   .rcases e.b9 l z with z|z
    .exact oP z
    .rw[jj] at z;cases z
  refine .inr ⟨go,fun τ2 H2=>∃F2 bP δ2 mY wx,Ext F1 aW δ1.mu H1 F2 bP δ2.mu H2/\SR F2 bP δ2 τ2 H2/\H2 l=U (.lst wx)/\F2 l=Z/\¬ Lv bP δ2.mu l/\ah F2 mY wx/\jJ ⟨dM cp δ1.sl,δ1.mu⟩ it.bQ g t f K (it.items.drop (i+1)) mY δ2,
   fun τ2 H2 ⟨F2,bP,δ2,mY,wx,r⟩↦⟨m-1,⋯,F2,bP,δ2,mY,wx,⋯,r⟩,λx H2 y=>?_⟩
  let⟨sm,is⟩:=yl x H2 y;let X2:=Ext.al S' sm;calc⟨_,aG,δ',.p _,_,S'.al sm,is,h,fun δ3 h3 F3 rm σ3 H3 X3 S3=>?_⟩;calc⟨F3,rm,δ3,_,S3,h3,λbb δ4 h4 F4 wt H4 X4 S4=>?_⟩;let z0:=(X2.trans X3).trans X4
  cases bb with
  |false =>
   dsimp only at h4 ⊢;rw[WK Ya] at h4 ⊢;let⟨a1,a2,a3,a4⟩:=step z0;exact⟨F4,_,_,acc,ys,(E'.trans z0).trim S1.bX,S4.trim (δ0:=⟨dM cp δ1.sl,δ1.mu⟩),a1,a2,λz=>a3 z.take,a4,h4⟩
  |true =>
   dsimp only at h4 ⊢;rw[XI Y] at h4 ⊢;calc⟨F4,wt,δ4,_,S4,h4,λy δ5 h5 v F5 WU H5 X5 S5 V5=>?_⟩;let⟨e,δ6,F6,⟨hlen,h6⟩,X6,S6,i6⟩:=ug S5 V5 h5;let Gv:=(z0.trans X5).trans X6;let⟨a1,a2,a3,a4⟩:=step Gv;calc⟨ys,a1,mK (by rw[↑a4];symm),F6,_,_,acc++[e],ys++[v],?_,(S6.other a2 a3 (aM.put S6.tab a1 (.inl ⟨_,Y⟩))).trim (δ0:=⟨dM cp δ1.sl,δ1.mu⟩),bK,a2,λz=>a3 z.take,a4.snoc i6,h6⟩;exact((E'.trans Gv).other hl).trim S1.bX
 .let ei:i=↑it.items:=by symm
  subst ei;rw[q13 (Fm _)] at h;let⟨ck,h⟩:=h;calc .inl ⟨(I1 F' aG δ' τ H' E'.same E'.pre S' ck).1,fin _ _ _ _ _ _ _ h E' S' jj mX oP ia⟩
theorem Gw{cp:-(Option Nat)}:∀σ H Q,tD (fV w cp g t f) σ H Q->tM (j9 w) cp (λ_=>jH g) (λ_=>di t) (λ_=>tD f) σ H Q:=fun σ H Q ⟨F,ad,δ,K,S,q,k⟩=>by
 calc⟨F,ad,δ,_,S,q,λit δ1 h1 J F1 aW H1 E1 S1 I1=>λd l hl=>?_⟩;calc Gu S1 I1 hl h1 λacc δ' F' aG τ H' ys hk E' S' jj mX oP ia=>?_;let sm:aO F' (upd F' l (.lst ys)):=cL mX;calc k _ _ hk _ _ _ _ (E1.trans (E'.adopt hl mX)) (SR.back (sl:=δ'.sl) S1 (E'.adopt hl mX) (S'.adopt mX jj oP)) ?_;show Is _ (.lst acc) _;erw[Is];calc⟨l,ys,Y,bK,ia.same sm⟩
theorem OY{cp:-(Option Nat)}:∀σ H Q,tD (mW w cp g t f) σ H Q->tM (j9 w) cp (λ_=>jH g) (λ_=>di t) (λ_=>tD f) σ H Q:=fun σ H Q ⟨F,ad,δ,K,S,q,k⟩=>by
 calc⟨F,ad,δ,_,S,q,λit δ1 h1 J F1 aW H1 E1 S1 I1=>λd l hl=>?_⟩;calc Gu S1 I1 hl h1 λacc δ' F' aG τ H' ys hk E' S' jj mX oP ia=>?_;let S2:=S'.cb (ov:=.lst acc) mX jj oP ⟨ys,Y,ia⟩;let E2:=E'.cb (ov:=.lst acc) hl S'.bX;calc k _ _ hk _ _ _ _ (E1.trans E2) (SR.back (sl:=δ'.sl) S1 E2 S2) ⟨l,?_,Y⟩;rw[<-S'.bX,NK (Fm _),Yv];rfl
theorem uo(cp:-(Option Nat))(Nb:-J)(hc:X.calm=θ)(hi:JI X tg iter (j9 w))(hg:∀d,JG (cK X scope Nb d) tg (jH g))(hf:∀d,JF (cK X scope Nb d) ifs (di t))(he:∀d,JE (cK X scope Nb d) elt (tD f))
  (hk:‹scope.kind=.function›) (ho:autoParam (k6 X.N X.env.scope scope Nb cp=θ) qz2._auto_1) (hs:‹∀x,foldedSetIterable iter X.env x=pure x›) :
  JE X (.ListComp elt [⟨tg,iter,ifs,0⟩] scope pos) (tD (fV w cp g t f)):=(FE cp Nb hc hi hg hf he hk ho hs).weak Gw
theorem Gx(cp:-(Option Nat))(Nb:-J)(hc:X.calm=θ)(hi:JI X tg iter (j9 w))(hg:∀d,JG (cK X scope Nb d) tg (jH g))(hf:∀d,JF (cK X scope Nb d) ifs (di t))(he:∀d,JE (cK X scope Nb d) elt (tD f))
  (hk:‹scope.kind=.function›) (ho:autoParam (k6 X.N X.env.scope scope Nb cp=θ) qz2._auto_1) (hs:‹∀x,foldedSetIterable iter X.env x=pure x›) :
  JE X (.ListComp elt [⟨tg,iter,ifs,0⟩] scope pos) (tD (mW w cp g t f)):=(FE cp Nb hc hi hg hf he hk ho hs).weak OY
theorem OZ[d_](cp:-(Option Nat))(Nb:-J){i:Nat}{x:J}{pos' iz:y}(hN:X.N.Nodup)(hi:X.N[i]?=U x)(hx:Loc X.env.scope x)(hc:X.calm=θ)(hit:JI X tg iter (j9 w))(hg:∀d,JG (cK X scope Nb d) tg (jH g))(hf:∀d,JF (cK X scope Nb d) ifs (di t))(he:∀d,JE (cK X scope Nb d) elt (tD f))
  (hk:‹scope.kind=.function›) (ho:autoParam (k6 X.N X.env.scope scope Nb cp=θ) qz2._auto_1) (hs:‹∀x,foldedSetIterable iter X.env x=pure x›)
  (tQ:‹swapsWith (.ListComp elt [⟨tg,iter,ifs,0⟩] scope pos) (U (.Name x pos')) iz.line X.env=pure θ›)
  (lR:autoParam (gK X x) qz1._auto_1) :
  JS X (.Assign [.Name x pos'] (.ListComp elt [⟨tg,iter,ifs,0⟩] scope pos) iz) (cY (aP i (fV w cp g t f))) :=
 (N5 cp Nb hN hi hx hc hit hg hf he hk ho hs tQ lR).weak λD σ H ⟨F,ad,δ,K,S,q,k⟩↦Gw σ H _ ⟨F,ad,δ,_,S,q,λx δ1 h1 v F1 aW H1 E1 S1 V1=>k.nx _ h1 _ _ _ _ E1 (S1.set V1)⟩
end
inductive RV where
 |p (d:D)|n (ds:-D)|a (j:Nat)|t (d:D) (ds:-D)
def qa(F' H H':Hp)(d:D)(ds:-D)(v:V):Prop:=∃a b u vs,v=.ref a/\F' a=U (.tup [u,.ref b])/\Is F' d u/\H b=Z/\H' b=U (.lst vs)/\F' b=Z/\ah F' ds vs
abbrev GD:=-DV->-OV->(RV->-OV->Prop)->Prop
structure wz(F:Hp)(ad:-O)(H:Hp)(r:RV)(ows:-OV)(v:V)(F' H':Hp):Prop where
 sub:aO F' H'
 same:aO F F'
 new:∀a o,F' a=U o->F a=U o\/H a=Z
 keep:∀a o,H a=U o->a∉ad->a∉aM.ad->H' a=U o
 tab:aM.ok H'
 nt:NT F'
 len:↑ows=↑ad
 own:∀(j:Nat)(ow:OV),ows[j]?=U ow->∃a o,ad[j]?=U a/\H' a=U o/\eJ F' a ow o
 off:∀a∈ad,F' a=Z
 res:match r with
  |.p d=>Is F' d v
  |.n ds=>∃a vs,v=.ref a/\H a=Z/\H' a=U (.lst vs)/\F' a=Z/\ah F' ds vs
  |.a j=>∃a,ad[j]?=U a/\v=.ref a
  |.t d ds=>qa F' H H' d ds v
inductive lW (G:GD) (n:Nat) (vs:-V) (H:Hp) (Q:VK) (_:XK):Prop
 |mk (hl:↑vs=n) (F:Hp) (ad:-O) (ys:-DV) (ar:-OV) (K:RV->-OV->Prop) (S:SR F ad ⟨ys.map U,ar.map U⟩ (vs.map U) H) (g:G ys ar K) (k:∀r ows,K r ows->∀v F' H',wz F ad H r ows v F' H'->Q v H')
def iD(n:Nat)(K:RV->-OV->Prop)(x:DV)(δ:aJ):Prop:=∃ows,δ.mu.take n=ows.map U/\↑ows=n/\match x with
 |.p d=>K (.p d) ows
 |.o k=>if k<n then K (.a k) ows else match δ.mu[k]? with
  |some (some (.lst ds))=>K (.n ds) ows\/K (.p (.lst ds)) ows
  |_=>False
 |.w _=>False
 |.u _ _=>False
 |.t d k=>n<=k/\match δ.mu[k]? with
  |some (some (.lst ds))=>K (.t d ds) ows
  |_=>False
noncomputable def mZ(n:Nat)(K:RV->-OV->Prop):KS where
 nx:=iD n K (.p .non)
 rt:=iD n K
section
variable{F F' H H':Hp}{ad aG:-O}{σ σ':St}
theorem uq{α:Type}{l:-α}{i:Nat}{x:α}(h:(l.map U)[i]?=U (U x)):l[i]?=U x:=by
 rw[WD] at h;let⟨y,e,q⟩:=XX.mp h;cases q;calc e
theorem ur{α:Type}{l:-α}{i:Nat}{x:α}(h:l[i]?=U x):(l.map U)[i]?=U (U x):=by
 rw[WD,h];rfl
theorem SR.start{ys:-DV}{mu:-(Option OV)}{vs:-V}{N:-J}(S:SR F ad ⟨ys.map U,mu⟩ (vs.map U) H):SR F ad ⟨ys.map U++My (↑N-↑vs) Z,mu⟩ (start N vs) H:=by
 let hl:↑vs=↑ys:=by
  let:=S.len;rw[pR] at this;rw[this];rw[pR]
 refine⟨S.sub,S.off,S.bX,S.inj,S.mu,λi x e=>?_,?_,S.tab,S.nt⟩
 .let hi:i<↑ys:=by
   by_cases c:i<↑ys
   .exact c
   .rw[NK (by rw[pR];symm),ZC] at e
    split at e
    .cases e
    .cases e
  rw[NI (by rw[pR];calc hi)] at e;let⟨v,h1,h2⟩:=S.sl i x e;exact⟨v,by unfold L2.start;rw[NI (by rw[pR,hl];calc hi)];calc h1,h2⟩
 .unfold L2.start
  rw[Fs,Fs,Zt,Zt,pR,pR,hl]
theorem wA{ar:-OV}{δ:aJ}{x:DV}{v:V}{K:RV->-OV->Prop}{Q:VK}{sl:-(Option DV)}{τ:St}(S0:SR F ad ⟨sl,ar.map U⟩ τ H)(E:Ext F ad (ar.map U) H F' aG δ.mu H')(S:SR F' aG δ σ' H')(V:dF F' aG x v)
  (h:iD ↑ar K x δ) (k:∀r ows,K r ows->∀v F' H',wz F ad H r ows v F' H'->Q v H'):Q v H':=by
 let⟨ows,tk,hl,h⟩:=h;let al:↑ad=↑ar:=by let:=S0.bX;rwa [pR] at this
 let lv:∀(j:Nat)(a:O),ad[j]?=U a->∃ow,ows[j]?=U ow/\δ.mu[j]?=U (U ow)/\Lv aG δ.mu a:=λj a e=>by
  let hj:j<↑ar:=by rw[<-al];exact(qV.mp e).1
  let h1:(δ.mu.take ↑ar)[j]?=U (U (ows[j]'(by rw[hl];calc hj))):=by
   rw[tk,WD,pQ (by rw[hl];calc hj)];rfl
  rw[Yd hj] at h1;exact⟨_,pQ (by rw[hl];calc hj),h1,j,_,E.pre j a e,h1⟩
 let j_:∀a∈ad,F' a=Z:=λa ha=>by
  let⟨j,e⟩:=WM.mp ha;let⟨_,_,_,l⟩:=lv j a e;exact S.off a l
 let base:∀{F2:Hp},aO F' F2->aO F2 H'->(∀a o,F2 a=U o->F' a=U o\/(H a=Z/\¬ a∈ad))->(∀a∈ad,F2 a=Z)->NT F2->∀{r:RV},(match r with
   |.p d=>Is F2 d v
   |.n ds=>∃a vs,v=.ref a/\H a=Z/\H' a=U (.lst vs)/\F2 a=Z/\ah F2 ds vs
   |.a j=>∃a,ad[j]?=U a/\v=.ref a
   |.t d ds=>qa F2 H H' d ds v)->wz F ad H r ows v F2 H':=λ{F2} s1 s2 n2 o2 O1 {r} res=>by
  refine⟨s2,E.same.trans s1,λa o e=>?_,λa o e n t=>?_,S.tab,O1,by rw[hl,al],λj ow e=>?_,o2,res⟩
  .rcases n2 a o e with e|⟨e,_⟩
   .rcases E.new a o e with z|z|⟨j,ov,z,_⟩
    .exact .inl z
    .exact .inr z
    .rw[j_ a (WM.mpr ⟨j,z⟩)] at e;cases e
   .exact .inr e
  .exact E.keep a o e (λ⟨j,ov,z,_⟩↦n (WM.mpr ⟨j,z⟩)) t
  .let hj:j<↑ad:=by rw[al,<-hl];exact(qV.mp e).1
   let⟨z5,e1,e2,_⟩:=lv j _ (pQ hj);rw[e] at e1;cases e1;let⟨a,o,e3,e4,h5⟩:=S.mu j _ e2;rw[E.pre j _ (pQ hj)] at e3;cases e3
   exact⟨_,o,pQ hj,e4,h5.same s1⟩
 let fresh:∀{i:Nat}{ds:-D}{a:O},¬ i<↑ar->aG[i]?=U a->δ.mu[i]?=U (U (.lst ds))->∃vs,H' a=U (.lst vs)/\ah F' ds vs/\a∉ad/\F' a=Z/\H a=Z:=λ{i ds a} c e1 em=>by
  let⟨a',o,e2,e3,vs,rfl,h4⟩:=S.mu i _ em;rw[e1] at e2;cases e2
  let na:a∉ad:=λz=>by
   let⟨j,e⟩:=WM.mp z;let⟨ow,_,e5,_⟩:=lv j a e;let:i=j:=S.inj i j a _ _ e1 (E.pre j a e) em e5;subst this;exact c (by rw[<-al];calc(qV.mp e).1)
  calc⟨vs,e3,h4,na,S.off a ⟨i,_,e1,em⟩,?_⟩;rcases E.b9 a ⟨i,_,e1,em⟩ with⟨j,ov,z,_⟩|z
  .exact absurd (WM.mpr ⟨j,z⟩) na
  .exact z
 cases x with
 |p d=>exact k _ _ h _ _ _ (base (F2:=F') (λ_ _ e=>e) S.sub (λ_ _ e=>.inl e) j_ S.nt V)
 |w _=>exact h.elim
 |u _ _=>exact h.elim
 |t d i =>
  let⟨a,b,u,rfl,e0,e2,e1⟩:=V;let⟨c,h⟩:=h;split at h
  .rename_i ds em
   let⟨vs,e3,h4,na,fa,ha⟩:=fresh ⋯ e1 em;exact k _ _ h _ _ _ (base (F2:=F') (λ_ _ e=>e) S.sub (λ_ _ e=>.inl e) j_ S.nt ⟨a,b,u,vs,Y,e0,e2,ha,e3,fa,h4⟩)
  .exact h.elim
 |o i =>
  dsimp only at h;let⟨a,e1,rfl⟩:=V
  by_cases c:i<↑ar
  .rw[XI c] at h
   let ei:ad[i]?=U a:=by
    let:=E.pre i _ (pQ (by rw[al];calc c));rw[e1] at this;rw[pQ (by rw[al];calc c)];exact this.symm
   exact k _ _ h _ _ _ (base (F2:=F') (λ_ _ e=>e) S.sub (λ_ _ e=>.inl e) j_ S.nt ⟨a,ei,Y⟩)
  .rw[WK c] at h
   split at h
   .rename_i ds em
    let⟨vs,e3,h4,na,fa,ha⟩:=fresh c e1 em;rcases h with h|h
    .exact k _ _ h _ _ _ (base (F2:=F') (λ_ _ e=>e) S.sub (λ_ _ e=>.inl e) j_ S.nt ⟨a,vs,Y,ha,e3,fa,h4⟩)
    .refine k _ _ h _ _ _ (base (F2:=upd F' a (.lst vs)) (cL fa) (λb o e=>?_) (λb o e=>?_) (λb hb=>?_) (S.nt.up (cL fa) λb hb=>?_) ?_)
     .by_cases z:b=a
      .subst z;rw[bK] at e;cases e;exact e3
      .rw[aZ z] at e;exact S.sub b o e
     .by_cases z:b=a
      .subst z;exact .inr ⟨ha,na⟩
      .rw[aZ z] at e;exact .inl e
     .rw[aZ λz=>na (by subst z;calc hb)];exact j_ b hb
     .let⟨ps,q⟩:=aM.tb S.tab hb
      rw[aZ λz=>by subst z;rw[e3] at q;cases q];exact S.nt b hb
     .show Is _ (.lst ds) _
      exact⟨a,vs,Y,bK,h4.same (cL fa)⟩
   .calc h.elim
end
theorem fF.O3{P:t}{w:X}{K:vS}{mg:J->Option L}{base:I}{x qual:J}{st:R}{f:O}{fd:FuncData}{N ps:-J}{k:Nat}{G:GD}(F:fF K x qual st f fd)(S:kW N ps (bW st))
  (du:∀(a9:L)(A:q)(outer:-u)(s:ο)(H:Hp)(E:XK),a6 k (A.deeper (envOfC qual (bW st) ⇑s f a9)) →
   ∃B:WS,c6 (b8 eV P w K mg base N qual (bW st) f a9 A outer s H E).kz (fE st) (cY B)/\∀ys ar K',↑ys=↑ps->G ys ar K'->B (mZ ↑ar K') ⟨ys.map U++My (↑N-↑ps) Z,ar.map U⟩) :
  bN P w K mg base eV (k+1) f fd ps (lW G ↑ps) :=
 F.tK S (λvs H Q E h=>h.1) λa9 A outer s H vs Q E hr h=>by
  let⟨hl,Fz,ad,ys,ar,K',S0,g,kk⟩:=h;let⟨B,jb,hb⟩:=du a9 A outer s H E hr
  let hy:↑ys=↑ps:=by
   let:=S0.len;rw[pR] at this;rw[<-hl,this];rw[pR]
  refine⟨_,jb,Fz,ad,⟨ys.map U++My (↑N-↑ps) Z,ar.map U⟩,mZ ↑ar K',by rw[<-hl];calc S0.start,hb ys ar K' hy g,⟨fun δ' h F' aG σ' H' E' S'=>?_,fun δ' h=>h.elim,fun δ' h=>h.elim,λy δ' h v F' aG σ' H' E' S' V=>?_,trivial⟩⟩
  .exact wA (σ':=σ') S0 E' S' (x:=.p .non) (v:=.non) Y h kk
  .calc wA (σ':=σ') S0 E' S' V h kk
noncomputable def passes(mu:-(Option OV)):-DV->Nat->Option (-DV×-(Nat×OV))
 |[],_=>U ([],[])
 |.p d::xs,j=>match passes mu xs j with
  |some r=>U (.p d::r.1,r.2)
  |none=>Z
 |.o k::xs,j=>match mu[k]? with
  |some (some ov)=>match passes mu xs (j+1) with
   |some r=>U (.o j::r.1,(k,ov)::r.2)
   |none=>Z
  |_=>Z
 |.w a::xs,j=>match passes mu xs j with
  |some r=>U (.w a::r.1,r.2)
  |none=>Z
 |.u _ _::_,_=>Z
 |.t _ _::_,_=>Z
noncomputable def cC(mu:-(Option OV)):-(Nat×OV)->-OV->-(Option OV)
 |(k,_)::r,ow::ows=>cC (mu.set k (U ow)) r ows
 |_,_=>mu
noncomputable def jk:-(Nat×OV)->Bool
 |[]=>θ
 |(k,_)::r => !(r.any λe=>e.1==k)&&jk r
def m8(δ:aJ)(bI:-(Nat×OV))(K:DV->aJ->Prop)(r:RV)(ows:-OV):Prop:=match r with
 |.p d=>K (.p d) ⟨δ.sl,cC δ.mu bI ows⟩
 |.n ds=>K (.p (.lst ds)) ⟨δ.sl,cC δ.mu bI ows⟩
 |.t d ds=>K (.p (.tup [d,.lst ds])) ⟨δ.sl,cC δ.mu bI ows⟩
 |.a j=>match bI[j]? with
  |some ko=>K (.o ko.1) ⟨δ.sl,cC δ.mu bI ows⟩
  |none=>False
def uu(δ:aJ)(bI:-(Nat×OV))(K:DV->aJ->Prop)(r:RV)(ows:-OV):Prop:=match r with
 |.n ds=>K (.o ↑(cC δ.mu bI ows)) ⟨δ.sl,cC δ.mu bI ows++[U (.lst ds)]⟩
 |_=>False
def aA(n:Nat)(G:GD)(fa:WA):WE:=fun δ K=>fa δ λxs δ1=>match passes δ1.mu xs 0 with
 |some r=>(jk r.2=θ/\↑r.1=n)/\G r.1 (r.2.map (·.2)) (m8 δ1 r.2 K)
 |none=>False
def uv(n:Nat)(G:GD)(fa:WA):WE:=fun δ K=>fa δ λxs δ1=>match passes δ1.mu xs 0 with
 |some r=>(jk r.2=θ/\↑r.1=n)/\G r.1 (r.2.map (·.2)) (uu δ1 r.2 K)
 |none=>False
section
variable{F F' H H':Hp}{ad aG:-O}{δ:aJ}{σ σ':St}
theorem rp{mu:-(Option OV)}(hm:∀(k:Nat) (ov:OV),mu[k]?=U (U ov)->∃a o,ad[k]?=U a/\H a=U o/\eJ F a ov o):∀{xs:-DV}{vs:-V}{j:Nat}{r:-DV×-(Nat×OV)},passes mu xs j=U r->cM F ad xs vs →
  ∃as:-O,↑as=↑r.2/\(∀(i:Nat)(ko:Nat×OV),r.2[i]?=U ko->mu[ko.1]?=U (U ko.2)/\∃a o,as[i]?=U a/\ad[ko.1]?=U a/\H a=U o/\eJ F a ko.2 o) ∧
   ∀(pre:-O),pre.length=j->∃_u:Unit,↑vs=↑r.1/\∀(i:Nat)(y:DV),r.1[i]?=U y->∃v,vs[i]?=U v/\dF F (pre++as) y v
 |[],vs,j,r,h,hv=>by
  cases h
  let:vs=[]:=hv;subst this;exact⟨[],Y,λi ko e=>by simp at e,λpre _=>⟨(),Y,λi y e=>by simp at e⟩⟩
 |.p d::xs,_,j,r,h,⟨v,t,e,h1,h2⟩=>by
  subst e;unfold passes at h;split at h
  .rename_i r' hr
   cases h
   let⟨as,l,b,c⟩:=rp hm hr h2;refine⟨as,l,b,λpre hp=>⟨(),?_,λi y e=>?_⟩⟩
   .let⟨_,c1,_⟩:=c pre hp
    rw[NG,NG,c1]
   .let⟨_,_,c2⟩:=c pre hp
    cases i with
    |zero=>cases(show U (DV.p d)=U y by simpa using e);exact⟨v,Y,h1⟩
    |succ i=>simpa using c2 i y e⁻¹
  .cases h
 |.w d::xs,_,j,r,h,⟨v,t,e,h1,h2⟩=>by
  subst e;unfold passes at h;split at h
  .rename_i r' hr
   cases h
   let⟨as,l,b,c⟩:=rp hm hr h2;refine⟨as,l,b,λpre hp=>⟨(),?_,λi y e=>?_⟩⟩
   .let⟨_,c1,_⟩:=c pre hp
    rw[NG,NG,c1]
   .let⟨_,_,c2⟩:=c pre hp
    cases i with
    |zero=>cases(show U (DV.w d)=U y by simpa using e);exact⟨v,Y,h1⟩
    |succ i=>simpa using c2 i y e⁻¹
  .cases h
 |.o k::xs,_,j,r,h,⟨v,t,e,h1,h2⟩=>by
  subst e;unfold passes at h;split at h
  .rename_i ov hk
   split at h
   .rename_i r' hr
    cases h
    let⟨as,l,b,c⟩:=rp hm hr h2;let⟨a,e1,rfl⟩:=h1;let⟨a',o,e2,e3,e4⟩:=hm k ov hk;rw[e1] at e2;cases e2;refine⟨a::as,by rw[NG,NG,l],λi ko e=>?_,λpre hp=>⟨(),?_,λi y e=>?_⟩⟩
    .cases i with
     |zero=>cases(show U (k,ov)=U ko by simpa using e);exact⟨hk,a,o,Y,e1,e3,e4⟩
     |succ i=>simpa using b i ko e⁻¹
    .let⟨_,c1,_⟩:=c (pre++[a]) (by rw[Fs,hp];rfl)
     rw[NG,NG,c1]
    .let⟨_,_,c2⟩:=c (pre++[a]) (by rw[Fs,hp];rfl)
     cases i with
     |zero =>
      cases(show U (DV.o j)=U y by simpa using e)
      calc⟨_,Y,a,?_,Y⟩;rw[NK ⋯,hp,Yv];rfl
     |succ i =>
      let⟨v',c3,c4⟩:=c2 i y e⁻¹;exact⟨v',by simpa using c3,by rw[ZE] at c4;calc c4⟩
   .cases h
  .cases h
theorem z6:∀{bI:-(Nat×OV)},jk bI=θ->∀(i j:Nat)(k:Nat)(a b:OV),bI[i]?=U (k,a)->bI[j]?=U (k,b)->i=j
 |[],_,i,j,k,a,b,e,_=>by simp at e
 |(k',ov)::r,h,i,j,k,a,b,e1,e2=>by
  unfold jk at h;erw[YY,q0N] at h
  let no:∀(m:Nat)(c:OV),r[m]?=U (k',c)->False:=λm c e=>by
   let:=q0c.mp h.1 _ (WM.mpr ⟨m,e⟩);exact this (by simp)
  cases i with
  |zero =>
   cases(show U (k',ov)=U (k,a) by simpa using e1)
   cases j with
   |zero=>rfl
   |succ j=>exact(no j b e2⁻¹).elim
  |succ i =>
   cases j with
   |zero=>cases(show U (k',ov)=U (k,b) by simpa using e2);exact(no i a e1⁻¹).elim
   |succ j=>rw[z6 h.2 i j k a b e1⁻¹ e2⁻¹]
theorem z7:∀(bI:-(Nat×OV))(ows:-OV)(mu:-(Option OV)),↑(cC mu bI ows)=↑mu
 |(k,_)::r,ow::ows,mu=>by rw[cC,z7 r ows,Yq]
 |[],_,_=>Y
 |_::_,[],_=>Y
theorem uw:∀(bI:-(Nat×OV))(ows:-OV)(mu:-(Option OV))(l:Nat),(∀ko∈bI,ko.1≠l)->(cC mu bI ows)[l]?=mu[l]?
 |(k,_)::r,ow::ows,mu,l,h=>by
  rw[cC,uw r ows _ l λko hk=>h ko (WH _ hk),Yp (h _ NJ)]
 |[],_,_,_,_=>Y
 |_::_,[],_,_,_=>Y
theorem z8:∀{bI:-(Nat×OV)}{ows:-OV}{mu:-(Option OV)}{i:Nat}{ko:Nat×OV}{ow:OV},jk bI=θ->bI[i]?=U ko->ows[i]?=U ow->ko.1<↑mu->(cC mu bI ows)[ko.1]?=U (U ow)
 |(k,ov)::r,z5::ows,mu,0,ko,ow,h,e1,e2,hl=>by
  cases(show U (k,ov)=U ko by simpa using e1)
  cases(show U z5=U ow by simpa using e2)
  unfold jk at h;erw[YY,q0N] at h;rw[cC,uw r ows _ k λko hk z=>absurd z⁻¹ (q0c.mp h.1 ko hk),YH hl]
 |(k,ov)::r,z5::ows,mu,i+1,ko,ow,h,e1,e2,hl=>by
  unfold jk at h;erw[YY,q0N] at h;rw[cC];exact z8 h.2 e1⁻¹ e2⁻¹ (by rw[Yq];calc hl)
 |[],_,_,i,_,_,_,e1,_,_=>by simp at e1
 |_::_,[],_,i,_,_,_,_,e2,_=>by simp at e2
theorem z9{xs:-DV}{vs:-V}{r:-DV×-(Nat×OV)}{G:GD}{n:Nat}{Q:VK}{E:XK}{K:RV->-OV->Prop}(S:SR F ad δ σ H)(V:cM F ad xs vs)(hn:↑vs=n)(hp:passes δ.mu xs 0=U r)(nd:jk r.2=θ)(g:G r.1 (r.2.map (·.2)) K)
  (fin:∀res ows v F' H',K res ows->Ext F ad δ.mu H F' ad (cC δ.mu r.2 ows) H'->SR F' ad ⟨δ.sl,cC δ.mu r.2 ows⟩ σ H'->(match res with
   |.p d=>Is F' d v
   |.n ds=>∃a vs,v=.ref a/\H a=Z/\H' a=U (.lst vs)/\F' a=Z/\ah F' ds vs
   |.a j=>∃ko a,r.2[j]?=U ko/\ad[ko.1]?=U a/\v=.ref a
   |.t d ds=>qa F' H H' d ds v)->Q v H'):lW G n vs H Q E:=by
 let⟨as,al,b,c⟩:=rp S.mu hp V;let⟨_,c1,c2⟩:=c [] Y
 let jK:∀(i:Nat)(a:O),as[i]?=U a->Lv ad δ.mu a/\∃ko,r.2[i]?=U ko/\ad[ko.1]?=U a/\δ.mu[ko.1]?=U (U ko.2):=λi a e=>by
  let hi:i<↑r.2:=by rw[<-al];exact(qV.mp e).1
  let⟨m1,a',o,e1,e2,_,_⟩:=b i _ (pQ hi);rw[e] at e1;cases e1;exact⟨⟨_,_,e2,m1⟩,_,pQ hi,e2,m1⟩
 refine⟨hn,F,as,r.1,r.2.map (·.2),K,⟨S.sub,λa ⟨i,ov,e1,e2⟩↦S.off a (jK i a e1).1,by rw[al];rw[pR,pR],λi j a ov ow e1 e2 _ _=>?_,λi ov e=>?_,λi y e=>?_,?_,S.tab,S.nt⟩,g,λres ows hk v F' H' P=>?_⟩
 .let⟨_,ko,k1,k2,k3⟩:=jK i a e1
  let⟨_,kp,p1,p2,p3⟩:=jK j a e2;let:ko.1=kp.1:=S.inj _ _ a _ _ k2 p2 k3 p3;exact z6 nd i j ko.1 ko.2 kp.2 k1 (by rw[this];calc p1)
 .let e:=uq e
  rw[WD] at e;let⟨ko,e1,rfl⟩:=XX.mp e;let⟨_,a,o,e2,_,e4,e5⟩:=b i ko e1;exact⟨a,o,e2,e4,e5⟩
 .let⟨v,e1,e2⟩:=c2 i y (uq e)
  exact⟨v,ur e1,by simpa using e2⟩
 .show ↑(vs.map U)=↑(r.1.map U)
  rw[pR,pR,c1]
 .let ol:↑ows=↑r.2:=by rw[P.len,al]
  let jy:∀(l:Nat)(ow:OV),(cC δ.mu r.2 ows)[l]?=U (U ow)->(∃(i:Nat)(ko:Nat×OV),r.2[i]?=U ko/\ko.1=l/\ows[i]?=U ow)\/((∀ko∈r.2,ko.1≠l)/\δ.mu[l]?=U (U ow)):=λl ow e=>by
   by_cases z:∃ko∈r.2,ko.1=l
   .let⟨ko,hk,rfl⟩:=z
    let⟨i,hi⟩:=WM.mp hk;let lX:i<↑ows:=by rw[ol];exact(qV.mp hi).1
    let:=z8 (mu:=δ.mu) nd hi (pQ lX) (qV.mp (b i ko hi).1).1;rw[e] at this;cases this
    exact .inl ⟨i,ko,hi,Y,pQ lX⟩
   .let z':∀ko∈r.2,ko.1≠l:=λko hk q=>z ⟨ko,hk,q⟩
    rw[uw _ _ _ _ z'] at e;exact .inr ⟨z',e⟩
  let m9:∀(l:Nat)(ow:OV)(a:O),ad[l]?=U a->(cC δ.mu r.2 ows)[l]?=U (U ow)->Lv ad δ.mu a:=λl ow a e1 e2=>by
   rcases jy l ow e2 with⟨i,ko,hi,rfl,_⟩|⟨_,q⟩
   .exact⟨_,_,e1,(b i ko hi).1⟩
   .exact⟨_,_,e1,q⟩
  let ux:∀a,a∈as->Lv ad δ.mu a:=λa ha=>by
   let⟨i,e⟩:=WM.mp ha;exact(jK i a e).1
  let ex:Ext F ad δ.mu H F' ad (cC δ.mu r.2 ows) H':=by
   refine⟨P.same,λa o e=>?_,λa o e n t=>P.keep a o e (λz=>n (ux a z)) t,λ_ _ e=>e,λa ⟨l,ow,e1,e2⟩↦.inl (m9 l ow a e1 e2),λa o e=>?_⟩
   .rcases P.new a o e with z|z
    .exact .inl z
    .exact .inr (.inl z)
   .by_cases z:a∈as
    .let⟨i,e1⟩:=WM.mp z
     let hi:i<↑ows:=by rw[P.len];exact(qV.mp e1).1
     let⟨a',o',e2,e3,_⟩:=P.own i _ (pQ hi);rw[e1] at e2;cases e2;exact⟨o',e3⟩
    .by_cases t:a∈aM.ad
     .let⟨ps,q⟩:=aM.tb P.tab t
      exact⟨_,q⟩
     .exact⟨o,P.keep a o e z t⟩
  let qb:∀a,Lv ad δ.mu a->F' a=Z:=λa l=>by
   by_cases z:a∈as
   .exact P.off a z
   .cases q:F' a with
    |none=>rfl
    |some u =>
     rcases P.new a u q with y|y
     .rw[S.off a l] at y;cases y
     .let⟨k,ov,e1,e2⟩:=l
      let⟨a',o,e3,e4,_⟩:=S.mu k ov e2;rw[e1] at e3;cases e3;rw[y] at e4;cases e4
  let sr:SR F' ad ⟨δ.sl,cC δ.mu r.2 ows⟩ σ H':=by
   refine⟨P.sub,λa ⟨l,ow,e1,e2⟩↦qb a (m9 l ow a e1 e2),by rw[S.bX];calc(z7 _ _ _).symm,λk l a ov ow e1 e2 e3 e4=>?_,λl ow e=>?_,λi y e=>?_,S.len,P.tab,P.nt⟩
   .let h3:∃w,δ.mu[k]?=U (U w):=by
     rcases jy k ov e3 with⟨i,ko,hi,rfl,_⟩|⟨_,q⟩
     .exact⟨_,(b i ko hi).1⟩
     .exact⟨_,q⟩
    let h4:∃w,δ.mu[l]?=U (U w):=by
     rcases jy l ow e4 with⟨i,ko,hi,rfl,_⟩|⟨_,q⟩
     .exact⟨_,(b i ko hi).1⟩
     .exact⟨_,q⟩
    let⟨_,h3⟩:=h3;let⟨_,h4⟩:=h4;exact S.inj k l a _ _ e1 e2 h3 h4
   .rcases jy l ow e with⟨i,ko,hi,rfl,ho⟩|⟨z,q⟩
    .let⟨_,a,o,e1,e2,_,_⟩:=b i ko hi
     let⟨a',o',e3,e4,h5⟩:=P.own i ow ho;rw[e1] at e3;cases e3;exact⟨a,o',e2,e4,h5⟩
    .let⟨a,o,e1,e2,h⟩:=S.mu l ow q
     refine⟨a,o,e1,P.keep a o e2 (λy=>?_) (λt=>?_),h.same P.same⟩
     .let⟨i,e3⟩:=WM.mp y
      let⟨_,ko,k1,k2,k3⟩:=jK i a e3;exact z ko (WM.mpr ⟨i,k1⟩) (S.inj _ _ a _ _ k2 e1 k3 q)
     .let⟨ps,q2⟩:=aM.tb S.tab t
      rw[e2] at q2;cases q2
      exact h.kind ps Y
   .let⟨v,e1,h⟩:=S.sl i y e
    exact⟨v,e1,h.ext ex⟩
  calc fin res ows v F' H' hk ex sr ?_;let gU:=P.res
  cases res with
  |p d=>exact gU
  |n ds=>exact gU
  |t d ds=>exact gU
  |a j =>
   let⟨a,e1,e2⟩:=gU;let⟨_,ko,k1,k2,_⟩:=jK j a e1;calc⟨ko,a,k1,k2,e2⟩
end
section
variable{X:Cx}{fa:WA}{G:GD}{pos:y}
theorem z_{F1 F2 H1 H2:Hp}{aW:-O}{δ1:aJ}{σ:St}{xs:-DV}{vs:-V}{r:-DV×-(Nat×OV)}{ows:-OV}{a:O}(S1:SR F1 aW δ1 σ H1)(V1:cM F1 aW xs vs)(hp:passes δ1.mu xs 0=U r)(n1:H1 a=Z):¬ Lv aW (cC δ1.mu r.2 ows) a:=λ⟨k,ov,e1,e2⟩↦by
 let c:∃ov,δ1.mu[k]?=U (U ov):=by
  by_cases y:∃ko∈r.2,ko.1=k
  .let⟨ko,lY,rfl⟩:=y
   let⟨as,_,b,_⟩:=rp S1.mu hp V1;let⟨i,hi⟩:=WM.mp lY;exact⟨_,(b i ko hi).1⟩
  .rw[uw _ _ _ _ λko lY q=>y ⟨ko,lY,q⟩] at e2
   exact⟨_,e2⟩
 let⟨O4,c⟩:=c;let⟨a',o,e3,e4,_⟩:=S1.mu k O4 c;rw[e1] at e3;cases e3;rw[n1] at e4;cases e4
theorem cM.length{F:Hp}{ad:-O}:∀{xs:-DV}{vs:-V},cM F ad xs vs->↑vs=↑xs
 |[],vs,h=>by let h:vs=[]:=h;rw[h];rfl
 |x::xs,vs,⟨v,r,e,_,h2⟩=>by rw[e,NG,NG,cM.length h2]
theorem qc{mu:-(Option OV)}:∀{xs:-DV}{j:Nat}{r:-DV×-(Nat×OV)},passes mu xs j=U r->↑r.1=↑xs
 |[],j,r,h=>by cases h;rfl
 |.p d::xs,j,r,h=>by
  unfold passes at h;split at h
  .rename_i r' hr;cases h;rw[NG,NG,qc hr]
  .cases h
 |.w d::xs,j,r,h=>by
  unfold passes at h;split at h
  .rename_i r' hr;cases h;rw[NG,NG,qc hr]
  .cases h
 |.o k::xs,j,r,h=>by
  unfold passes at h;split at h
  .split at h
   .rename_i r' hr;cases h;rw[NG,NG,qc hr]
   .cases h
  .cases h
section
variable{k:Nat}{f:O}{fd:FuncData}{ps:-J}{x:J}{p:y}{e:M}{es:-M}{n:Nat}
theorem O5{E:XK}{F F1 H H1:Hp}{ad aW:-O}{δ δ1:aJ}{σ:St}{K:DV->aJ->Prop}{Q:VK}{xs:-DV}{vs:-V}(kk:∀x δ',K x δ'->∀v F' aG H',Ext F ad δ.mu H F' aG δ'.mu H'->SR F' aG δ' σ H'->dF F' aG x v->Q v H')(h1:match passes δ1.mu xs 0 with
 |some r=>(jk r.2=θ/\↑r.1=n)/\G r.1 (r.2.map (·.2)) (m8 δ1 r.2 K)
 |none=>False)(E1:Ext F ad δ.mu H F1 aW δ1.mu H1)(S1:SR F1 aW δ1 σ H1)(V1:cM F1 aW xs vs):lW G n (vs++[]) H1 Q E:=by
 split at h1
 .rename_i r hp
  let⟨⟨nd,hn⟩,h1⟩:=h1;rw[mJ];calc z9 S1 V1 (by rw[↑V1,<-qc hp,hn]) hp nd h1 λres ows v F2 H2 hk E2 S2 cf=>?_;unfold m8 at hk
  cases res with
  |p d=>exact kk _ _ hk _ _ _ _ (E1.trans E2) S2 cf
  |n ds =>
   let⟨a,us,rfl,n1,n2,n3,n4⟩:=cf;calc kk _ _ hk _ _ _ _ (E1.trans (E2.adopt (o:=.lst us) n1 n3)) (S2.adopt n3 n2 (z_ (F2:=F2) (H2:=H2) S1 V1 hp n1)) ?_;show Is _ (.lst ds) _;exact⟨a,us,Y,bK,n4.same (cL n3)⟩
  |t d ds =>
   let⟨a,b,u,us,rfl,m1,m2,n1,n2,n3,n4⟩:=cf;calc kk _ _ hk _ _ _ _ (E1.trans (E2.adopt (o:=.lst us) n1 n3)) (S2.adopt n3 n2 (z_ (F2:=F2) (H2:=H2) S1 V1 hp n1)) ?_;show Is _ (.tup [d,.lst ds]) _;let sm:aO F2 (upd F2 b (.lst us)):=cL n3;exact⟨a,_,Y,sm _ _ m1,u,_,Y,m2.same sm,.ref b,_,Y,⟨b,us,Y,bK,n4.same sm⟩,Y⟩
  |a j =>
   let⟨ko,a,h1,h2,h3⟩:=cf;dsimp only at hk;rw[h1] at hk;exact kk _ _ hk _ _ _ _ (E1.trans E2) S2 ⟨a,h2,h3⟩
 .calc h1.elim
theorem O6{E:XK}:∀σ H Q,tD (aA n G fa) σ H Q->vN (lW G n) [] E (b_ fa) σ H Q:=fun σ H Q ⟨F,ad,δ,K,S,q,kk⟩ ↦
 ⟨F,ad,δ,_,S,q,λxs δ1 h1 vs F1 aW H1 E1 S1 V1=>O5 kk h1 E1 S1 V1⟩
theorem O7{E:XK}:∀σ H Q,tD (uv n G fa) σ H Q->vN (lW G n) [] E (b_ fa) σ H Q:=fun σ H Q ⟨F,ad,δ,K,S,q,kk⟩=>by
 calc⟨F,ad,δ,_,S,q,λxs δ1 h1 vs F1 aW H1 E1 S1 V1=>?_⟩;split at h1
 .rename_i r hp
  let⟨⟨nd,hn⟩,h1⟩:=h1;rw[mJ];refine z9 S1 V1 (by rw[↑V1,<-qc hp,hn]) hp nd h1 λres ows v F2 H2 hk E2 S2 cf=>?_
  cases res with
  |p d=>exact hk.elim
  |n ds =>
   let⟨a,us,rfl,n1,n2,n3,n4⟩:=cf;let oi:∀{ax},eJ F2 ax (.lst ds) (.lst us):=λ{ax}=>⟨us,Y,n4⟩;calc kk _ _ hk _ _ _ _ (E1.trans (E2.cb (ov:=.lst ds) n1 S2.bX)) (S2.cb n3 n2 (z_ (F2:=F2) (H2:=H2) S1 V1 hp n1) oi) ⟨a,?_,Y⟩;let:↑aW=↑(cC δ1.mu r.2 ows):=S2.bX;rw[<-this,NK (Fm _),Yv];rfl
  |a j=>exact hk.elim
  |t d ds=>exact hk.elim
 .calc h1.elim
theorem O8(Fn:bN X.prog X.w X.K X.mg X.base eV k f fd ps (lW G n))(hr:a6 k X.A)(hg:Gl X x)(hm:X.mg x=U (.ref f))(hk:Yt X.K (.ref f)=θ)(hb:Binds X.K fd ps [])
  (ha:JA X (e::es) (b_ fa)) (cV: ~~~(bL x)) (he:‹cj X e es›) (cw:‹cF X pos es›) :
  JE X (.Call (.Name x p) (e::es) [] pos) (tD (aA n G fa)):=(sV Fn hr hg hm hk hb .nil oA ha cV he cw).weak O6
theorem O9(Fn:bN X.prog X.w X.K X.mg X.base eV k f fd ps (lW G n))(hr:a6 k X.A)(hg:Gl X x)(hm:X.mg x=U (.ref f))(hk:Yt X.K (.ref f)=θ)(hb:Binds X.K fd ps [])
  (ha:JA X (e::es) (b_ fa)) (cV: ~~~(bL x)) (he:‹cj X e es›) (cw:‹cF X pos es›) :
  JE X (.Call (.Name x p) (e::es) [] pos) (tD (uv n G fa)):=(sV Fn hr hg hm hk hb .nil oA ha cV he cw).weak O7
end
end
end L2
namespace PySem
open Sem (wp)
open AutoSeq1 (wpAny_loadPart')
theorem O_(l:O)(items:Array L)(n:Nat)(dct:Option O)(sl:Array (Option L)):
  Meets (Builtin.«enumerate.__new__» ⟨[.type "enumerate",.ref l],[]⟩) (λ_ R s=>s.heap.get? l=U {cls:=.type "tuple",dict:=dct,data:=.seq items n,slots:=sl} ∧
   R (.ok (.ret (.ref (s.heap.push {cls:=.type "tuple_iterator",data:=.fields #[.ref l,.int 0 0]}).objs.size)))
    {s with heap:=(s.heap.push {cls:=.type "tuple_iterator",data:=.fields #[.ref l,.int 0 0]}).push {cls:=.type "enumerate",data:=.fields #[.none,.bool ι,.ref ⇑s,rawInt 0,.none,.none]}}) :=
 .of_wp λprog w A R s h=>by
  let⟨hp,g,d,tk,os⟩:=s;let⟨hl,h⟩:=h;let Pa:=sub_enumerate;let hL:Heap.IsTuple (Shared.heap ⟨hp,g,d,tk,os⟩) l items:=⟨_,hl,Y,n,Y⟩
  wp_walk using Zb hl
  calc wpAny_stack_any λst=>NH ?_;split
  .rename_i c _ _ _ _ _
   cases(c==q0y "enumerate")
   .wp_walk using Zb hl,q0A hL
    exact⟨_,Y,h⟩
   .wp_walk using Zb hl,q0A hL
    exact⟨_,Y,h⟩
  .wp_walk using Zb hl,q0A hL
   calc⟨_,Y,h⟩
section
variable{prog:t}{w:X}{A:q}{E:bc}{s:B}
theorem Pb{l:O}{items:Array L}{Q:bc}(hL:s.heap.IsTuple l items)
  (h:∀h',IsEnum h' (⇑s+1) ⇑s 0 .none->h'.IsTupleIter ⇑s l 0->h'.objs.size=⇑s+2 →
   (∀b o,s.heap.get? b=U o->h'.get? b=U o)->Q (.ref (⇑s+1)) {s with heap:=h'}) :
  G (S prog w) A (call (.type "enumerate") [.ref l]) Q E s:=by
 let⟨⟨c,dct,dt,sl⟩,hl,hc,n,hd⟩:=hL;subst hc hd
 refine callType_new F.called_enumerate (by decide) (F.typeCall_enumerate_1 _) (F.newCall_enumerate_1 _) (λobj=>F.args_object_init_2 obj _) F.entry_enumerate_new
  (O_ l items n dct sl) ⟨hl,?_⟩
 let hz:(s.heap.push {cls:=.type "tuple_iterator",data:=.fields #[.ref l,.int 0 0]}).objs.size=⇑s+1:=Zz ..;rw[hz]
 let he:IsEnum ((s.heap.push {cls:=.type "tuple_iterator",data:=.fields #[.ref l,.int 0 0]}).push
   {cls:=.type "enumerate",data:=.fields #[.none,.bool ι,.ref ⇑s,rawInt 0,.none,.none]}) (⇑s+1) ⇑s 0 .none:=by
  let:=WL (s.heap.push {cls:=.type "tuple_iterator",data:=.fields #[.ref l,.int 0 0]})
   (o:={cls:=.type "enumerate",data:=.fields #[.none,.bool ι,.ref ⇑s,rawInt 0,.none,.none]}) Y
  rw[hz] at this;exact this
 calc⟨⟨_,he,Y⟩,h _ he ⟨_,zk _ (WL _ Y),Y,Y⟩ (by rw[Zz,hz]) λb o x=>zk _ (zk _ x)⟩
theorem Pc{it l:O}{i:Nat}{items:Array L}{x:L}{Q:bc}(hit:s.heap.IsTupleIter it l i)(hl:s.heap.IsTuple l items)(hx:items[i]?=U x)
  (hQ:∀h',h'.IsTupleIter it l (i+1)->q0I it s.heap h'->Q x {s with heap:=h'}):G (S prog w) A (q1u (.ref it)) Q E s:=by
 let⟨o,ho,hc,hd⟩:=id hit;let⟨ol,Aa,_,nl,m_⟩:=hl;let nn:¬ ((Yg l==Yk)=θ):=Ya;calc tH (ZD (name:=Z0 "__next__") hit.typeIs ZL (q0k ZL hit.typeIs q09 ?_ (q03 _)));show G _ _ (field (.ref it) 0 >>= _) _ _ s;calc tH (ZA ho hd (x:=.ref l) Y ?_);calc tH (ZA ho hd (x:=.int i 0) Y ?_);calc tH (q2n Aa m_ ?_);erw[XZ,hx];calc tH (q1o ho hd (by simp) (NH ⟨x,Y,NH (hQ _ ⟨_,Y6 _ ho (q0R (Z2 hd _)),(Obj.cls_mapFields ..).trans hc,?_⟩ (YK ..))⟩));rw[Z2 hd];simp[rawInt]
theorem Pd{it l:O}{i:Nat}{items:Array L}{Q:bc}(hh:A.handled=Z)(hit:s.heap.IsTupleIter it l i)(hl:s.heap.IsTuple l items)(hx:items[i]?=Z)
  (hE:∀h' e,Heap.ExtBut it s.heap h'->(∃o,h'.get? e=U o/\o.cls=.type "StopIteration")->E (.ref e) {s with heap:=h'}):G (S prog w) A (q1u (.ref it)) Q E s:=by
 let⟨o,ho,hc,hd⟩:=id hit;let⟨ol,Aa,_,nl,m_⟩:=hl;let nn:¬ ((Yg l==Yk)=θ):=Ya;calc tH (ZD (name:=Z0 "__next__") hit.typeIs ZL (q0k ZL hit.typeIs q09 ?_ (q03 _)));show G _ _ (field (.ref it) 0 >>= _) _ _ s;calc tH (ZA ho hd (x:=.ref l) Y ?_);calc tH (ZA ho hd (x:=.int i 0) Y ?_);calc tH (q2n Aa m_ ?_);erw[XZ,hx];calc tH (q4m (tH (q1o ho hd (by simp) ?_)));calc tH ?_;calc tH (m:=firstArgMember _ _) (wpAny_of_eq (a:=Yk) (by first|rfl|(erw[firstArgMember];rfl)) (Yu ?_ (by size_fits)));refine tH (wpAny_handled ?_)
 first|rw[show A.in1.handled=Z from hh]|rw[hh]
 calc tH (NH (wpAny_throw (hE _ _ (((YK ..).extBut.push _).push _) ⟨_,WL _ Y,Y⟩)))
theorem Gy(hh:A.handled=Z)(it l:O)(ja:l≠it)(items:Array L):Draws prog w A it [it,l] items.size (λi v=>items[i]?=U v) (λi h=>h.IsTupleIter it l i/\h.IsTuple l items) where
 live:=λ_ _ st=>let⟨o,ho,_⟩:=st.1;⟨o,ho⟩
 frame:=λ_ _ _ st hk=>⟨st.1.at λo e=>hk it (by simp) o e,st.2.at λo e=>hk l (by simp) o e⟩
 item:=λi s Q E hi st hQ=>Pc st.1 st.2 (x:=items[i]) (by simp[hi]) λh' Ab v7=>hQ _ h' s.toks (by simp[hi]) ⟨Ab,st.2.extBut v7.extBut ja⟩ v7
 done:=λs Q E st hE=>Pd hh st.1 st.2 (by simp) hE
end
end PySem
namespace L2
open PySem PySem.Spec PyProof.Rows
noncomputable def uy(K:vS)(a:O):It :=
 ⟨λi H=>∃xs x,bV K H a xs/\xs[i]?=U x,λi H x H'=>∃T v,x=.ref T/\H T=Z/\H'=upd H T (.tup [.int (i:Nat),v])/\∀xs,bV K H a xs->xs[i]?=U v,λi H=>∃xs,bV K H a xs/\↑xs=i⟩
theorem Pe{P:t}{w:ω}{K:vS}{elts:-M}{x1}{tp:Ε}(a e it:O)(ja:e≠it)(Pf:a≠e)(Gz:a≠it):
  Turn P w K (.Tuple elts x1 tp) (uy K a) [e,it] e (λi h=>(∃old,IsEnum h e it (i:Nat) old)/\h.IsTupleIter it a i) where
 mem:=by simp
 obj:=λi h st b hb=>by
  let⟨⟨old,he⟩,o,hi,hc,hd⟩:=st;rcases XJ.mp hb with rfl|hb
  .exact⟨_,he,λv z=>by cases z⟩
  .let z:b=it:=by simpa using hb
   subst z;exact⟨o,hi,λv z=>by rw[hd] at z;cases z⟩
 keep:=λi h h' st k=>by
  let⟨⟨old,he⟩,hi⟩:=st;exact⟨⟨old,k e (by simp) _ he⟩,hi.at λo q=>k it (by simp) o q⟩
 item:=by
  ext X hP hw hK hc i pins s σ H E I hf st hg;subst hP hw hK;let⟨⟨old,he⟩,hi⟩:=st;let⟨xs,x,hq,hx⟩:=hg;let⟨au,rv,p,hz⟩:=I.tuple hq;let⟨u,hu,ru⟩:=rv.get hx;let D:=Gy (prog:=X.prog) (w:=X.w) (A:=X.A.in1) (by rw[Z1];calc I.ok.hd hc) it a Gz au.toArray;let lX:i<au.toArray.size:=by rw[Fp];exact(qV.mp hu).1
  refine wpAny_pyNext_enum_itemD D he ⟨hi,p⟩ lX ja (by simp[ja,Zl Pf]) λy h1 tk py lP zv tR hsz hk=>⟨_,Y,?_⟩
  let ey:y=u:=by
   rw[Y7,hu] at py;cases py;rfl
  subst ey;calc q1m lP λh2 vW iY=>?_;let hT:⇑s≠e:=ZZ (WJ he);let mi:h2.get? ⇑s=U {cls:=.type "tuple",data:=.seq #[.int i tk,y]}:=(iY.2 _ hT).trans tR
  let k2:∀b o,b∉[e,it]->s.heap.get? b=U o->h2.get? b=U o:=λb o hb q=>by
   let tT:b≠e:=λz=>hb (by simp[z]);let iy:b≠it:=λz=>hb (by simp[z]);exact(iY.2 _ tT).trans (hk b o tT iy q)
  let hn:H ⇑s=Z:=I.aY.fresh (Fm _);refine⟨.ref ⇑s,upd H ⇑s (.tup [.int i,x]),I.iA (ch:=[e,it]) (t':=tk+1) hf k2 (Fm _) ?_,Y,⟨_,x,Y,hn,Y,λys hy=>by rw[I.gF hy hq];calc hx⟩,⟨⟨y,?_⟩,?_⟩,λb hb=>?_⟩
  .exact⟨by show 2<=sizeLine;decide,[.int i tk,y],.cons ⟨_,Y⟩ (.cons ru .nil),_,mi,Y,_,Y⟩
  .let e3:((i:Int)+1)=(((i+1:Nat)):Int):=by symm
   exact vW
  .exact zv.1.at λo q=>(iY.2 _ (Zl ja)).trans q
  .let:b<⇑s:=by
    let⟨o,q,_⟩:=hi;rcases XJ.mp hb with rfl|hb
    .exact WJ he
    .let z:b=it:=by simpa using hb
     subst z;exact WJ q
   rw[aZ (XQ this)];exact(hf b hb).1
 done:=by
  ext X hP hw hK hc i pins s σ H E I hf st hg;subst hP hw hK;let⟨⟨old,he⟩,hi⟩:=st;let⟨xs,hq,hx⟩:=hg;let⟨au,rv,p,hz⟩:=I.tuple hq;let D:=Gy (prog:=X.prog) (w:=X.w) (A:=X.A.in1) (by rw[Z1];calc I.ok.hd hc) it a Gz au.toArray;let lX:au.toArray.size=i:=by rw[Fp,<-↑rv];exact hx
  calc wpAny_pyNext_enum_endD D he (by rw[lX];calc⟨hi,p⟩) λh1 eb=>⟨Y,?_⟩;let⟨f0,f1,f2,f3,f4,f5⟩:=hf it (by simp);exact I.turned (t':=s.toks) (λb o hb q=>eb b o hb q) f0 f1 f3 f4 f5
 self:=λA i s Q E st h=>by
  let⟨⟨old,he⟩,hi⟩:=st;calc ZF he h
section
variable{X:Cx}{elts:-M}{x1:Nat}{tp:y}{tg:M}
def Pg(K:vS)(ta:TA):TI:=fun σ H R=>ta σ H λvs H1=>∃a,vs=[.ref a]/\(((∃xs,bE K H1 a xs)/\R (qX K a) H1)\/((∃xs,bV K H1 a xs)/\R (uy K a) H1))
theorem Ph{a:M}{ta:TA}{p pos:y}(hg:Gl X "enumerate")(hm:X.mg "enumerate" = Z)(ha:JA X [a] ta)(hs:‹starEach [a] X.env=[(ι,eval a X.env)]›):
  JI X (.Tuple elts x1 tp) (.Call (.Name "enumerate" p) [a] [] pos) (Pg X.K ta):=by
 calc⟨?_⟩;ext pins s σ H R I h;calc Call_ (oh I hg hm FH (Zh (bg (ha pos pins s σ H _ I h) λus s1 ⟨vs,H1,I1,r1,q1⟩=>?_) hs Y));let⟨l,e,q⟩:=q1;subst e;let⟨u,rfl,rx⟩:=vals1 r1;cases rx
 let fp:∀b∈[⇑s1+1,⇑s1],bM X pins H1 b:=λb hb=>by
  let hb':⇑s1<=b:=by
   rcases XJ.mp hb with rfl|hb
   .exact q0Y _
   .let z:b=⇑s1:=by simpa using hb
    rw[z];exact Fm _
  exact I1.iX hb' (I1.aY.fresh hb')
 rcases q with⟨⟨xs,hq⟩,q⟩|⟨⟨xs,hq⟩,q⟩
 .let⟨au,rv,p,hz⟩:=I1.list hq
  calc q2w p.isList λh' he hi hsz hk=>?_;let I2:Inv X pins σ H1 {s1 with heap:=h'}:=I1.kept (t':=s1.toks) hk;calc ZF he ?_;exact⟨_,_,_,_,H1,Y,I2,FF l (⇑s1+1) ⇑s1 (q1L _),⟨⟨_,he⟩,hi⟩,fp,q⟩
 .let⟨au,rv,p,hz⟩:=I1.tuple hq
  let GA:l<⇑s1:=by let⟨o,e,_⟩:=p;exact WJ e
  calc Pb p λh' he hi hsz hk=>?_;let I2:Inv X pins σ H1 {s1 with heap:=h'}:=I1.kept (t':=s1.toks) hk;calc ZF he ?_;calc⟨_,_,_,_,H1,Y,I2,Pe l (⇑s1+1) ⇑s1 (q1L _) (XQ (Zk GA)) (XQ GA),⟨⟨_,he⟩,hi⟩,fp,q⟩
def Ac(K:vS)(tl:TE):TI:=fun σ H R=>tl σ H λx H1=>∃a,x=.ref a/\(((∃xs,bE K H1 a xs)/\R (EB K a) H1)\/((∃xs,bV K H1 a xs)/\R (EC K a) H1))
theorem Pj{l:M}{tl:TE}(hl:JE X l tl):JI X tg l (Ac X.K tl):=by
 calc⟨?_⟩;ext pins s σ H R I h;calc bg (hl pins s σ H _ I h) ?_;ext v s1 ⟨x,H1,I1,r1,q1⟩;let⟨a,e,q⟩:=q1;subst e;cases r1
 let fp:∀b∈[⇑s1],bM X pins H1 b:=λb hb=>by
  let e:b=⇑s1:=by simpa using hb
  subst e;exact I1.iX (Fm _) (I1.aY.fresh (Fm _))
 rcases q with⟨⟨xs,hq⟩,q⟩|⟨⟨xs,hq⟩,q⟩
 .let⟨au,rv,p,hz⟩:=I1.list hq
  exact q0a p.isList ⟨⇑s1,[⇑s1],_,_,H1,Y,I1.kept (t':=s1.toks) λb o e=>zk _ e,L_ a _,⟨_,WL _ Y,Y,Y⟩,fp,q⟩
 .let⟨au,rv,p,hz⟩:=I1.tuple hq
  calc q0A (show s1.heap.IsTuple a au.toArray from p) ⟨⇑s1,[⇑s1],_,_,H1,Y,I1.kept (t':=s1.toks) λb o e=>zk _ e,Ma a _,⟨_,WL _ Y,Y,Y⟩,fp,q⟩
end
variable[aM]
noncomputable def cP(lo:Int)(n:Nat):-D:=(X_ n).map λi:Nat=>D.int (lo+i)
noncomputable def lZ:Nat->-D->-D
 |_,[]=>[]
 |i,d::r=>.tup [.int i,d]::lZ (i+1) r
noncomputable def Ad:-D->-D->-D
 |a::r,b::s=>.tup [a,b]::Ad r s
 |_,_=>[]
def rq(x:DV)(δ:aJ)(K:oO->Prop):Prop:=match x with
 |.p (.lst ds)=>K ⟨ds,λ_=>True⟩
 |.p (.tup ds)=>K ⟨ds,λ_=>True⟩
 |.o k=>match δ.mu[k]? with
  |some (some (.lst ds))=>K ⟨ds,fun δ'=>δ'.mu[k]?=U (U (.lst ds))⟩
  |some (some (.al a ds))=>K ⟨ds,fun δ'=>δ'.mu[k]?=U (U (.al a ds))⟩
  |_=>False
 |_=>False
def cA(f:WE):WI:=fun δ K=>f δ λx δ1=>rq x δ1 λit=>K it δ1
def l3(fa:WA):WI:=fun δ K=>fa δ λxs δ1=>match xs with
 |[.p (.int j)]=>(-(2 ^ 62)<=j/\j<2 ^ 62)/\K ⟨cP 0 j.toNat,λ_=>True⟩ δ1
 |_=>False
def Ae(fa:WA):WI:=fun δ K=>fa δ λxs δ1=>match xs with
 |[.p (.int i),.p (.int j)]=>(-(2 ^ 62)<=i/\i<2 ^ 62 /\ -(2 ^ 62)<=j/\j<2 ^ 62)/\K ⟨cP i (j-i).toNat,λ_=>True⟩ δ1
 |_=>False
def nh(fa:WA):WI:=fun δ K=>fa δ λxs δ1=>match xs with
 |[x]=>rq x δ1 λit=>K ⟨lZ 0 it.items,it.bQ⟩ δ1
 |_=>False
def Af(x:DV)(δ:aJ)(K:oO->Prop):Prop:=match x with
 |.p (.lst ds)=>K ⟨ds,λ_=>True⟩
 |.o k=>match δ.mu[k]? with
  |some (some (.lst ds))=>K ⟨ds,fun δ'=>δ'.mu[k]?=U (U (.lst ds))⟩
  |some (some (.al a ds))=>K ⟨ds,fun δ'=>δ'.mu[k]?=U (U (.al a ds))⟩
  |_=>False
 |_=>False
theorem ni{lo:Int}{n i:Nat}{d:D}(h:(cP lo n)[i]?=U d):i<n/\d=.int (lo+i):=by
 unfold cP at h;rw[WD] at h;let⟨j,e,rfl⟩:=XX.mp h;let hj:=(qV.mp e).1;rw[Ys] at hj;rw[Y0 hj] at e;cases e
 calc⟨hj,Y⟩
theorem nj(lo:Int)(n:Nat):↑(cP lo n)=n:=by unfold cP;rw[pR,Ys]
theorem wB:∀(ds:-D)(i:Nat),↑(lZ i ds)=↑ds
 |[],_=>Y
 |d::r,i=>by rw[lZ,NG,NG,wB r]
theorem wC:∀{ds:-D}{k i:Nat}{d:D},(lZ k ds)[i]?=U d->∃e,ds[i]?=U e/\d=.tup [.int ((k+i:Nat):Int),e]
 |[],k,i,d,h=>by simp[lZ] at h
 |e::r,k,0,d,h=>by
  cases(show U (D.tup [.int (k:Nat),e])=U d by simpa[lZ] using h)
  exact⟨e,Y,Y⟩
 |e::r,k,i+1,d,h=>by
  let⟨e',h1,h2⟩:=wC (ds:=r) (k:=k+1) (i:=i) (d:=d) (by simpa[lZ] using h);calc⟨e',by simpa using h1,by rw[h2];congr 4;symm⟩
section
variable{X:Cx}{tg l a b:M}{f:WE}{fa:WA}{F H:Hp}{ad:-O}{δ:aJ}{σ:St}
theorem JI.weak{iter:M}{w w':TI}(h:JI X tg iter w)(k:∀σ H R,w' σ H R->w σ H R):JI X tg iter w':=⟨λpins s σ H R I q=>h pins s σ H R I (k σ H R q)⟩
theorem qd{ds:-D}{vs:-V}(h:ah F ds vs){i:Nat}{d:D}(e:ds[i]?=U d):∃v,vs[i]?=U v/\Is F d v:=by
 let hl:=↑h;let hi:i<↑vs:=by rw[hl];exact(qV.mp e).1
 let⟨d',e1,h1⟩:=h.get (pQ hi);rw[e] at e1;cases e1;calc⟨_,pQ hi,h1⟩
theorem GB{x:DV}{v:V}{K:oO->Prop}(S:SR F ad δ σ H)(V1:dF F ad x v)(h:Af x δ K):∃a it,v=.ref a/\K it/\(∃vs,H a=U (.lst vs)) ∧
  ∀(F':Hp)(aG:-O)(δ':aJ)(σ':St)(H':Hp),aO F F'->(∀(k:Nat)(a:O),ad[k]?=U a->aG[k]?=U a)->SR F' aG δ' σ' H'->it.bQ δ'->∃vs,H' a=U (.lst vs)/\ah F' it.items vs:=by
 unfold Af at h;split at h
 .rename_i ds
  let V2:Is F (.lst ds) v:=V1;erw[Is] at V2;let⟨a,vs,rfl,h1,h2⟩:=V2;exact⟨a,_,Y,h,⟨vs,S.sub _ _ h1⟩,λF' aG δ' σ' H' s _ S' _=>⟨vs,S'.sub _ _ (s _ _ h1),h2.same s⟩⟩
 .rename_i k
  split at h
  .rename_i ds e
   let⟨a,e1,rfl⟩:=V1;let⟨a',o,e2,e3,vs,rfl,h4⟩:=S.mu k _ e;rw[e1] at e2;cases e2;calc⟨a,_,Y,h,⟨vs,e3⟩,λF' aG δ' σ' H' _ pre S' ck=>?_⟩;let⟨Pk,o,e5,e6,ws,rfl,h7⟩:=S'.mu k _ ck;rw[pre k a e1] at e5;cases e5;exact⟨ws,e6,h7⟩
  .rename_i b ds e
   let⟨a,e1,rfl⟩:=V1;let⟨a',o,e2,e3,z,vs,rfl,h4⟩:=S.mu k _ e;rw[e1] at e2;cases e2;calc⟨a,_,Y,h,⟨vs,e3⟩,λF' aG δ' σ' H' _ pre S' ck=>?_⟩;let⟨Pk,o,e5,e6,_,ws,rfl,h7⟩:=S'.mu k _ ck;rw[pre k a e1] at e5;cases e5;exact⟨ws,e6,h7⟩
  .exact h.elim
 .calc h.elim
theorem GC{x:DV}{v:V}{K:oO->Prop}(S:SR F ad δ σ H)(V1:dF F ad x v)(h:rq x δ K):∃a it,v=.ref a/\K it ∧
  (((∃vs,H a=U (.lst vs))/\∀(F':Hp)(aG:-O)(δ':aJ)(σ':St)(H':Hp),aO F F'->(∀(k:Nat)(a:O),ad[k]?=U a->aG[k]?=U a)->SR F' aG δ' σ' H'->it.bQ δ'->∃vs,H' a=U (.lst vs)/\ah F' it.items vs) ∨
  ((∃vs,H a=U (.tup vs))/\∀(F':Hp)(aG:-O)(δ':aJ)(σ':St)(H':Hp),aO F F'->(∀(k:Nat)(a:O),ad[k]?=U a->aG[k]?=U a)->SR F' aG δ' σ' H'->it.bQ δ'->∃vs,H' a=U (.tup vs)/\ah F' it.items vs)):=by
 unfold rq at h;split at h
 .rename_i ds
  let⟨a,it,e,k,r⟩:=GB (x:=.p (.lst ds)) S V1 h;exact⟨a,it,e,k,.inl r⟩
 .rename_i ds
  let V2:Is F (.tup ds) v:=V1;erw[Is] at V2;let⟨a,vs,rfl,h1,h2⟩:=V2;exact⟨a,_,Y,h,.inr ⟨⟨vs,S.sub _ _ h1⟩,λF' aG δ' σ' H' s _ S' _=>⟨vs,S'.sub _ _ (s _ _ h1),h2.same s⟩⟩⟩
 .rename_i k
  let⟨a,it,e,k,r⟩:=GB (x:=.o k) S V1 h;exact⟨a,it,e,k,.inl r⟩
 .calc h.elim
theorem rz(hl:JE X l (tD f)):JI X tg l (j9 (cA f)):=(Pj hl).weak fun σ H R ⟨F,ad,δ,K,S,q,k⟩=>⟨F,ad,δ,_,S,q,λx δ1 h1 v F1 aW H1 E1 S1 V1=>by
 let⟨a,it,rfl,hk,r⟩:=GC S1 V1 h1;calc⟨a,Y,?_⟩;rcases r with⟨⟨vs,e⟩,r⟩|⟨⟨vs,e⟩,r⟩
 .refine .inl ⟨⟨vs,bE.of e⟩,k _ _ hk _ _ _ _ E1 S1 λF' aG δ' σ' H' s pre S' ck=>?_⟩
  let⟨ws,e1,e2⟩:=r F' aG δ' σ' H' s pre S' ck;calc⟨⟨ws,bE.of e1,by rw[↑e2];calc Fm _⟩,λi d ed=>?_⟩;let⟨w,e3,e4⟩:=qd e2 ed;calc⟨⟨ws,w,bE.of e1,e3⟩,?_⟩;ext y lg ⟨eh,hy⟩;subst eh;calc⟨λ_ _ e=>e,?_⟩;let:=hy ws (bE.of e1);rw[e3] at this;cases this;rw[Nw.refl S'.sub];exact e4
 .refine .inr ⟨⟨vs,bV.of e⟩,k _ _ hk _ _ _ _ E1 S1 λF' aG δ' σ' H' s pre S' ck=>?_⟩
  let⟨ws,e1,e2⟩:=r F' aG δ' σ' H' s pre S' ck;calc⟨⟨ws,bV.of e1,by rw[↑e2];calc Fm _⟩,λi d ed=>?_⟩;let⟨w,e3,e4⟩:=qd e2 ed;calc⟨⟨ws,w,bV.of e1,e3⟩,?_⟩;ext y lg ⟨eh,hy⟩;subst eh;calc⟨λ_ _ e=>e,?_⟩;let:=hy ws (bV.of e1);rw[e3] at this;cases this
  rw[Nw.refl S'.sub];calc e4⟩
theorem GG{F H:Hp}{T:O}{d e:D}{x y:V}(s:aO F H)(hT:H T=Z)(h1:Is F d x)(h2:Is F e y):Is (Nw F H (upd H T (.tup [x,y]))) (.tup [d,e]) (.ref T):=by
 rw[Nw.upd s hT]
 let hF:F T=Z:=by
  cases q:F T with
  |none=>rfl
  |some u=>rw[s T u q] at hT;cases hT
 let sm:aO F (upd F T (.tup [x,y])):=cL hF;erw[Is];calc⟨T,_,Y,bK,.cons (h1.same sm) (.cons (h2.same sm) .nil)⟩
theorem Pl{elts:-M}{x1:Nat}{tp p pos:Ε}(hg:Gl X "enumerate")(hm:X.mg "enumerate" = Z)(ha:JA X [a] (b_ fa))(hs:‹starEach [a] X.env=[(ι,eval a X.env)]›):
  JI X (.Tuple elts x1 tp) (.Call (.Name "enumerate" p) [a] [] pos) (j9 (nh fa)):=(Ph hg hm ha hs).weak fun σ H R ⟨F,ad,δ,K,S,q,k⟩=>⟨F,ad,δ,_,S,q,λxs δ1 h1 vs F1 aW H1 E1 S1 V1=>by
 match xs,h1,V1 with
 |[x],g1,⟨v,r,e,W1,W2⟩ =>
  subst e;let W3:r=[]:=W2;subst W3;let⟨a,it,rfl,hk,r⟩:=GC S1 W1 g1;calc⟨a,Y,?_⟩;rcases r with⟨⟨vs,e⟩,r⟩|⟨⟨vs,e⟩,r⟩
  .refine .inl ⟨⟨vs,bE.of e⟩,k _ _ hk _ _ _ _ E1 S1 λF' aG δ' σ' H' s pre S' ck=>?_⟩
   let⟨ws,e1,e2⟩:=r F' aG δ' σ' H' s pre S' ck;calc⟨⟨ws,bE.of e1,by rw[↑e2,wB];calc Fm _⟩,λi d ed=>?_⟩;let⟨d',Ag,rfl⟩:=wC ed;let⟨w,e3,e4⟩:=qd e2 Ag;calc⟨⟨ws,w,bE.of e1,e3⟩,?_⟩;ext y lg ⟨T,v,ey,hT,eh,hy⟩;subst eh ey;let:=hy ws (bE.of e1);rw[e3] at this;cases this;calc⟨cL hT,?_⟩;rw[YF];exact GG S'.sub hT Y e4
  .refine .inr ⟨⟨vs,bV.of e⟩,k _ _ hk _ _ _ _ E1 S1 λF' aG δ' σ' H' s pre S' ck=>?_⟩
   let⟨ws,e1,e2⟩:=r F' aG δ' σ' H' s pre S' ck;calc⟨⟨ws,bV.of e1,by rw[↑e2,wB]⟩,λi d ed=>?_⟩;let⟨d',Ag,rfl⟩:=wC ed;let⟨w,e3,e4⟩:=qd e2 Ag;calc⟨⟨ws,w,bV.of e1,e3⟩,?_⟩;ext y lg ⟨T,v,ey,hT,eh,hy⟩;subst eh ey;let:=hy ws (bV.of e1);rw[e3] at this;cases this;calc⟨cL hT,?_⟩;rw[YF];exact GG S'.sub hT Y e4
 |[],h1,_=>exact h1.elim
 |_::_::_,h1,_=>calc h1.elim⟩
theorem GH{F1:Hp}{aW:-O}{lo:Int}{n:Nat}:p_ F1 aW ⟨cP lo n,λ_=>True⟩ (sM lo n):=λF' aG δ' σ' H' s pre S' _=>by
 calc⟨by show n<=↑(cP lo n);rw[nj];calc Fm _,λi d ed=>?_⟩;let⟨hi,rfl⟩:=ni ed;calc⟨hi,?_⟩;ext x lg ⟨eh,ex⟩;subst eh ex;calc⟨λ_ _ e=>e,Y⟩
theorem wD{p pos:y}(hg:Gl X "range")(hm:X.mg "range" = Z)(ha:JA X [a] (b_ fa))(hs:‹starEach [a] X.env=[(ι,eval a X.env)]›):JI X tg (.Call (.Name "range" p) [a] [] pos) (j9 (l3 fa)) :=
 (Me hg hm ha hs).weak fun σ H R ⟨F,ad,δ,K,S,q,k⟩↦⟨F,ad,δ,_,S,q,λxs δ1 h1 vs F1 aW H1 E1 S1 V1=>by
  split at h1
  .rename_i j
   let⟨v,r,e,V1,V2⟩:=V1;let V2:r=[]:=V2;let V1:v=.int j:=V1;subst V2 V1 e;exact⟨j,Y,h1.1.1,h1.1.2,k _ _ h1.2 _ _ _ _ E1 S1 GH⟩
  .calc h1.elim⟩
theorem Pm{p pos:y}(hg:Gl X "range")(hm:X.mg "range" = Z)(ha:JA X [a,b] (b_ fa))(hs:‹starEach [a,b] X.env=[(ι,eval a X.env),(ι,eval b X.env)]›)(iY:‹starEach [b] X.env=[(ι,eval b X.env)]›):
  JI X tg (.Call (.Name "range" p) [a,b] [] pos) (j9 (Ae fa)) :=
 (Mf hg hm ha hs iY).weak fun σ H R ⟨F,ad,δ,K,S,q,k⟩↦⟨F,ad,δ,_,S,q,λxs δ1 h1 vs F1 aW H1 E1 S1 V1=>by
  split at h1
  .rename_i i j
   let⟨v,r,e,V1,w,r2,e2,V2,V3⟩:=V1;let V3:r2=[]:=V3;let V1:v=.int i:=V1;let V2:w=.int j:=V2;subst V3 V1 V2 e2 e;exact⟨i,j,Y,h1.1,k _ _ h1.2 _ _ _ _ E1 S1 GH⟩
  .calc h1.elim⟩
end
end L2
namespace L2
open PySem PySem.Spec PyProof.Rows
mutual
noncomputable def aQ:D->D->Bool
 |.non,.non=>θ
 |.bl a,.bl b=>a==b
 |.bl a,.int b=>(if a then 1 else 0)==b
 |.int a,.bl b=>a==(if b then 1 else 0)
 |.int a,.int b=>a==b
 |.str a,.str b=>a==b
 |.tup a,.tup b=>d3 a b
 |.lst a,.lst b=>d3 a b
 |_,_=>ι
noncomputable def d3:-D->-D->Bool
 |[],[]=>θ
 |a::r,b::s=>aQ a b&&d3 r s
 |_,_=>ι
end
mutual
theorem h8:∀d:D,aQ d d=θ
 |.non=>by simp[aQ]
 |.bl a=>by simp[aQ]
 |.int a=>by simp[aQ]
 |.str a=>by simp[aQ]
 |.tup a=>by erw[aQ];exact Ah a
 |.lst a=>by erw[aQ];calc Ah a
theorem Ah:∀ds:-D,d3 ds ds=θ
 |[]=>by simp[d3]
 |d::r=>by erw[d3,h8 d,Ah r,q4E]
end
mutual
theorem Is.inj {H:Hp}:∀{d e:D}{v:V},Is H d v->Is H e v->d=e
 |.non,e,v,h,q=>by cases e<;>erw[Is] at h q<;>first|rfl|(subst h;first|(let⟨_,_,z,_⟩:=q;cases z;done)|(cases q;done)|(cases q;rfl))
 |.bl a,e,v,h,q=>by cases e<;>erw[Is] at h q<;>(subst h;first|(let⟨_,_,z,_⟩:=q;cases z;done)|(cases q;done)|(cases q;rfl))
 |.int a,e,v,h,q=>by cases e<;>erw[Is] at h q<;>(subst h;first|(let⟨_,_,z,_⟩:=q;cases z;done)|(cases q;done)|(cases q;rfl))
 |.str a,e,v,h,q=>by cases e<;>erw[Is] at h q<;>(subst h;first|(let⟨_,_,z,_⟩:=q;cases z;done)|(cases q;done)|(cases q;rfl))
 |.tup a,e,v,h,q=>by
  erw[Is] at h;let⟨p,vs,rfl,h1,h2⟩:=h
  cases e with
  |tup b =>
   erw[Is] at q;let⟨p',ws,z,q1,q2⟩:=q;cases z
   rw[h1] at q1;cases q1;rw[ah.inj h2 q2]
  |lst b =>
   erw[Is] at q;let⟨p',ws,z,q1,q2⟩:=q;cases z
   rw[h1] at q1;cases q1
  |non=>erw[Is] at q;cases q
  |bl _=>erw[Is] at q;cases q
  |int _=>erw[Is] at q;cases q
  |str _=>erw[Is] at q;cases q
 |.lst a,e,v,h,q=>by
  erw[Is] at h;let⟨p,vs,rfl,h1,h2⟩:=h
  cases e with
  |lst b =>
   erw[Is] at q;let⟨p',ws,z,q1,q2⟩:=q;cases z
   rw[h1] at q1;cases q1;rw[ah.inj h2 q2]
  |tup b =>
   erw[Is] at q;let⟨p',ws,z,q1,q2⟩:=q;cases z
   rw[h1] at q1;cases q1
  |non=>erw[Is] at q;cases q
  |bl _=>erw[Is] at q;cases q
  |int _=>erw[Is] at q;cases q
  |str _=>erw[Is] at q;cases q
theorem ah.inj {H:Hp}:∀{ds es:-D}{vs:-V},ah H ds vs->ah H es vs->ds=es
 |[],es,vs,h,q=>by
  erw[ah] at h;subst h
  cases es with
  |nil=>rfl
  |cons _ _=>erw[ah] at q;let⟨_,_,z,_⟩:=q;cases z
 |d::ds,es,vs,h,q=>by
  erw[ah] at h;let⟨v,r,rfl,h1,h2⟩:=h
  cases es with
  |nil=>erw[ah] at q;cases q
  |cons e es =>
   erw[ah] at q;let⟨v',r',z,q1,q2⟩:=q;cases z
   rw[Is.inj h1 q1,ah.inj h2 q2]
end
theorem uz:∀{ds es:-D},↑ds≠↑es->d3 ds es=ι
 |[],[],h=>absurd Y h
 |[],_::_,_=>by simp[d3]
 |_::_,[],_=>by simp[d3]
 |d::r,e::s,h=>by erw[d3];rw[uz (λz=>h (by rw[NG,NG,z])),q4h]
noncomputable def qe(ds es:-D)(j:Nat):Bool:=match ds[j]?,es[j]? with
 |some a,some b=>aQ a b
 |_,_=>θ
theorem uA:∀{ds es:-D},↑ds=↑es->(X_ ↑ds).all (qe ds es)=d3 ds es
 |[],[],_=>by simp[d3]
 |[],_::_,h=>by simp at h
 |_::_,[],h=>by simp at h
 |d::r,e::s,h=>by
  let ih:=uA (ds:=r) (es:=s) h⁻¹;rw[NG,List.range_succ_eq_map,List.all_cons,List.all_map];erw[d3];rw[<-ih];rfl
section
variable{X:Cx}{pins:aH}{σ:St}{H:Hp}{s:B}
theorem wF{vs:-V}{au:-L}(r:Vals vs au){j:Nat}(h:j<au.toArray.size):∃v,vs[j]?=U v/\RelV v au.toArray[j]:=by
 let hj:j<↑au:=by simpa using h
 let hv:j<↑vs:=by rw[↑r];exact hj
 let⟨u,e,ru⟩:=r.get (pQ hv)
 let:au.toArray[j]=u:=by
  let:=(qV.mp e).2;simpa using this
 rw[this];calc⟨_,pQ hv,ru⟩
theorem dO(I:Inv X pins σ H s){a:O}{vs:-V}(h:H a=U (.lst vs)):∃au:-L,Vals vs au/\s.heap.IsList a au.toArray:=by
 let⟨au,r,p,_⟩:=I.list (bE.of h);calc⟨au,r,p.isList⟩
theorem dP(I:Inv X pins σ H s){a:O}{vs:-V}(h:H a=U (.tup vs)):∃au:-L,Vals vs au/\s.heap.IsTuple a au.toArray:=by
 let⟨au,r,p,_⟩:=I.tuple (bV.of h);calc⟨au,r,p⟩
theorem in1_units(A:q):A.in1.units=A.units+1:=rfl
theorem Ai(I:Inv X pins σ H s):∀(n:Nat){A:q}{d e:D}{v u:V}{x y:L},dep d<=n->A.units+n<cLine->Is H d v->Is H e u->RelV v x->RelV u y->q1V A s x y (aQ d e)/\q4n A s x y (aQ d e):=by
 ext n
 induction n with
 |zero =>
  ext A d e v u x y hd hu hv hw rv ru;let nz:A.units<cLine:=by symm
  cases d with
  |tup ds=>simp[dep] at hd
  |lst ds=>simp[dep] at hd
  |non =>
   cases(show v=.non from hv);cases rv
   cases e with
   |non=>cases(show u=.non from hw);cases ru;erw[aQ];exact⟨q2b _,SeqAt.RcAt.none_none⟩
   |bl b=>cases(show u=.bl b from hw);cases ru;erw[aQ];exact⟨SeqAt.EqAt.none_bool _,SeqAt.RcAt.none_bool _⟩
   |int b=>cases(show u=.int b from hw);let⟨t,rfl⟩:=ru;erw[aQ];exact⟨SeqAt.EqAt.none_int _ _,SeqAt.RcAt.none_int _ _⟩
   |str b=>cases(show u=.str b from hw);let⟨t,rfl⟩:=ru;erw[aQ];exact⟨SeqAt.EqAt.none_str _ _,SeqAt.RcAt.none_str _ _⟩
   |tup es=>erw[Is] at hw;let⟨a,vs,rfl,h1,_⟩:=hw;cases ru;let⟨_,_,p⟩:=dP I h1;erw[aQ];exact⟨SeqAt.EqAt.none_tuple p nz,SeqAt.RcAt.none_tuple p nz⟩
   |lst es=>erw[Is] at hw;let⟨a,vs,rfl,h1,_⟩:=hw;cases ru;let⟨_,_,p⟩:=dO I h1;erw[aQ];exact⟨SeqAt.EqAt.none_list p nz,SeqAt.RcAt.none_list p nz⟩
  |bl b0 =>
   cases(show v=.bl b0 from hv);cases rv
   cases e with
   |non=>cases(show u=.non from hw);cases ru;erw[aQ];exact⟨SeqAt.EqAt.bool_none _,SeqAt.RcAt.bool_none _⟩
   |bl b=>cases(show u=.bl b from hw);cases ru;erw[aQ];exact⟨SeqAt.EqAt.bool_bool _ _,SeqAt.RcAt.bool_bool _ _⟩
   |int b=>cases(show u=.int b from hw);let⟨t,rfl⟩:=ru;erw[aQ];exact⟨SeqAt.EqAt.bool_int _ _ _,SeqAt.RcAt.bool_int _ _ _⟩
   |str b=>cases(show u=.str b from hw);let⟨t,rfl⟩:=ru;erw[aQ];exact⟨SeqAt.EqAt.bool_str _ _ _,SeqAt.RcAt.bool_str _ _ _⟩
   |tup es=>erw[Is] at hw;let⟨a,vs,rfl,h1,_⟩:=hw;cases ru;let⟨_,_,p⟩:=dP I h1;erw[aQ];exact⟨SeqAt.EqAt.bool_tuple _ p nz,SeqAt.RcAt.bool_tuple _ p nz⟩
   |lst es=>erw[Is] at hw;let⟨a,vs,rfl,h1,_⟩:=hw;cases ru;let⟨_,_,p⟩:=dO I h1;erw[aQ];exact⟨SeqAt.EqAt.bool_list _ p nz,SeqAt.RcAt.bool_list _ p nz⟩
  |int b0 =>
   cases(show v=.int b0 from hv);let⟨t0,rfl⟩:=rv
   cases e with
   |non=>cases(show u=.non from hw);cases ru;erw[aQ];exact⟨SeqAt.EqAt.int_none _ _,SeqAt.RcAt.int_none _ _⟩
   |bl b=>cases(show u=.bl b from hw);cases ru;erw[aQ];exact⟨SeqAt.EqAt.int_bool _ _ _,SeqAt.RcAt.int_bool _ _ _⟩
   |int b=>cases(show u=.int b from hw);let⟨t,rfl⟩:=ru;erw[aQ];exact⟨q2W _ _ _ _,SeqAt.RcAt.int_int _ _ _ _⟩
   |str b=>cases(show u=.str b from hw);let⟨t,rfl⟩:=ru;erw[aQ];exact⟨q2T _ _ _ _,SeqAt.RcAt.int_str _ _ _ _⟩
   |tup es=>erw[Is] at hw;let⟨a,vs,rfl,h1,_⟩:=hw;cases ru;let⟨_,_,p⟩:=dP I h1;erw[aQ];exact⟨SeqAt.EqAt.int_tuple _ _ p nz,SeqAt.RcAt.int_tuple _ _ p nz⟩
   |lst es=>erw[Is] at hw;let⟨a,vs,rfl,h1,_⟩:=hw;cases ru;let⟨_,_,p⟩:=dO I h1;erw[aQ];exact⟨SeqAt.EqAt.int_list _ _ p nz,SeqAt.RcAt.int_list _ _ p nz⟩
  |str b0 =>
   cases(show v=.str b0 from hv);let⟨t0,rfl⟩:=rv
   cases e with
   |non=>cases(show u=.non from hw);cases ru;erw[aQ];exact⟨SeqAt.EqAt.str_none _ _,SeqAt.RcAt.str_none _ _⟩
   |bl b=>cases(show u=.bl b from hw);cases ru;erw[aQ];exact⟨SeqAt.EqAt.str_bool _ _ _,SeqAt.RcAt.str_bool _ _ _⟩
   |int b=>cases(show u=.int b from hw);let⟨t,rfl⟩:=ru;erw[aQ];exact⟨q2U _ _ _ _,SeqAt.RcAt.str_int _ _ _ _⟩
   |str b=>cases(show u=.str b from hw);let⟨t,rfl⟩:=ru;erw[aQ];exact⟨SeqAt.EqAt.str_str _ _ _ _,SeqAt.RcAt.str_str _ _ _ _⟩
   |tup es=>erw[Is] at hw;let⟨a,vs,rfl,h1,_⟩:=hw;cases ru;let⟨_,_,p⟩:=dP I h1;erw[aQ];exact⟨SeqAt.EqAt.str_tuple _ _ p nz,SeqAt.RcAt.str_tuple _ _ p nz⟩
   |lst es=>erw[Is] at hw;let⟨a,vs,rfl,h1,_⟩:=hw;cases ru;let⟨_,_,p⟩:=dO I h1;erw[aQ];exact⟨SeqAt.EqAt.str_list _ _ p nz,SeqAt.RcAt.str_list _ _ p nz⟩
 |succ n ih =>
  ext A d e v u x y hd hu hv hw rv ru;let nz:A.units<cLine:=by symm
  let step:∀{ds es:-D}{vs us:-V}{au bD:-L}(r1:Vals vs au)(r2:Vals us bD),bG ds<=n->ah H ds vs->ah H es us →
    ∀(j:Nat)(h1:j<au.toArray.size)(h2:j<bD.toArray.size),q1V A.in1 s au.toArray[j] bD.toArray[j] (qe ds es j):=λ{ds es vs us au bD} r1 r2 hl i1 i2 j h1 h2=>by
   let⟨v1,e1,q1⟩:=wF r1 h1;let⟨v2,e2,q2⟩:=wF r2 h2;let⟨d1,f1,g1⟩:=i1.get e1;let⟨d2,f2,g2⟩:=i2.get e2;unfold qe;rw[f1,f2];exact(ih (Yi (zA f1) hl) (by rw[in1_units];symm) g1 g2 q1 q2).1
  cases d with
  |tup ds =>
   let hl:bG ds<=n:=by erw[dep] at hd;symm
   let Aj:=hv;erw[Is] at hv;let⟨a,vs,rfl,h1,i1⟩:=hv;cases rv
   let⟨au,r1,p1⟩:=dP I h1
   cases e with
   |tup es =>
    let Ak:=hw;erw[Is] at hw;let⟨b,us,rfl,h2,i2⟩:=hw;cases ru
    let⟨bD,r2,p2⟩:=dP I h2
    let rc:q4n A s (.ref a) (.ref b) (aQ (.tup ds) (.tup es)):=by
     let:=SeqAt.RcAt.tuples p1 p2 nz (step r1 r2 hl i1 i2);let l1:au.toArray.size=↑ds:=by rw[Fp,<-↑r1,↑i1]
     let l2:bD.toArray.size=↑es:=by rw[Fp,<-↑r2,↑i2]
     rw[l1,l2] at this
     let eb:((X_ (min ↑ds ↑es)).all (qe ds es)&&↑ds==↑es)=aQ (.tup ds) (.tup es):=by
      erw[aQ]
      by_cases c:↑ds=↑es
      .rw[<-c,q3o,uA c];simp
      .rw[uz c];simp[c]
     rw[eb] at this;exact this
    refine⟨?_,rc⟩
    by_cases c:a=b
    .subst c
     let:=Is.inj Aj Ak;rw[this,h8];exact q2b _
    .exact q22 c rc
   |lst es =>
    erw[Is] at hw;let⟨b,us,rfl,h2,i2⟩:=hw;cases ru
    let⟨bD,r2,p2⟩:=dO I h2;erw[aQ];exact⟨SeqAt.EqAt.tuple_list p1 p2 nz,SeqAt.RcAt.tuple_list p1 p2 nz⟩
   |non=>cases(show u=.non from hw);cases ru;erw[aQ];exact⟨SeqAt.EqAt.tuple_none p1 nz,SeqAt.RcAt.tuple_none p1 nz⟩
   |bl b=>cases(show u=.bl b from hw);cases ru;erw[aQ];exact⟨SeqAt.EqAt.tuple_bool _ p1 nz,SeqAt.RcAt.tuple_bool _ p1 nz⟩
   |int b=>cases(show u=.int b from hw);let⟨t,rfl⟩:=ru;erw[aQ];exact⟨SeqAt.EqAt.tuple_int _ _ p1 nz,SeqAt.RcAt.tuple_int _ _ p1 nz⟩
   |str b=>cases(show u=.str b from hw);let⟨t,rfl⟩:=ru;erw[aQ];exact⟨SeqAt.EqAt.tuple_str _ _ p1 nz,SeqAt.RcAt.tuple_str _ _ p1 nz⟩
  |lst ds =>
   let hl:bG ds<=n:=by erw[dep] at hd;symm
   let Aj:=hv;erw[Is] at hv;let⟨a,vs,rfl,h1,i1⟩:=hv;cases rv
   let⟨au,r1,p1⟩:=dO I h1
   cases e with
   |lst es =>
    let Ak:=hw;erw[Is] at hw;let⟨b,us,rfl,h2,i2⟩:=hw;cases ru
    let⟨bD,r2,p2⟩:=dO I h2;let l1:au.toArray.size=↑ds:=by rw[Fp,<-↑r1,↑i1]
    let l2:bD.toArray.size=↑es:=by rw[Fp,<-↑r2,↑i2]
    let rc:q4n A s (.ref a) (.ref b) (aQ (.lst ds) (.lst es)):=by
     by_cases c:↑ds=↑es
     .let:=SeqAt.RcAt.lists p1 p2 (by rw[l1,l2];calc c) nz (step r1 r2 hl i1 i2)
      rw[l1,uA c] at this;erw[aQ];exact this
     .erw[aQ];rw[uz c]
      exact SeqAt.RcAt.lists_lengths p1 p2 (by rw[l1,l2];simpa using c) nz
    refine⟨?_,rc⟩
    by_cases c:a=b
    .subst c
     let:=Is.inj Aj Ak;rw[this,h8];exact q2b _
    .exact q22 c rc
   |tup es =>
    erw[Is] at hw;let⟨b,us,rfl,h2,i2⟩:=hw;cases ru
    let⟨bD,r2,p2⟩:=dP I h2;erw[aQ];exact⟨SeqAt.EqAt.list_tuple p1 p2 nz,SeqAt.RcAt.list_tuple p1 p2 nz⟩
   |non=>cases(show u=.non from hw);cases ru;erw[aQ];exact⟨SeqAt.EqAt.list_none p1 nz,SeqAt.RcAt.list_none p1 nz⟩
   |bl b=>cases(show u=.bl b from hw);cases ru;erw[aQ];exact⟨SeqAt.EqAt.list_bool _ p1 nz,SeqAt.RcAt.list_bool _ p1 nz⟩
   |int b=>cases(show u=.int b from hw);let⟨t,rfl⟩:=ru;erw[aQ];exact⟨SeqAt.EqAt.list_int _ _ p1 nz,SeqAt.RcAt.list_int _ _ p1 nz⟩
   |str b=>cases(show u=.str b from hw);let⟨t,rfl⟩:=ru;erw[aQ];exact⟨SeqAt.EqAt.list_str _ _ p1 nz,SeqAt.RcAt.list_str _ _ p1 nz⟩
  |non=>exact ih (by simp[dep]) ⋯ hv hw rv ru
  |bl b0=>exact ih (by simp[dep]) ⋯ hv hw rv ru
  |int b0=>exact ih (by simp[dep]) ⋯ hv hw rv ru
  |str b0=>calc ih (by simp[dep]) ⋯ hv hw rv ru
theorem Pn(I:Inv X pins σ H s){A:q}{d e:D}{v u:V}{x y:L}(hd:dep d<=60)(hu:A.units+61<cLine)(hv:Is H d v)(hw:Is H e u)(rv:RelV v x)(ru:RelV u y):SeqAt.RcNeAt A s x y (!aQ d e):=by
 let nz:A.units<cLine:=by symm
 let step:∀{ds es:-D}{vs us:-V}{au bD:-L}(r1:Vals vs au)(r2:Vals us bD),bG ds<=59->ah H ds vs->ah H es us →
   ∀(j:Nat)(h1:j<au.toArray.size)(h2:j<bD.toArray.size),q1V A.in1 s au.toArray[j] bD.toArray[j] (qe ds es j):=λ{ds es vs us au bD} r1 r2 hl i1 i2 j h1 h2=>by
  let⟨v1,e1,q1⟩:=wF r1 h1;let⟨v2,e2,q2⟩:=wF r2 h2;let⟨d1,f1,g1⟩:=i1.get e1;let⟨d2,f2,g2⟩:=i2.get e2;unfold qe;rw[f1,f2];exact(Ai I 59 (Yi (zA f1) hl) (by rw[in1_units];symm) g1 g2 q1 q2).1
 cases d with
 |tup ds =>
  let hl:bG ds<=59:=by erw[dep] at hd;symm
  erw[Is] at hv;let⟨a,vs,rfl,h1,i1⟩:=hv;cases rv
  let⟨au,r1,p1⟩:=dP I h1
  cases e with
  |tup es =>
   erw[Is] at hw;let⟨b,us,rfl,h2,i2⟩:=hw;cases ru
   let⟨bD,r2,p2⟩:=dP I h2;let:=SeqAt.RcNeAt.tuples p1 p2 nz (step r1 r2 hl i1 i2);let l1:au.toArray.size=↑ds:=by rw[Fp,<-↑r1,↑i1]
   let l2:bD.toArray.size=↑es:=by rw[Fp,<-↑r2,↑i2]
   rw[l1,l2] at this
   let eb:((X_ (min ↑ds ↑es)).all (qe ds es)&&↑ds==↑es)=aQ (.tup ds) (.tup es):=by
    erw[aQ]
    by_cases c:↑ds=↑es
    .rw[<-c,q3o,uA c];simp
    .rw[uz c];simp[c]
   rw[eb] at this;exact this
  |lst es=>erw[Is] at hw;let⟨b,us,rfl,h2,i2⟩:=hw;cases ru;let⟨bD,r2,p2⟩:=dO I h2;erw[aQ];exact SeqAt.RcNeAt.tuple_list p1 p2 nz
  |non=>cases(show u=.non from hw);cases ru;erw[aQ];exact SeqAt.RcNeAt.tuple_none p1 nz
  |bl b=>cases(show u=.bl b from hw);cases ru;erw[aQ];exact SeqAt.RcNeAt.tuple_bool _ p1 nz
  |int b=>cases(show u=.int b from hw);let⟨t,rfl⟩:=ru;erw[aQ];exact SeqAt.RcNeAt.tuple_int _ _ p1 nz
  |str b=>cases(show u=.str b from hw);let⟨t,rfl⟩:=ru;erw[aQ];exact SeqAt.RcNeAt.tuple_str _ _ p1 nz
 |lst ds =>
  let hl:bG ds<=59:=by erw[dep] at hd;symm
  erw[Is] at hv;let⟨a,vs,rfl,h1,i1⟩:=hv;cases rv
  let⟨au,r1,p1⟩:=dO I h1
  cases e with
  |lst es =>
   erw[Is] at hw;let⟨b,us,rfl,h2,i2⟩:=hw;cases ru
   let⟨bD,r2,p2⟩:=dO I h2;let l1:au.toArray.size=↑ds:=by rw[Fp,<-↑r1,↑i1]
   let l2:bD.toArray.size=↑es:=by rw[Fp,<-↑r2,↑i2]
   by_cases c:↑ds=↑es
   .let:=SeqAt.RcNeAt.lists p1 p2 (by rw[l1,l2];calc c) nz (step r1 r2 hl i1 i2)
    rw[l1,uA c] at this;erw[aQ];exact this
   .erw[aQ];rw[uz c]
    exact SeqAt.RcNeAt.lists_lengths p1 p2 (by rw[l1,l2];simpa using c) nz
  |tup es=>erw[Is] at hw;let⟨b,us,rfl,h2,i2⟩:=hw;cases ru;let⟨bD,r2,p2⟩:=dP I h2;erw[aQ];exact SeqAt.RcNeAt.list_tuple p1 p2 nz
  |non=>cases(show u=.non from hw);cases ru;erw[aQ];exact SeqAt.RcNeAt.list_none p1 nz
  |bl b=>cases(show u=.bl b from hw);cases ru;erw[aQ];exact SeqAt.RcNeAt.list_bool _ p1 nz
  |int b=>cases(show u=.int b from hw);let⟨t,rfl⟩:=ru;erw[aQ];exact SeqAt.RcNeAt.list_int _ _ p1 nz
  |str b=>cases(show u=.str b from hw);let⟨t,rfl⟩:=ru;erw[aQ];exact SeqAt.RcNeAt.list_str _ _ p1 nz
 |non =>
  cases(show v=.non from hv);cases rv
  cases e with
  |non=>cases(show u=.non from hw);cases ru;erw[aQ];exact SeqAt.RcNeAt.none_none
  |bl b=>cases(show u=.bl b from hw);cases ru;erw[aQ];exact SeqAt.RcNeAt.none_bool _
  |int b=>cases(show u=.int b from hw);let⟨t,rfl⟩:=ru;erw[aQ];exact SeqAt.RcNeAt.none_int _ _
  |str b=>cases(show u=.str b from hw);let⟨t,rfl⟩:=ru;erw[aQ];exact SeqAt.RcNeAt.none_str _ _
  |tup es=>erw[Is] at hw;let⟨a,vs,rfl,h1,_⟩:=hw;cases ru;let⟨_,_,p⟩:=dP I h1;erw[aQ];exact SeqAt.RcNeAt.none_tuple p nz
  |lst es=>erw[Is] at hw;let⟨a,vs,rfl,h1,_⟩:=hw;cases ru;let⟨_,_,p⟩:=dO I h1;erw[aQ];exact SeqAt.RcNeAt.none_list p nz
 |bl b0 =>
  cases(show v=.bl b0 from hv);cases rv
  cases e with
  |non=>cases(show u=.non from hw);cases ru;erw[aQ];exact SeqAt.RcNeAt.bool_none _
  |bl b=>cases(show u=.bl b from hw);cases ru;erw[aQ];exact SeqAt.RcNeAt.bool_bool _ _
  |int b=>cases(show u=.int b from hw);let⟨t,rfl⟩:=ru;erw[aQ];exact SeqAt.RcNeAt.bool_int _ _ _
  |str b=>cases(show u=.str b from hw);let⟨t,rfl⟩:=ru;erw[aQ];exact SeqAt.RcNeAt.bool_str _ _ _
  |tup es=>erw[Is] at hw;let⟨a,vs,rfl,h1,_⟩:=hw;cases ru;let⟨_,_,p⟩:=dP I h1;erw[aQ];exact SeqAt.RcNeAt.bool_tuple _ p nz
  |lst es=>erw[Is] at hw;let⟨a,vs,rfl,h1,_⟩:=hw;cases ru;let⟨_,_,p⟩:=dO I h1;erw[aQ];exact SeqAt.RcNeAt.bool_list _ p nz
 |int b0 =>
  cases(show v=.int b0 from hv);let⟨t0,rfl⟩:=rv
  cases e with
  |non=>cases(show u=.non from hw);cases ru;erw[aQ];exact SeqAt.RcNeAt.int_none _ _
  |bl b=>cases(show u=.bl b from hw);cases ru;erw[aQ];exact SeqAt.RcNeAt.int_bool _ _ _
  |int b=>cases(show u=.int b from hw);let⟨t,rfl⟩:=ru;erw[aQ];exact SeqAt.RcNeAt.int_int _ _ _ _
  |str b=>cases(show u=.str b from hw);let⟨t,rfl⟩:=ru;erw[aQ];exact SeqAt.RcNeAt.int_str _ _ _ _
  |tup es=>erw[Is] at hw;let⟨a,vs,rfl,h1,_⟩:=hw;cases ru;let⟨_,_,p⟩:=dP I h1;erw[aQ];exact SeqAt.RcNeAt.int_tuple _ _ p nz
  |lst es=>erw[Is] at hw;let⟨a,vs,rfl,h1,_⟩:=hw;cases ru;let⟨_,_,p⟩:=dO I h1;erw[aQ];exact SeqAt.RcNeAt.int_list _ _ p nz
 |str b0 =>
  cases(show v=.str b0 from hv);let⟨t0,rfl⟩:=rv
  cases e with
  |non=>cases(show u=.non from hw);cases ru;erw[aQ];exact SeqAt.RcNeAt.str_none _ _
  |bl b=>cases(show u=.bl b from hw);cases ru;erw[aQ];exact SeqAt.RcNeAt.str_bool _ _ _
  |int b=>cases(show u=.int b from hw);let⟨t,rfl⟩:=ru;erw[aQ];exact SeqAt.RcNeAt.str_int _ _ _ _
  |str b=>cases(show u=.str b from hw);let⟨t,rfl⟩:=ru;erw[aQ];exact SeqAt.RcNeAt.str_str _ _ _ _
  |tup es=>erw[Is] at hw;let⟨a,vs,rfl,h1,_⟩:=hw;cases ru;let⟨_,_,p⟩:=dP I h1;erw[aQ];exact SeqAt.RcNeAt.str_tuple _ _ p nz
  |lst es=>erw[Is] at hw;let⟨a,vs,rfl,h1,_⟩:=hw;cases ru;let⟨_,_,p⟩:=dO I h1;erw[aQ];calc SeqAt.RcNeAt.str_list _ _ p nz
end
variable[aM]
noncomputable def intsOf:-D->Option (-Int)
 |[]=>U []
 |.int i::r=>match intsOf r with
  |some ns=>U (i::ns)
  |none=>Z
 |_=>Z
theorem rA:∀ns:-Int,intsOf (ns.map D.int)=U ns
 |[]=>Y
 |n::r=>by show(match intsOf (r.map D.int) with|some ns=>U (n::ns)|none=>Z)=_;rw[rA r]
theorem rB:∀{ds:-D}{ns:-Int},intsOf ds=U ns->ds=ns.map D.int
 |[],ns,h=>by cases h;rfl
 |.int i::r,ns,h=>by
  unfold intsOf at h;split at h
  .rename_i ms e;cases h;rw[X0,rB e]
  .cases h
 |.non::r,ns,h=>by cases h
 |.bl _::r,ns,h=>by cases h
 |.str _::r,ns,h=>by cases h
 |.tup _::r,ns,h=>by cases h
 |.lst _::r,ns,h=>by cases h
theorem oQ{F:Hp}:∀{ns:-Int}{vs:-V},ah F (ns.map D.int) vs->vs=ns.map V.int
 |[],vs,h=>by erw[Zy,ah] at h;exact h
 |n::r,vs,h=>by
  erw[X0,ah] at h;let⟨v,t,rfl,h1,h2⟩:=h;let h1:v=.int n:=h1;rw[oQ h2,h1];rfl
theorem qf{F:Hp}:∀{ns:-Int},ah F (ns.map D.int) (ns.map V.int)
 |[]=>.nil
 |n::r=>.cons (show _=_ from Y) qf
theorem rC{F:Hp}:∀{as bs:-D}{us vs:-V},ah F as us->ah F bs vs->ah F (as++bs) (us++vs)
 |[],bs,us,vs,h,q=>by erw[ah] at h;subst h;exact q
 |a::r,bs,us,vs,h,q=>by
  erw[ah] at h;let⟨v,t,rfl,h1,h2⟩:=h;calc .cons h1 (rC h2 q)
theorem Al{F:Hp}:∀{as:-D}{us:-V}(n:Nat),ah F as us->ah F (as.take n) (us.take n)
 |as,us,0,_=>by rw[q0M,q0M];exact .nil
 |[],us,n+1,h=>by erw[ah] at h;subst h;exact .nil
 |a::r,us,n+1,h=>by
  erw[ah] at h;let⟨v,t,rfl,h1,h2⟩:=h;calc .cons h1 (Al n h2)
theorem GI{F:Hp}:∀{as:-D}{us:-V}(n:Nat),ah F as us->ah F (as.drop n) (us.drop n)
 |as,us,0,h=>h
 |[],us,n+1,h=>by erw[ah] at h;subst h;exact .nil
 |a::r,us,n+1,h=>by
  erw[ah] at h;let⟨v,t,rfl,h1,h2⟩:=h;calc GI n h2
theorem Am{F:Hp}:∀{as:-D}{us:-V},ah F as us->ah F as.reverse us.reverse
 |[],us,h=>by erw[ah] at h;subst h;exact .nil
 |a::r,us,h=>by
  erw[ah] at h;let⟨v,t,rfl,h1,h2⟩:=h;rw[q0d,q0d];calc(Am h2).snoc h1
theorem GJ{F:Hp}:∀{as:-D}{us:-V}(n:Nat){d:D}{v:V},ah F as us->Is F d v->ah F (as.set n d) (us.set n v)
 |[],us,n,d,v,h,_=>by erw[ah] at h;subst h;exact .nil
 |a::r,us,0,d,v,h,q=>by
  erw[ah] at h;let⟨w,t,rfl,h1,h2⟩:=h;exact .cons q h2
 |a::r,us,n+1,d,v,h,q=>by
  erw[ah] at h;let⟨w,t,rfl,h1,h2⟩:=h;calc .cons h1 (GJ n h2 q)
theorem GL{F:Hp}:∀{as:-D}{us:-V}(n:Nat),ah F as us->ah F (as.eraseIdx n) (us.eraseIdx n)
 |[],us,n,h=>by erw[ah] at h;subst h;exact .nil
 |a::r,us,0,h=>by
  erw[ah] at h;let⟨w,t,rfl,h1,h2⟩:=h;exact h2
 |a::r,us,n+1,h=>by
  erw[ah] at h;let⟨w,t,rfl,h1,h2⟩:=h;calc .cons h1 (GL n h2)
theorem oR{F H:Hp}{p:O}{ds:-D}{vs:-V}(s:aO F H)(hp:H p=Z)(h:ah F ds vs):Is (Nw F H (upd H p (.lst vs))) (.lst ds) (.ref p):=by
 rw[Nw.upd s hp];erw[Is];calc⟨p,vs,Y,bK,h.same (cL (s.free hp))⟩
theorem wG{F H:Hp}{p:O}{ds:-D}{vs:-V}(s:aO F H)(hp:H p=Z)(h:ah F ds vs):Is (Nw F H (upd H p (.tup vs))) (.tup ds) (.ref p):=by
 rw[Nw.upd s hp];erw[Is];calc⟨p,vs,Y,bK,h.same (cL (s.free hp))⟩
theorem uB{F H:Hp}{d:D}{v:V}(s:aO F H)(h:Is F d v):Is (Nw F H H) d v:=by rw[Nw.refl s];calc h
def qg:D->D->(D->Prop)->Prop
 |.int i,.int j,K=>K (.int (i+j))
 |.lst a,.lst b,K=>↑a+↑b<=1000/\K (.lst (a++b))
 |.tup a,.tup b,K=>(a≠[]/\↑a+↑b<=1000)/\K (.tup (a++b))
 |.str a,.str b,K=>↑a+↑b<=1000/\K (.str (a++b))
 |_,_,_=>False
def oI(f:Int->Int->D):D->D->(D->Prop)->Prop
 |.int i,.int j,K=>K (f i j)
 |_,_,_=>False
def d4(C:Int->Int->Prop)(f:Int->Int->D):D->D->(D->Prop)->Prop
 |.int i,.int j,K=>C i j/\K (f i j)
 |_,_,_=>False
def gw:D->D->(D->Prop)->Prop
 |.int i,.int j,K=>mD i j/\K (.int (i*j))
 |.lst a,.int j,K=>(-(2 ^ 63)<=j/\j<2 ^ 63/\↑a*j.toNat<=1000)/\K (.lst (My j.toNat a).flatten)
 |_,_,_=>False
section
variable{X:Cx}
theorem wH{f:L->L->Sem L}{g:Int->Int->V}{h:Int->Int->D}(op:eT X f (mB g))(hg:∀F i j,Is F (h i j) (g i j)):fO X f (oI h):=by
 ext pins s σ H x y v u Q I rx ry ⟨F,d,e,K,sub,rd,re,q,md⟩;unfold oI at q;split at q
 .rename_i i j
  exact op pins s σ H x y v u Q I rx ry ⟨i,j,rd,re,md _ _ _ q (λ_ _ e=>e) (hg _ i j)⟩
 .calc q.elim
theorem An{f:L->L->Sem L}{C:Int->Int->Prop}{g:Int->Int->V}{h:Int->Int->D}(op:eT X f (rI C g))(hg:∀F i j,Is F (h i j) (g i j)):fO X f (d4 C h):=by
 ext pins s σ H x y v u Q I rx ry ⟨F,d,e,K,sub,rd,re,q,md⟩;unfold d4 at q;split at q
 .rename_i i j
  exact op pins s σ H x y v u Q I rx ry ⟨i,j,rd,re,q.1,md _ _ _ q.2 (λ_ _ e=>e) (hg _ i j)⟩
 .calc q.elim
theorem wI:fO X (binaryOp .Add) qg:=by
 ext pins s σ H x y v u Q I rx ry ⟨F,d,e,K,sub,rd,re,q,md⟩;unfold qg at q;split at q
 .rename_i i j
  exact EF pins s σ H x y v u Q I rx ry ⟨i,j,rd,re,md _ _ _ q (λ_ _ e=>e) Y⟩
 .rename_i as bs
  let⟨a,us,rfl,h1,h2⟩:=rd;let⟨b,ws,rfl,h3,h4⟩:=re;refine Fi pins s σ H _ _ v u Q I rx ry ⟨a,b,us,ws,Y,Y,h1,h3,lj (by rw[↑h2,↑h4];calc q.1),λp hp=>md _ _ _ q.2 (cL hp) (oR sub hp (rC h2 h4))⟩
 .rename_i as bs
  let c8:Is F (.tup as) x:=rd;let iE:Is F (.tup bs) y:=re;erw[Is] at c8 iE;let⟨a,us,rfl,h1,h2⟩:=c8;let⟨b,ws,rfl,h3,h4⟩:=iE;let ne:us≠[]:=λz=>q.1.1 (ZW.mp (by rw[<-↑h2,z];rfl));calc Nq pins s σ H _ _ v u Q I rx ry ⟨a,b,us,ws,Y,Y,bV.of (sub _ _ h1),bV.of (sub _ _ h3),ne,lj (by rw[↑h2,↑h4];calc q.1.2),λz=>?_,λz p hp=>md _ _ _ q.2 (cL hp) (wG sub hp (rC h2 h4))⟩;let:bs=[]:=ZW.mp (by rw[<-↑h4,z];rfl);subst this;calc md _ _ _ q.2 (λ_ _ e=>e) (uB sub ?_);rw[mJ];exact rd
 .rename_i as bs
  let c8:x=.str as:=rd;let iE:y=.str bs:=re;subst c8 iE;exact MA pins s σ H _ _ v u Q I rx ry ⟨as,bs,Y,Y,lj q.1,md _ _ _ q.2 (λ_ _ e=>e) Y⟩
 .calc q.elim
theorem GP:fO X (binaryOp .Sub) (oI λi j=>.int (i-j)):=wH Mi λ_ _ _=>Y
theorem Po:fO X (binaryOp .Mult) gw:=by
 ext pins s σ H x y v u Q I rx ry ⟨F,d,e,K,sub,rd,re,q,md⟩;unfold gw at q;split at q
 .rename_i i j
  exact Mj pins s σ H x y v u Q I rx ry ⟨i,j,rd,re,q.1,md _ _ _ q.2 (λ_ _ e=>e) Y⟩
 .rename_i as j
  let⟨a,us,rfl,h1,h2⟩:=rd;refine NC pins s σ H _ _ v u Q I rx ry ⟨a,j,us,Y,re,h1,q.1.1,q.1.2.1,lj (by rw[↑h2];calc q.1.2.2),λp hp=>md _ _ _ q.2 (cL hp) (oR sub hp ?_)⟩
  let:∀k:Nat,ah F (My k as).flatten (My k us).flatten:=λk=>by
   induction k with
   |zero=>exact .nil
   |succ k ih=>rw[YM,YM,ZN,ZN];exact rC h2 ih
  exact this _
 .calc q.elim
theorem Pp:fO X (binaryOp .Mod) (d4 (λ_ j=>0<j) λi j=>.int (i%j)):=An yG λ_ _ _=>Y
theorem Pq:fO X (binaryOp .Pow) (d4 eC λi j=>.int (i ^ j.toNat)):=An Ml λ_ _ _=>Y
def oEq:D->D->(D->Prop)->Prop:=λd e K=>dep d<=60/\K (.bl (aQ d e))
def kH:D->D->(D->Prop)->Prop:=λd e K=>dep d<=60/\K (.bl (!aQ d e))
theorem l4(hu:X.A.units+64<cLine):fO X (compareOp .Eq) oEq:=by
 ext pins s σ H x y v u Q I rx ry ⟨F,d,e,K,sub,rd,re,q,md⟩;calc(Ai I 60 q.1 ⋯ (rd.is sub) (re.is sub) rx ry).2 _ _ _ _ ⟨.bl _,H,I,Y,md _ _ _ q.2 (λ_ _ e=>e) Y⟩
theorem nk(hu:X.A.units+64<cLine):fO X (compareOp .NotEq) kH:=by
 ext pins s σ H x y v u Q I rx ry ⟨F,d,e,K,sub,rd,re,q,md⟩;calc Pn I q.1 ⋯ (rd.is sub) (re.is sub) rx ry _ _ _ _ ⟨.bl _,H,I,Y,md _ _ _ q.2 (λ_ _ e=>e) Y⟩
def oLt:D->D->(D->Prop)->Prop
 |.int i,.int j,K=>K (.bl (l (i<j)))
 |.tup a,.tup b,K=>match intsOf a,intsOf b with
  |some ns,some ms=>K (.bl (HT.lexLt ns ms))
  |_,_=>False
 |_,_,_=>False
theorem GQ(hu:X.A.units+64<cLine):fO X (compareOp .Lt) oLt:=by
 ext pins s σ H x y v u Q I rx ry ⟨F,d,e,K,sub,rd,re,q,md⟩;unfold oLt at q;split at q
 .rename_i i j
  exact Mo pins s σ H x y v u Q I rx ry ⟨i,j,rd,re,md _ _ _ q (λ_ _ e=>e) Y⟩
 .rename_i as bs
  split at q
  .rename_i ns ms e1 e2
   rw[rB e1] at rd;rw[rB e2] at re;let c8:Is F (.tup (ns.map D.int)) x:=rd;let iE:Is F (.tup (ms.map D.int)) y:=re;erw[Is] at c8 iE;let⟨a,us,rfl,h1,h2⟩:=c8;let⟨b,ws,rfl,h3,h4⟩:=iE;rw[oQ h2] at h1;rw[oQ h4] at h3;exact Nn ⋯ pins s σ H _ _ v u Q I rx ry ⟨a,b,ns,ms,Y,Y,bV.of (sub _ _ h1),bV.of (sub _ _ h3),md _ _ _ q (λ_ _ e=>e) Y⟩
  .exact q.elim
 .calc q.elim
theorem GR:fO X (compareOp .LtE) (oI λi j=>.bl (l (i<=j))):=wH Mp λ_ _ _=>Y
theorem GS:fO X (compareOp .Gt) (oI λi j=>.bl (l (j<i))):=wH Mq λ_ _ _=>Y
theorem Pr:fO X (compareOp .GtE) (oI λi j=>.bl (l (j<=i))):=wH Mr λ_ _ _=>Y
def iF:D->D->(D->Prop)->Prop
 |.non,.non,K=>K (.bl θ)
 |.bl _,.non,K=>K (.bl ι)
 |.int _,.non,K=>K (.bl ι)
 |.str _,.non,K=>K (.bl ι)
 |.tup _,.non,K=>K (.bl ι)
 |.lst _,.non,K=>K (.bl ι)
 |_,_,_=>False
theorem Pt{F H:Hp}{d e:D}{x y:V}{K:D->Prop}(rd:jE F H d x)(re:jE F H e y)(q:iF d e K):y=.non/\K (.bl (l (x=.non))):=by
 unfold iF at q;split at q
 .let:x=.non:=rd;let h2:y=.non:=re;subst this;exact⟨h2,q⟩
 .rename_i b;let:x=.bl b:=rd;let h2:y=.non:=re;subst this;exact⟨h2,q⟩
 .rename_i b;let:x=.int b:=rd;let h2:y=.non:=re;subst this;exact⟨h2,q⟩
 .rename_i b;let:x=.str b:=rd;let h2:y=.non:=re;subst this;exact⟨h2,q⟩
 .rename_i b;let rd:Is F (.tup b) x:=rd;erw[Is] at rd;let⟨a,_,rfl,_⟩:=rd;exact⟨re,q⟩
 .rename_i b;let⟨a,_,rfl,_⟩:=rd;exact⟨re,q⟩
 .calc q.elim
def qh:D->D->(D->Prop)->Prop:=λd e K=>iF d e λz=>match z with
 |.bl b=>K (.bl (!b))
 |_=>False
theorem Pu:fO X (compareOp .IsNot) qh:=by
 ext pins s σ H x y v u Q I rx ry ⟨F,d,e,K,sub,rd,re,q,md⟩;let⟨h1,h2⟩:=Pt rd re q;calc Ms pins s σ H x y v u Q I rx ry ⟨h1,md _ _ _ h2 (λ_ _ e=>e) Y⟩
def kI(neg:Bool):D->D->(D->Prop)->Prop
 |d,.lst es,K=>bG es<=55/\K (.bl (if neg then !(es.any λe=>aQ e d) else es.any λe=>aQ e d))
 |d,.tup es,K=>bG es<=55/\K (.bl (if neg then !(es.any λe=>aQ e d) else es.any λe=>aQ e d))
 |_,_,_=>False
noncomputable def iS(H:Hp)(d:D)(u:L):Bool:=by
 classical calc if ∃e v,Is H e v/\RelV v u/\aQ e d=θ then θ else ι
theorem GU{H:Hp}{d e:D}{v:V}{u:L}(h:Is H e v)(r:RelV v u):iS H d u=aQ e d:=by
 unfold iS;split
 .rename_i z
  let⟨e',v',h',r',q⟩:=z;let:v'=v:=r'.inj r;subst this;rw[Is.inj h h'];exact q.symm
 .rename_i z
  cases q:aQ e d with
  |false=>rfl
  |true=>calc absurd ⟨e,v,h,r,q⟩ z
theorem uC{H:Hp}{d:D}:∀{es:-D}{vs:-V}{us:-L},ah H es vs->Vals vs us->us.any (iS H d)=es.any λe=>aQ e d
 |[],vs,us,h,r=>by erw[ah] at h;subst h;cases r;rfl
 |e::es,vs,us,h,r=>by
  erw[ah] at h;let⟨v,t,rfl,h1,h2⟩:=h
  cases r with
  |cons r1 r2=>rw[ZQ,ZQ,GU h1 r1,uC h2 r2]
theorem uD{pins:aH}{σ:St}{H:Hp}{s:B}(I:Inv X pins σ H s){A:q}(hu:A.units+60<cLine){d:D}{x:V}{w:L}(hd:Is H d x)(rd:RelV x w):∀{es:-D}{vs:-V}{us:-L},bG es<=55->ah H es vs->Vals vs us->∀u∈us,q1V A s u w (iS H d u)
 |[],vs,us,_,h,r=>by erw[ah] at h;subst h;cases r;ext u hu;cases hu
 |e::es,vs,us,hp,h,r=>by
  erw[ah] at h;let⟨v,t,rfl,h1,h2⟩:=h;erw[bG] at hp
  cases r with
  |cons r1 r2 =>
   ext u hu';rcases XJ.mp hu' with rfl|hu'
   .rw[GU h1 r1];exact(Ai I 55 ⋯ ⋯ h1 hd r1 rd).1
   .calc uD I hu hd rd ⋯ h2 r2 u hu'
theorem Ao(hu:X.A.units+64<cLine):fO X (compareOp .In) (kI ι):=by
 ext pins s σ H x y v u Q I rx ry ⟨F,d,e,K,sub,rd,re,q,md⟩;unfold kI at q;split at q
 .rename_i es
  let⟨a,vs,rfl,h1,h2⟩:=re;cases ry
  let⟨au,r,p⟩:=dO I h1;let iy:=h2.same sub;calc SeqAt.in_listAt (iS H d) p (λw hw=>uD I (by rw[in1_units];symm) (rd.is sub) rx q.1 iy r w hw⁻¹) ⟨.bl _,H,I,Y,?_⟩;rw[show au.toArray.any (iS H d)=au.any (iS H d) by simp,uC iy r];exact md _ _ _ q.2 (λ_ _ e=>e) Y
 .rename_i es
  let iE:Is F (.tup es) y:=re;erw[Is] at iE;let⟨a,vs,rfl,h1,h2⟩:=iE;cases ry
  let⟨au,r,p⟩:=dP I (sub _ _ h1);let iy:=h2.same sub;calc SeqAt.in_tupleAt (iS H d) p (λw hw=>uD I (by rw[in1_units];symm) (rd.is sub) rx q.1 iy r w hw⁻¹) ⟨.bl _,H,I,Y,?_⟩;rw[show au.toArray.any (iS H d)=au.any (iS H d) by simp,uC iy r];exact md _ _ _ q.2 (λ_ _ e=>e) Y
 .calc q.elim
theorem Ap(hu:X.A.units+64<cLine):fO X (compareOp .NotIn) (kI θ):=by
 ext pins s σ H x y v u Q I rx ry ⟨F,d,e,K,sub,rd,re,q,md⟩;unfold kI at q;split at q
 .rename_i es
  let⟨a,vs,rfl,h1,h2⟩:=re;cases ry
  let⟨au,r,p⟩:=dO I h1;let iy:=h2.same sub;calc SeqAt.notIn_listAt (iS H d) p (λw hw=>uD I (by rw[in1_units];symm) (rd.is sub) rx q.1 iy r w hw⁻¹) ⟨.bl _,H,I,Y,?_⟩;rw[show au.toArray.any (iS H d)=au.any (iS H d) by simp,uC iy r];exact md _ _ _ q.2 (λ_ _ e=>e) Y
 .rename_i es
  let iE:Is F (.tup es) y:=re;erw[Is] at iE;let⟨a,vs,rfl,h1,h2⟩:=iE;cases ry
  let⟨au,r,p⟩:=dP I (sub _ _ h1);let iy:=h2.same sub;calc SeqAt.notIn_tupleAt (iS H d) p (λw hw=>uD I (by rw[in1_units];symm) (rd.is sub) rx q.1 iy r w hw⁻¹) ⟨.bl _,H,I,Y,?_⟩;rw[show au.toArray.any (iS H d)=au.any (iS H d) by simp,uC iy r];exact md _ _ _ q.2 (λ_ _ e=>e) Y
 .calc q.elim
def a5:D->D->(D->Prop)->Prop
 |.lst ds,.int i,K=>match eU ds i with
  |some d=>K d
  |none=>False
 |.tup ds,.int i,K=>match eU ds i with
  |some d=>K d
  |none=>False
 |.str z,.int i,K=>↑z<=1000/\match eU z.cps.toList i with
  |some c=>K (.str ⟨#[c]⟩)
  |none=>False
 |_,_,_=>False
theorem GV{F:Hp}{ds:-D}{vs:-V}{i:Int}{d:D}(h:ah F ds vs)(e:eU ds i=U d):∃v,eU vs i=U v/\Is F d v:=by
 unfold eU at e ⊢;rw[↑h]
 cases q:jB ↑ds i with
 |none=>rw[q] at e;cases e
 |some j =>
  rw[q] at e;calc qd h (show ds[j]?=U d from e)
theorem dQ:Gh X a5:=by
 ext value slice pins s σ H x y v u Q I rx ry ⟨F,d,e,K,sub,rd,re,q,md⟩ hs;unfold a5 at q;split at q
 .rename_i ds i
  split at q
  .rename_i d' e1
   let⟨a,vs,rfl,h1,h2⟩:=rd;let⟨w,e2,h3⟩:=GV h2 e1;exact E7 value slice pins s σ H _ _ v u Q I rx ry ⟨a,vs,i,w,Y,re,bE.of h1,e2,md _ _ _ q (λ_ _ e=>e) (uB sub h3)⟩ hs
  .exact q.elim
 .rename_i ds i
  split at q
  .rename_i d' e1
   let c8:Is F (.tup ds) x:=rd;erw[Is] at c8;let⟨a,vs,rfl,h1,h2⟩:=c8;let⟨w,e2,h3⟩:=GV h2 e1;exact Nr value slice pins s σ H _ _ v u Q I rx ry ⟨a,vs,i,w,Y,re,bV.of (sub _ _ h1),e2,md _ _ _ q (λ_ _ e=>e) (uB sub h3)⟩ hs
  .exact q.elim
 .rename_i z i
  let⟨hz,q⟩:=q;split at q
  .rename_i c e1
   let c8:x=.str z:=rd;subst c8;exact Nt value slice pins s σ H _ _ v u Q I rx ry ⟨z,i,c,Y,re,lj hz,e1,md _ _ _ q (λ_ _ e=>e) Y⟩ hs
  .exact q.elim
 .calc q.elim
noncomputable def cutD(ds:-D)(lo hi:Option Int):-D:=(ds.drop (HT.bt ↑ds 0 lo)).take (HT.bt ↑ds ↑ds hi-HT.bt ↑ds 0 lo)
theorem GW{F:Hp}{ds:-D}{vs:-V}(h:ah F ds vs)(lo hi:Option Int):ah F (cutD ds lo hi) (dy vs lo hi):=by
 unfold cutD dy;rw[↑h];calc Al _ (GI _ h)
abbrev WO:=aJ->(Option Int->aJ->Prop)->Prop
def wJ(f:WO):TO:=fun σ H Q=>∃F ad δ K,SR F ad δ σ H/\f δ K/\∀o δ',K o δ'->∀F' aG H',Ext F ad δ.mu H F' aG δ'.mu H'->SR F' aG δ' σ H'->Q o H'
def gx:WO:=fun δ K=>K Z δ
def l5(f:WE):WO:=fun δ K=>f δ λx δ1=>match x with
 |.p (.int i)=>K (U i) δ1
 |_=>False
theorem GX:PO X Z (wJ gx):=λpins s σ H Q I ⟨F,ad,δ,K,S,q,k⟩↦EX pins s σ H Q I (k _ _ q _ _ _ .refl S)
theorem GY{e:M}{f:WE}(h:JE X e (tD f)):PO X (U e) (wJ (l5 f)):=λpins s σ H Q I ⟨F,ad,δ,K,S,q,k⟩↦vQ h pins s σ H Q I ⟨F,ad,δ,_,S,q,λx δ1 h1 v F1 aW H1 E1 S1 V1=>by
 split at h1
 .rename_i i
  exact⟨i,V1,k _ _ h1 _ _ _ E1 S1⟩
 .calc h1.elim⟩
def jm:D->(D->Prop)->Prop
 |.int i,K=>K (.int (-(i:Int)))
 |_,_=>False
theorem GZ{e:M}{f:WE}{pos:y}(he:JE X e (tD f)):JE X (.UnaryOp .USub e pos) (tD (d1 f jm)) :=
 (EE EG he).weak fun σ H Q ⟨F,ad,δ,K,S,q,k⟩↦⟨F,ad,δ,_,S,q,λx δ1 h1 v F1 aW H1 E1 S1 V1=>by
  let⟨d,h4,rd⟩:=jF S1 V1 h1;unfold jm at h4;split at h4
  .rename_i i
   exact⟨i,rd,k _ _ h4 _ _ _ _ E1 S1 Y⟩
  .calc h4.elim⟩
def Aq(f g h:WE)(o o':D->D->(D->Prop)->Prop):WE:=fun δ K=>f δ λx δ1=>g δ1 λy δ2=>hZ x δ2 λd=>hZ y δ2 λe=>o d e λz=>match z with
 |.bl true=>h δ2 λw δ3=>hZ y δ3 λe'=>hZ w δ3 λc=>o' e' c λz'=>K (.p z') δ3
 |.bl false=>K (.p (.bl ι)) δ2
 |_=>False
theorem Pw{a b c:M}{f g h:WE}{op pG:CmpOp}{o o':D->D->(D->Prop)->Prop}{pos:Ε}(ho:fO X (compareOp op) o)(dq:fO X (compareOp pG) o')(ha:JE X a (tD f))(hb:JE X b (tD g))(hc:JE X c (tD h))
  (hm:autoParam (lastMarks [op,pG] [b,c]=ι) qz6._auto_1):JE X (.Compare a [op,pG] [b,c] pos) (tD (Aq f g h o o')) :=
 (Mz ho dq ha hb hc hm).weak fun σ H Q ⟨F,ad,δ,K,S,q,k⟩=>by
  calc⟨F,ad,δ,_,S,q,λx δ1 h1 v1 F1 aW H1 E1 S1 V1=>⟨F1,aW,δ1,_,S1,h1,λy δ2 h2 v2 F2 bP H2 E2 S2 V2=>?_⟩⟩;let⟨d,h3,rd⟩:=jF S2 (V1.ext E2) h2;let⟨e,h4,re⟩:=jF S2 V2 h3;calc⟨F2,d,e,_,S2.sub,rd,re,h4,λz v H' hz sm is=>?_⟩;let S3:=S2.al sm;let E3:=Ext.al S2 sm;split at hz
  .refine⟨θ,is,?_⟩
   rw[XI Y];calc⟨_,bP,δ2,_,S3,hz,λw δ4 h5 v4 F4 wt H4 E4 S4 V4=>?_⟩;let⟨d',h6,wm⟩:=jF S4 ((V2.ext E3).ext E4) h5;let⟨e',h7,Px⟩:=jF S4 V4 h6;exact⟨F4,d',e',_,S4.sub,wm,Px,h7,λz v H' hz sm is=>k _ _ hz _ _ _ _ ((((E1.trans E2).trans E3).trans E4).trans (Ext.al S4 sm)) (S4.al sm) is⟩
  .refine⟨ι,is,?_⟩
   rw[WK Ya];exact k _ _ hz _ _ _ _ ((E1.trans E2).trans E3) S3 Y
  .calc hz.elim
end
noncomputable def sortI(ns:-Int):-Int:=ns.mergeSort λa b=>l (a<=b)
theorem sortI_perm(ns:-Int):(sortI ns).Perm ns:=q2y ns _
theorem Ar(ns:-Int):(sortI ns).Pairwise (· <= ·):=by
 let:=q1M (le:=λa b:Int=>l (a<=b)) (λa b c h1 h2=>by simp at *;symm) (λa b=>by simp;symm) ns;calc this.imp λh=>by simpa using h
theorem G0:∀{as bs:-Int},as.Perm bs->as.Pairwise (· <= ·)->bs.Pairwise (· <= ·)->as=bs
 |[],bs,p,_,_=>p.nil_eq
 |a::as,[],p,_,_=>absurd p.length_eq (by simp)
 |a::as,b::bs,p,s,t=>by
  let e:a=b:=by
   let h1:a<=b:=by
    let hb:b∈a::as:=p.mem_iff.mpr (NJ ..);rcases XJ.mp hb with h|h
    .omega
    .exact (Zw.mp s).1 b h
   let h2:b<=a:=by
    let ha:a∈b::bs:=p.mem_iff.mp (NJ ..);rcases XJ.mp ha with h|h
    .omega
    .exact (Zw.mp t).1 a h
   symm
  subst e;rw[G0 (List.perm_cons a |>.mp p) (Zw.mp s).2 (Zw.mp t).2]
theorem As{as bs:-Int}(p:as.Perm bs)(s:as.Pairwise (· <= ·)):as=sortI bs:=G0 (p.trans (sortI_perm bs).symm) s (Ar bs)
theorem Py(ns:-Int):↑(sortI ns)=ns.length:=(sortI_perm ns).length_eq
def cm:-D->(D->Prop)->Prop
 |[.lst ds],K=>K (.int ↑ds)
 |[.tup ds],K=>K (.int ↑ds)
 |[.str z],K=>↑z<=1000/\K (.int ↑z)
 |_,_=>False
def uE:-D->(D->Prop)->Prop
 |[.lst ds],K=>K (.lst ds)
 |[.tup ds],K=>K (.lst ds)
 |_,_=>False
def rD:-D->(D->Prop)->Prop
 |[.lst ds],K=>K (.tup ds)
 |[.tup ds],K=>K (.tup ds)
 |_,_=>False
def oS:-D->(D->Prop)->Prop
 |[.lst ds],K=>match intsOf ds with
  |some ns=>ns.length<64/\K (.lst ((sortI ns).map D.int))
  |none=>False
 |_,_=>False
def nq:-D->(D->Prop)->Prop
 |[.lst ds],K=>match intsOf ds with
  |some ns=>((∀x∈ns,0<=x/\x<=1000000000)/\ns.length<=1000)/\K (.int ns.sum)
  |none=>False
 |_,_=>False
noncomputable def rE:-D->Option (-Bool)
 |[]=>U []
 |.bl b::r=>match rE r with
  |some bs=>U (b::bs)
  |none=>Z
 |_=>Z
theorem G1:∀bs:-Bool,rE (bs.map D.bl)=U bs
 |[]=>Y
 |n::r=>by show(match rE (r.map D.bl) with|some ns=>U (n::ns)|none=>Z)=_;rw[G1 r]
theorem G2:∀{ds:-D}{bs:-Bool},rE ds=U bs->ds=bs.map D.bl
 |[],ns,h=>by cases h;rfl
 |.bl i::r,ns,h=>by
  unfold rE at h;split at h
  .rename_i ms e;cases h;rw[X0,G2 e]
  .cases h
 |.non::r,ns,h=>by cases h
 |.int _::r,ns,h=>by cases h
 |.str _::r,ns,h=>by cases h
 |.tup _::r,ns,h=>by cases h
 |.lst _::r,ns,h=>by cases h
theorem G3{F:Hp}:∀{bs:-Bool}{vs:-V},ah F (bs.map D.bl) vs->vs=bs.map V.bl
 |[],vs,h=>by erw[Zy,ah] at h;exact h
 |n::r,vs,h=>by
  erw[X0,ah] at h;let⟨v,t,rfl,h1,h2⟩:=h;let h1:v=.bl n:=h1;rw[G3 h2,h1];rfl
def nu:-D->(D->Prop)->Prop
 |[.lst ds],K=>match rE ds with
  |some bs=>K (.bl (bs.all id))
  |none=>False
 |_,_=>False
def rF:-D->(D->Prop)->Prop
 |[.int i,.int j],K=>K (.int (min i j))
 |_,_=>False
def wK:-D->(D->Prop)->Prop
 |[.int i,.int j],K=>K (.int (max i j))
 |_,_=>False
section
variable{X:Cx}
theorem c8{F H:Hp}{d:D}{xs:-V}(h:jf F H [d] xs):∃v,xs=[v]/\jE F H d v:=by
 let⟨v,r,rfl,h1,h2⟩:=h;let h2:r=[]:=h2;subst h2;calc⟨v,Y,h1⟩
theorem G4{F H:Hp}{d e:D}{xs:-V}(h:jf F H [d,e] xs):∃v w,xs=[v,w]/\jE F H d v/\jE F H e w:=by
 let⟨v,r,rfl,h1,h2⟩:=h;let⟨w,rfl,h3⟩:=c8 h2;calc⟨v,w,Y,h1,h3⟩
theorem rG:dU X (.builtin "len") cm:=by
 ext pins s σ H xs us Q I r ⟨F,ds,K,sub,rd,q,md⟩;unfold cm at q;split at q
 .let⟨v,rfl,a,vs,rfl,h1,h2⟩:=c8 rd
  exact E9 pins s σ H _ us Q I r ⟨a,vs,Y,.inl (bE.of h1),by rw[↑h2];calc md _ _ _ q (λ_ _ e=>e) Y⟩
 .rename_i es
  let⟨v,rfl,h⟩:=c8 rd;let h:Is F (.tup es) v:=h;erw[Is] at h;let⟨a,vs,rfl,h1,h2⟩:=h;exact E9 pins s σ H _ us Q I r ⟨a,vs,Y,.inr (bV.of (sub _ _ h1)),by rw[↑h2];calc md _ _ _ q (λ_ _ e=>e) Y⟩
 .rename_i z
  let⟨v,rfl,h⟩:=c8 rd;let h:v=.str z:=h;subst h;exact Ny pins s σ H _ us Q I r ⟨z,Y,lj q.1,md _ _ _ q.2 (λ_ _ e=>e) Y⟩
 .calc q.elim
theorem G5:dU X (.type "list") uE:=by
 ext pins s σ H xs us Q I r ⟨F,ds,K,sub,rd,q,md⟩;unfold uE at q;split at q
 .let⟨v,rfl,a,vs,rfl,h1,h2⟩:=c8 rd
  exact tG pins s σ H _ us Q I r ⟨a,vs,Y,.inl (bE.of h1),λl hl=>md _ _ _ q (cL hl) (oR sub hl h2)⟩
 .rename_i es
  let⟨v,rfl,h⟩:=c8 rd;let h:Is F (.tup es) v:=h;erw[Is] at h;let⟨a,vs,rfl,h1,h2⟩:=h;exact tG pins s σ H _ us Q I r ⟨a,vs,Y,.inr (bV.of (sub _ _ h1)),λl hl=>md _ _ _ q (cL hl) (oR sub hl h2)⟩
 .calc q.elim
theorem G6:dU X (.type "tuple") rD:=by
 ext pins s σ H xs us Q I r ⟨F,ds,K,sub,rd,q,md⟩;unfold rD at q;split at q
 .let⟨v,rfl,a,vs,rfl,h1,h2⟩:=c8 rd
  exact E_ pins s σ H _ us Q I r ⟨a,vs,Y,.inl ⟨bE.of h1,λl hl=>md _ _ _ q (cL hl) (wG sub hl h2)⟩⟩
 .rename_i es
  let⟨v,rfl,h⟩:=c8 rd;let h0:Is F (.tup es) v:=h;let h:Is F (.tup es) v:=h;erw[Is] at h;let⟨a,vs,rfl,h1,h2⟩:=h;exact E_ pins s σ H _ us Q I r ⟨a,vs,Y,.inr ⟨bV.of (sub _ _ h1),md _ _ _ q (λ_ _ e=>e) (uB sub h0)⟩⟩
 .calc q.elim
theorem G7:dU X (.builtin "sorted") oS:=by
 ext pins s σ H xs us Q I r ⟨F,ds,K,sub,rd,q,md⟩;unfold oS at q;split at q
 .rename_i es
  split at q
  .rename_i ns e
   let⟨v,rfl,a,vs,rfl,h1,h2⟩:=c8 rd;rw[rB e] at h2;rw[oQ h2] at h1;calc Gb pins s σ H _ us Q I r ⟨a,ns,Y,bE.of h1,q.1,λl bO pm pw hl=>?_⟩;rw[As pm pw];exact md _ _ _ q.2 (cL hl) (oR sub hl qf)
  .exact q.elim
 .calc q.elim
theorem Pz(hc:X.calm=θ):dU X (.builtin "sum") nq:=by
 ext pins s σ H xs us Q I r ⟨F,ds,K,sub,rd,q,md⟩;unfold nq at q;split at q
 .rename_i es
  split at q
  .rename_i ns e
   let⟨v,rfl,a,vs,rfl,h1,h2⟩:=c8 rd;rw[rB e] at h2;rw[oQ h2] at h1;exact OI hc pins s σ H _ us Q I r ⟨a,ns,Y,bE.of h1,q.1.1,q.1.2,md _ _ _ q.2 (λ_ _ e=>e) Y⟩
  .exact q.elim
 .calc q.elim
theorem PA(hc:X.calm=θ):dU X (.builtin "all") nu:=by
 ext pins s σ H xs us Q I r ⟨F,ds,K,sub,rd,q,md⟩;unfold nu at q;split at q
 .rename_i es
  split at q
  .rename_i bs e
   let⟨v,rfl,a,vs,rfl,h1,h2⟩:=c8 rd;rw[G2 e] at h2;rw[G3 h2] at h1;exact OB hc pins s σ H _ us Q I r ⟨a,bs,Y,bE.of h1,md _ _ _ q (λ_ _ e=>e) Y⟩
  .exact q.elim
 .calc q.elim
theorem PB(hc:X.calm=θ):dU X (.builtin "min") rF:=by
 ext pins s σ H xs us Q I r ⟨F,ds,K,sub,rd,q,md⟩;unfold rF at q;split at q
 .rename_i i j
  let⟨v,w,rfl,h1,h2⟩:=G4 rd;let h1:v=.int i:=h1;let h2:w=.int j:=h2;subst h1 h2;calc MC hc pins s σ H _ us Q I r ⟨i,j,Y,?_⟩;let:(if j<i then j else i)=min i j:=by split<;>symm
  rw[this];exact md _ _ _ q (λ_ _ e=>e) Y
 .calc q.elim
theorem PC(hc:X.calm=θ):dU X (.builtin "max") wK:=by
 ext pins s σ H xs us Q I r ⟨F,ds,K,sub,rd,q,md⟩;unfold wK at q;split at q
 .rename_i i j
  let⟨v,w,rfl,h1,h2⟩:=G4 rd;let h1:v=.int i:=h1;let h2:w=.int j:=h2;subst h1 h2;calc MB hc pins s σ H _ us Q I r ⟨i,j,Y,?_⟩;let:(if j>i then j else i)=max i j:=by split<;>symm
  rw[this];exact md _ _ _ q (λ_ _ e=>e) Y
 .calc q.elim
def Au(fa:WA):WE:=fun δ K=>fa δ λxs δ1=>match xs with
 |[.p (.int j)]=>(0<=j/\j<=1000)/\K (.p (.lst (cP 0 j.toNat))) δ1
 |_=>False
theorem qi(n:Nat):cP 0 n=(br n).map D.int:=by
 unfold cP br;rw[X8];calc YB λi _=>?_;show D.int (0+(i:Int))=D.int (i:Int);rw[q12]
theorem PD{a:M}{fa:WA}{p1 p2 q1 q2:y}(hc:X.calm=θ)(Av:Gl X "list")(hl:X.mg "list" = Z)(Aw:bootBuiltins "list" = U (.type "list"))(qj:Gl X "range")(hr:X.mg "range" = Z)(qk:bootBuiltins "range" = U (.type "range"))(ha:JA X [a] (b_ fa))
  (he:‹starEach [a] X.env=[(ι,eval a X.env)]›) (Ax:‹starEach [.Call (.Name "range" p2) [a] [] q2] X.env=[(ι,eval (.Call (.Name "range" p2) [a] [] q2) X.env)]›):JE X (.Call (.Name "list" p1) [.Call (.Name "range" p2) [a] [] q2] [] q1) (tD (Au fa)) :=
 (oq (OH hc) Av hl Aw (j5 (oq F8 qj hr qk ha (he:=he)) bF) (he:=Ax)).weak fun σ H Q ⟨F,ad,δ,K,S,q,k⟩=>⟨F,ad,δ,_,S,q,λxs δ1 h1 vs F1 aW H1 E1 S1 V1=>by
  split at h1
  .rename_i j
   let⟨v,r,e,W1,W2⟩:=V1;let W2:r=[]:=W2;let W1:v=.int j:=W1;subst W2 W1 e;calc⟨j,Y,λrr Az=>⟨rr,j.toNat,Y,by rw[bK,q2z h1.1.1],⋯,λl hl=>?_⟩⟩;let s1:aO H1 (upd H1 rr (.rng 0 j)):=cL Az;let S2:=S1.al s1;let E2:=Ext.al S1 s1;calc k _ _ h1.2 _ _ _ _ ((E1.trans E2).trans (Ext.al S2 (cL hl))) (S2.al (cL hl)) ?_;let:Is (Nw (Nw F1 H1 (upd H1 rr (.rng 0 j))) (upd H1 rr (.rng 0 j)) (upd (upd H1 rr (.rng 0 j)) l (.lst ((br j.toNat).map V.int)))) (.lst ((br j.toNat).map D.int)) (.ref l):=oR S2.sub hl qf;rw[qi];exact this
  .calc h1.elim⟩
def jn(T:String):D->(D->Prop)->Prop:=λd K=>K (.bl (eI (gR d) T))
theorem wL{T:String}{t:J}{a:M}{f:WE}{p p2 pos:y}(hk:∀d:D,Y9 X.K (.type (gR d)) (.type T)=U (eI (gR d) T))(hg:Gl X "isinstance")(hm:X.mg "isinstance" = Z)(PE:Gl X t)(PF:X.mg t=Z)(PG:bootBuiltins t=U (.type T))(ha:JE X a (tD f))
  (tR:t≠"__name__" := by decide) (mi: ~~~(bL t)) (he:‹starEach [a,.Name t p2] X.env=(ι,eval a X.env)::starEach [.Name t p2] X.env›):JE X (.Call (.Name "isinstance" p) [a,.Name t p2] [] pos) (tD (d1 f (jn T))) :=
 (vO Oa hg hm PyProof.Rows.boot_isinstance (jV ha (jc (LN PE PF PG (v:=.ty T) Y tR mi) bF) he) (he:=he)).weak fun σ H Q ⟨F,ad,δ,K,S,q,k⟩↦⟨F,ad,δ,_,S,q,λx δ1 h1 v F1 aW H1 E1 S1 V1=>by
  let⟨d,h2,rd⟩:=jF S1 V1 h1
  calc⟨v,.ty T,.type T,.type (gR d),_,Y,Y,Is.ty (rd.is S1.sub),hk d,k _ _ h2 _ _ _ _ E1 S1 Y⟩⟩
theorem PH{K:vS}:∀d:D,Y9 K (.type (gR d)) (.type "int")=U (eI (gR d) "int"):=λd=>Oc _ (vY d)
theorem PJ{K:vS}:∀d:D,Y9 K (.type (gR d)) (.type "bool")=U (eI (gR d) "bool"):=λd=>Ob _ (vY d)
theorem PK{K:vS}:∀d:D,Y9 K (.type (gR d)) (.type "tuple")=U (eI (gR d) "tuple"):=λd=>kit_tuple _ (vY d)
theorem PL{K:vS}:∀d:D,Y9 K (.type (gR d)) (.type "list")=U (eI (gR d) "list"):=λd=>Od _ (vY d)
def fW(x:DV)(δ:aJ)(K:Nat->(-D->OV)->-D->Prop):Prop:=match x with
 |.o k=>match δ.mu[k]? with
  |some (some (.lst ds))=>K k OV.lst ds
  |some (some (.al a ds))=>K k (OV.al a) ds
  |_=>False
 |_=>False
theorem oU{F H:Hp}{ad:-O}{δ:aJ}{σ:St}{x:DV}{v:V}{K:Nat->(-D->OV)->-D->Prop}(S:SR F ad δ σ H)(V1:dF F ad x v)(h:fW x δ K):∃k B ds a vs,x=.o k/\K k B ds/\v=.ref a/\ad[k]?=U a/\H a=U (.lst vs)/\ah F ds vs/\δ.mu[k]?=U (U (B ds))/\∀{F' es us},ah F' es us->eJ F' a (B es) (.lst us):=by
 unfold fW at h;split at h
 .rename_i k
  split at h
  .rename_i ds e
   let⟨a,e1,rfl⟩:=V1;let⟨a',o,e2,e3,vs,rfl,h4⟩:=S.mu k _ e;rw[e1] at e2;cases e2;exact⟨k,_,ds,a,vs,Y,h,Y,e1,e3,h4,e,λi=>⟨_,Y,i⟩⟩
  .rename_i b ds e
   let⟨a,e1,rfl⟩:=V1;let⟨a',o,e2,e3,z,vs,rfl,h4⟩:=S.mu k _ e;rw[e1] at e2;cases e2;exact⟨k,_,ds,a,vs,Y,h,Y,e1,e3,h4,e,λi=>⟨z,_,Y,i⟩⟩
  .exact h.elim
 .calc h.elim
def ly(f:WE)(fa:WA):WE:=fun δ K=>f δ λx δ1=>fW x δ1 λ_ _ _=>fa δ1 λys δ2=>match ys with
 |[y]=>mR y δ2 λd δ3=>fW x δ3 λk B ds=>↑ds<1000/\K (.p .non) ⟨δ3.sl,δ3.mu.set k (U (B (ds++[d])))⟩
 |_=>False
theorem G8{f:WE}{fa:WA}{K0:vS}:∀σ H Q,tD (ly f fa) σ H Q->qR K0 "list" zc (tD f) (b_ fa) σ H Q:=fun σ H Q ⟨F,ad,δ,K,S,q,k⟩=>⟨F,ad,δ,_,S,q,λx δ1 h1 v F1 aW H1 E1 S1 V1=>by
 let⟨k0,B0,G9,a,vs,rfl,h2,rfl,e1,e2,i1,m1,nv⟩:=oU S1 V1 h1;refine⟨.inl ⟨Y,vs,bE.of e2⟩,F1,aW,δ1,_,S1,h2,λys δ2 h3 us F2 bP H2 E2 S2 V2=>?_⟩
 match ys,h3,V2 with
 |[y],g3,⟨u,r,e,W1,W2⟩ =>
  let W3:r=[]:=W2;subst W3 e;let⟨d,δ3,F3,h4,E3,S3,i3⟩:=ug S2 W1 g3;let⟨k1,B,ds,b,ws,ek,h5,eb,e3,e4,i4,m4,uF⟩:=oU (x:=.o k0) S3 ((V1.ext E2).ext E3) h4;cases ek
  let uG:a=b:=by injection eb
  subst uG;let oi:=uF (F':=F3) (i4.snoc i3);calc⟨a,ws,u,Y,Y,e4,mK (by rw[↑i4];symm),?_⟩;exact k _ _ h5.2 _ _ _ _ (((E1.trans E2).trans E3).trans (Ext.put S3 m4 e3)) (S3.put m4 e3 oi) Y
 |[],g3,_=>exact g3.elim
 |_::_::_,g3,_=>calc g3.elim⟩
def ql(f:WE)(fa:WA):WE:=fun δ K=>f δ λx δ1=>fW x δ1 λ_ _ _=>fa δ1 λys δ2=>match ys with
 |[.p (.lst es)]=>fW x δ2 λk B ds=>↑ds+↑es<=1000/\K (.p .non) ⟨δ2.sl,δ2.mu.set k (U (B (ds++es)))⟩
 |_=>False
theorem PM{f:WE}{fa:WA}{K0:vS}:∀σ H Q,tD (ql f fa) σ H Q->qR K0 "list" Ff (tD f) (b_ fa) σ H Q:=fun σ H Q ⟨F,ad,δ,K,S,q,k⟩=>⟨F,ad,δ,_,S,q,λx δ1 h1 v F1 aW H1 E1 S1 V1=>by
 let⟨k0,B0,G9,a,vs,rfl,h2,rfl,e1,e2,i1,m1,nv⟩:=oU S1 V1 h1;calc⟨.inl ⟨Y,vs,bE.of e2⟩,F1,aW,δ1,_,S1,h2,λys δ2 h3 us F2 bP H2 E2 S2 V2=>?_⟩;split at h3
 .rename_i es
  let⟨u,r,e,W1,W2⟩:=V2;let W3:r=[]:=W2;let W4:Is F2 (.lst es) u:=W1;erw[Is] at W4;let⟨b,zs,rfl,z1,z2⟩:=W4;subst W3 e;let⟨k1,B,ds,b',ws,ek,h5,eb,e3,e4,i4,m4,uF⟩:=oU (x:=.o k0) S2 (V1.ext E2) h3;cases ek
  let uG:a=b':=by injection eb
  subst uG;let oi:=uF (F':=F2) (rC i4 z2);calc⟨a,b,ws,zs,Y,Y,e4,S2.sub _ _ z1,lj (by rw[↑i4,↑z2];calc h5.1),?_⟩;exact k _ _ h5.2 _ _ _ _ ((E1.trans E2).trans (Ext.put S2 m4 e3)) (S2.put m4 e3 oi) Y
 .calc h3.elim⟩
def AA(f:WE)(fa:WA):WE:=fun δ K=>f δ λx δ1=>fW x δ1 λ_ _ _=>fa δ1 λys δ2=>match ys with
 |[.p (.int i)]=>fW x δ2 λk B ds=>(-(2 ^ 63)<=i/\i<2 ^ 63)/\match seqIndex? i ↑ds with
  |some j=>match ds[j]? with
   |some d=>K (.p d) ⟨δ2.sl,δ2.mu.set k (U (B (ds.eraseIdx j)))⟩
   |none=>False
  |none=>False
 |_=>False
theorem PN{f:WE}{fa:WA}{K0:vS}:∀σ H Q,tD (AA f fa) σ H Q->qR K0 "list" Fh (tD f) (b_ fa) σ H Q:=fun σ H Q ⟨F,ad,δ,K,S,q,k⟩=>⟨F,ad,δ,_,S,q,λx δ1 h1 v F1 aW H1 E1 S1 V1=>by
 let⟨k0,B0,G9,a,vs,rfl,h2,rfl,e1,e2,i1,m1,nv⟩:=oU S1 V1 h1;calc⟨.inl ⟨Y,vs,bE.of e2⟩,F1,aW,δ1,_,S1,h2,λys δ2 h3 us F2 bP H2 E2 S2 V2=>?_⟩;split at h3
 .rename_i i
  let⟨u,r,e,W1,W2⟩:=V2;let W3:r=[]:=W2;let W4:u=.int i:=W1;subst W3 W4 e;let⟨k1,B,ds,b',ws,ek,⟨h5,h6⟩,eb,e3,e4,i4,m4,uF⟩:=oU (x:=.o k0) S2 (V1.ext E2) h3;cases ek
  let uG:a=b':=by injection eb
  subst uG;split at h6
  .rename_i j hj
   split at h6
   .rename_i d hd
    let⟨w,g1,g2⟩:=qd i4 hd;let oi:=uF (F':=F2) (GL j i4);calc⟨a,ws,i,j,w,Y,Y,e4,h5.1,h5.2,by rw[↑i4];calc hj,g1,?_⟩;exact k _ _ h6 _ _ _ _ ((E1.trans E2).trans (Ext.put S2 m4 e3)) (S2.put m4 e3 oi) g2
   .exact h6.elim
  .exact h6.elim
 .calc h3.elim⟩
def ny(f:WE):WE:=fun δ K=>f δ λx δ1=>fW x δ1 λk B ds=>match ds[↑ds-1]? with
 |some d=>K (.p d) ⟨δ1.sl,δ1.mu.set k (U (B ds.dropLast))⟩
 |none=>False
theorem PQ{F:Hp}{ds:-D}{vs:-V}(h:ah F ds vs):ah F ds.dropLast vs.dropLast:=by
 rw[q2h,q2h,↑h];calc Al _ h
theorem G_{f:WE}{K0:vS}:∀σ H Q,tD (ny f) σ H Q->pK K0 "list" tJ (tD f) σ H Q:=fun σ H Q ⟨F,ad,δ,K,S,q,k⟩=>⟨F,ad,δ,_,S,q,λx δ1 h1 v F1 aW H1 E1 S1 V1=>by
 let⟨k0,B,ds,a,vs,rfl,h2,rfl,e1,e2,i1,m1,nv⟩:=oU S1 V1 h1;calc⟨.inl ⟨Y,vs,bE.of e2⟩,?_⟩;split at h2
 .rename_i d hd
  let⟨w,g1,g2⟩:=qd i1 hd;let oi:=nv (F':=F1) (PQ i1);calc⟨a,vs,w,Y,Y,e2,by rw[↑i1];calc g1,?_⟩;exact k _ _ h2 _ _ _ _ (E1.trans (Ext.put S1 m1 e1)) (S1.put m1 e1 oi) g2
 .calc h2.elim⟩
def qm(f fo fi:WE):WS:=λK δ=>f δ λx δ1=>fo δ1 λo δ2=>fi δ2 λi δ3=>mR x δ3 λd δ4=>fW o δ4 λk B ds=>match i with
 |.p (.int j)=>match jB ↑ds j with
  |some m=>K.nx ⟨δ4.sl,δ4.mu.set k (U (B (ds.set m d)))⟩
  |none=>False
 |_=>False
theorem PR[d_]{f fo fi:WE}:∀D σ H,cY (qm f fo fi) D σ H->jU (tD f) (sL (tD fo) (tD fi) E8) D σ H:=λD σ H ⟨F,ad,δ,K,S,q,k⟩=>⟨F,ad,δ,_,S,q,λx δ1 h1 v F1 aW H1 E1 S1 V1=>⟨F1,aW,δ1,_,S1,h1,λo δ2 h2 ov F2 bP H2 E2 S2 V2=>⟨F2,bP,δ2,_,S2,h2,λi δ3 h3 iv F3 rm H3 E3 S3 V3=>by
 let⟨d,δ4,F4,h4,E4,S4,i4⟩:=ug S3 ((V1.ext E2).ext E3) h3;let⟨k0,B,ds,a,vs,rfl,h5,rfl,e1,e2,i1,m1,nv⟩:=oU S4 ((V2.ext E3).ext E4) h4;split at h5
 .rename_i j
  split at h5
  .rename_i m hm
   let V3:iv=.int j:=V3;subst V3;let oi:=nv (F':=F4) (GJ m i1 i4);calc⟨a,vs,j,m,Y,Y,e2,by rw[↑i1];calc hm,?_⟩;exact k.nx _ h5 _ _ _ _ ((((E1.trans E2).trans E3).trans E4).trans (Ext.put S4 m1 e1)) (S4.put m1 e1 oi)
  .exact h5.elim
 .calc h5.elim⟩⟩⟩
end
end L2
namespace L2
open PySem PySem.Spec PyProof.Rows PySem.W
abbrev LK:=-Int
def kle(a b:LK):Prop:=HT.lexLt b a=ι
theorem qo:∀a:LK,HT.lexLt a a=ι
 |[]=>Y
 |x::r=>by rw[HT.qP,XI Y];calc qo r
theorem rH:∀{a b:LK},HT.lexLt a b=ι->HT.lexLt b a=ι->a=b
 |[],[],_,_=>Y
 |[],_::_,h,_=>by cases h
 |_::_,[],_,h=>by cases h
 |x::r,y::s,h,q=>by
  rw[HT.qP] at h q
  by_cases c:x=y
  .subst c
   rw[XI Y] at h q;rw[rH h q]
  .rw[WK c] at h
   rw[WK (λz=>c z.symm)] at q;simp at h q;symm
theorem oV:∀{a b c:LK},HT.lexLt a b=θ->HT.lexLt b c=θ->HT.lexLt a c=θ
 |[],[],_,h,_=>by cases h
 |[],_::_,[],_,q=>by cases q
 |[],_::_,_::_,_,_=>Y
 |_::_,[],_,h,_=>by cases h
 |_::_,_::_,[],_,q=>by cases q
 |x::r,y::s,z::t,h,q=>by
  rw[HT.qP] at h q ⊢
  by_cases c1:x=y
  .subst c1
   rw[XI Y] at h
   by_cases c2:x=z
   .subst c2
    rw[XI Y] at q ⊢;exact oV h q
   .rw[WK c2] at q ⊢;exact q
  .rw[WK c1] at h
   by_cases c2:y=z
   .subst c2
    rw[WK c1];exact h
   .rw[WK c2] at q
    let h1:x<y:=by simpa using h
    let h2:y<z:=by simpa using q
    rw[WK ⋯];simp;symm
theorem kle_refl(a:LK):kle a a:=qo a
theorem wM{a b:LK}(h:HT.lexLt a b=θ):kle a b:=by
 unfold kle
 cases q:HT.lexLt b a with
 |false=>rfl
 |true=>let:=oV h q;rw[qo] at this;cases this
theorem kle_trans{a b c:LK}(h1:kle a b)(h2:kle b c):kle a c:=by
 unfold kle at *
 cases q:HT.lexLt c a with
 |false=>rfl
 |true =>
  cases q2:HT.lexLt a b with
  |true=>let:=oV q q2;rw[h2] at this;cases this
  |false =>
   let e:=rH q2 h1;subst e;rw[h2] at q;cases q
theorem Ha{a b:LK}(h1:kle a b)(h2:kle b a):a=b:=rH h2 h1
section
variable{n:Nat}{k:Nat->LK}{I:B->Prop}{cmp:Nat->Nat->(Bool->B->Prop)->B->Prop}
def oW(n:Nat)(k:Nat->LK)(I:B->Prop)(cmp:Nat->Nat->(Bool->B->Prop)->B->Prop):Prop :=
 ∀(i j:Nat)(C:Bool->B->Prop)(s:B),i<n->j<n->I s->(∀s',I s'->C (HT.lexLt (k i) (k j)) s')->cmp i j C s
noncomputable def KA(k:Nat->LK)(p:Array Nat)(i:Nat):LK:=k (p.getD i 0)
structure ee(n:Nat)(p:Array Nat):Prop where
 perm:p.Perm (X_ n).toArray
theorem ee.size{p:Array Nat}(h:ee n p):p.size=n:=by let:=h.perm.size_eq;simpa using this
theorem ee.lt{p:Array Nat}(h:ee n p){i:Nat}(hi:i<n):p.getD i 0<n:=by
 let hs:=h.size;let e:p.getD i 0=p[i]:=by simp[q7d,hs,hi]
 rw[e];let:p[i]∈(X_ n).toArray:=(h.perm.mem_iff).mp (Array.getElem_mem _);simpa using this
theorem uH{p q:Array Nat}{i j:Nat}(h:p[i]?=q[j]?):p.getD i 0=q.getD j 0:=by
 rw[YO,YO,h]
theorem wN{p:Array Nat}{i j:Nat}(hj:j<=p.size)(t:Nat):KA k (kas_rev p i j) t=if i<=t/\t<j then KA k p (i+j-1-t) else KA k p t:=by
 let e:=getElem?_mirror_all (xs:=p) (i:=i) hj t;unfold KA kas_rev
 by_cases c:i<=t/\t<j
 .rw[XI c] at e ⊢;rw[uH e]
 .rw[WK c] at e ⊢;rw[uH e]
theorem PS{p:Array Nat}{src d:Nat}(hs:src<p.size)(hd:d<=src)(t:Nat):
  KA k (bubble p src d) t=if t=src-d then KA k p src else if src-d<t/\t<=src then KA k p (t-1) else KA k p t:=by
 let e:=getElem?_bubble hs d hd t;unfold KA
 by_cases c:t=src-d
 .rw[XI c] at e ⊢;rw[uH e]
 .rw[WK c] at e ⊢
  by_cases c2:src-d<t/\t<=src
  .rw[XI c2] at e ⊢;rw[uH e]
  .rw[WK c2] at e ⊢;rw[uH e]
def Up(k:Nat->LK)(p:Array Nat)(m:Nat):Prop:=∀i j,i<=j->j<m->kle (KA k p i) (KA k p j)
def Dn(k:Nat->LK)(p:Array Nat)(m:Nat):Prop:=∀i j,i<=j->j<m->kle (KA k p j) (KA k p i)
theorem Up.snoc{p:Array Nat}{m:Nat}(h:Up k p m)(hm:1<=m)(q:kle (KA k p (m-1)) (KA k p m)):Up k p (m+1):=λi j jL hj=>by
 by_cases c:j<m
 .exact h i j jL c
 .let e:j=m:=by symm
  subst e
  by_cases c2:i=j
  .subst c2;exact kle_refl _
  .calc kle_trans (h i (j-1) ⋯ ⋯) q
theorem Dn.snoc{p:Array Nat}{m:Nat}(h:Dn k p m)(hm:1<=m)(q:kle (KA k p m) (KA k p (m-1))):Dn k p (m+1):=λi j jL hj=>by
 by_cases c:j<m
 .exact h i j jL c
 .let e:j=m:=by symm
  subst e
  by_cases c2:i=j
  .subst c2;exact kle_refl _
  .calc kle_trans q (h i (j-1) ⋯ ⋯)
theorem Up.one{p:Array Nat}:Up k p 1:=λi j jL hj=>by
 let:i=j:=by symm
 subst this;calc kle_refl _
theorem Dn.one{p:Array Nat}:Dn k p 1:=λi j jL hj=>by
 let:i=j:=by symm
 subst this;calc kle_refl _
theorem ee.rev{p:Array Nat}(h:ee n p)(i j:Nat):ee n (kas_rev p i j):=⟨(mirror_perm _ _ _ _).trans h.perm⟩
theorem ee.PT{p:Array Nat}(h:ee n p)(i j:Nat):ee n (bubble p i j):=⟨(bubble_perm _ _ _).trans h.perm⟩
theorem Hb(hc:oW n k I cmp){p:Array Nat}(hp:ee n p):∀(f m:Nat)(s:B)(Q:Nat->B->Prop),1<=m->m+f=n->Up k p m->I s →
  (∀m' s',m<=m'->m'<=n->Up k p m'->I s'->Q m' s')->(kas_asc p f m).kasWp cmp Q s
 |0,m,s,Q,h1,h2,up,hi,fin=>fin m s (Fm _) ⋯ up hi
 |f+1,m,s,Q,h1,h2,up,hi,fin=>by
  refine hc _ _ _ s (hp.lt ⋯) (hp.lt ⋯) hi λs' gG=>?_
  cases q:HT.lexLt (k (p.getD m 0)) (k (p.getD (m-1) 0)) with
  |true=>dsimp only;rw[XI Y];exact fin m s' (Fm _) ⋯ up gG
  |false =>
   calc Hb hc hp f (m+1) s' Q ⋯ ⋯ (up.snoc h1 q) gG λm' i9 a b c d=>fin m' i9 ⋯ b c d
def AB(k:Nat->LK)(p:Array Nat)(m q:Nat):Prop:=∀t,m-(q+1)<=t->t<m->KA k p t=KA k p (m-1)
theorem Hc{p:Array Nat}{m q:Nat}(hs:m<=p.size)(hq:q+1<=m)(e:AB k p m q)(t:Nat):KA k (kas_rev p (m-(q+1)) m) t=KA k p t:=by
 rw[wN hs];split
 .rename_i c
  rw[e _ ⋯ ⋯,e t c.1 c.2]
 .rfl
theorem Dn.congr{p p':Array Nat}{m:Nat}(h:Dn k p m)(e:∀t,KA k p' t=KA k p t):Dn k p' m:=λi j a b=>by rw[e,e];calc h i j a b
theorem wO(hc:oW n k I cmp):∀(f:Nat)(p:Array Nat)(m q:Nat)(s:B)(Q:Array Nat×Nat×Nat->B->Prop),ee n p->1<=m->m+f=n->q+1<=m->Dn k p m->AB k p m q->I s →
  (∀p' m' q' s',ee n p'->m<=m'->m'<=n->q'+1<=m'->Dn k p' m'->AB k p' m' q'->I s'->Q (p',m',q') s')->(kas_desc f p m q).kasWp cmp Q s
 |0,p,m,q,s,Q,hp,h1,h2,hq,dn,es,hi,fin=>fin p m q s hp (Fm _) ⋯ hq dn es hi
 |f+1,p,m,q,s,Q,hp,h1,h2,hq,dn,es,hi,fin=>by
  calc hc _ _ _ s (hp.lt ⋯) (hp.lt ⋯) hi λs' gG=>?_;let sz:=hp.size
  cases c1:HT.lexLt (k (p.getD m 0)) (k (p.getD (m-1) 0)) with
  |true =>
   let st:kle (KA k p m) (KA k p (m-1)):=wM c1
   by_cases Hd:q>0
   .rw[XI Hd]
    let e:=Hc (k:=k) (p:=p) (m:=m) (q:=q) ⋯ hq es;calc wO hc f _ (m+1) 0 s' Q (hp.rev _ _) ⋯ ⋯ ⋯ ((dn.snoc h1 st).congr e) (λt a b=>?_) gG λp' m' q' i9 a b c d e g i=>fin p' m' q' i9 a ⋯ c d e g i;let:t=m+1-1:=by symm
    rw[this]
   .rw[WK Hd]
    calc wO hc f p (m+1) 0 s' Q hp ⋯ ⋯ ⋯ (dn.snoc h1 st) (λt a b=>?_) gG λp' m' q' i9 a b c d e g i=>fin p' m' q' i9 a ⋯ c d e g i;let:t=m+1-1:=by symm
    rw[this]
  |false =>
   refine hc _ _ _ s' (hp.lt ⋯) (hp.lt ⋯) gG λs2 qp=>?_
   cases c2:HT.lexLt (k (p.getD (m-1) 0)) (k (p.getD m 0)) with
   |true=>dsimp only;rw[XI Y];exact fin p m q s2 hp (Fm _) ⋯ hq dn es qp
   |false =>
    let eq:KA k p m=KA k p (m-1):=rH c1 c2;calc wO hc f p (m+1) (q+1) s2 Q hp ⋯ ⋯ ⋯ (dn.snoc h1 (by rw[eq];calc kle_refl _)) (λt a b=>?_) qp λp' m' q' i9 a b c d e g i=>fin p' m' q' i9 a ⋯ c d e g i;show KA k p t=KA k p m
    by_cases z:t=m
    .rw[z]
    .rw[es t ⋯ ⋯,eq]
theorem Dn.rev{p:Array Nat}{m:Nat}(h:Dn k p m)(hs:m<=p.size):Up k (kas_rev p 0 m) m:=λi j jL hj=>by
 rw[wN hs,wN hs,XI ⟨YD _,⋯⟩,XI ⟨YD _,hj⟩];calc h _ _ ⋯ ⋯
theorem He(hc:oW n k I cmp){p:Array Nat}(hp:ee n p){m:Nat}{s:B}{Q:Nat×Array Nat->B->Prop}(h1:1<=m)(hm:m<=n)(dn:Dn k p m)(hi:I s)
  (fin:∀p' m' s',ee n p'->1<=m'->m'<=n->Up k p' m'->I s'->Q (m',p') s'):(kas_tail3 m n p).kasWp cmp Q s:=by
 unfold kas_tail3;rw[KasT.kasWp_bind];let sz:=hp.size;calc Hb hc (hp.rev 0 m) (n-m) m s _ h1 ⋯ (dn.rev ⋯) hi λm' s' a b c d=>?_;calc fin _ m' s' (hp.rev 0 m) ⋯ b c d
theorem Hf(hc:oW n k I cmp){p:Array Nat}(hp:ee n p){m:Nat}{s:B}{Q:Nat×Array Nat->B->Prop}(h1:1<=m)(hm:m+1<=n)(dn:Dn k p (m+1))(hi:I s)
  (fin:∀p' m' s',ee n p'->1<=m'->m'<=n->Up k p' m'->I s'->Q (m',p') s'):(kas_descPart m n p).kasWp cmp Q s:=by
 unfold kas_descPart;rw[KasT.kasWp_bind];refine wO hc (n-(m+1)) p (m+1) 0 s _ hp ⋯ ⋯ ⋯ dn (λt a b=>?_) hi λp' m' q' s' a b c d e g i=>?_
 .let:t=m+1-1:=by symm
  rw[this]
 .let sz:=a.size
  dsimp only
  by_cases hq:q'>0
  .rw[XI hq]
   exact He hc (a.rev _ _) ⋯ c (e.congr (Hc ⋯ d g)) i fin
  .rw[WK hq]
   calc He hc a ⋯ c e i fin
theorem PU(hc:oW n k I cmp){p:Array Nat}(hp:ee n p){s:B}{Q:Nat×Array Nat->B->Prop}(h1:1<=n)(hi:I s)
  (fin:∀p' m' s',ee n p'->1<=m'->m'<=n->Up k p' m'->I s'->Q (m',p') s'):(kas_count n p).kasWp cmp Q s:=by
 unfold kas_count;rw[KasT.kasWp_bind];let sz:=hp.size
 let key:∀(f m:Nat)(s:B)(Q':Nat->B->Prop),1<=m->m+f=n->Up k p m->I s →
   (∀m' s',m<=m'->m'<=n->Up k p m'->(m'<n->HT.lexLt (KA k p m') (KA k p (m'-1))=θ)->I s'->Q' m' s')->(kas_asc p f m).kasWp cmp Q' s:=by
  ext f
  induction f with
  |zero=>ext m s Q' a b up hi fin;exact fin m s (Fm _) ⋯ up (λz=>absurd z ⋯) hi
  |succ f ih =>
   ext m s Q' a b up hi fin;refine hc _ _ _ s (hp.lt ⋯) (hp.lt ⋯) hi λs' gG=>?_
   cases q:HT.lexLt (k (p.getD m 0)) (k (p.getD (m-1) 0)) with
   |true=>dsimp only;rw[XI Y];exact fin m s' (Fm _) ⋯ up (λ_=>q) gG
   |false =>
    exact ih (m+1) s' Q' ⋯ ⋯ (up.snoc a q) gG λm' i9 a b c d e=>fin m' i9 ⋯ b c d e
 refine key (n-1) 1 s _ (Fm _) ⋯ Up.one hi λm s' a b up nx gG=>?_
 by_cases c1:m=n
 .subst c1
  rw[XI (by simp)];exact fin p m s' hp a (Fm _) up gG
 .rw[WK c1⁻¹]
  let fL:m<n:=by symm
  let nx:=nx fL
  by_cases c2:m>1
  .rw[XI c2]
   refine hc _ _ _ s' (hp.lt ⋯) (hp.lt ⋯) gG λs2 qp=>?_
   cases q:HT.lexLt (k (p.getD 0 0)) (k (p.getD (m-1) 0)) with
   |true=>dsimp only;exact fin p m s2 hp a b up qp
   |false =>
    let al:∀t,t<m->KA k p t=KA k p (m-1):=λt ht=>by
     refine Ha (up t (m-1) ⋯ ⋯) (kle_trans q (up 0 t (YD _) ht))
    let e:∀t,KA k (kas_rev p 0 m) t=KA k p t:=λt=>by
     rw[wN ⋯];split
     .rename_i c;rw[al _ ⋯,al t c.2]
     .rfl
    calc Hf hc (hp.rev 0 m) ⋯ ⋯ (Dn.congr (p:=p) ?_ e) qp fin;calc Dn.snoc (λi j jL hj=>?_) ⋯ (wM nx);rw[al i ⋯,al j hj];exact kle_refl _
  .rw[WK c2]
   let:m=1:=by symm
   subst this;calc Hf hc hp ⋯ ⋯ (Dn.one.snoc (Fm _) (wM nx)) gG fin
theorem AD(hc:oW n k I cmp){p:Array Nat}(hp:ee n p){t:Nat}(ht:t<n)(up:Up k p t):∀(f l r:Nat)(s:B)(Q:Nat->B->Prop),l<=r->r<=t->r-l<=f →
  (∀i,i<l->kle (KA k p i) (KA k p t))->(∀i,r<=i->i<t->kle (KA k p t) (KA k p i))->I s →
  (∀l' s',l'<=t->(∀i,i<l'->kle (KA k p i) (KA k p t))->(∀i,l'<=i->i<t->kle (KA k p t) (KA k p i))->I s'->Q l' s')->(kas_place p t f l r).kasWp cmp Q s
 |0,l,r,s,Q,h1,h2,h3,lo,rJ,hi,fin=>by
  let:l=r:=by symm
  subst this;exact fin l s h2 lo rJ hi
 |f+1,l,r,s,Q,h1,h2,h3,lo,rJ,hi,fin=>by
  unfold kas_place
  by_cases c:l ≥ r
  .rw[XI c]
   let:l=r:=by symm
   subst this;exact fin l s h2 lo rJ hi
  .rw[WK c]
   refine hc _ _ _ s (hp.lt ht) (hp.lt ⋯) hi λs' gG=>?_
   cases q:HT.lexLt (k (p.getD t 0)) (k (p.getD ((l+r) / 2) 0)) with
   |true =>
    calc AD hc hp ht up f l ((l+r) / 2) s' Q ⋯ ⋯ ⋯ lo (λi a b=>?_) gG fin;exact kle_trans (wM q) (up _ _ a b)
   |false =>
    calc AD hc hp ht up f ((l+r) / 2+1) r s' Q ⋯ h2 ⋯ (λi a=>?_) rJ gG fin;calc kle_trans (up i ((l+r) / 2) ⋯ ⋯) q
theorem Hg(hc:oW n k I cmp):∀(f:Nat)(p:Array Nat)(t:Nat)(s:B)(Q:Array Nat->B->Prop),ee n p->t+f=n->Up k p t->I s →
  (∀p' s',ee n p'->Up k p' n->I s'->Q p' s')->(kas_bin f p t).kasWp cmp Q s
 |0,p,t,s,Q,hp,h2,up,hi,fin=>by
  let:t=n:=by symm
  subst this;exact fin p s hp up hi
 |f+1,p,t,s,Q,hp,h2,up,hi,fin=>by
  unfold kas_bin;rw[KasT.kasWp_bind];let sz:=hp.size;calc AD hc hp ⋯ up t 0 t s _ (YD _) (Fm _) ⋯ (λi a=>absurd a ⋯) (λi a b=>absurd b ⋯) hi λl s' hl lo rJ gG=>?_;calc Hg hc f _ (t+1) s' Q (hp.PT _ _) ⋯ (λi j jL hj=>?_) gG fin;let kb:=λx=>PS (k:=k) (p:=p) (src:=t) (d:=t-l) ⋯ ⋯ x;let el:t-(t-l)=l:=by symm
  rw[kb i,kb j,el]
  by_cases c1:i=l
  .subst c1
   rw[XI Y]
   by_cases c2:j=i
   .rw[XI c2];exact kle_refl _
   .rw[WK c2,XI ⟨⋯,⋯⟩]
    exact rJ (j-1) ⋯ ⋯
  .rw[WK c1]
   by_cases c2:j=l
   .subst c2
    rw[XI Y,WK ⋯];exact lo i ⋯
   .rw[WK c2]
    by_cases c3:l<i/\i<=t
    .rw[XI c3,XI ⟨⋯,⋯⟩]
     exact up _ _ ⋯ ⋯
    .rw[WK c3]
     by_cases c4:l<j/\j<=t
     .rw[XI c4];exact up _ _ ⋯ ⋯
     .rw[WK c4];calc up _ _ jL ⋯
theorem PV(hc:oW n k I cmp){s:B}{Q:Array Nat->B->Prop}(h1:1<=n)(hi:I s)(fin:∀p s',ee n p->Up k p n->I s'->Q p s'):(kas_sort n).kasWp cmp Q s:=by
 unfold kas_sort;rw[KasT.kasWp_bind];refine PU hc ⟨q32 _⟩ h1 hi λp m s' a b c d e=>?_
 by_cases q:m<n
 .rw[XI q]
  let:max m 1=m:=by symm
  rw[this];exact Hg hc (n-m) p m s' Q a ⋯ d e fin
 .rw[WK q]
  let:m=n:=by symm
  subst this;calc fin p s' a d e
end
end L2
namespace L2
open PySem PySem.Spec PyProof.Rows
theorem Hh{δ0:aJ}{bQ:aJ->Prop}{g:WG}{b:WS}{K:KS}(I:Nat->aJ->Prop):∀(items:-D)(i:Nat)(δ:aJ),I i δ →
  (∀j d δ (L:aJ->Prop),items[j]?=U d->I (i+j) δ->(∀δ',I (i+j+1) δ'->L δ')->bQ δ/\g (.p d) δ fun δ1=>b {nx:=fun δ2=>L (δ0.trim δ2),ct:=fun δ2=>L (δ0.trim δ2),bk:=K.nx,rt:=K.rt} δ1) →
  (∀δ,I (i+↑items) δ->bQ δ/\K.nx δ)->lu δ0 bQ g b K items δ
 |[],i,δ,h,_,fin=>fin δ h
 |d::r,i,δ,h,st,fin=>by
  unfold lu;calc st 0 d δ (fun δ'=>lu δ0 bQ g b K r δ') Y h fun δ' hi=>?_;refine Hh I r (i+1) _ hi (λj e δ L hj hI hL=>?_) fun δ hI=>?_
  .let e:i+1+j=i+(j+1):=by symm
   rw[e] at hI hL;exact st (j+1) _ δ L hj⁻¹ hI hL
  .exact fin δ (by rw[NG];let e:i+1+↑r=i+(↑r+1):=by symm
                   rw[e] at hI;calc hI)
theorem oX{δ0:aJ}{bQ:aJ->Prop}{g:WG}{b:WS}{K:KS}{items:-D}{δ:aJ}(I:Nat->aJ->Prop)(h0:I 0 δ)
  (st:∀j d δ (L:aJ->Prop),items[j]?=U d->I j δ->(∀δ',I (j+1) δ'->L δ')->bQ δ/\g (.p d) δ fun δ1=>b {nx:=fun δ2=>L (δ0.trim δ2),ct:=fun δ2=>L (δ0.trim δ2),bk:=K.nx,rt:=K.rt} δ1)
  (fin:∀δ,I ↑items δ->bQ δ/\K.nx δ):lu δ0 bQ g b K items δ :=
 Hh I items 0 δ h0 (λj d δ L hj hI hL=>by rw[YF] at hI hL;calc st j d δ L hj hI hL) fun δ hI=>by rw[YF] at hI;calc fin δ hI
def uI(δ0:aJ)(bQ:aJ->Prop)(g:WG)(t:WT)(f:WE)(d:D)(acc:-D)(δ:aJ)(L:-D->aJ->Prop):Prop :=
 bQ δ/\g (.p d) δ fun δ1=>t δ1 λb δ2=>if b=θ then f δ2 λx δ3=>mR x δ3 λe δ4=>↑acc<1000/\L (acc++[e]) (δ0.trim δ4) else L acc (δ0.trim δ2)
theorem Hi{δ0:aJ}{bQ:aJ->Prop}{g:WG}{t:WT}{f:WE}{K:-D->aJ->Prop}(I:Nat->-D->aJ->Prop):∀(items:-D)(i:Nat)(acc:-D)(δ:aJ),I i acc δ →
  (∀j d acc δ (L:-D->aJ->Prop),items[j]?=U d->I (i+j) acc δ->(∀cZ δ',I (i+j+1) cZ δ'->L cZ δ')->uI δ0 bQ g t f d acc δ L) →
  (∀acc δ,I (i+↑items) acc δ->bQ δ/\K acc δ)->jJ δ0 bQ g t f K items acc δ
 |[],i,acc,δ,h,_,fin=>fin acc δ h
 |d::r,i,acc,δ,h,st,fin=>by
  unfold jJ;calc st 0 d acc δ (λcZ δ'=>jJ δ0 bQ g t f K r cZ δ') Y h λcZ δ' hi=>?_;refine Hi I r (i+1) cZ _ hi (λj e acc δ L hj hI hL=>?_) λacc δ hI=>?_
  .let e:i+1+j=i+(j+1):=by symm
   rw[e] at hI hL;exact st (j+1) _ acc δ L hj⁻¹ hI hL
  .exact fin acc δ (by rw[NG];let e:i+1+↑r=i+(↑r+1):=by symm
                       rw[e] at hI;calc hI)
theorem AE{δ0:aJ}{bQ:aJ->Prop}{g:WG}{t:WT}{f:WE}{K:-D->aJ->Prop}{items:-D}{δ:aJ}(I:Nat->-D->aJ->Prop)(h0:I 0 [] δ)
  (st:∀j d acc δ (L:-D->aJ->Prop),items[j]?=U d->I j acc δ->(∀cZ δ',I (j+1) cZ δ'->L cZ δ')->uI δ0 bQ g t f d acc δ L)
  (fin:∀acc δ,I ↑items acc δ->bQ δ/\K acc δ):jJ δ0 bQ g t f K items [] δ :=
 Hi I items 0 [] δ h0 (λj d acc δ L hj hI hL=>by rw[YF] at hI hL;calc st j d acc δ L hj hI hL) λacc δ hI=>by rw[YF] at hI;calc fin acc δ hI
theorem nA{δ0:aJ}{bQ:aJ->Prop}{g:WG}{t:WT}{f:WE}{K:-D->aJ->Prop}{items:-D}(p:D->Bool)(fn:D->D)(hl:↑items<=1000)(hc:bQ δ0)
  (st:∀d∈items,∀acc (L:-D->aJ->Prop),↑acc<1000->(p d=θ->L (acc++[fn d]) δ0)->(p d=ι->L acc δ0)->uI δ0 bQ g t f d acc δ0 L)
  (fin:K ((items.filter p).map fn) δ0):jJ δ0 bQ g t f K items [] δ0:=by
 refine AE (λi acc δ=>δ=δ0/\acc=((items.take i).filter p).map fn) ⟨Y,Y⟩ ?_ ?_
 .ext j d acc δ L hj ⟨rfl,rfl⟩ hL
  let fL:=(qV.mp hj).1;let hm:d∈items:=Yl hj
  let hn:↑(((items.take j).filter p).map fn)<1000:=by
   rw[pR];let:=q2i p (items.take j);rw[Yb] at this;symm
  let e:items.take (j+1)=items.take j++[d]:=by rw[q0O,hj];rfl
  refine st d hm _ L hn (λq=>hL _ _ ⟨Y,?_⟩) (λq=>hL _ _ ⟨Y,?_⟩)
  .rw[e,q23,XY];simp[q6o,q]
  .rw[e,q23,XY];simp[q6o,q]
 .ext acc δ ⟨rfl,rfl⟩
  rw[YI (Fm _)];calc⟨hc,fin⟩
theorem l6{δ0:aJ}{bQ:aJ->Prop}{g:WG}{t:WT}{f:WE}{K:-D->aJ->Prop}{items:-D}(fn:D->D)(hl:↑items<=1000)(hc:bQ δ0)
  (st:∀d∈items,∀acc (L:-D->aJ->Prop),↑acc<1000->L (acc++[fn d]) δ0->uI δ0 bQ g t f d acc δ0 L)
  (fin:K (items.map fn) δ0):jJ δ0 bQ g t f K items [] δ0 :=
 nA (λ_=>θ) fn hl hc (λd hd acc L ha h _=>st d hd acc L ha (h Y)) (by rw[List.filter_eq_self.mpr λ_ _=>Y];calc fin)
end L2
namespace LJ
open PySem L2
theorem Hj:bootBuiltins "range" = U (.type "range"):=by decide +kernel
theorem PW:bootBuiltins "sum" = U (.builtin "sum"):=by decide +kernel
theorem PX:bootBuiltins "max" = U (.builtin "max"):=by decide +kernel
theorem PY:bootBuiltins "min" = U (.builtin "min"):=by decide +kernel
theorem wQ:bootBuiltins "sorted" = U (.builtin "sorted"):=by decide +kernel
structure BT(mg:J->Option L):Prop where
 len:mg "len" = Z
 range:mg "range" = Z
 list:mg "list" = Z
 tuple:mg "tuple" = Z
 set:mg "set" = Z
 sorted:mg "sorted" = Z
 min:mg "min" = Z
 max:mg "max" = Z
 sum:mg "sum" = Z
 all:mg "all" = Z
 any:mg "any" = Z
 enumerate:mg "enumerate" = Z
 zip:mg "zip" = Z
 isinstance:mg "isinstance" = Z
 int:mg "int" = Z
 bool:mg "bool" = Z
 str:mg "str" = Z
 repr:mg "repr" = Z
end LJ
namespace L2
open PySem PySem.Spec PyProof.Rows
variable[aM]
def wR(X:Cx)(f:L)(g:-D->(-D->Prop)->Prop):Prop :=
 gO X f λxs H Q=>∃F ds K,aO F H/\jf F H ds xs/\g ds K/\∀zs vs a,K zs->H a=Z->ah F zs vs->Q (.ref a) (upd H a (.lst vs))
def rK(fa:WA)(op:-D->(-D->Prop)->Prop):WE:=fun δ K=>fa δ λxs δ1=>lh xs δ1 λds=>op ds λzs=>K (.o ↑δ1.mu) ⟨δ1.sl,δ1.mu++[U (.lst zs)]⟩
def wU:-D->(-D->Prop)->Prop
 |[.lst ds],K=>K ds
 |[.tup ds],K=>K ds
 |_,_=>False
def wV:-D->(-D->Prop)->Prop
 |[.lst ds],K=>match intsOf ds with
  |some ns=>ns.length<64/\K ((sortI ns).map D.int)
  |none=>False
 |_,_=>False
section
variable{X:Cx}{fa:WA}{pos:y}
theorem AF{F H:Hp}{ad:-O}{δ:aJ}{σ:St}{p:O}(S:SR F ad δ σ H):dF F (ad++[p]) (.o ↑δ.mu) (.ref p) :=
 ⟨p,by rw[<-S.bX,NK (Fm _),Yv];rfl,Y⟩
theorem Hk{r:-V->Hp->VK->Prop}{op:-D->(-D->Prop)->Prop}(hr:∀xs H Q,(∃F ds K,aO F H/\jf F H ds xs/\op ds K/\∀zs vs a,K zs->H a=Z->ah F zs vs->Q (.ref a) (upd H a (.lst vs)))->r xs H Q):∀σ H Q,tD (rK fa op) σ H Q->sX r (b_ fa) σ H Q:=by
 ext σ H Q ⟨F,ad,δ,K,S,q,k⟩;calc⟨F,ad,δ,_,S,q,λxs δ1 h1 vs F1 aW H1 E1 S1 V1=>hr _ _ _ ?_⟩;let⟨ds,h2,pW⟩:=v_ S1 V1 h1;calc⟨F1,ds,_,S1.sub,pW,h2,λzs us a hz hp is=>?_⟩;let oi:∀{jG},eJ F1 jG (.lst zs) (.lst us):=λ{jG}=>⟨us,Y,is⟩;calc k _ _ hz _ _ _ _ (E1.trans (Ext.own S1 hp)) (S1.own hp oi) (AF S1)
theorem PZ{x:J}{p:y}{e:M}{es:-M}{id:String}{o:-D->(-D->Prop)->Prop}(hc:wR X (.builtin id) o)(hg:Gl X x)(hm:X.mg x=Z)(hv:bootBuiltins x=U (.builtin id))(ha:JA X (e::es) (b_ fa))(hn:x≠"__name__" := by decide)(cV: ~~~(bL x))
  (he:‹cj X e es›) (cw:‹cF X pos es›):JE X (.Call (.Name x p) (e::es) [] pos) (tD (rK fa o)) :=
 (vO hc hg hm hv ha hn cV he cw).weak (Hk λ_ _ _ h=>h)
theorem P0{x:J}{p:y}{e:M}{es:-M}{T:String}{o:-D->(-D->Prop)->Prop}(hc:wR X (.type T) o)(hg:Gl X x)(hm:X.mg x=Z)(hv:bootBuiltins x=U (.type T))(ha:JA X (e::es) (b_ fa))(hn:x≠"__name__" := by decide)(cV: ~~~(bL x))
  (he:‹cj X e es›) (cw:‹cF X pos es›):JE X (.Call (.Name x p) (e::es) [] pos) (tD (rK fa o)) :=
 (oq hc hg hm hv ha hn cV he cw).weak (Hk λ_ _ _ h=>h)
theorem P8:wR X (.type "list") wU:=by
 ext pins s σ H xs us Q I r ⟨F,ds,K,sub,rd,q,md⟩;unfold wU at q;split at q
 .let⟨v,rfl,a,vs,rfl,h1,h2⟩:=c8 rd
  exact tG pins s σ H _ us Q I r ⟨a,vs,Y,.inl (bE.of h1),λl hl=>md _ _ _ q hl h2⟩
 .rename_i es
  let⟨v,rfl,h⟩:=c8 rd;let h:Is F (.tup es) v:=h;erw[Is] at h;let⟨a,vs,rfl,h1,h2⟩:=h;exact tG pins s σ H _ us Q I r ⟨a,vs,Y,.inr (bV.of (sub _ _ h1)),λl hl=>md _ _ _ q hl h2⟩
 .calc q.elim
theorem P9:wR X (.builtin "sorted") wV:=by
 ext pins s σ H xs us Q I r ⟨F,ds,K,sub,rd,q,md⟩;unfold wV at q;split at q
 .rename_i es
  split at q
  .rename_i ns e
   let⟨v,rfl,a,vs,rfl,h1,h2⟩:=c8 rd;rw[rB e] at h2;rw[oQ h2] at h1;calc Gb pins s σ H _ us Q I r ⟨a,ns,Y,bE.of h1,q.1,λl bO pm pw hl=>?_⟩;rw[As pm pw];exact md _ _ _ q.2 hl qf
  .exact q.elim
 .calc q.elim
def AG(f g:WE):WE:=fun δ K=>f δ λx δ1=>g δ1 λy δ2=>hZ x δ2 λd=>hZ y δ2 λe=>match d,e with
 |.lst a,.lst b=>↑a+↑b<=1000/\K (.o ↑δ2.mu) ⟨δ2.sl,δ2.mu++[U (.lst (a++b))]⟩
 |_,_=>False
theorem P_{a b:M}{f g:WE}(ha:JE X a (tD f))(hb:JE X b (tD g)):JE X (.BinOp a .Add b pos) (tD (AG f g)) :=
 (sR Fi ha hb).weak fun σ H Q ⟨F,ad,δ,K,S,q,k⟩↦⟨F,ad,δ,_,S,q,λx δ1 h1 v1 F1 aW H1 E1 S1 V1=>⟨F1,aW,δ1,_,S1,h1,λy δ2 h2 v2 F2 bP H2 E2 S2 V2=>by
  let⟨d,h3,rd⟩:=jF S2 (V1.ext E2) h2;let⟨e,h4,re⟩:=jF S2 V2 h3;split at h4
  .rename_i as bs
   let⟨a,us,rfl,g1,g2⟩:=rd;let⟨b,ws,rfl,g3,g4⟩:=re;let oi:∀{jG},eJ F2 jG (.lst (as++bs)) (.lst (us++ws)):=λ{jG}=>⟨_,Y,rC g2 g4⟩;exact⟨a,b,us,ws,Y,Y,g1,g3,lj (by rw[↑g2,↑g4];calc h4.1),λp hp=>k _ _ h4.2 _ _ _ _ ((E1.trans E2).trans (Ext.own S2 hp)) (S2.own hp oi) (AF S2)⟩
  .calc h4.elim⟩⟩
theorem rL[d_]{st:R}:JS X st (cY lV):=⟨λpins s D σ H I q=>by let⟨F,ad,δ,K,S,q,k⟩:=q;calc q.elim⟩
end
end L2
namespace LJS
open PySem PySem.SetTable PyProof.Rows
section
variable{prog:t}{w:X}{A:q}{S:O}{ks:-Int}
end
end LJS
namespace L2
open PySem PySem.Spec PyProof.Rows
section
variable{X:Cx}
end
end L2
namespace LJS
open PySem PySem.SetTable PyProof.Rows
section
variable{t:SetTable}{f:Nat->Int}{h:Int}
end
section
variable{hk:Nat->Int}{ad:Nat->O}{t:SetTable}{es:Array (Int×L)}{js:-Nat}
end
section
variable{prog:t}{w:X}{A:q}{E:bc}{s:B}{ad:Nat->O}{ks:Nat->-Int}{js:-Nat}{S:O}
end
section
variable{prog:t}{w:X}{A:q}{R:Result->B->Prop}{I S:O}{fp wr:-O}{G:Array GenState->Array GenState->Prop}{n:Nat}{P:Nat->L->Prop}{St:Nat->B->Prop}
end
section
variable{prog:t}{w:X}{A:q}{E:bc}{s:B}
end
end LJS
namespace L2
open PySem PySem.Spec PyProof.Rows
variable[aM]
noncomputable def Qa:-D->Option (-(Int×Int))
 |[]=>U []
 |.tup [.int i,.int j]::r=>match Qa r with
  |some ps=>U ((i,j)::ps)
  |none=>Z
 |_=>Z
noncomputable def AH(ps:-(Int×Int)):Nat->-(Int×Int)
 |0=>[]
 |i+1=>if ps.getD i (0,0)∈AH ps i then AH ps i else AH ps i++[ps.getD i (0,0)]
section
variable{X:Cx}{fa:WA}
theorem Hl{F:Hp}:∀{ps:-(Int×Int)}{vs:-V},ah F (ps.map λp=>D.tup [.int p.1,.int p.2]) vs->∃as:-O,vs=as.map V.ref/\↑as=↑ps/\∀(i:Nat)(a:O)(k:Int×Int),as[i]?=U a->ps[i]?=U k->F a=U (.tup [.int k.1,.int k.2])
 |[],vs,h=>by
  let h:vs=[]:=by simpa only [Zy,ah] using h
  subst h;exact⟨[],Y,Y,λi a k e=>by simp at e⟩
 |p::r,vs,h=>by
  rw[X0] at h;erw[ah] at h;let⟨v,r',rfl,h1,h2⟩:=h;let⟨as,rfl,hl,g⟩:=Hl h2;erw[Is] at h1;let⟨a,us,rfl,e1,e2⟩:=h1;erw[ah,Is] at e2;let⟨_,_,rfl,rfl,_,_,rfl,rfl,rfl⟩:=e2;refine⟨a::as,Y,by rw[NG,NG,hl],λi b k eb ek=>?_⟩
  cases i with
  |zero =>
   cases(show U a=U b by simpa using eb)
   cases(show U p=U k by simpa using ek)
   exact e1
  |succ i=>calc g i b k eb⁻¹ ek⁻¹
end
end L2
namespace HT
open PySem PySem.Spec PyProof.Rows
section
variable{prog:t}{w:X}{A:q}{E:bc}{s:B}
theorem Qb{t b:O}{ws:-L}{Q:bc}(ht:IsTup s.heap t #[])(hb:IsTup s.heap b ws.toArray)(h:Q (.ref b) s):G (S prog w) A (binaryOp .Add (.ref t) (.ref b)) Q E s:=by
 let⟨⟨cls,dd,data,sl⟩,ho,hc,n,hd⟩:=id ht;let⟨⟨s_,ot,data2,ou⟩,hW,kB,n2,hd2⟩:=id hb;simp only at hc hd kB hd2;subst hc hd kB hd2
 exact q3g ⟨_,ho,Y⟩ ⟨_,hW,Y⟩ q1K q2J q0L q0C (q0q _ _)
  (tuple_addW0 t b #[] ws.toArray n n2 dd ot sl ou Y) ⟨ho,hW,h⟩
theorem Qc{t sl:O}{items:Array L}{vl vu:L}{lo hi:Option Int}{Q:bc}(ht:IsTup s.heap t items)(hs:s.heap.IsSliceOf sl vl vu .none)(pl:IsPart vl lo)(pu:IsPart vu hi)
  (hw:bt items.size 0 lo=0/\bt items.size items.size hi=items.size) (h:Q (.ref t) s):G (S prog w) A (getItem (.ref t) (.ref sl)) Q E s:=by
 let⟨os,jX,mF,lU⟩:=id hs;let tw:s.TypeIs (.ref sl) "slice" := ⟨os,jX,mF⟩;unfold getItem
 try with_reducible refine Yw ?_
 first|refine tH (NH ?_)|skip
 refine tH (q1A ht.typeIs (by decide) ?_)
 refine tH (ZD (name:=Z0 "__getitem__") ht.typeIs Ye
  (q0k Ye ht.typeIs q07 ?_ (q1j _ _)))
 show G _ _ (q0j (.ref t) >>= _) _ _ s;calc tH (q2K ht ?_);calc tH (q1Z tw ?_);rw[XI (by decide)];calc tH (EW hs pl pu ?_);show G _ _ (if(((bt items.size 0 lo:Nat):Int)==0&&(1:Int)==1&&(bt items.size items.size hi-bt items.size 0 lo)==items.size)=θ then _ else _) _ _ s;rw[XI (by rw[hw.1,hw.2];simp)];unfold Builtin.Tuple.tupleIsExact;calc tH (tH (q1Z ht.typeIs (NH ?_)));rw[XI (by decide)];calc tH (q4m ?_);calc NH ⟨_,Y,NH h⟩
theorem Qd{sl:O}{n:Nat}{t:Tok}{Q:Int×Int×Nat->B->Prop}(hs:s.heap.IsSliceOf sl .none .none (.int (-1) t))
  (h:Q ((n:Int)-1,-1,n) s):G (S prog w) A (ZK (.ref sl) (pure (n:Int))) Q E s:=by
 let⟨os,jX,mF,lU⟩:=id hs;unfold ZK q1t;calc tH (tH (ZA jX lU (x:=.none) Y (tH (ZA jX lU (x:=.none) Y (tH (ZA jX lU (x:=.int (-1) t) Y (NH ?_)))))));calc tH (tu (.int (-1) t) ?_);show G _ _ (if((-1:Int)==0)=θ then _ else _) _ _ s;rw[WK (by decide)];calc tH (tu .none (tH (tu .none (tH (NH ?_)))));refine NH ?_
 let e:YE ((n:Int)-1) (-1) (-1)=n:=by
  unfold YE;rw[WK (by decide)];split
  .rename_i c
   rw[show -(-1:Int)=1 by decide,q3h];symm
  .omega
 show Q ((n:Int)-1,-1,YE ((n:Int)-1) (-1) (-1)) s;rw[e];calc h
theorem Qe{t sl:O}{au:-L}{tk:Tok}{Q:bc}(ht:IsTup s.heap t au.toArray)(hs:s.heap.IsSliceOf sl .none .none (.int (-1) tk))
  (h:Q (.ref ⇑s) {s with heap:=s.heap.push {cls:=.type "tuple",data:=.seq au.reverse.toArray}}) (hsz:↑au<=sizeLine):G (S prog w) A (getItem (.ref t) (.ref sl)) Q E s:=by
 let eF:sizeOk (.seq au.reverse.toArray):=by
  show au.reverse.toArray.size<=sizeLine;rw[Fp,Y1];exact hsz
 let⟨os,jX,mF,lU⟩:=id hs;let tw:s.TypeIs (.ref sl) "slice" := ⟨os,jX,mF⟩;unfold getItem
 try with_reducible refine Yw ?_
 first|refine tH (NH ?_)|skip
 refine tH (q1A ht.typeIs (by decide) ?_)
 refine tH (ZD (name:=Z0 "__getitem__") ht.typeIs Ye
  (q0k Ye ht.typeIs q07 ?_ (q1j _ _)))
 show G _ _ (q0j (.ref t) >>= _) _ _ s;calc tH (q2K ht ?_);calc tH (q1Z tw ?_);rw[XI (by decide)];calc tH (Qd hs ?_);show G _ _ (if((((au.toArray.size:Int)-1))==0&&(-1:Int)==1&&au.toArray.size==au.toArray.size)=θ then _ else _) _ _ s;rw[WK (by simp)]
 let e:((X_ au.toArray.size).filterMap λ(k:Nat)=>au.toArray[((au.toArray.size:Int)-1+(k:Int) * -1).toNat]?).toArray=au.reverse.toArray:=by
  congr 1;rw[Fp];refine Z_ λi=>?_
  let all:∀k∈X_ ↑au,((au.toArray[((↑au:Int)-1+(k:Int) * -1).toNat]?)).isSome=θ:=λk hk=>by
   let:=Yo.mp hk;rw[Y7,pQ ⋯];rfl
  let fm:∀l:-Nat,(∀k∈l,((au.toArray[((↑au:Int)-1+(k:Int) * -1).toNat]?)).isSome=θ)->∀i:Nat,(l.filterMap λ(k:Nat)=>au.toArray[((↑au:Int)-1+(k:Int) * -1).toNat]?)[i]?=(l[i]?).bind λk=>au.toArray[((↑au:Int)-1+(k:Int) * -1).toNat]?:=by
   ext l
   induction l with
   |nil=>ext _ i;simp
   |cons k r ih =>
    ext hk i;let⟨v,hv⟩:=q0p.mp (hk k NJ);rw[ZH,hv];dsimp only
    cases i with
    |zero=>exact hv.symm
    |succ i=>simpa using ih (λk' lY=>hk k' (WH _ lY)) i
  rw[fm _ all]
  by_cases c:i<↑au
  .rw[Y0 c,List.getElem?_reverse c]
   show au.toArray[((↑au:Int)-1+(i:Int) * -1).toNat]?=_;rw[Y7];congr 1;symm
  .rw[Yy (by rw[Ys];symm),Yy (by rw[Y1];symm)];rfl
 rw[e]
 first
  |exact tH (m:=Yx _) (Yu (NH ⟨_,Y,NH h⟩) eF)
  |exact tH (m:=Yx _) (Yu (tH (NH (NH ⟨_,Y,NH h⟩))) eF)
  |exact tH (tH (m:=Yx _) (Yu (NH (NH ⟨_,Y,NH h⟩)) eF))
  |calc tH (tH (m:=Yx _) (Yu (NH ⟨_,Y,NH h⟩) eF))
end
end HT
namespace L2
open PySem PySem.Spec PyProof.Rows
variable[aM]
section
variable{X:Cx}{e:M}{te:TE}{pos p2 p3 p4:y}
def Qf(K:vS):V->Option Int->Option Int->Hp->VK->Prop:=λx lo hi H Q=>∃a xs,x=.ref a/\bV K H a xs ∧
 (HT.bt ↑xs 0 lo=0/\HT.bt ↑xs ↑xs hi=↑xs->Q (.ref a) H)/\(¬ (HT.bt ↑xs 0 lo=0/\HT.bt ↑xs ↑xs hi=↑xs)->∀p,H p=Z->Q (.ref p) (upd H p (.tup (dy xs lo hi))))
theorem Qg:oz X (Qf X.K):=by
 ext pins s σ H x v vl vu lo hi sl Q I rx hs pl pu h;let⟨a,xs,rfl,hx,q1,q2⟩:=h
 by_cases hw:HT.bt ↑xs 0 lo=0/\HT.bt ↑xs ↑xs hi=↑xs
 .cases rx
  let⟨au,r,ht,hz⟩:=I.tuple hx;let hlen:au.toArray.size=↑xs:=by rw[Fp];exact r.length.symm
  calc⟨"tuple",_,Ye.lookup,ht.typeIs,?_⟩;exact HT.Qc ht hs pl pu (by rw[hlen];calc hw) ⟨.ref a,H,I,Y,q1 hw⟩
 .calc Nm pins s σ H _ v vl vu lo hi sl Q I rx hs pl pu ⟨a,xs,Y,hx,hw,q2 hw⟩
def Qh(K:vS)(te:TE):TE:=fun σ H Q=>te σ H λx H1=>(∃a xs,x=.ref a/\bE K H1 a xs/\∀p,H1 p=Z->Q (.ref p) (upd H1 p (.lst xs.reverse)))\/∃a xs,x=.ref a/\bV K H1 a xs/\∀p,H1 p=Z->Q (.ref p) (upd H1 p (.tup xs.reverse))
theorem Qi{j1}(he:JE X e te):JE X (.Subscript e (.Slice Z Z (U (.UnaryOp .USub (.Constant (.int 1) j1 p3) p4)) p2) pos) (Qh X.K te):=by
 calc⟨?_⟩;ext pins s σ H Q I h;calc Subscript_ (bg (he pins s σ H _ I h) ?_);ext v s1 ⟨x,H1,I1,r1,q1⟩;calc wpAny_Slice ?_;rw[q2L];calc NH ?_;calc NH ?_;rw[q4B];let h1:=EE (X:=X) EG (mx (X:=X) (i:=1) (j:=j1) (pos:=p3)) (pos:=p4) pins s1 σ H1 (λv H2=>v=.int (-1)/\H2=H1) I1 ⟨1,Y,Y,Y⟩;calc bg h1 ?_;ext u s3 ⟨y,H3,I3,ry,ey,eH⟩;subst ey eH;let⟨t,rfl⟩:=ry;let I4:Inv X pins σ H3 {s3 with heap:=s3.heap.push {cls:=.type "slice",data:=.fields #[.none,.none,.int (-1) t]}}:=I3.kept (t':=s3.toks) λb ob q=>zk _ q;rcases q1 with⟨a,xs,rfl,hx,q⟩|⟨a,xs,rfl,hx,q⟩
 .cases r1
  let⟨au,r,ht,hz⟩:=I4.list hx;let hlen:=↑r;calc q4e (ops:=[.ref a,.ref ⇑s3]) ht.isList.typeIs q1B.lookup ?_ (by with_unfolding_all rfl);calc q1F ht.isList (q1k ..) .none .none (.int (-1) t) (by decide) ?_ (by rw[Fp]<;>symm);rw[OP];calc⟨.ref _,_,I4.laid (t':=s3.toks) (o:=.lst xs.reverse) (λb ob q=>zk _ q) (Fm _) ?_,Y,q _ (I4.aY.fresh (Fm _))⟩;exact⟨by rw[Y1];calc hz,_,0,zP r,WL _ Y⟩
 .cases r1
  let⟨au,r,ht,hz⟩:=I4.tuple hx;let hlen:=↑r;calc q4e (ops:=[.ref a,.ref ⇑s3]) ht.typeIs Ye.lookup ?_ (by with_unfolding_all rfl);calc HT.Qe ht (q1k ..) ?_ ⋯;calc⟨.ref _,_,I4.laid (t':=s3.toks) (o:=.tup xs.reverse) (λb ob q=>zk _ q) (Fm _) ?_,Y,q _ (I4.aY.fresh (Fm _))⟩;calc⟨by rw[Y1];calc hz,_,zP r,q3A _ _⟩
theorem Qj:eT X (binaryOp .Add) (λx y H Q=>∃a b ys,x=.ref a/\y=.ref b/\bV X.K H a []/\bV X.K H b ys/\Q (.ref b) H):=by
 ext pins s σ H x y v u Q I rx ry h;let⟨a,b,ys,rfl,rfl,ha,hb,q⟩:=h;cases rx
 cases ry
 let⟨au,r1,p1,_⟩:=I.tuple ha;let⟨bD,r2,p2,_⟩:=I.tuple hb;let:au=[]:=r1.fN.mpr Y;subst this;calc HT.Qb p1 p2 ⟨.ref b,H,I,Y,q⟩
theorem Qk:eT X (compareOp .IsNot) (λx y H Q=>∃a b,x=.bl a/\y=.bl b/\Q (.bl (!(a==b))) H):=by
 ext pins s σ H x y v u Q I rx ry h;let⟨a,b,rfl,rfl,q⟩:=h;cases rx
 cases ry
 calc NH ⟨.bl (!(a==b)),H,I,by cases a<;>cases b<;>rfl,q⟩
def cS:D->D->(D->Prop)->Prop
 |.int i,.int j,K=>K (.int (i+j))
 |.lst a,.lst b,K=>↑a+↑b<=1000/\K (.lst (a++b))
 |.tup a,.tup b,K=>↑a+↑b<=1000/\K (.tup (a++b))
 |.str a,.str b,K=>↑a+↑b<=1000/\K (.str (a++b))
 |_,_,_=>False
theorem AI:fO X (binaryOp .Add) cS:=by
 ext pins s σ H x y v u Q I rx ry ⟨F,d,e,K,sub,rd,re,q,md⟩;unfold cS at q;split at q
 .exact wI pins s σ H x y v u Q I rx ry ⟨F,_,_,K,sub,rd,re,q,md⟩
 .exact wI pins s σ H x y v u Q I rx ry ⟨F,_,_,K,sub,rd,re,q,md⟩
 .rename_i as bs
  by_cases c:as=[]
  .subst c
   let c8:Is F (.tup []) x:=rd;let iE:Is F (.tup bs) y:=re;let Ql:=iE;erw[Is] at c8 iE;let⟨a,us,rfl,h1,h2⟩:=c8;let⟨b,ws,rfl,h3,h4⟩:=iE;let:us=[]:=by simpa only [ah] using h2
   subst this;exact Qj pins s σ H _ _ v u Q I rx ry ⟨a,b,ws,Y,Y,bV.of (sub _ _ h1),bV.of (sub _ _ h3),md _ _ _ q.2 (λ_ _ e=>e) (uB sub Ql)⟩
  .exact wI pins s σ H x y v u Q I rx ry ⟨F,_,_,K,sub,rd,re,⟨⟨c,q.1⟩,q.2⟩,md⟩
 .exact wI pins s σ H x y v u Q I rx ry ⟨F,_,_,K,sub,rd,re,q,md⟩
 .calc q.elim
def qq:D->Option Int->Option Int->(D->Prop)->Prop
 |.lst ds,lo,hi,K=>K (.lst (cutD ds lo hi))
 |.tup ds,lo,hi,K=>K (.tup (cutD ds lo hi))
 |_,_,_,_=>False
def gy(f:WE)(l h:WO):WE:=fun δ K=>f δ λx δ1=>l δ1 λlo δ2=>h δ2 λhi δ3=>hZ x δ3 λd=>qq d lo hi λz=>K (.p z) δ3
theorem Qm{ds:-D}{lo hi:Option Int}(h:HT.bt ↑ds 0 lo=0/\HT.bt ↑ds ↑ds hi=↑ds):cutD ds lo hi=ds:=by
 unfold cutD;rw[h.1,h.2,q1n,q3p,YI (Fm _)]
theorem Hm{e:M}{f:WE}{lo hi:Option M}{l h:WO}{pos p2:y}(he:JE X e (tD f))(hl:PO X lo (wJ l))(hh:PO X hi (wJ h)):JE X (.Subscript e (.Slice lo hi Z p2) pos) (tD (gy f l h)) :=
 (yV (gQ.or Qg) he hl hh).weak fun σ H Q ⟨F,ad,δ,K,S,q,k⟩=>⟨F,ad,δ,_,S,q,λx δ1 h1 v F1 aW H1 E1 S1 V1=>⟨F1,aW,δ1,_,S1,h1,λlo δ2 h2 F2 bP H2 E2 S2=>⟨F2,bP,δ2,_,S2,h2,λhi δ3 h3 F3 rm H3 E3 S3=>by
  let⟨d,h4,rd⟩:=jF S3 ((V1.ext E2).ext E3) h3;let AJ:=(E1.trans E2).trans E3;unfold qq at h4;split at h4
  .rename_i ds
   let⟨a,vs,rfl,g1,g2⟩:=rd;calc .inl ⟨a,vs,Y,bE.of g1,λp hp=>?_⟩;exact k _ _ h4 _ _ _ _ (AJ.trans (Ext.al S3 (cL hp))) (S3.al (cL hp)) (oR S3.sub hp (GW g2 _ _))
  .rename_i ds
   let c8:Is F3 (.tup ds) v:=rd;let Qn:=c8;erw[Is] at c8;let⟨a,vs,rfl,g1,g2⟩:=c8;refine .inr ⟨a,vs,Y,bV.of (S3.sub _ _ g1),λhw=>?_,λ_ p hp=>?_⟩
   .rw[↑g2] at hw
    rw[Qm hw] at h4;exact k _ _ h4 _ _ _ _ AJ S3 Qn
   .exact k _ _ h4 _ _ _ _ (AJ.trans (Ext.al S3 (cL hp))) (S3.al (cL hp)) (wG S3.sub hp (GW g2 _ _))
  .calc h4.elim⟩⟩⟩
def wW:D->(D->Prop)->Prop
 |.lst ds,K=>K (.lst ds.reverse)
 |.tup ds,K=>K (.tup ds.reverse)
 |_,_=>False
theorem Qo{e:M}{f:WE}{j1}{pos p2 p3 p4:y}(he:JE X e (tD f)):JE X (.Subscript e (.Slice Z Z (U (.UnaryOp .USub (.Constant (.int 1) j1 p3) p4)) p2) pos) (tD (d1 f wW)) :=
 (Qi he).weak fun σ H Q ⟨F,ad,δ,K,S,q,k⟩=>⟨F,ad,δ,_,S,q,λx δ1 h1 v F1 aW H1 E1 S1 V1=>by
  let⟨d,h4,rd⟩:=jF S1 V1 h1;unfold wW at h4;split at h4
  .rename_i ds
   let⟨a,vs,rfl,g1,g2⟩:=rd;calc .inl ⟨a,vs,Y,bE.of g1,λp hp=>?_⟩;exact k _ _ h4 _ _ _ _ (E1.trans (Ext.al S1 (cL hp))) (S1.al (cL hp)) (oR S1.sub hp (Am g2))
  .rename_i ds
   let c8:Is F1 (.tup ds) v:=rd;erw[Is] at c8;let⟨a,vs,rfl,g1,g2⟩:=c8;calc .inr ⟨a,vs,Y,bV.of (S1.sub _ _ g1),λp hp=>?_⟩;exact k _ _ h4 _ _ _ _ (E1.trans (Ext.al S1 (cL hp))) (S1.al (cL hp)) (wG S1.sub hp (Am g2))
  .calc h4.elim⟩
def nB:D->D->(D->Prop)->Prop
 |.bl a,.bl b,K=>K (.bl (!(a==b)))
 |d,e,K=>qh d e K
theorem AK:fO X (compareOp .IsNot) nB:=by
 ext pins s σ H x y v u Q I rx ry ⟨F,d,e,K,sub,rd,re,q,md⟩;unfold nB at q;split at q
 .rename_i a b
  exact Qk pins s σ H x y v u Q I rx ry ⟨a,b,rd,re,md _ _ _ q (λ_ _ e=>e) Y⟩
 .calc Pu pins s σ H x y v u Q I rx ry ⟨F,_,_,K,sub,rd,re,q,md⟩
end
end L2
namespace L2
open PySem PySem.Spec PyProof.Rows
variable[aM]{X:Cx}
def wX(_ j:Int):Prop:=j≠0/\j.natAbs<10 ^ 40
theorem Qp:fO X (binaryOp .FloorDiv) (d4 wX λi j=>.int (i.fdiv j)):=An (vI λi j _ _ _ _ _ hc q=>floordiv_int hc.1 q (.inl (PyProof.noPylong_of_log2 ((Nat.log2_lt (Int.natAbs_ne_zero.mpr hc.1)).mpr (XN hc.2 (Yi (by decide:10 ^ 40<=2 ^ 200) (Nat.pow_le_pow_right (by decide) (by decide)))))))) λ_ _ _=>Y
end L2
open L2
open Lean in
local macro_rules
 |`(tactic|simp![$ls,*] $[$loc:location]?)=>do
  let t:=("q3H dep:2 bG:2 YD Nat.max_self Nat.max_zero Nat.zero_max Nat.reduceLeDiff aw aP dN rK aq ai d1 d2 dC aa lh:2 hZ:3 mR:3 j7:2 aJ.fix Gj:2 bz cN q_ dT pZ:1 jg kG dJ rh mS p8 zS dz iR aR bA b7 mV:1 jI:1 oN j8 fH fV mW fh cA rq:3 l3 Ae nh Af:2 dM aA uv passes:4 jk:2 cC:1 m8:4 uu:1 a5:3 qg:4 cS:4 qq:2 gy wW:2 nB:1 lV nu:1 gw:2 oI:1 d4:1 oEq kH oLt:2 iF qh kI:2 cm:3 uE:2 wU:2 rD:2 rF:1 wK:1 jm:1 jn Au AG gx l5 qm fW:1 ly ql AA ny Aq mZ uI aJ.trim gv:2 wo:3 Option.join_some Option.join_none X0 Zy List.cons_append Zr YM q2A q1N q0D List.getElem?_nil YU YV NG Z5 q2x q0M List.take_nil List.any_nil ZQ Bool.not_false q4w q4E Bool.and_self q4C Ze Bool.true_eq_false q1z q0f true_and and_true and_self reduceCtorEq beq_self_eq_true YF Nat.reduceAdd Nat.reduceLT Nat.reduceEqDiff Nat.reduceSub pR Fs".splitOn " ").map (·.splitOn ":")
  let m:List String->MacroM (Syntax.TSepArray [`Lean.Parser.Tactic.simpStar,`Lean.Parser.Tactic.simpErase,`Lean.Parser.Tactic.simpLemma] ","):=λl=>do
   let a←l.toArray.mapM λs=>`(Parser.Tactic.simpLemma|$(mkIdent s.toName):ident)
   pure ⟨(Syntax.SepArray.ofElems (sep:=",") ((a.push (←`(Parser.Tactic.simpLemma|↓reduceIte))).map (·.raw)++ls.getElems.map (·.raw))).elemsAndSeps⟩
  let a←m (t.map (·.head!))
  let d←m (t.flatMap fun|[x,n]=>(List.range n.toNat!).map λk=>s!"{x}.eq_{k+1}"|x=>x)
  if loc.isSome then `(tactic|simp only[$a,*] $[$loc]?) else `(tactic|first|((set_option backward.dsimp.useDefEqAttr false in dsimp only[$(⟨d.elemsAndSeps⟩),*]);try simp only[$a,*])|simp only[$a,*])
local macro_rules | `(tactic| simp! $[$l:location]?) => `(tactic| simp! [] $[$l]?)
set_option maxHeartbeats 8000000
namespace LJ
open PySem L2
variable[aM]
theorem Hn{ns:-Int}{k:Int}(h0:0<=k)(h1:k<(ns.length:Int)):∃n,eU (ns.map D.int) k=U (.int n):=by
 let⟨i,rfl⟩:∃i:Nat,k=i:=⟨k.toNat,⋯⟩;let hi:i<ns.length:=by symm
 calc⟨ns[i],jC ?_⟩;rw[WD,pQ hi];rfl
theorem dj{α:Type}{x:α}{r:-α}:eU (x::r) 0=U x:=jC (j:=0) Y
theorem c_{α:Type}{x y:α}{r:-α}:eU (x::y::r) 1=U y:=jC (j:=1) Y
theorem at2{α:Type}{x y z:α}{r:-α}:eU (x::y::z::r) 2=U z:=jC (j:=2) Y
theorem uJ{a b A B:Int}(h0:0<=a)(h1:a<=A)(h2:0<=b)(h3:b<=B):0<=a*b/\a*b<=A*B :=
 ⟨Int.mul_nonneg h0 h2,Int.mul_le_mul h1 h3 h2 (Int.le_trans h0 h1)⟩
noncomputable def iG:-Int:=[2147483629,2147483587,2147483579,2147483563,2147483549,2147483543,2147483497,2147483489,2147483477,2147483423,2147483399,2147483353,2147483323]
theorem AL(n:Int):∃q:Int,eU (iG.map D.int) (n%13)=U (.int q)/\0<q/\q<2147483648:=by
 let h0:0<=n%13:=Za _ (by decide);let h1:n%13<13:=YG _ (by decide);generalize n%13=j at h0 h1;let⟨i,rfl⟩:∃i:Nat,j=i:=⟨j.toNat,⋯⟩;let hi:i<13:=by symm
 let hl:(iG.map D.int)[i]?=U (.int (iG[i]'(by show i<13;calc hi))):=by
  rw[WD,pQ (by show i<13;calc hi)];rfl
 calc⟨_,jC hl,?_⟩;let all:∀q∈iG,0<q/\q<2147483648:=by decide
 calc all _ (Zv _)
theorem Qq:jB 3 1=U 1:=rfl
theorem Ho:jB 3 2=U 2:=rfl
abbrev Sem(n m:Nat)(g:GD)(b:WS):Prop:=∀ys ar K',↑ys=n->g ys ar K'->b (mZ ↑ar K') ⟨ys.map U++My m Z,ar.map U⟩
theorem a_{A B:WS}{K:KS}{δ:aJ}(h:∀N:aJ->Prop,N=B K->A {K with nx:=N} δ):aw A B K δ:=h _ Y
theorem jM{t:WT}{G G':WS}{K:KS}{δ:aJ}(h:∀A B:aJ->Prop,A=G K->B=G' K->t δ λb δ1=>if b=θ then A δ1 else B δ1):bA t G G' K δ:=h _ _ Y Y
theorem uK{w:WI}{g:WG}{b:WS}{K:KS}{δ:aJ}(h:∀g' b' K',g'=g->b'=b->K'=K->w δ λit δ1=>lu δ1 it.bQ g' b' K' it.items δ1):fH w g b K δ:=h _ _ _ Y Y Y
theorem jo{f:WE}{g:WA}{δ:aJ}{K:-DV->aJ->Prop}(h:∀K',K'=(λx δ1=>g δ1 λxs δ2=>K (x::xs) δ2)->f δ K'):aq f g δ K:=h _ Y
inductive AM (ys:-DV) (ar:-OV) (K:RV->-OV->Prop):Prop
 |mk (cell at_:Int) (_:ys=[.p (.int cell),.p (.int at_)]) (_:ar=[]) (_:0<=at_) (_:at_<2 ^ 30) (_:∀z:Int,K (.p (.int z)) [])
def AN:WS:=(aw (bA (dT (d2 (aa 0) (d2 (dC (.int 10)) (dC (.int 18)) (d4 eC λi j=>.int (i ^ j.toNat))) (oI λi j=>.bl (l (j<=i))))) (aR (aa 0)) dz) (aw (aP 2 (cN (aq (dC (.int 2147483629)) (aq (dC (.int 2147483587)) (aq (dC (.int 2147483579)) (aq (dC (.int 2147483563)) (aq (dC (.int 2147483549)) (aq (dC (.int 2147483543)) (aq (dC (.int 2147483497)) (aq (dC (.int 2147483489)) ai)))))))))) (aw (aP 2 (d2 (aa 2) (cN (aq (dC (.int 2147483477)) (aq (dC (.int 2147483423)) (aq (dC (.int 2147483399)) (aq (dC (.int 2147483353)) (aq (dC (.int 2147483323)) ai)))))) cS)) (aw (aP 3 (d2 (d2 (d2 (d2 (d2 (d2 (aa 0) (dC (.int 1000000007)) (d4 (λ_ j=>0<j) λi j=>.int (i%j))) (d2 (d2 (dC (.int 2)) (aa 1) gw) (dC (.int 69069)) cS) gw) (d2 (aa 1) (dC (.int 40503)) gw) cS) (dC (.int 977)) cS) (dC (.int 3)) (d4 eC λi j=>.int (i ^ j.toNat))) (d2 (aa 2) (d2 (aa 1) (dC (.int 13)) (d4 (λ_ j=>0<j) λi j=>.int (i%j))) a5) (d4 (λ_ j=>0<j) λi j=>.int (i%j)))) (aw (aP 4 (d2 (d2 (d2 (d2 (d2 (aa 3) (d2 (aa 1) (dC (.int 3)) cS) gw) (d2 (aa 0) (dC (.int 65537)) (d4 (λ_ j=>0<j) λi j=>.int (i%j))) cS) (dC (.int 5)) cS) (dC (.int 5)) (d4 eC λi j=>.int (i ^ j.toNat))) (d2 (aa 2) (d2 (d2 (aa 1) (dC (.int 5)) cS) (dC (.int 13)) (d4 (λ_ j=>0<j) λi j=>.int (i%j))) a5) (d4 (λ_ j=>0<j) λi j=>.int (i%j)))) (aw (aP 5 (d2 (d2 (d2 (d2 (aa 4) (d2 (aa 3) (dC (.int 1009)) (d4 (λ_ j=>0<j) λi j=>.int (i%j))) cS) (aa 1) cS) (dC (.int 3)) (d4 eC λi j=>.int (i ^ j.toNat))) (d2 (aa 2) (d2 (d2 (aa 1) (dC (.int 7)) cS) (dC (.int 13)) (d4 (λ_ j=>0<j) λi j=>.int (i%j))) a5) (d4 (λ_ j=>0<j) λi j=>.int (i%j)))) (aR (d2 (d2 (d2 (d2 (aa 3) (dC (.int 2147483647)) gw) (aa 4) cS) (dC (.int 2147483647)) gw) (aa 5) cS))))))))
theorem Qr:Sem 2 4 AM AN:=by
 ext ys ar K'-⟨cell,k,rfl,rfl,h0,h1,fin⟩;unfold AN;let uL:∀(z:Int)(sl:-(Option DV)),iD 0 K' (.p (.int z)) ⟨sl,[]⟩:=λz sl=>⟨[],Y,Y,fin z⟩;simp! at ⊢;calc⟨⟨by decide,by decide,by decide⟩,?_⟩;split
 .exact uL _ _
 let⟨q1,e1,p1,b1⟩:=AL k;let⟨q2,e2,p2,b2⟩:=AL (k+5);let⟨q3,e3,p3,b3⟩:=AL (k+7);erw[iG,X0,Zy] at e1 e2 e3;erw[e1,e2,e3];let c0:0<=cell%1000000007:=Za _ (by decide);let c1:cell%1000000007<1000000007:=YG _ (by decide);let m1:=uJ c0 (Int.le_of_lt c1) (show(0:Int)<=2*k+69069 by symm) (show 2*k+69069<=2147552717 by symm);refine⟨by decide,.inl ⟨by decide,by decide⟩,.inl ⟨⋯,⋯⟩,.inr ⟨by decide,by decide⟩,⟨by decide,by decide,?cp1⟩,by decide,p1,?_⟩
 case cp1 =>
  generalize cell%1000000007*(2*k+69069)=m at m1 ⊢;symm
 generalize(cell%1000000007*(2*k+69069)+k*40503+977) ^ (3:Int).toNat=x1;let o0:0<=x1%q1:=Za _ ⋯;let o1:x1%q1<q1:=YG _ p1;let d0:0<=cell%65537:=Za _ (by decide);let d1:cell%65537<65537:=YG _ (by decide);let m2:=uJ o0 (show x1%q1<=2147483648 by symm) (show(0:Int)<=k+3 by symm) (show k+3<=1073741827 by symm);refine⟨.inl ⟨⋯,⋯⟩,by decide,⟨by decide,by decide,?cp2⟩,by decide,p2,?_⟩
 case cp2 =>
  generalize x1%q1*(k+3)=m at m2 ⊢;symm
 let t0:0<=(x1%q1*(k+3)+cell%65537+5) ^ (5:Int).toNat%q2:=Za _ ⋯;let t1:(x1%q1*(k+3)+cell%65537+5) ^ (5:Int).toNat%q2<q2:=YG _ p2;let u0:0<=x1%q1%1009:=Za _ (by decide);let u1:x1%q1%1009<1009:=YG _ (by decide);generalize(x1%q1*(k+3)+cell%65537+5) ^ (5:Int).toNat%q2=m at t0 t1 ⊢;calc⟨by decide,⟨by decide,by decide,⋯⟩,by decide,p3,.inr ⟨by decide,by decide⟩,.inr ⟨by decide,by decide⟩,uL _ _⟩
noncomputable def jq(ns:-Int)(k z:Int):OV:=.lst [.lst (ns.map D.int),.int k,.int z]
structure bj(n:Int)(o:OV):Prop where
 out:∃ns k z,o=jq ns k z/\ns.length<=63/\0<=k/\k<=n
theorem bj.mono{n m:Int}{o:OV}(h:bj n o)(l:n<=m):bj m o:=by
 let⟨ns,k,z,e,h1,h2,h3⟩:=h.out;calc⟨ns,k,z,e,h1,h2,⋯⟩
inductive AO (ys:-DV) (ar:-OV) (K:RV->-OV->Prop):Prop
 |mk (n) (o) (_:ys=[.o 0]) (_:ar=[o]) (_:bj n o) (_:∀o',bj n o'->K (.a 0) [o'])
def AQ:WS:=(aw (qm (dC (.int 0)) (aa 0) (dC (.int 2))) (aR (aa 0)))
theorem Qs:Sem 1 0 AO AQ:=by
 ext ys ar K'-⟨n,o,rfl,rfl,P,fin⟩;let⟨ns,k,z,rfl,h1,h2,h3⟩:=P.out;unfold AQ jq;simp!;calc⟨[jq ns k 0],Y,Y,fin _ ⟨ns,k,0,Y,h1,h2,h3⟩⟩
inductive gz (ys:-DV) (ar:-OV) (K:RV->-OV->Prop):Prop
 |mk (n m:Int) (o:OV) (_:ys=[.o 0,.p (.int m)]) (_:ar=[o]) (_:bj n o) (_:n<2 ^ 30) (_:0<m) (_:m<10 ^ 40) (_:∀r o',0<=r->r<m->bj (n+1) o'->K (.p (.int r)) [o'])
def AR:WS:=(aw (bA (dT (d2 (d2 (aa 0) (dC (.int 2)) a5) (aa 1) oLt)) (aw (aP 2 (d2 (aa 0) (dC (.int 1)) a5)) (aw (aP 3 (dC (.int 0))) (aw (bA (dT (d2 (aa 2) (dN (aq (d2 (aa 0) (dC (.int 0)) a5) ai) cm) oLt)) (aP 3 (d2 (d2 (aa 0) (dC (.int 0)) a5) (aa 2) a5)) (bA (dT (d2 (dN (aq (d2 (aa 0) (dC (.int 0)) a5) ai) cm) (dC (.int 0)) (oI λi j=>.bl (l (j<i))))) (aP 3 (d2 (d2 (d2 (aa 0) (dC (.int 0)) a5) (d2 (d2 (d2 (aa 2) (dC (.int 5)) gw) (dC (.int 3)) cS) (dN (aq (d2 (aa 0) (dC (.int 0)) a5) ai) cm) (d4 (λ_ j=>0<j) λi j=>.int (i%j))) a5) (d2 (d2 (dC (.int 10)) (dC (.int 17)) (d4 eC λi j=>.int (i ^ j.toNat))) (aa 2) cS) (d4 (λ_ j=>0<j) λi j=>.int (i%j)))) dz)) (aw (qm (d2 (aa 2) (dC (.int 1)) cS) (aa 0) (dC (.int 1))) (qm (aA 2 AM (aq (aa 3) (aq (aa 2) ai))) (aa 0) (dC (.int 2))))))) dz) (aw (aP 4 (d2 (d2 (aa 0) (dC (.int 2)) a5) (aa 1) (d4 (λ_ j=>0<j) λi j=>.int (i%j)))) (aw (qm (d2 (d2 (aa 0) (dC (.int 2)) a5) (aa 1) (d4 wX λi j=>.int (i.fdiv j))) (aa 0) (dC (.int 2))) (aR (aa 4)))))
theorem Qt:Sem 2 3 gz AR:=by
 ext ys ar K'-⟨n,m,o,rfl,rfl,P,hn,Hq,WV,fin⟩;let⟨ns,k,z,rfl,h1,h2,h3⟩:=P.out;unfold AR jq
 let last:∀(k' z':Int)(sl:-(Option DV)),0<=k'->k'<=n+1->iD 1 K' (.p (.int (z'%m))) ⟨sl,[U (.lst [.lst (ns.map D.int),.int k',.int (z'.fdiv m)])]⟩:=λk' z' sl a b =>
  ⟨[jq ns k' (z'.fdiv m)],Y,Y,fin _ _ (Za _ ⋯) (YG _ Hq) ⟨ns,k',_,Y,h1,a,b⟩⟩
 let Qu:∀z,wX z m:=λz=>⟨⋯,⋯⟩
 let rest:∀(k' z':Int)(s2 s3 s4:Option DV),0<=k'->k'<=n+1->(aw (aP 4 (d2 (d2 (aa 0) (dC (.int 2)) a5) (aa 1) (d4 (λ_ j=>0<j) λi j=>.int (i%j)))) (aw (qm (d2 (d2 (aa 0) (dC (.int 2)) a5) (aa 1) (d4 wX λi j=>.int (i.fdiv j))) (aa 0) (dC (.int 2))) (aR (aa 4)))) (mZ 1 K') ⟨[U (.o 0),U (.p (.int m)),s2,s3,s4],[U (.lst [.lst (ns.map D.int),.int k',.int z'])]⟩:=λk' z' s2 s3 s4 a b=>by
  simp![at2,Ho];exact⟨Hq,Qu _,last _ _ _ a b⟩
 calc a_ λN hN=>?_;calc jM λA B hA hB=>?_;simp![at2] at ⊢;split
 .subst hA
  calc a_ λN2 cD=>?_;simp![c_];subst cD;calc a_ λN2 cD=>?_;simp!;subst cD;refine a_ λN2 cD=>?_
  let go:∀(c:Int)(s4:Option DV),N2 ⟨[U (.o 0),U (.p (.int m)),U (.p (.int k)),U (.p (.int c)),s4],[U (.lst [.lst (ns.map D.int),.int k,.int z])]⟩:=λc s4=>by
   subst cD;simp![Qq];calc⟨c,k,Y,Y,h2,⋯,λz'=>?_⟩;simp![Ho];subst hN;exact rest _ _ _ _ _ ⋯ ⋯
  calc jM λA B hA hB=>?_;simp![dj] at ⊢;split
  .rename_i fL
   let⟨c,ec⟩:=Hn h2 (YQ fL);subst hA;simp![dj];rw[ec];exact go _ _
  .subst hB
   calc jM λA B hA hB=>?_;simp![dj] at ⊢;split
   .rename_i nD
    let nD:=YQ nD;let⟨c,ec⟩:=Hn (ns:=ns) (k:=(k*5+3)%(ns.length:Int)) (Za _ ⋯) (YG _ nD);subst hA;simp![dj];calc⟨.inr ⟨by decide,by decide⟩,nD,?_⟩;rw[ec];exact⟨⟨by decide,by decide,by decide⟩,by show(0:Int)<10 ^ 17+k;symm,go _ _⟩
   .subst hB
    exact go _ _
 .subst hB hN
  calc rest _ _ _ _ _ ⋯ ⋯
noncomputable def de(p:Int×Int):D:=.tup [.int p.1,.int p.2]
structure dW(many:Int)(ps:-(Int×Int)):Prop where
 ends:∀p∈ps,0<=p.1/\p.1<p.2/\p.2<many
 mM:ps.Nodup
 jT:↑ps<=66
theorem dW.sub{many:Int}{ps qs:-(Int×Int)}(h:dW many ps)(s:qs.Sublist ps):dW many qs :=
 ⟨λp hp=>h.ends p (s.subset hp),h.mM.sublist s,Yi s.length_le h.jT⟩
inductive AS (ys:-DV) (ar:-OV) (K:RV->-OV->Prop):Prop
 |mk (n kind many:Int) (o:OV) (_:ys=[.o 0,.p (.int kind),.p (.int many)]) (_:ar=[o]) (_:bj n o) (_:n+100<2 ^ 30) (_:1<=many) (_:many<=12) (_:∀ps o',dW many ps->bj (n+67) o'->K (.n (ps.map de)) [o'])
def AU:WS:=(aw (aP 3 (q_ ai)) (aw (fH (l3 (aq (aa 2) ai)) (b7 4) (iR (ql (aa 3) (aq (fV (l3 (aq (aa 4) ai)) [Z,U 4] (b7 0) fh (bz (aq (aa 0) (aq (aa 1) ai)))) ai)))) (aw (bA (dT (d2 (aa 1) (dC (.int 1)) oEq)) (aR (mW (Ae (aq (dC (.int 1)) (aq (aa 2) ai))) [Z,U 0] (b7 0) fh (bz (aq (aA 2 gz (aq (aa 1) (aq (aa 0) ai))) (aq (aa 0) ai))))) dz) (aw (bA (dT (d2 (aa 1) (dC (.int 2)) oEq)) (aw (aP 5 (fV (l3 (aq (d2 (aa 2) (dC (.int 1)) (oI λi j=>.int (i-j))) ai)) [Z] (b7 0) fh (bz (aq (aa 0) (aq (d2 (aa 0) (dC (.int 1)) cS) ai))))) (aR (AG (aa 5) (fV (cA (aa 3)) [Z,U 2] (b7 0) (jg (dT (d2 (aa 0) (bz (aq (dC (.int 0)) (aq (d2 (aa 1) (dC (.int 1)) (oI λi j=>.int (i-j))) ai))) oEq)) (dT (d2 (aa 1) (dC (.int 2)) (oI λi j=>.bl (l (j<i)))))) (aa 0))))) dz) (aw (bA (dT (d2 (aa 1) (dC (.int 3)) oEq)) (aR (aa 3)) dz) (aw (bA (dT (d2 (aa 1) (dC (.int 4)) oEq)) (aR (mW (cA (aa 3)) [Z,U 0] (b7 0) (dT (d2 (aA 2 gz (aq (aa 1) (aq (dC (.int 4)) ai))) (dC (.int 0)) oEq)) (aa 0))) dz) (aw (bA (dT (d2 (aa 1) (dC (.int 5)) oEq)) (aw (aP 6 (aA 2 gz (aq (aa 0) (aq (d2 (aa 2) (dC (.int 1)) cS) ai)))) (aR (mW (cA (aa 3)) [Z,U 6,U 0] (b7 0) (jg (dT (d2 (d2 (d2 (aa 0) (dC (.int 0)) a5) (aa 1) oLt) (d2 (d2 (aa 0) (dC (.int 1)) a5) (aa 1) oLt) oEq)) (dT (d2 (aA 2 gz (aq (aa 2) (aq (dC (.int 3)) ai))) (dC (.int 0)) (oI λi j=>.bl (l (j<i)))))) (aa 0)))) dz) (aR (mW (cA (aa 3)) [Z,U 0] (b7 0) (dT (d2 (aA 2 gz (aq (aa 1) (aq (dC (.int 2)) ai))) (dC (.int 0)) oEq)) (aa 0))))))))))
theorem sub_snoc{α:Type}{zs ps:-α}{i:Nat}{x:α}(h:zs.Sublist (ps.take i))(e:ps[i]?=U x):(zs++[x]).Sublist (ps.take (i+1))/\zs.Sublist (ps.take (i+1)):=by
 let:ps.take (i+1)=ps.take i++[x]:=by rw[q0O,e];rfl
 rw[this];calc⟨h.append (q3q _),h.trans (List.sublist_append_left _ _)⟩
theorem Qv{α:Type}{l:-α}{c:α}(h:l.Nodup)(hc:∀x∈l,x=c):↑l<=1:=by
 match l,h,hc with
 |[],_,_=>exact YD _
 |[_],_,_=>exact Fm _
 |x::y::r,h,hc =>
  let:=(Zw.mp h).1 y (NJ);calc absurd ((hc x NJ).trans (hc y (WH _ NJ)).symm) this
theorem AV{n:Int}{o:OV}{ps:-(Int×Int)}{t:WT}{K:-D->aJ->Prop}{rest:-(Option DV)}{ev:Option OV}{bQ:aJ->Prop}(hc:∀sl o',bQ ⟨sl,[U o',ev]⟩)(hw:↑ps<=66)(P:bj n o)(hn:n+70<2 ^ 30)
  (ht:∀(p:Int×Int)(i:Nat)(o':OV)(Q:Bool->aJ->Prop),p∈ps->i<=66->bj (n+i) o'->(∀b lz,bj (n+i+1) lz->Q b ⟨U (.p (de p))::rest,[U lz,ev]⟩)->t ⟨U (.p (de p))::rest,[U o',ev]⟩ Q)
  (hr:gv 2 rest rest=rest)
  (fin:∀(zs:-(Int×Int)) o',zs.Sublist ps->bj (n+↑ps) o'->K (zs.map de) ⟨Z::rest,[U o',ev]⟩) :
  jJ ⟨Z::rest,[U o,ev]⟩ bQ (b7 0) t (aa 0) K (ps.map de) [] ⟨Z::rest,[U o,ev]⟩:=by
 refine AE (λi acc δ=>∃(zs:-(Int×Int))(o':OV),zs.Sublist (ps.take i)/\acc=zs.map de/\bj (n+i) o'/\δ=⟨Z::rest,[U o',ev]⟩) ⟨[],o,q3q _,Y,P.mono ⋯,Y⟩ ?_ ?_
 .ext j d acc δ L hj ⟨zs,o',hz,rfl,P',rfl⟩ hL
  rw[WD] at hj;let⟨p,hp,rfl⟩:=XX.mp hj;let WW:j<↑ps:=(qV.mp hp).1;calc⟨hc _ _,?_⟩;show t ⟨U (.p (de p))::rest,[U o',ev]⟩ _;refine ht p j o' _ (Yl hp) ⋯ P' λb lz nE=>?_
  let hlen:↑(zs.map de)<1000:=by
   rw[pR];let:=hz.length_le;rw[Yb] at this;symm
  let P3:bj (n+((j+1:Nat):Int)) lz:=nE.mono ⋯
  cases b with
  |true =>
   rw[XI Y];calc⟨hlen,hL _ _ ⟨zs++[p],lz,(sub_snoc hz hp).1,by rw[XY];rfl,P3,?_⟩⟩;show(⟨Z::gv 2 rest rest,_⟩:aJ)=_;rw[hr];rfl
  |false =>
   rw[WK (by decide)];calc hL _ _ ⟨zs,lz,(sub_snoc hz hp).2,Y,P3,?_⟩;show(⟨Z::gv 2 rest rest,_⟩:aJ)=_;rw[hr];rfl
 .ext acc δ ⟨zs,o',hz,rfl,P',rfl⟩
  rw[pR] at P' hz;rw[YI (Fm _)] at hz;calc⟨hc _ _,fin zs o' hz P'⟩
theorem Qw:Sem 3 4 AS AU:=by
 ext ys ar K'-⟨n,kind,many,o,rfl,rfl,P,hn,m1,kD,fin⟩;let⟨mm,rfl⟩:∃mm:Nat,many=mm:=⟨many.toNat,⋯⟩;let AW:mm<=12:=by symm
 unfold AU;let cE:dW mm (jD mm):=⟨λp hp=>zJ hp,FZ mm,F7 mm AW⟩;calc a_ λN hN=>?_;simp!;subst hN;calc a_ λN hN=>?_;simp!;calc⟨⋯,?_⟩;refine oX (λi δ=>δ=⟨[U (.o 0),U (.p (.int kind)),U (.p (.int mm)),U (.o 1),Z,Z,Z],[U o,U (.lst ((jD i).map de))]⟩) Y ?_ ?_
 .ext j d δ L hj rfl hL
  let⟨hj,rfl⟩:=ni hj;simp!;let e:(0+(j:Int))=j:=by symm
  rw[e];refine⟨⋯,?_⟩
  refine l6 (λd=>match d with
   |.int a=>de (a,j)
   |_=>.non) (by rw[nj];symm) trivial ?_ ?_
  .ext d hd acc L' ha h
   let⟨i,hi⟩:=WM.mp hd;let⟨hi,rfl⟩:=ni hi;simp!;exact⟨ha,h⟩
  .let e2:(jD j).map de++(cP 0 (j:Int).toNat).map (λd=>match d with
    |.int a=>de (a,j)
    |_=>.non)=(jD (j+1)).map de:=by
    show _=(jD j++_).map de;unfold cP;rw[XY,X8,X8];congr 1;calc YB λa _=>?_;simp[q2N]
   simp!;let WX:=F7 j ⋯;calc⟨by rw[nj];symm,?_⟩;rw[e2];exact hL _ Y
 .ext δ rfl
  calc⟨trivial,?_⟩;subst hN;let eL:((mm:Int)).toNat=mm:=by symm
  rw[nj,eL];dsimp only
  let back:∀(ps:-(Int×Int))(o':OV)(sl:-(Option DV))(m:-(Option OV)),dW mm ps->bj (n+67) o'->iD 1 K' (.o (↑m+1)) ⟨sl,U o'::(m++[U (.lst (ps.map de))])⟩:=λps o' sl m h1 h2=>by
   calc⟨[o'],Y,Y,?_⟩;show if ↑m+1<1 then _ else _;rw[WK ⋯]
   let:(U o'::(m++[U (OV.lst (ps.map de))]))[↑m+1]?=U (U (.lst (ps.map de))):=by
    rw[q0D,NK (Fm _),Yv];rfl
   dsimp only;rw[this];exact .inl (fin ps o' h1 h2)
  calc a_ λN hN=>?_;simp![aQ] at ⊢;split
  .refine⟨⋯,?_⟩
   refine AE (λi acc δ=>∃(zs:-(Int×Int))(o':OV),↑zs=i/\(∀(q:Nat)(p:Int×Int),zs[q]?=U p->p.2=q+1/\0<=p.1/\p.1<p.2)/\acc=zs.map de/\bj (n+i) o'/\δ=⟨[Z,U (.o 0)],[U o',U (.lst ((jD mm).map de))]⟩) ⟨[],o,Y,λq p e=>by simp at e,Y,P.mono ⋯,Y⟩ ?_ ?_
   .ext j d acc δ L hj ⟨zs,o',hz,hq,rfl,P',rfl⟩ hL
    let⟨hj,rfl⟩:=ni hj;simp!;calc⟨n+j,1+j,o',Y,Y,P',⋯,⋯,⋯,λr lz r0 r1 nE=>?_⟩;simp!;refine⟨⋯,hL _ _ ⟨zs++[(r,1+(j:Int))],lz,by rw[Fs,hz];rfl,λq p e=>?_,by rw[XY];rfl,nE.mono ⋯,Y⟩⟩
    by_cases c:q<↑zs
    .rw[NI c] at e
     exact hq q p e
    .let hl:=(qV.mp e).1
     rw[Fs,Yz] at hl;let:q=↑zs:=by symm
     subst this;rw[NK (Fm _),Yv] at e;cases(show U (r,1+(j:Int))=U p by simpa using e)
     exact⟨by show 1+(j:Int)=_;symm,r0,r1⟩
   .ext acc δ ⟨zs,o',hz,hq,rfl,P',rfl⟩
    rw[nj] at hz P';calc⟨trivial,?_⟩;refine back zs o' _ [_] ⟨λp hp=>?_,?_,⋯⟩ (P'.mono ⋯)
    .let⟨q,om⟩:=WM.mp hp
     let:=hq q p om;let hl:=(qV.mp om).1;symm
    .refine q0n.mpr λi j hi hj jL e=>?_
     let q1:=hq i _ (pQ hi);let q2:=hq j _ (pQ hj);rw[e] at q1;symm
  subst hN;calc a_ λN hN=>?_;simp![aQ] at ⊢;split
  .clear hN
   refine⟨⋯,?_⟩
   refine l6 (λd=>match d with
    |.int a=>de (a,a+1)
    |_=>.non) (by rw[nj];symm) trivial ?_ ?_
   .ext d hd acc L' ha h
    let⟨i,hi⟩:=WM.mp hd;let⟨hi,rfl⟩:=ni hi;simp!;exact⟨ha,h⟩
   .simp!
    refine nA (λd=>aQ d (de (0,mm-1))&&l ((2:Int)<mm)) id (by rw[pR];let:=cE.jT;symm) Y ?_ ?_
    .ext d hd acc L' ha h h'
     let⟨p,hp,rfl⟩:=XM.mp hd;erw[de] at h h';simp![de] at ⊢;split
     .rename_i q1
      split
      .rename_i q2
       exact⟨ha,h (by rw[q1,q2];rfl)⟩
      .rename_i q2
       exact h' (by rw[q1,q3I _ |>.mp q2];rfl)
     .rename_i q1
      exact h' (by rw[q3I _ |>.mp q1];rfl)
    .simp!
     let er:(cP 0 ((mm:Int)-1).toNat).map (λd=>match d with
       |D.int a=>de (a,a+1)
       |x=>D.non)=((X_ (mm-1)).map λi:Nat=>((i:Int),(i:Int)+1)).map de:=by
      unfold cP;rw[X8,X8];let:((mm:Int)-1).toNat=mm-1:=by symm
      rw[this];calc YB λa _=>?_;simp[q2N]
     let ef:(((jD mm).map de).filter λd=>aQ d (de (0,mm-1))&&l ((2:Int)<mm))=((jD mm).filter λp=>aQ (de p) (de (0,mm-1))&&l ((2:Int)<mm)).map de:=by
      rw[q33];rfl
     rw[er,q3T,ef,<-XY]
     let hf:∀p∈(jD mm).filter (λp=>aQ (de p) (de (0,mm-1))&&l ((2:Int)<mm)),p=(0,(mm:Int)-1)/\(2:Int)<mm:=λp hp=>by
      let:=(YJ.mp hp).2;simp[de,aQ,d3] at this;let⟨a,b⟩:=p;simp at this ⊢;symm
     let h1:↑((jD mm).filter (λp=>aQ (de p) (de (0,mm-1))&&l ((2:Int)<mm)))<=1:=Qv (cE.mM.sublist q08) λp hp=>(hf p hp).1;refine⟨by rw[nj,pR];symm,back _ o _ [_] ⟨λp hp=>?_,?_,?_⟩ (P.mono ⋯)⟩
     .rcases Yc.mp hp with hp|hp
      .let⟨i,hi,rfl⟩:=XM.mp hp
       let:=Yo.mp hi;exact⟨⋯,⋯,by show(i:Int)+1<mm;symm⟩
      .exact cE.ends p (YJ.mp hp).1
     .refine Y5.mpr ⟨?_,cE.mM.sublist q08,λa ha b hb e=>?_⟩
      .refine Zp.mpr (q0U.imp λ{a b} ne e=>ne ?_)
       let:=congrArg q5X e;exact q2M this
      .subst e
       let⟨i,hi,rfl⟩:=XM.mp ha;let:=hf _ hb;let h2:=congrArg q5X this.1;let h3:=congrArg Prod.snd this.1;simp at h2 h3;symm
     .rw[Fs,pR,Ys];symm
  subst hN;calc a_ λN hN=>?_;simp![aQ] at ⊢;split
  .exact⟨[o],Y,Y,.inl (fin _ _ cE (P.mono ⋯))⟩
  subst hN;calc a_ λN hN=>?_;simp![aQ] at ⊢;split
  .refine AV (λ_ _=>Y) cE.jT P ⋯ (λp i o' Q hp hi P' hQ=>?_) Y λzs o' hz P'=>?_
   .simp![aQ]
    calc⟨n+i,4,o',Y,Y,P',⋯,⋯,⋯,λr lz r0 r1 nE=>?_⟩;simp!;exact hQ _ _ nE
   .exact back zs o' _ [_] (cE.sub hz) (P'.mono (by let:=cE.jT;symm))
  subst hN;calc a_ λN hN=>?_;simp![aQ] at ⊢;split
  .refine⟨n,mm+1,o,Y,Y,P,⋯,⋯,⋯,λhalf o1 r0 r1 P1=>?_⟩
   simp!;refine AV (n:=n+1) (λ_ _=>Y) cE.jT P1 ⋯ (λp i o' Q hp hi P' hQ=>?_) Y λzs o' hz P'=>?_
   .simp![aQ,de,dj,c_] at ⊢
    split
    .refine⟨n+1+i,3,o',Y,Y,P',⋯,⋯,⋯,λr lz r0 r1 nE=>?_⟩
     simp!;exact hQ _ _ nE
    .exact hQ _ _ (P'.mono ⋯)
   .exact back zs o' _ [_] (cE.sub hz) (P'.mono (by let:=cE.jT;symm))
  subst hN;simp![aQ];refine AV (λ_ _=>Y) cE.jT P ⋯ (λp i o' Q hp hi P' hQ=>?_) Y λzs o' hz P'=>?_
  .simp![aQ]
   calc⟨n+i,2,o',Y,Y,P',⋯,⋯,⋯,λr lz r0 r1 nE=>?_⟩;simp!;exact hQ _ _ nE
  .calc back zs o' _ [_] (cE.sub hz) (P'.mono (by let:=cE.jT;symm))
theorem Hr{α:Type}:∀{l:-α}{j:Nat}(h:j<↑l),q7E (l[j]::l.eraseIdx j) l
 |x::r,0,h=>List.Perm.refl _
 |x::r,j+1,h=>by
  let hj:j<↑r:=by simpa using h
  show q7E (r[j]::x::r.eraseIdx j) (x::r);calc(List.Perm.swap x r[j] _).trans ((Hr hj).cons x)
theorem Hs{α β:Type}(f:α->β):∀(l:-α)(j:Nat),(l.map f).eraseIdx j=(l.eraseIdx j).map f
 |[],_=>Y
 |_::_,0=>Y
 |x::r,j+1=>by
  show f x::(r.map f).eraseIdx j=f x::(r.eraseIdx j).map f;rw[Hs f r j]
noncomputable def aX(y:Int×Int×Int):D:=.tup [.int y.1,.int y.2.1,.int y.2.2]
noncomputable def aN(m:Int)(ys:-(Int×Int×Int)):D:=.tup [.int m,.tup (ys.map aX)]
noncomputable def nG(y:Int×Int×Int):Int×Int:=(y.1,y.2.1)
theorem dW.perm{many:Int}{ps qs:-(Int×Int)}(h:dW many ps)(p:qs.Perm ps):dW many qs :=
 ⟨λx hx=>h.ends x (p.mem_iff.mp hx),p.nodup_iff.mpr h.mM,by rw[p.length_eq];calc h.jT⟩
inductive AX (ys:-DV) (ar:-OV) (K:RV->-OV->Prop):Prop
 |mk (n d5 most:Int) (o:OV) (_:ys=[.o 0,.p (.int d5),.p (.int most)]) (_:ar=[o]) (_:bj n o) (_:n+400<2 ^ 30) (_:1<=d5) (_:d5<=12) (_:0<=most) (_:most<=30) (_:∀m ws o',aV m ws->m<=d5->(↑ws:Int)<=most->bj (n+300) o'->K (.p (aN m ws)) [o'])
def AY:WS:=(aw (aP 3 (aA 2 gz (aq (aa 0) (aq (dC (.int 8)) ai)))) (aw (aP 4 (aA 2 gz (aq (aa 0) (aq (dC (.int 4)) ai)))) (aw (aP 5 (d2 (dC (.int 1)) (aA 2 gz (aq (aa 0) (aq (aa 1) ai))) cS)) (aw (aP 6 (uv 3 AS (aq (aa 0) (aq (aa 3) (aq (aa 5) ai))))) (aw (aP 7 (q_ ai)) (aw (fH (l3 (aq (dN (aq (aa 2) (aq (dN (aq (aa 6) ai) cm) ai)) rF) ai)) (b7 8) (aw (j8 (AA (aa 6) (aq (aA 2 gz (aq (aa 0) (aq (dN (aq (aa 6) ai) cm) ai))) ai)) (oN 2 (jI (b7 9) (jI (b7 10) mV)))) (aw (aP 11 (d2 (cN (aq (dC (.int 7)) (aq (aA 2 gz (aq (aa 0) (aq (dC (.int 3)) ai))) (aq (d2 (d2 (dC (.int 10)) (dC (.int 9)) (d4 eC λi j=>.int (i ^ j.toNat))) (aA 2 gz (aq (aa 0) (aq (dC (.int 2)) ai))) (oI λi j=>.int (i-j))) (aq (aA 2 gz (aq (aa 0) (aq (d2 (d2 (dC (.int 10)) (dC (.int 9)) (d4 eC λi j=>.int (i ^ j.toNat))) (dC (.int 1)) cS) ai))) ai))))) (aa 4) a5)) (iR (ly (aa 7) (aq (bz (aq (aa 9) (aq (aa 10) (aq (aa 11) ai)))) ai)))))) (aR (bz (aq (aa 5) (aq (dN (aq (aa 7) ai) rD) ai))))))))))
theorem Qx:Sem 3 9 AX AY:=by
 ext ys ar K'-⟨n,d5,most,o,rfl,rfl,P,hn,h1,Qy,s0,WY,fin⟩;unfold AY;calc a_ λN hN=>?_;simp!;calc⟨n,8,o,Y,Y,P,⋯,⋯,⋯,λkind o1 _ _ P1=>?_⟩;simp!;subst hN;calc a_ λN hN=>?_;simp!;calc⟨n+1,4,o1,Y,Y,P1,⋯,⋯,⋯,λfq o2 p0 p4 P2=>?_⟩;simp!;subst hN;calc a_ λN hN=>?_;simp!;calc⟨n+1+1,d5,o2,Y,Y,P2,⋯,⋯,⋯,λmm o3 m0 mh P3=>?_⟩;simp!;subst hN;calc a_ λN hN=>?_;simp!;refine⟨n+1+1+1,kind,1+mm,o3,Y,Y,P3,⋯,⋯,⋯,λps o4 oY P4=>?_⟩
 simp!;subst hN;calc a_ λN hN=>?_;simp!;subst hN;calc a_ λN hN=>?_;let WZ:=oY.jT;simp!;calc⟨⋯,?_⟩;let ek:(min most (↑ps:Int)).toNat=min most.toNat ↑ps:=by symm
 rw[ek];generalize hk:min most.toNat ↑ps=k
 refine oX (λi δ=>∃(qs:-(Int×Int))(ws:-(Int×Int×Int))(o':OV),↑qs+i=↑ps/\↑ws=i/\dW (1+mm) (ws.map nG++qs)/\(∀y∈ws,0<=y.2.2/\y.2.2<=1000000000)/\bj (n+70+4*i) o' ∧
  δ=⟨[U (.o 0),U (.p (.int d5)),U (.p (.int most)),U (.p (.int kind)),U (.p (.int fq)),U (.p (.int (1+mm))),U (.o 1),U (.o 2),Z,Z,Z,Z],[U o',U (.lst (qs.map de)),U (.lst (ws.map aX))]⟩)
  ⟨ps,[],o4,⋯,Y,oY,λy hy=>absurd hy Yh,P4.mono ⋯,Y⟩ ?_ ?_
 .ext j d δ L hj ⟨qs,ws,o',hq,hw,hp,hy,P',rfl⟩ hL
  let⟨hj,rfl⟩:=ni hj;let q0:0<↑qs:=by symm
  let Qz:=hp.jT;rw[Fs,pR] at Qz;calc⟨trivial,?_⟩;erw[b7,YU,YV];calc a_ λN2 cD=>?_;simp!;calc⟨n+70+4*j,↑qs,o',Y,Y,P',⋯,⋯,⋯,λr o1 r0 r1 P1=>?_⟩;let⟨rn,rfl⟩:∃rn:Nat,r=rn:=⟨r.toNat,⋯⟩;let hr:rn<↑qs:=by symm
  let ix:seqIndex? (rn:Int) ↑qs=U rn:=OG hr;let eq:(qs.map de)[rn]?=U (.tup [.int qs[rn].1,.int qs[rn].2]):=by rw[WD,pQ hr];rfl
  simp![ix,eq];calc⟨⟨⋯,⋯⟩,?_⟩;subst cD;calc a_ λN2 cD=>?_;erw[aP,d2,cN];calc jo λK3 lA=>?_;simp!;subst lA;calc jo λK3 lA=>?_;simp!;calc⟨n+70+4*j+1,3,o1,Y,Y,P1,⋯,⋯,⋯,λa1 o2 W0 W5 P2=>?_⟩;simp!;subst lA;calc jo λK3 lA=>?_;simp!;calc⟨⟨by decide,by decide,by decide⟩,n+70+4*j+1+1,2,o2,Y,Y,P2,⋯,⋯,⋯,λa2 o3 W6 W7 P3=>?_⟩;simp!;subst lA;calc jo λK3 lA=>?_;simp!;refine⟨⟨by decide,by decide,by decide⟩,n+70+4*j+1+1+1,10 ^ q1O 9+1,o3,Y,Y,P3,⋯,by decide,by decide,λa3 o4 W8 QA P4=>?_⟩
  simp!;subst lA;simp!;let e9:(10:Int) ^ q1O 9=1000000000:=by decide
  rw[e9] at QA ⊢
  let⟨pr,QB,QC,QD⟩:∃pr:Int,eU [D.int 7,D.int a1,D.int (1000000000-a2),D.int a3] fq=U (.int pr)/\0<=pr/\pr<=1000000000:=by
   let:fq=0\/fq=1\/fq=2\/fq=3:=by symm
   rcases this with rfl|rfl|rfl|rfl
   .exact⟨7,Y,⋯,⋯⟩
   .exact⟨a1,Y,⋯,⋯⟩
   .exact⟨1000000000-a2,Y,⋯,⋯⟩
   .exact⟨a3,Y,⋯,⋯⟩
  rw[QB];show N2 _;subst cD;simp!;refine⟨⋯,hL _ ⟨qs.eraseIdx rn,ws++[(qs[rn].1,qs[rn].2,pr)],o4,?_,?_,?_,?_,P4.mono ⋯,?_⟩⟩
  .rw[List.length_eraseIdx_of_lt hr];symm
  .rw[Fs,hw];rfl
  .refine hp.perm ?_
   rw[XY,ZE];calc List.Perm.append_left _ ?_;exact Hr hr
  .ext y qU
   rcases Yc.mp qU with h|h
   .exact hy y h
   .rw[X1.mp h];exact⟨QC,QD⟩
  .rw[XY,Hs];rfl
 .ext δ ⟨qs,ws,o',hq,hw,hp,hy,P',rfl⟩
  calc⟨trivial,?_⟩;subst hN;simp!;rw[nj] at hw P';calc⟨[o'],Y,Y,?_⟩;refine fin (1+mm) ws o' ⟨⋯,⋯,⋯,λy qU=>?_,?_⟩ ⋯ ⋯ (P'.mono ⋯)
  .let:=hp.ends (nG y) (Yj _ (XM.mpr ⟨y,qU,Y⟩))
   let h2:=hy y qU;erw[nG] at this;symm
  .calc (Y5.mp hp.mM).1
end LJ
namespace L2
open PySem PySem.Spec PyProof.Rows
variable[aM]
section
variable{X:Cx}{fa:WA}
end
end L2
namespace LJ
open PySem L2
variable[aM]
noncomputable def Ht:D->Bool
 |.int _=>θ
 |_=>ι
noncomputable def wY:D->Int->Int->Bool
 |.int i,lo,hi=>l (lo<=i)&&l (i<=hi)
 |_,_,_=>ι
noncomputable def wZ:D->Int->Bool
 |.tup ds,n=>(↑ds:Int)==n
 |_,_=>ι
theorem gW{K:RV->-OV->Prop}{d:D}{sl:-(Option DV)}(h:K (.p d) []):iD 0 K (.p d) ⟨sl,[]⟩:=⟨[],Y,Y,h⟩
inductive AZ (ys:-DV) (ar:-OV) (K:RV->-OV->Prop):Prop
 |mk (d) (_:ys=[.p d]) (_:ar=[]) (_:K (.p (.bl (Ht d))) [])
def A0:WS:=(aR (mS (d1 (aa 0) (jn "int")) (zS (d1 (aa 0) (jn "bool")))))
theorem QE:Sem 1 0 AZ A0:=by
 ext ys ar K'-⟨d,rfl,rfl,k⟩;unfold A0;simp!;cases d<;>erw[gR,eI]<;>calc gW k
inductive nH (ys:-DV) (ar:-OV) (K:RV->-OV->Prop):Prop
 |mk (d) (lo) (hi) (_:ys=[.p d,.p (.int lo),.p (.int hi)]) (_:ar=[]) (_:K (.p (.bl (wY d lo hi))) [])
def A1:WS:=(aR (mS (aA 1 AZ (aq (aa 0) ai)) (Aq (aa 1) (aa 0) (aa 2) (oI λi j=>.bl (l (i<=j))) (oI λi j=>.bl (l (i<=j))))))
theorem QF:Sem 3 0 nH A1:=by
 ext ys ar K'-⟨d,lo,hi,rfl,rfl,k⟩;unfold A1;simp!;calc⟨d,Y,Y,?_⟩;cases d<;>simp![Ht,wY] at k ⊢ <;> first|exact gW k|skip
 rename_i i
 by_cases c:lo<=i
 .rw[X7 c] at k ⊢
  erw[Bool.true_and] at k;exact gW k
 .rw[XO c] at k ⊢
  erw[q2p] at k;calc gW k
inductive w5 (ys:-DV) (ar:-OV) (K:RV->-OV->Prop):Prop
 |mk (d) (n) (_:ys=[.p d,.p (.int n)]) (_:ar=[]) (_:K (.p (.bl (wZ d n))) [])
def A3:WS:=(aR (mS (d1 (aa 0) (jn "tuple")) (d2 (dN (aq (aa 0) ai) cm) (aa 1) oEq)))
theorem QG:Sem 2 0 w5 A3:=by
 ext ys ar K'-⟨d,n,rfl,rfl,k⟩;unfold A3;simp!;cases d<;>simp![gR,eI,wZ,aQ] at k ⊢ <;> calc gW k
end LJ
namespace L2
open PySem PySem.Spec PyProof.Rows
variable[aM]
def Hu:-D->(D->Prop)->Prop:=λds K=>∃ps:-(Int×Int),ds=[.lst (ps.map λp=>.tup [.int p.1,.int p.2])]/\↑ps<=30/\(∀p∈ps,0<=p.1/\p.1<p.2/\p.2<12)/\ps.Nodup/\K (.int ↑ps)
section
variable{X:Cx}{fa:WA}
theorem QH{a:M}{p1 p2 q1 q2:y}(hc:X.calm=θ)(hu:X.A.units+64<cLine)(Av:Gl X "len")(hl:X.mg "len" = Z)(Aw:bootBuiltins "len" = U (.builtin "len"))(qj:Gl X "set")(hr:X.mg "set" = Z)(qk:bootBuiltins "set" = U (.type "set"))(ha:JA X [a] (b_ fa))
  (he:‹starEach [a] X.env=[(ι,eval a X.env)]›) (Ax:‹starEach [.Call (.Name "set" p2) [a] [] q2] X.env=[(ι,eval (.Call (.Name "set" p2) [a] [] q2) X.env)]›):JE X (.Call (.Name "len" p1) [.Call (.Name "set" p2) [a] [] q2] [] q1) (tD (dN fa Hu)) :=
 (vO (OA) Av hl Aw (j5 (oq (Ou hc hu) qj hr qk ha (he:=he)) bF) (he:=Ax)).weak fun σ H Q ⟨F,ad,δ,K,S,q,k⟩=>⟨F,ad,δ,_,S,q,λxs δ1 h1 vs F1 aW H1 E1 S1 V1=>by
  let⟨ds,⟨ps,rfl,fR,bd,mM,h2⟩,pW⟩:=v_ S1 V1 h1;let⟨v,rfl,a,vs,rfl,g1,g2⟩:=c8 pW;let⟨as,rfl,hl,g⟩:=Hl g2;calc⟨a,as,ps,Y,bE.of g1,hl,λi b k' e1 e2=>S1.sub _ _ (g i b k' e1 e2),bd,mM,fR,λp hp=>⟨p,↑ps,Y,bK,⋯,?_⟩⟩;let s1:aO H1 (upd H1 p (k_ p ↑ps)):=cL hp
  calc k _ _ h2 _ _ _ _ (E1.trans (Ext.al S1 s1)) (S1.al s1) Y⟩
end
end L2
namespace LJ
open PySem L2
variable[aM]
theorem rM{i lo hi:Int}(h:lo<=i)(h':i<=hi):wY (.int i) lo hi=θ:=by
 show(l (lo<=i)&&l (i<=hi))=θ;rw[X7 h,X7 h'];rfl
inductive A4 (ys:-DV) (ar:-OV) (K:RV->-OV->Prop):Prop
 |mk (m i j:Int) (_:ys=[.p (.int m),.p (.int i),.p (.int j)]) (_:ar=[]) (_:0<=i) (_:i<j) (_:j<m) (_:K (.p (.bl θ)) [])
def A5:WS:=(aR (mS (aA 3 nH (aq (aa 1) (aq (dC (.int 0)) (aq (d2 (aa 0) (dC (.int 1)) (oI λi j=>.int (i-j))) ai)))) (aA 3 nH (aq (aa 2) (aq (d2 (aa 1) (dC (.int 1)) cS) (aq (d2 (aa 0) (dC (.int 1)) (oI λi j=>.int (i-j))) ai))))))
theorem QI:Sem 3 0 A4 A5:=by
 ext ys ar K'-⟨m,i,j,rfl,rfl,h1,h2,h3,k⟩;unfold A5;simp!;calc⟨.int i,0,m-1,Y,Y,?_⟩;rw[rM h1 ⋯];simp!;calc⟨.int j,i+1,m-1,Y,Y,?_⟩;rw[rM ⋯ ⋯];simp!;calc gW k
structure Hv(m:Int)(y:Int×Int×Int):Prop where
 low:0<=y.1
 up:y.1<y.2.1
 most:y.2.1<m
 pr:0<=y.2.2/\y.2.2<=1000000000
inductive A6 (ys:-DV) (ar:-OV) (K:RV->-OV->Prop):Prop
 |mk (m) (y) (_:Hv m y) (_:ys=[.p (.int m),.p (aX y)]) (_:ar=[]) (_:K (.p (.bl θ)) [])
def A7:WS:=(aw (bA (dJ (dT (aA 2 w5 (aq (aa 1) (aq (dC (.int 3)) ai))))) (aR (dC (.bl ι))) dz) (aR (mS (aA 3 A4 (aq (aa 0) (aq (d2 (aa 1) (dC (.int 0)) a5) (aq (d2 (aa 1) (dC (.int 1)) a5) ai)))) (aA 3 nH (aq (d2 (aa 1) (dC (.int 2)) a5) (aq (dC (.int 0)) (aq (dC (.int 1000000000)) ai)))))))
theorem QJ:Sem 2 0 A6 A7:=by
 ext ys ar K'-⟨m,y,W,rfl,rfl,k⟩;unfold A7;calc a_ λN hN=>?_;simp!;calc⟨aX y,3,Y,Y,?_⟩;rw[show wZ (aX y) 3=θ from Y];simp!;subst hN;simp![aX,dj,c_,at2];calc⟨m,_,_,Y,Y,W.low,W.up,W.most,?_⟩;simp!;calc⟨_,0,1000000000,Y,Y,?_⟩;rw[rM W.pr.1 W.pr.2];simp!;calc gW k
theorem aV.way{m:Int}{ws:-(Int×Int×Int)}(W:aV m ws){y:Int×Int×Int}(h:y∈ws):Hv m y :=
 let⟨a,b,c,d,e⟩:=W.ends y h
 ⟨a,⋯,⋯,d,e⟩
inductive A8 (ys:-DV) (ar:-OV) (K:RV->-OV->Prop):Prop
 |mk (m) (ws) (_:aV m ws) (_:ys=[.p (.int m),.p (.tup (ws.map aX))]) (_:ar=[]) (_:K (.p (.bl θ)) [])
def A9:WS:=(aw (bA (kG (dJ (dT (d1 (aa 1) (jn "tuple")))) (dT (d2 (dN (aq (aa 1) ai) cm) (dC (.int 30)) (oI λi j=>.bl (l (j<i)))))) (aR (dC (.bl ι))) dz) (aw (bA (dJ (dT (dN (aq (fV (cA (aa 1)) [Z,U 0] (b7 0) fh (aA 2 A6 (aq (aa 1) (aq (aa 0) ai)))) ai) nu))) (aR (dC (.bl ι))) dz) (aR (d2 (dN (aq (fV (cA (aa 1)) [Z] (b7 0) fh (gy (aa 0) gx (l5 (dC (.int 2))))) ai) Hu) (dN (aq (aa 1) ai) cm) oEq))))
theorem QK:Sem 2 0 A8 A9:=by
 ext ys ar K'-⟨m,ws,W,rfl,rfl,k⟩;let lB:=W.fR;let kD:=W.kD;unfold A9;calc a_ λN hN=>?_;simp![gR,show eI "tuple" "tuple" = θ from rfl];rw[WK (by rw[XO ⋯];decide)];subst hN;calc a_ λN hN=>?_;simp!;refine l6 (λ_=>.bl θ) (by rw[pR];symm) trivial ?_ ?_
 .ext d hd acc L ha h
  let⟨y,hy,rfl⟩:=XM.mp hd;simp!;calc⟨m,y,W.way hy,rfl,rfl,?_⟩;simp!;exact⟨ha,h⟩
 rw[show(ws.map aX).map (λ_=>D.bl θ)=(ws.map λ_=>θ).map D.bl by rw[X8,X8];rfl];simp![G1];rw[show(ws.map λ_=>θ).all id=θ from Zf.mpr λb hb=>by let⟨_,_,rfl⟩:=XM.mp hb;rfl];simp!;subst hN;simp!
 refine l6 (λd=>match d with
  |.tup [a,b,_]=>.tup [a,b]
  |_=>.non) (by rw[pR];symm) trivial ?_ ?_
 .ext d hd acc L ha h
  let⟨y,hy,rfl⟩:=XM.mp hd;let ec:cutD [D.int y.1,D.int y.2.1,D.int y.2.2] Z (U 2)=[D.int y.1,D.int y.2.1]:=by unfold cutD;rfl
  simp![aX,ec] at h ⊢;exact⟨ha,h⟩
 simp!;refine⟨ws.map nG,by rw[X8,X8];rfl,by rw[pR];calc lB,λp hp=>?_,W.unlike,?_⟩
 .let⟨y,hy,rfl⟩:=XM.mp hp
  let Y:=W.way hy;let:=Y.most;exact⟨Y.low,Y.up,by show y.2.1<12;symm⟩
 rw[pR];simp![aQ];calc gW k
inductive A_ (ys:-DV) (ar:-OV) (K:RV->-OV->Prop):Prop
 |mk (m) (ws) (_:aV m ws) (_:ys=[.p (aN m ws)]) (_:ar=[]) (_:K (.p (.bl θ)) [])
def Ba:WS:=(aw (bA (dJ (dT (aA 2 w5 (aq (aa 0) (aq (dC (.int 2)) ai))))) (aR (dC (.bl ι))) dz) (aR (mS (aA 3 nH (aq (d2 (aa 0) (dC (.int 0)) a5) (aq (dC (.int 1)) (aq (dC (.int 12)) ai)))) (aA 2 A8 (aq (d2 (aa 0) (dC (.int 0)) a5) (aq (d2 (aa 0) (dC (.int 1)) a5) ai))))))
theorem QL:Sem 1 0 A_ Ba:=by
 ext ys ar K'-⟨m,ws,W,rfl,rfl,k⟩;unfold Ba;calc a_ λN hN=>?_;simp!;calc⟨aN m ws,2,Y,Y,?_⟩;rw[show wZ (aN m ws) 2=θ from Y];simp!;subst hN;simp![aN,dj,c_];calc⟨.int m,1,12,Y,Y,?_⟩;rw[rM W.m1 W.kD];simp!;calc⟨m,ws,W,Y,Y,?_⟩;simp!;calc gW k
noncomputable def bC(ns:-Int):D:=.lst (ns.map D.int)
noncomputable def h9(fs:-Int)(i j:Nat):-Int:=fs.map λx=>if x=max (fs.getD i 0) (fs.getD j 0) then min (fs.getD i 0) (fs.getD j 0) else x
theorem rN(fs:-Int)(i j:Nat):↑(h9 fs i j)=fs.length:=by unfold h9;rw[pR]
theorem uM{ns:-Int}{i:Nat}(h:i<ns.length):eU (ns.map D.int) (i:Int)=U (.int (ns.getD i 0)):=by
 calc jC ?_;rw[WD,pQ h,Fl,pQ h];rfl
theorem eM{K:RV->-OV->Prop}{d:D}{sl:-(Option DV)}{mu:-(Option OV)}(h:K (.p d) []):iD 0 K (.p d) ⟨sl,mu⟩:=⟨[],Y,Y,h⟩
inductive uN (ys:-DV) (ar:-OV) (K:RV->-OV->Prop):Prop
 |mk (fs:-Int) (i j:Nat) (_:ys=[.p (bC fs),.p (.int i),.p (.int j)]) (_:ar=[]) (_:i<fs.length) (_:j<fs.length) (_:fs.length<=12) (_:K (.p (bC (h9 fs i j))) [])
def Bb:WS:=(aw (aP 3 (dN (aq (d2 (aa 0) (aa 1) a5) (aq (d2 (aa 0) (aa 2) a5) ai)) wK)) (aw (aP 4 (dN (aq (d2 (aa 0) (aa 1) a5) (aq (d2 (aa 0) (aa 2) a5) ai)) rF)) (aR (fV (cA (aa 0)) [Z,U 4,U 3] (b7 0) fh (rh (dT (d2 (aa 0) (aa 2) oEq)) (aa 1) (aa 0))))))
theorem QM:Sem 3 2 uN Bb:=by
 ext ys ar K'-⟨fs,i,j,rfl,rfl,hi,hj,Qy,k⟩;let a1:=uM hi;let a2:=uM hj;unfold Bb bC;calc a_ λN hN=>?_;simp![a1,a2];subst hN;calc a_ λN hN=>?_;simp![a1,a2];subst hN;simp!
 refine l6 (λd=>match d with
  |.int x=>.int (if x=max (fs.getD i 0) (fs.getD j 0) then min (fs.getD i 0) (fs.getD j 0) else x)
  |_=>.non) (by rw[pR];symm) trivial ?_ ?_
 .ext d hd acc L ha h
  let⟨x,_,rfl⟩:=XM.mp hd;simp!;cases q:aQ (.int x) (.int (max (fs.getD i 0) (fs.getD j 0)))
  .let:¬ x=max (fs.getD i 0) (fs.getD j 0):=λz=>by rw[z,h8] at q;cases q
   erw[this,q0f] at h;exact⟨ha,h⟩
  .let:x=max (fs.getD i 0) (fs.getD j 0):=by erw[aQ] at q;exact Zg q
   erw[this,q1z] at h;exact⟨ha,h⟩
 .refine eM ?_
  let e:(fs.map D.int).map (λd=>match d with
   |.int x=>D.int (if x=max (fs.getD i 0) (fs.getD j 0) then min (fs.getD i 0) (fs.getD j 0) else x)
   |_=>.non)=(h9 fs i j).map D.int:=by
   unfold h9;rw[X8,X8];rfl
  rw[e];calc k
noncomputable def cQ(ws:-(Int×Int×Int))(n:Int):Nat×Nat:=((ws.getD n.toNat (0,0,0)).1.toNat,(ws.getD n.toNat (0,0,0)).2.1.toNat)
noncomputable def jN(ws:-(Int×Int×Int))(fs:-Int)(ns:-Int):-Int:=ns.foldl (λfs n=>h9 fs (cQ ws n).1 (cQ ws n).2) fs
theorem Bc(ws:-(Int×Int×Int)):∀(ns:-Int)(fs:-Int),↑(jN ws fs ns)=fs.length
 |[],fs=>Y
 |n::r,fs=>by
  show↑(jN ws (h9 fs _ _) r)=_;rw[Bc ws r,rN]
noncomputable def fX(m:Int)(ws:-(Int×Int×Int))(ns:-Int):-Int:=jN ws (br m.toNat) ns
def Nums(ws:-(Int×Int×Int))(ns:-Int):Prop:=∀n∈ns,0<=n/\n<(↑ws:Int)
theorem kc{m:Int}{ws:-(Int×Int×Int)}(W:aV m ws){n:Int}(h0:0<=n)(h1:n<(↑ws:Int)):∃y,ws.getD n.toNat (0,0,0)=y/\y∈ws/\eU (ws.map aX) n=U (aX y)/\∃i j:Nat,y.1=i/\y.2.1=j/\i<m.toNat/\j<m.toNat/\i<j:=by
 let⟨k,rfl⟩:∃k:Nat,n=k:=⟨n.toNat,⋯⟩;let hk:k<↑ws:=by symm
 refine⟨ws[k],?_,Zv hk,jC ?_,?_⟩
 .rw[XZ,Fl,pQ hk];rfl
 .rw[WD,pQ hk];rfl
 .let⟨a,b,c,_,_⟩:=W.ends _ (Zv hk)
  calc⟨ws[k].1.toNat,ws[k].2.1.toNat,⋯,⋯,⋯,⋯,⋯⟩
inductive w6 (ys:-DV) (ar:-OV) (K:RV->-OV->Prop):Prop
 |mk (m:Int) (ws:-(Int×Int×Int)) (ns:-Int) (_:aV m ws) (_:Nums ws ns) (_:((ys=[.p (aN m ws),.p (bC ns)]/\ar=[]/\K (.p (bC (fX m ws ns))) [])\/(ys=[.p (aN m ws),.o 0]/\ar=[.lst (ns.map D.int)]/\K (.p (bC (fX m ws ns))) [.lst (ns.map D.int)])))
def w_:WS:=(aw (aP 2 (Au (aq (d2 (aa 0) (dC (.int 0)) a5) ai))) (aw (fH (cA (aa 1)) (b7 3) (aw (aP 4 (d2 (d2 (aa 0) (dC (.int 1)) a5) (aa 3) a5)) (aP 2 (aA 3 uN (aq (aa 2) (aq (d2 (aa 4) (dC (.int 0)) a5) (aq (d2 (aa 4) (dC (.int 1)) a5) ai))))))) (aR (aa 2))))
theorem QN:Sem 2 3 w6 w_:=by
 ext ys ar K'-⟨m,ws,ns,W,hn,h⟩;let m1:=W.m1;let kD:=W.kD;let il:↑(br m.toNat)=m.toNat:=by unfold br;simp
 let core:∀(x:DV)(mu:-(Option OV))(bQ:aJ->Prop)(K:KS),(∀sl,bQ ⟨sl,mu⟩)->(∀fs,fs=fX m ws ns->K.nx ⟨[U (.p (aN m ws)),U x,U (.p (bC fs)),Z,Z],mu⟩)->((∃d,x=.p d)\/∃k,x=.o k/\k<↑mu) →
   lu ⟨[U (.p (aN m ws)),U x,U (.p (bC (br m.toNat))),Z,Z],mu⟩ bQ (b7 3) (aw (aP 4 (d2 (d2 (aa 0) (dC (.int 1)) a5) (aa 3) a5)) (aP 2 (aA 3 uN (aq (aa 2) (aq (d2 (aa 4) (dC (.int 0)) a5) (aq (d2 (aa 4) (dC (.int 1)) a5) ai)))))) K (ns.map D.int) ⟨[U (.p (aN m ws)),U x,U (.p (bC (br m.toNat))),Z,Z],mu⟩:=by
  ext x mu bQ K hc hK hx;refine oX (λi δ=>δ=⟨[U (.p (aN m ws)),U x,U (.p (bC (jN ws (br m.toNat) (ns.take i)))),Z,Z],mu⟩) Y ?_ ?_
  .ext j d δ L hj rfl hL
   rw[WD] at hj;let⟨n,qr,rfl⟩:=XX.mp hj;let⟨n0,n1⟩:=hn n (Yl qr);let⟨y,ey,hy,ea,i,k,e1,e2,h1,h2,_⟩:=kc W n0 n1;calc⟨hc _,?_⟩;erw[b7,YU,YV];calc a_ λN hN=>?_;simp![c_,aN,ea];subst hN;simp![dj,c_,aX];let hlen:↑(jN ws (br m.toNat) (ns.take j))=m.toNat:=by rw[Bc,il]
   refine⟨jN ws (br m.toNat) (ns.take j),i,k,by rw[e1,e2],Y,⋯,⋯,⋯,?_⟩
   let ej:h9 (jN ws (br m.toNat) (ns.take j)) i k=jN ws (br m.toNat) (ns.take (j+1)):=by
    let:ns.take (j+1)=ns.take j++[n]:=by rw[q0O,qr];rfl
    rw[this];unfold jN;rw[q1C];show _=h9 _ (cQ ws n).1 (cQ ws n).2
    let:cQ ws n=(i,k):=by
     unfold cQ;rw[ey,e1,e2,XZ,XZ]
    rw[this]
   rw[ej]
   let eq:(aJ.trim ⟨[U (.p (aN m ws)),U x,U (.p (bC (br m.toNat))),Z,Z],mu⟩ ⟨[U (.p (aN m ws)),U x,U (.p (bC (jN ws (br m.toNat) (ns.take (j+1))))),U (.p (.int n)),U (.p (aX y))],mu⟩)=⟨[U (.p (aN m ws)),U x,U (.p (bC (jN ws (br m.toNat) (ns.take (j+1))))),Z,Z],mu⟩:=by
    unfold aJ.trim;rw[q3H];rcases hx with⟨d,rfl⟩|⟨q,rfl,this⟩
    .rfl
    .erw[gv,wo,this,q1z]
   let:=hL _ Y;rw[<-eq] at this;exact this
  .ext δ rfl
   rw[pR,YI (Fm _)];exact⟨hc _,hK _ Y⟩
 let rg:cP 0 m.toNat=(br m.toNat).map D.int:=qi m.toNat;rcases h with⟨rfl,rfl,k⟩|⟨rfl,rfl,k⟩
 .unfold w_
  calc a_ λN hN=>?_;simp![dj,aN];calc⟨⟨⋯,⋯⟩,?_⟩;subst hN;rw[rg];calc a_ λN hN=>uK λg' b' K2 hg hb' hK=>?_;simp![bC];subst hg hb' hK;calc core (.p (bC ns)) [] _ _ (λ_=>trivial) (λfs e=>?_) (.inl ⟨_,Y⟩);subst e;show N _;subst hN;simp!;exact eM k
 .unfold w_
  calc a_ λN hN=>?_;simp![dj,aN];calc⟨⟨⋯,⋯⟩,?_⟩;subst hN;rw[rg];calc a_ λN hN=>uK λg' b' K2 hg hb' hK=>?_;simp!;subst hg hb' hK;calc core (.o 0) [U (.lst (ns.map D.int))] _ _ (λ_=>Y) (λfs e=>?_) (.inr ⟨0,Y,Nat.zero_lt_one⟩);subst e;show N _;subst hN;simp!;calc⟨[.lst (ns.map D.int)],Y,Y,k⟩
noncomputable def xa(ls:-(-Int)):D:=.lst (ls.map bC)
theorem QO{m:Int}{ws:-(Int×Int×Int)}{ns:-Int}:↑(fX m ws ns)=m.toNat:=by
 unfold fX;rw[Bc];unfold br;simp
theorem Hw{n:Nat}{z:Int}(h:z∈br n):0<=z/\z<(n:Int):=by
 unfold br at h;let⟨i,hi,rfl⟩:=XM.mp h;let:=Yo.mp hi;simp;symm
theorem Bd(n:Nat):(br n).Nodup:=by
 unfold br;calc Zp.mpr (q0U.imp λ{a b} ne e=>ne ?_);calc q2M e
theorem l7{H:Hp}{a:O}{o:HO}(h:H a=Z):aO H (upd H a o):=λb u e=>by rw[aZ (cR e h)];calc e
structure xb(H:Hp)(p c:O)(at_ z:Int):Prop where
 lst:H p=U (.lst [.ref c,.int at_,.int z])
 cells:∃ns:-Int,H c=U (.lst (ns.map V.int))/\ns.length<=63
 pos:0<=at_
theorem xb.ne{H:Hp}{p c:O}{k z:Int}(P:xb H p c k z):c≠p:=by
 let⟨ns,h,_⟩:=P.cells;ext e;subst e;rw[P.lst] at h;let h':=Yf h;injection h' with qZ
 cases ns with
 |nil=>cases qZ
 |cons n r=>injection qZ with h1 _;cases h1
theorem QP{ns:-Int}{k:Int}(h0:0<=k)(h1:k<(ns.length:Int)):∃n,eU (ns.map V.int) k=U (.int n):=by
 let⟨i,rfl⟩:∃i:Nat,k=i:=⟨k.toNat,⋯⟩;let hi:i<ns.length:=by symm
 calc⟨ns[i],jC ?_⟩;rw[WD,pQ hi];rfl
def Hx(K:vS):Sp:=λvs H Q _=>∃(a:O)(ns:-Int),vs=[.ref a]/\bE K H a (ns.map V.int)/\ns.length<=63/\∀(p c:O)(H':Hp),aO H H'->H p=Z->xb H' p c 0 0->Q (.ref p) H'
def uO(K:vS):Sp:=λvs H Q _=>∃(a:O)(ns:-Int),vs=[.ref a]/\bE K H a (ns.map V.int)/\ns.length<=63/\aM.ok H/\∀H',Q (.bl θ) H'
theorem Be(ns:-Int)(lo hi:Option Int):dy (ns.map V.int) lo hi=((ns.drop (HT.bt ns.length 0 lo)).take (HT.bt ns.length ns.length hi-HT.bt ns.length 0 lo)).map V.int:=by
 unfold dy;rw[pR,q2O,q2P]
theorem QQ{H:Hp}{p c a:O}{n:Nat}(hT:aM.ok H)(N:xb H p c 0 0):∃(F:Hp)(ns:-Int),ns.length<=63/\SR F [p] ⟨Z::U (.o 0)::My n Z,[U (.lst [.lst (ns.map D.int),.int 0,.int 0])]⟩ (U (.ref a)::U (.ref p)::My n Z) H:=by
 let⟨ns,hc,hn⟩:=N.cells;let ne:=N.ne
 let cn:∀{b:O},((∃ps,H b=U (.tbl ps))\/∃vs,H b=U (.lst vs))->aM.cs b=Z:=λ{b} h=>by
  cases q:aM.cs b with
  |none=>rfl
  |some o =>
   let⟨vs,rfl⟩:=aM.ct q;let:=aM.co hT _ _ q;rcases h with⟨_,h⟩|⟨_,h⟩<;>rw[this] at h<;>cases h
 refine⟨upd aM.cs c (.lst (ns.map V.int)),ns,hn,⟨λb o e=>?_,λb ⟨k,ov,e1,e2⟩=>?_,Y,λk l a ov ow e1 e2 _ _=>?_,λk ov e=>?_,λi x e=>?_,by simp,hT,⟨λb hb=>by
  let⟨ps,q⟩:=aM.tb hT hb;rw[aZ λz=>by subst z;rw[hc] at q;cases q]
  calc cn (q1a ⟨ps,q⟩),λb o e=>by rw[aZ λz=>by subst z;rw[cn (q2k ⟨_,hc⟩)] at e;cases e];calc e⟩⟩⟩
 .by_cases z:b=c
  .subst z;rw[bK] at e;cases e;exact hc
  .rw[aZ z] at e;exact aM.co hT _ _ e
 .cases k with
  |zero=>cases(show U p=U b by simpa using e1);rw[aZ (Zl ne)];exact cn (q2k ⟨_,N.lst⟩)
  |succ k=>simp at e1
 .cases k with
  |zero =>
   cases l with
   |zero=>rfl
   |succ l=>simp at e2
  |succ k=>simp at e1
 .cases k with
  |zero =>
   cases(show OV.lst [.lst (ns.map D.int),.int 0,.int 0]=ov by simpa using e)
   calc⟨p,_,Y,N.lst,_,Y,?_⟩;calc .cons ?_ (.cons Y (.cons Y .nil));erw[Is];exact⟨c,_,Y,bK,qf⟩
  |succ k=>simp at e
 .cases i with
  |zero=>simp at e
  |succ i =>
   cases i with
   |zero =>
    cases(show DV.o 0=x by simpa using e)
    exact⟨_,Y,p,Y,Y⟩
   |succ i =>
    exfalso;let e:(My n (Z:Option DV))[i]?=U (U x):=by simpa using e
    rw[ZC] at e;split at e<;>cases e
theorem QR{B:WS}{F:Hp}{ad:-O}{δ:aJ}{σ:St}{H:Hp}{Q:VK}(S:SR F ad δ σ H)(h:B ⟨λ_=>False,λx _=>x=.p (.bl θ),λ_=>False,λ_=>False⟩ δ)(q:∀H',Q (.bl θ) H'):cY B {nx:=λ_ H'=>Q .non H',rt:=Q} σ H :=
 ⟨F,ad,δ,_,S,h,⟨fun δ' h=>h.elim,fun δ' h=>h.elim,fun δ' h=>h.elim,λx δ' h v F' aG σ' H' E' S' V=>by
  let h:x=.p (.bl θ):=h;subst h;let V:v=.bl θ:=V;subst V
  calc q H',trivial⟩⟩
end LJ
namespace L2
open PySem PySem.Spec PyProof.Rows
def Bf(Ts:-(O×Array L))(H:Hp):Prop:=∀b,(∃ps,Ts.lookup b=U ps/\H b=U (.tbl ps))\/(Ts.lookup b=Z/\(H b=Z\/(∃o xs,H b=U (.frz o (.lst xs)))\/∃xs,H b=U (.tup xs)))
noncomputable def dR(cs H:Hp):Hp:=λb=>match cs b with
 |none=>H b
 |some _=>Z
theorem Bg{cs H:Hp}{b:O}{u:HO}(h:dR cs H b=U u):cs b=Z/\H b=U u:=by
 unfold dR at h
 cases q:cs b with
 |none=>rw[q] at h;exact⟨Y,h⟩
 |some o=>rw[q] at h;cases h
noncomputable def kJ(cs H:Hp):Hp:=λb=>match cs b with
 |none=>H b
 |some o=>U o
theorem oZ{cs H:Hp}{b:O}(h:cs b=Z):kJ cs H b=H b:=by unfold kJ;rw[h]
theorem xc{cs H:Hp}{b:O}{o:HO}(h:cs b=U o):kJ cs H b=U o:=by unfold kJ;rw[h]
structure Cs(P:t)(w:X)(cs:Hp)(h:I):Prop where
 ct:∀{b:O}{o:HO},cs b=U o->∃xs,o=.tup xs
 ok:∀{b:O}{xs:-V},cs b=U (.tup xs)->↑xs<=sizeLine/\∃au:-L,Vals xs au/\IsTup h b au.toArray
theorem Cs.no{P:t}{w:X}{cs:Hp}{h:I}(C:Cs P w cs h){b:O}{u:Q}(e:h.get? b=U u)(n:u.cls≠.type "tuple"):cs b=Z:=by
 cases q:cs b with
 |none=>rfl
 |some o =>
  let⟨xs,rfl⟩:=C.ct q;let⟨_,au,_,hI⟩:=C.ok q;let⟨o,e1,r⟩:=hI;rw[e] at e1;cases e1;calc absurd r.1 n
theorem QS{P:ψ}{w:X}{K:vS}{mg mb:J->Option L}{CX:jW}{k:Nat}{fa a:O}{fd:FuncData}{x:J}{sp:Sp}{s₁:B}{vs:-L}{ns:-Int}(Ts:-(O×Array L)){cs:Hp}(hC:Cs P w cs s₁.heap)
  (hT:∀b ps,Ts.lookup b=U ps->s₁.heap.get? b=U {cls:=.none,data:=.fields ps}/\isCodeTable s₁.heap b/\K.lookup b=Z)
  (KX:K.In s₁.heap) (uP:s₁.heap.Ns mainGlobals mg) (hb:s₁.heap.Ns builtinsNs mb) (QT:∀x:J,x≠"__name__" -> mb x=bootBuiltins x) (Bh:s₁.heap.NoLimit) (hg:s₁.gens = #[])
  (ha:s₁.heap.get? a=U {cls:=.type "list",data:=.seq vs.toArray}) (hi:IntsAre vs ns) (hl:ns.length<=sizeLine) (hr:a6 k callerA)
  (hB:∃bm ob,mg "__builtins__" = U (.ref bm)/\bm≠builtinsNs/\s₁.heap.get? bm=U ob/\ob.cls=.type "module" /\ ob.dict=U builtinsNs/\ob.data=.plain)
  (F:∀base:I,K.In base->base.Ns mainGlobals mg->(∀b ps,Ts.lookup b=U ps->base.BuiltinsAt mg b)->bN P w K mg base CX k fa fd [x] sp) (uQ:∀(s:B)(u:L),BindsTo s fd ⟨[u],[]⟩ [(x,u)])
  (oo:∀H:Hp,Bf Ts H->aO cs H->bE K H a (ns.map V.int)->sp [.ref a] H (λv _=>v=.bl θ) λ_ _ _=>False)
  (Bi:∀H e s',CX [] H s₁ (λ_ _ _=>False) e s'->False) :
  codeAny (S P w) callerA (.call (.ref fa) ⟨[.ref a],[]⟩) (λr s'=>r=.ok (.ret (.bool θ))/\OldK s₁.heap s'.heap/\s'.os=s₁.os/\AllBare s'.gens) s₁:=by
 let rv:=Fj hi;let Bj:=↑hi
 let aT:Ts.lookup a=Z:=by
  cases q:Ts.lookup a with
  |none=>rfl
  |some ps =>
   let:=(hT a ps q).1;rw[ha] at this;let z:=congrArg Obj.cls (Yf this);cases(show q0y "list" = Yk from z)
 let aC:cs a=Z:=hC.no ha (show q0y "list" ≠ q0y "tuple" by decide)
 let tC:∀{b ps},Ts.lookup b=U ps->cs b=Z:=λ{b ps} t=>hC.no (hT b ps t).1 nofun
 let core:∀H:Hp,Bf Ts H->aO cs H->bE K H a (ns.map V.int)->c5 P w H s₁.heap->(∀b,Ts.lookup b=Z->cs b=Z->H b≠Z->b=a)->(H a≠Z->K.lookup a=Z) →
   codeAny (S P w) callerA (.call (.ref fa) ⟨[.ref a],[]⟩) (λr s'=>r=.ok (.ret (.bool θ))/\OldK s₁.heap s'.heap/\s'.os=s₁.os/\AllBare s'.gens) s₁:=by
  ext H hO rO hS aY QU hK
  let hA:∀b,Ts.lookup b=Z->dR cs H b≠Z->b=a:=λb t n=>by
   cases q:dR cs H b with
   |none=>exact absurd q n
   |some u=>exact QU b t (Bg q).1 (by rw[(Bg q).2];simp)
  let gX:∀{b:O}{o:Q},s₁.heap.get? b=U o->dR cs H b=Z->(gi s₁.heap (dR cs H)).get? b=U o:=λe n=>LH e n
  let mE:∀{b:O}{o:Q}{es:Array DictEntry}{ep:Nat},s₁.heap.get? b=U o->o.data=.dict es ep->dR cs H b=Z:=λ{b o es ep} e d=>by
   cases q:dR cs H b with
   |none=>rfl
   |some u =>
    cases t:Ts.lookup b with
    |some ps =>
     let:=(hT b ps t).1;rw[e] at this;cases this;cases d
    |none =>
     let e':b=a:=hA b t (by rw[q];simp);subst e';rw[ha] at e;cases e;let d':Data.seq vs.toArray _=Data.dict es ep:=d;cases d'
  let xf:∀{b:O}{m:J->Option L},s₁.heap.Ns b m->(gi s₁.heap (dR cs H)).Ns b m:=λ{b m} ⟨o,es,ep,e,d,r⟩=>⟨o,es,ep,gX e (mE e d),d,r⟩
  let Hy:K.In (gi s₁.heap (dR cs H)):=λb o e=>gX (KX b o e) (by
   cases q:dR cs H b with
   |none=>rfl
   |some u =>
    cases t:Ts.lookup b with
    |some ps=>rw[(hT b ps t).2.2] at e;cases e
    |none =>
     let e':b=a:=hA b t (by rw[q];simp);subst e'
     rw[hK (by rw[(Bg q).2];simp)] at e;cases e)
  let QV:∀b ps,Ts.lookup b=U ps->(gi s₁.heap (dR cs H)).BuiltinsAt mg b:=λb ps t=>by
   let⟨bm,ob,b1,b2,b3,b4,b5,b6⟩:=hB;refine⟨bm,ob,b1,b2,λz=>?_,λz=>?_,gX b3 ?_,b4,b5,b6⟩
   .let⟨o,es,ep,e1,e2,_⟩:=uP
    rw[z,e1] at b3;cases b3;rw[e2] at b6;cases b6
   .let:=(hT b ps t).1
    rw[z,this] at b3;cases b3;cases b6
   .cases q:dR cs H bm with
    |none=>rfl
    |some u =>
     cases t':Ts.lookup bm with
     |some dS =>
      let:=(hT bm dS t').1;rw[b3] at this;cases this;cases b6
     |none =>
      let e':bm=a:=hA bm t' (by rw[q];simp);rw[e',ha] at b3;cases b3;cases b6
  let hM:Mod K mg (gi s₁.heap (dR cs H)):=⟨Hy,xf uP,⟨mb,xf hb,QT⟩,let⟨mc,h1,h2⟩:=Bh;⟨mc,xf h1,h2⟩⟩
  let e0:i7 P w K mg (gi s₁.heap (dR cs H)) callerA [] s₁ H:=⟨Y,hM,λb o e=>⟨(Em e).1,by
   let z:=(Em e).2;unfold dR at z
   cases q:cs b with
   |none=>rw[q] at z;exact .inl z
   |some u =>
    let⟨xs,rfl⟩:=hC.ct q
    calc .inr ⟨xs,rO b _ q⟩⟩,q1Y (LG _ _),trivial,λb hb=>absurd (show b∈([]:-O) from hb) (by simp),aY,.of_eq hg⟩
  refine q0J ((F _ Hy (xf uP) QV).run callerA [] s₁ H ⟨[.ref a],[]⟩ [.ref a] [.ref a] _ _ hr e0 (uQ s₁ (.ref a)) (.cons Y .nil) (oo H hO rO hS)) λr s' h=>?_
  cases r with
  |error e=>exact(Bi H e s' h).elim
  |ok fl =>
   cases fl with
   |next=>exact YN h
   |brk=>exact YN h
   |cont=>exact YN h
   |ret u =>
    let⟨v,H',os,bare,un,uR,r',q⟩:=h;let q':v=.bl θ:=q;subst q';obtain rfl:u=q0h θ:=r'
    let all:∀b o,s₁.heap.get? b=U o->asItWas s₁.heap s'.heap b o/\∃o',s'.heap.get? b=U o':=λb o e=>by
     rcases hO b with⟨ps,t,z⟩|⟨t,z|⟨ob,xs,z⟩|⟨xs,z⟩⟩
     .let⟨more,z2⟩:=un.eZ b ps z
      let e2:s'.heap.get? b=U {cls:=.none,data:=.fields (ps++more)}:=uR b _ z2;let e1:=(hT b ps t).1;rw[e] at e1;cases e1;exact⟨.inr (.inl ⟨(hT b ps t).2.1,Y,ps,more,Y,e2⟩),_,e2⟩
     .let e2:=un.keep b o e z (by ext z;calc absurd (show b∈([]:-O) from z) (by simp)) (by simp)
      exact⟨.inl e2,_,e2⟩
     .let z2:=un.eY b ob _ z
      let⟨e1,_⟩:=aY b _ z;let⟨e2,_⟩:=uR b _ z2;rw[e] at e1;cases e1;exact⟨.inl e2,_,e2⟩
     .let e2:=un.eu b xs o z e (by simp)
      exact⟨.inl e2,_,e2⟩
    exact⟨Y,⟨λb o e=>(all b o e).1,λb o e=>(all b o e).2⟩,os,bare⟩
 let o7:∀(H:Hp) b ps,Ts.lookup b=U ps->aU P w H s₁.heap b (.tbl ps):=λH b ps t=>(hT b ps t).1
 let one:∀{b:O}{R:Prop},(∀o,cs b=U o->R)->(cs b=Z->R)->R:=λ{b R} f g=>by
  cases q:cs b with
  |none=>exact g q
  |some o=>exact f o q
 let Hz:∀{H:Hp}{b:O}{o u:HO},cs b=U o->kJ cs H b=U u->aU P w (kJ cs H) s₁.heap b u:=λ{H b o u} q z=>by
  rw[xc q] at z;cases z;let⟨xs,rfl⟩:=hC.ct q;exact hC.ok q
 let cO:∀{H:Hp}{b:O}{o:HO},cs b=U o->(∃ps,Ts.lookup b=U ps/\kJ cs H b=U (.tbl ps))\/(Ts.lookup b=Z/\(kJ cs H b=Z\/(∃o xs,kJ cs H b=U (.frz o (.lst xs)))\/∃xs,kJ cs H b=U (.tup xs))):=λ{H b o} q=>by
  let⟨xs,rfl⟩:=hC.ct q;refine .inr ⟨?_,.inr (.inr ⟨xs,xc q⟩)⟩
  cases t:Ts.lookup b with
  |none=>rfl
  |some ps=>rw[tC t] at q;cases q
 cases hk:K.lookup a with
 |some o =>
  let e:=KX a o hk;rw[ha] at e;cases e
  refine core (kJ cs λb=>(Ts.lookup b).map HO.tbl) (λb=>one (λo q=>cO q) λq=>?_) (λb o q=>xc q) (.inr ⟨_,vs.toArray,_,hk,Y,Y,Y,by rw[Fp,Bj];calc hl,by simpa using rv⟩) (λb u z=>one (λo q=>Hz q z) λq=>?_) (λb t q z=>?_) λz=>?_
  .rw[oZ q]
   cases t:Ts.lookup b with
   |some ps=>exact .inl ⟨ps,Y,Y⟩
   |none=>exact .inr ⟨Y,.inl Y⟩
  .rw[oZ q] at z
   let⟨ps,t,rfl⟩:=XX.mp (show(Ts.lookup b).map HO.tbl=U u from z);exact o7 _ b ps t
  .rw[oZ q] at z
   exact absurd (show(Ts.lookup b).map HO.tbl=Z by rw[t];rfl) z
  .rw[oZ aC] at z
   exact absurd (show(Ts.lookup a).map HO.tbl=Z by rw[aT];rfl) z
 |none =>
  refine core (kJ cs λb=>if b=a then U (.frz {cls:=.type "list",data:=.seq vs.toArray} (.lst (ns.map V.int))) else(Ts.lookup b).map HO.tbl) (λb=>one (λo q=>cO q) λq=>?_) (λb o q=>xc q) (.inl (.inr ⟨{cls:=.type "list",data:=.seq vs.toArray},(oZ aC).trans (XI Y)⟩)) (λb u z=>one (λo q=>Hz q z) λq=>?_) (λb t q z=>?_) λ_=>hk
  .rw[oZ q]
   by_cases hb:b=a
   .subst hb
    exact .inr ⟨aT,.inr (.inl ⟨_,_,XI Y⟩)⟩
   .cases t:Ts.lookup b with
    |some ps=>exact .inl ⟨ps,Y,WK hb⟩
    |none=>exact .inr ⟨Y,.inl (WK hb)⟩
  .rw[oZ q] at z
   by_cases hb:b=a
   .let z':=(XI hb).symm.trans z
    cases z'
    subst hb;exact⟨ha,by rw[pR];calc hl,vs,_,rv,ha⟩
   .let z':=(WK hb).symm.trans z
    let⟨ps,t,rfl⟩:=XX.mp z';exact o7 _ b ps t
  .rw[oZ q] at z
   by_cases hb:b=a
   .exact hb
   .calc absurd ((WK hb).trans (by rw[t];rfl)) z
theorem QW{l:q34}{n k:Nat}{q:t}{loose:-J}{XP:(J->Option L)->I->Prop}{YP:X->I->Prop}{d:DefRec}{K:X->vS}{CX:X->jW}{sp:X->Sp}{x:J}{Ts:X->-(O×Array L)}{cs:X->Hp}
  (hn:l.most=U n) (vK:n<=sizeLine) (pM:d.params.defaults=[]) (hr:a6 k callerA)
  (hY:∀(w:X)(h:I),YP w h->(K w).In h)
  (hT:∀(w:X)(h:I),YP w h->∀b ps,(Ts w).lookup b=U ps->h.get? b=U {cls:=.none,data:=.fields ps}/\isCodeTable h b/\(K w).lookup b=Z)
  (hC:∀(w:X)(h:I),YP w h->Cs l.prog w (cs w) h)
  (F:∀(w:X)(mg:J->Option L)(fa:O)(h:I),(K w).In h->h.Ns mainGlobals mg->mg d.name=U (.ref fa) →
   ∃fd:FuncData,(∀(s:B)(u:L),BindsTo s fd ⟨[u],[]⟩ [(x,u)]) ∧
    ∀base:I,(K w).In base->base.Ns mainGlobals mg->(∀b ps,(Ts w).lookup b=U ps->base.BuiltinsAt mg b)->bN l.prog w (K w) mg base (CX w) k fa fd [x] (sp w))
  (oo:∀(w:X)(H:Hp)(a:O)(ns:-Int),ns.length<=n->Bf (Ts w) H->aO (cs w) H->bE (K w) H a (ns.map V.int)->sp w [.ref a] H (λv _=>v=.bl θ) λ_ _ _=>False)
  (Bi:∀(w:X)(H:Hp)(s:B)(e:L)(s':B),CX w [] H s (λ_ _ _=>False) e s'->False) :
  PySem.W.WalkO q loose XP YP l.row.toRowW d [] (λf vs=>q2Z f vs):=by
 calc Att.iw hn pM λw s₀ s₁ mg mb fa o pm cd doc a vs ns G Y ho hd fS mI pN hints hlen hg=>?_;let KX:=hY w _ Y;let⟨fd,hb,hF⟩:=F w mg fa _ KX G.T.g mI;calc QS (Ts w) (hC w _ Y) (hT w _ Y) KX G.T.g G.T.b G.T.builtins G.T.nolimit hg pN hints (Yi hlen vK) hr G.T.bmain hF hb (λH hO rO hS=>oo w H a ns hlen hO rO hS) λH e s'=>Bi w H s₁ e s'
section
variable{X:Cx}{pins:aH}{σ:St}{H:Hp}{s:B}{h':I}
theorem Inv.grow{T c f:O}{ps more:Array L}{oc of:HO}{t':Nat}(I:Inv X pins σ H s)(hT:H T=U (.tbl ps))(k:∀b u,b≠T->s.heap.get? b=U u->h'.get? b=U u)(xg:h'.get? T=U {cls:=.none,data:=.fields (ps++more)})
  (hc:⇑s<=c) (hf:⇑s<=f) (Bk:c≠f) (QX:∀H2,aU X.prog X.w H2 h' c oc) (QY:∀H2,aU X.prog X.w H2 h' f of) :
  Inv X pins σ (upd (upd (upd H T (.tbl (ps++more))) c oc) f of) {s with heap:=h',toks:=t'}:=by
 let tl:T<⇑s:=(I.aY T _ hT).lt;let cT:c≠T:=ZZ (XN tl hc);let fT:f≠T:=ZZ (XN tl hf);let W9:H c=Z:=I.aY.fresh hc;let QZ:H f=Z:=I.aY.fresh hf
 let old:∀b,b<⇑s->b≠T->upd (upd (upd H T (.tbl (ps++more))) c oc) f of b=H b:=λb hb nT=>by
  rw[aZ (XQ (XN hb hf)),aZ (XQ (XN hb hc)),aZ nT]
 let atT:upd (upd (upd H T (.tbl (ps++more))) c oc) f of T=U (.tbl (ps++more)):=by
  rw[aZ (Zl fT),aZ (Zl cT),bK]
 let lt:∀b u,H b=U u->b<⇑s:=λb u e=>(I.aY b u e).lt
 let eN:∀b u,H b=U u->(∀qs,u≠.tbl qs)->upd (upd (upd H T (.tbl (ps++more))) c oc) f of b=U u:=λb u e n=>by
  rw[old b (lt b u e) (λz=>by subst z;rw[hT] at e;cases e;calc n _ Y)];exact e
 refine I.un (t':=t') ⟨λb o e n _ _=>k b o (λz=>by subst z;rw[hT] at n;cases n) e,λb o e n _ _=>⟨o.slots,k b o (λz=>by subst z;rw[hT] at n;cases n) e⟩,λb o e n _=>?_,λb o e _=>?_,λb xs e=>eN b _ e (λ_ z=>by cases z),λb o u e=>eN b _ e (λ_ z=>by cases z),λb qs e=>?_,λb xs o q e _=>k b o (λz=>by subst z;rw[hT] at q;cases q) e⟩ λb u e=>?_
 .rw[old b (WJ e) (λz=>by subst z;rw[hT] at n;cases n)];exact n
 .by_cases z:b=T
  .subst z;exact⟨_,xg⟩
  .exact⟨o,k b o z e⟩
 .by_cases z:b=T
  .subst z;rw[hT] at e;cases e;exact⟨more,atT⟩
  .exact⟨#[],by rw[old b (lt b _ e) z,e];simp⟩
 .by_cases z1:b=f
  .subst z1;rw[bK] at e;cases e;exact QY _
  .rw[aZ z1] at e
   by_cases z2:b=c
   .subst z2;rw[bK] at e;cases e;exact QX _
   .rw[aZ z2] at e
    by_cases z3:b=T
    .subst z3;rw[bK] at e;cases e;exact xg
    .rw[aZ z3] at e
     refine aU.eW (I.aY b u e) (λd v hd q=>?_) (λd q=>eN d _ q (λ_ z=>by cases z)) (λd xs q=>eN d _ q (λ_ z=>by cases z))
     .refine k d v (λy=>?_) q
      subst y;rcases hd with y|y
      .exact z3 y.symm
      .rw[hT] at y;cases y
noncomputable def l8(c:O)(q:J):HO:=.ext λh=>∃o vs tq,h.get? c=U o/\o.data=.fields vs/\vs[1]?=U (.str q tq)
theorem Q0{P:t}{w:ω}{H:Hp}{h:I}{c:O}{q:J}(e:h.CodeRec (.ref c) q):aU P w H h c (l8 c q):=by
 let⟨c',o,vs,tq,z,ho,hd,hq⟩:=e;cases z
 calc⟨⟨o,vs,tq,ho,hd,hq⟩,⟨o,ho⟩,λh1 h2 ⟨o,vs,tq,e1,e2,e3⟩ k↦⟨o,vs,tq,k o e1,e2,e3⟩⟩
theorem Q1{P:t}{w:ω}{H:Hp}{h:I}{c:O}{q:J}(x:aU P w H h c (l8 c q)):h.CodeRec (.ref c) q:=by
 let⟨⟨o,vs,tq,ho,hd,hq⟩,_⟩:=x;calc⟨c,o,vs,tq,Y,ho,hd,hq⟩
end
end L2
namespace L2
open PySem PySem.Spec PyProof.Rows PySem.W
section
variable{X:Cx}{pins:aH}{σ:St}{H:Hp}{s:B}{params:Arguments}{body:M}{scope:o}{pos:y}{iH:-(J×O)}{cc T:O}{ps:Array L}{E:bc}{Q:bc}
noncomputable def jr(f:O)(name qual:J)(params:Arguments)(body:M)(scope:o)(iH:-(J×O))(pm cd:L):HO:=.ext λh=>∃uS,h.get? f=U {cls:=.type "function",data:=.func (kla_fn name qual params body scope iH pm cd uS)}
def eO(H:Hp)(T:O)(pos:y)(qual:J):Prop:=∃ps,H T=U (.tbl ps)/\TriplesOk ps.toList/\(codeAmong pos ps.toList=Z\/∃c,codeAmong pos ps.toList=U (.ref c)/\H c=U (l8 c qual))
theorem Q2(I:Inv X pins σ H s)(hT:eO H T pos (X.env.qual++"<lambda>"))(Bl:defaultsOf params X.env=([],[]))(oE:closureFor scope X.env=pure iH)(jO:X.env.code=.ref cc)(C:CodeHd s.heap cc T)(Q3:mainGlobals≠T)(hg:s.heap.Ns mainGlobals X.mg)(hb:s.heap.BuiltinsAt X.mg T)
  (h:∀f H' s' c,Inv X pins σ H' s'->eO H' T pos (X.env.qual++"<lambda>")->(∀b o,H b=U o->b≠T->H' b=U o)->H f=Z->H' f=U (jr f "<lambda>" (X.env.qual++"<lambda>") params body scope iH ((X.mg "__name__").getD .none) (.ref c))->H' c=U (l8 c (X.env.qual++"<lambda>"))->Q (.ref f) s') :
  G (S X.prog X.w) X.A (eval (.Lambda params body scope pos) X.env) Q E s:=by
 let⟨ps,hP,ht,hf⟩:=hT;let Bm:s.heap.get? T=U {cls:=.none,data:=.fields ps}:=I.aY T _ hP;calc kla_eval Bl ?_;rcases hf with HA|⟨c,hf,xh⟩
 .refine kla_makeFunction oE I.ok.glob hg jO C Bm ht HA Q3 hb λc' uS h' tk hx xi fL Bo Q4=>?_
  let hsz:⇑s<=h'.objs.size:=Zx (q1f xi fL);let tl:T<⇑s:=WJ Bm;let Q5:T≠h'.objs.size:=XQ (XN tl hsz);let Q6:T≠c':=XQ (XN tl xi);let Bk:c'≠h'.objs.size:=XQ fL;let HB:(ps ++ #[rawInt pos.line,rawInt pos.col,Yg c']).toList=ps.toList++[rawInt pos.line,rawInt pos.col,Yg c']:=by simp
  let atT:upd (upd (upd H T (.tbl (ps ++ #[rawInt pos.line,rawInt pos.col,.ref c']))) c' (l8 c' (X.env.qual++"<lambda>"))) h'.objs.size (jr h'.objs.size "<lambda>" (X.env.qual++"<lambda>") params body scope iH ((X.mg "__name__").getD .none) (.ref c')) T=U (.tbl (ps ++ #[rawInt pos.line,rawInt pos.col,.ref c'])):=by
   rw[aZ Q5,aZ Q6,bK]
  let atC:upd (upd (upd H T (.tbl (ps ++ #[rawInt pos.line,rawInt pos.col,.ref c']))) c' (l8 c' (X.env.qual++"<lambda>"))) h'.objs.size (jr h'.objs.size "<lambda>" (X.env.qual++"<lambda>") params body scope iH ((X.mg "__name__").getD .none) (.ref c')) c'=U (l8 c' (X.env.qual++"<lambda>")):=by
   rw[aZ Bk,bK]
  refine h h'.objs.size _ _ c' (I.grow (t':=tk) (oc:=l8 c' (X.env.qual++"<lambda>")) (of:=jr h'.objs.size "<lambda>" (X.env.qual++"<lambda>") params body scope iH ((X.mg "__name__").getD .none) (.ref c')) hP (λb u nb e=>zk _ (hx b u nb e)) (zk _ Q4) xi hsz Bk (λ_=>Q0 (Bo.push _)) λ_=>?_) ⟨_,atT,?_,.inr ⟨c',?_,atC⟩⟩ (λb o e nb=>?_) (I.aY.fresh hsz) bK atC
  .exact⟨⟨uS,WL _ Y⟩,⟨_,WL _ Y⟩,λh1 h2 ⟨v,e⟩ k↦⟨v,k _ e⟩⟩
  .rw[HB];exact TriplesOk_snoc _ _ _ _ ht
  .rw[HB];exact codeAmong_snoc _ ht HA
  .let bl:b<⇑s:=(I.aY b o e).lt
   rw[aZ (XQ (XN bl hsz)),aZ (XQ (XN bl xi)),aZ nb];exact e
 .refine kla_makeFunctionHit oE I.ok.glob hg jO C Bm ht hf hb λuS h' tk hk hsz=>?_
  let hn:H h'.objs.size=Z:=I.aY.fresh hsz;refine h h'.objs.size _ _ c (I.laid (a:=h'.objs.size) (o:=jr h'.objs.size "<lambda>" (X.env.qual++"<lambda>") params body scope iH ((X.mg "__name__").getD .none) (.ref c)) (t':=tk) (λb u e=>zk _ (hk b u e)) hsz ?_) ⟨ps,?_,ht,.inr ⟨c,hf,?_⟩⟩ (λb o e _=>?_) hn bK ?_
  .exact⟨⟨uS,WL _ Y⟩,⟨_,WL _ Y⟩,λh1 h2 ⟨v,e⟩ k↦⟨v,k _ e⟩⟩
  .rw[aZ (cR hP hn)];exact hP
  .rw[aZ (cR xh hn)];exact xh
  .rw[aZ (cR e hn)];exact e
  .rw[aZ (cR xh hn)];calc xh
end
structure LD where
 A:q
 cl:-(J×O)
 f:O
 cd:L
 s:B
 H:Hp
@[reducible] noncomputable def nJ (X:Cx) (qual:J) (scope:o) (Nb:-J) (d:LD):Cx where
 prog:=X.prog
 w:=X.w
 K:=X.K
 mg:=X.mg
 base:=X.base
 A:=d.A.deeper (envX qual scope ⇑d.s d.f d.cd d.cl)
 N:=Nb
 s₀:=d.s
 H₀:=d.H
 env:=envX qual scope ⇑d.s d.f d.cd d.cl
 outer:=X.stack
 stack:=envX qual scope ⇑d.s d.f d.cd d.cl::X.stack
 ex:=[]
 fn:=λ_=>ι
 calm:=true
 pn:=[]
 xe:=λ_ _=>False
noncomputable def xj(N:-J)(vU scope:o)(x:J)(Nb:-J)(cp:-(Option Nat)):Bool :=
 k6 N vU scope (x::Nb) (Z::cp)&&(scope.names.all λy=>l (y.2≠.cell))&&l (scope.names.lookup x=U .local)&&cp.all (·.isSome)
section
variable{X:Cx}{pins:aH}{σ:St}{H:Hp}{s:B}{params:Arguments}{body:M}{scope:o}{cl:-(J×O)}{E:bc}{Q:VK}{name qual x:J}{f c:O}{pm:L}{A:q}{v:V}{u:L}{Nb:-J}{cp:-(Option Nat)}{t:TE}
theorem Q7(I:Inv X pins σ H s)(hf:H f=U (jr f name qual params body scope cl pm (.ref c)))(hc:H c=U (l8 c qual))(hA:A.frames=U X.stack)(hh:A.handled=Z)(hd:A.depth<recursionLimit)
  (hk:scope.kind=.function) (ho:xj X.N X.env.scope scope x Nb cp=θ) (Q8:scope.isCoroutine=ι) (Bp:scope.isGenerator=ι)
  (qt:∀y c,cl.lookup y=U c->X.env.cells.lookup y=U c) (xk:∀y∈scope.names,y.2=.free->∃c,cl.lookup y.1=U c)
  (hb:∀(ct:L),bindArgs (kla_fn name qual params body scope cl pm (.ref c) ct) ⟨[u],[]⟩=pure [(x,u)]) (r:RelV v u)
  (J:JE (nJ X qual scope (x::Nb) ⟨A,cl,f,.ref c,s,H⟩) body t) (h:t (U v::iQ cp σ) H Q):G (ς X.prog X.w) A (call (.ref f) [u]) (EP X pins σ Q) E s:=by
 unfold xj at ho;erw[YY,Zf,Y4] at ho;let⟨⟨⟨ho,HC⟩,hx⟩,cps⟩:=ho;let S:=x1y hk ho;let⟨⟨ct,Q9⟩,_⟩:=I.aY f _ hf;let fS:=Q1 (I.aY c _ hc);calc q2R (kla_callFunE hd Q9 Y Q8 Bp Y fS ?_);rw[hb ct];calc NH (wpAny_newFunctionEnv (λy hy=>HC y hy) (λy hy=>by rw[X1.mp hy];calc hx) (λh₁ uP tP=>?_) hk);let uT:∀b o,s.heap.get? b=U o->h₁.get? b=U o:=λb o e=>tP.extBut b o (XQ (WJ e)) (zk _ e);calc⟨I.nolimit.keeps uT,?_⟩;let e0:=I.pH;show codeAny _ _ (.expr body (envX qual scope ⇑s f (.ref c) cl)) _ _;let mE:∀b:O,b∉(nJ X qual scope (x::Nb) ⟨A,cl,f,.ref c,s,H⟩).ex:=λb z=>absurd (show b∈([]:-O) from z) (by simp)
 let mem:∀{y:π}{k:NameKind},scope.names.lookup y=U k->(y,k)∈scope.names:=λe=>YL e
 let I1:Inv (nJ X qual scope (x::Nb) ⟨A,cl,f,.ref c,s,H⟩) [] (U v::iQ cp σ) H {s with heap:=h₁,toks:=s.toks+↑[(x,u)]}:=by
  refine⟨⟨e0.mod,hk,Y,Y,Fm _,λy z d h1 h2=>I.ok.inj y z d (qt y d h1) (qt z d h2),λy hy=>?_,λy d z _=>(by cases z),λ_=>hh,q2q hA,.inr ⟨Y,Y⟩,λb z=>absurd z (mE b),e0.bs,e0.kx,λb _ _=>mE b,λb z=>absurd z (mE b),e0.dG,e0.kR⟩,
   Y,e0.bare,Un.kept uT,⟨_,uP,λi y w h1 h2 h3=>?_⟩,λy d hy=>?_,e0.aY.fresh (Fm _),λy d hy=>I.bU y d (qt y d hy),λp hp=>absurd (show p∈([]:aH) from hp) (by simp),e0.aY.kept uT,?_⟩
  .let hy:scope.names.lookup y=U .cell\/scope.names.lookup y=U .free:=hy
   rcases hy with hy|hy
   .exact absurd Y (HC _ (mem hy))
   .exact xk _ (mem hy) Y
  .cases i with
   |zero =>
    cases(show U x=U y by simpa using h1)
    cases(show v=w by simpa using h2)
    exact⟨u,r,.inl ⟨hx,by simp⟩⟩
   |succ j =>
    let h1:Nb[j]?=U y:=by simpa using h1
    let h2:(iQ cp σ)[j]?=U (U w):=by simpa using h2
    unfold iQ at h2;rw[WD] at h2;let⟨o,q1,q2⟩:=XX.mp h2
    match o,q2 with
    |none,q2=>cases q2
    |some i',q2 =>
     let q2:(σ[i']?).join=U w:=q2;let⟨n1,n2⟩:=S.tL (j+1) i' y q1⁻¹ h1⁻¹
     let hs:σ[i']?=U (U w):=by
      cases q:σ[i']? with
      |none=>rw[q] at q2;cases q2
      |some z=>rw[q] at q2;cases(show z=U w from q2);rfl
     let kd:=S.free _ (mem n2) Y;let⟨m,hn,hl⟩:=I.loc;let⟨u',rv,lk⟩:=hl i' y w n1 hs (by rcases kd with z|z;calc .inr (.inl z);calc .inr (.inr z));calc⟨u',rv,?_⟩;rcases lk with⟨z,_⟩|⟨_,d,e1,o,e2,e3⟩
     .rcases kd with k|k<;>(rw[show X.env.kindOf y=U .local from z] at k;cases k)
     .let⟨d',e4⟩:=xk _ (mem n2) Y
      let:=qt _ _ e4;rw[e1] at this;cases this;exact .inr ⟨.inr n2,d,e4,o,uT _ _ e2,e3⟩
  .let⟨z,o,e2,e3⟩:=I.cell y d (qt y d hy)
   exact⟨z,o,uT _ _ e2,e3⟩
  .let:=S.len
   show↑(U v::iQ cp σ)=↑(x::Nb);unfold iQ;rw[NG,pR];simpa using this
 calc kla_codeExpr (Zm (J [] _ _ H Q I1 h) (λu' s' hs=>?_) λe s' hs=>hs.elim);let⟨w,H',J',rv,q⟩:=hs;calc I.after ⟨w,H',J'.os,J'.bare,J'.base,J'.aY,rv,q⟩
end
def lC(h:I)(k:LK)(v:L):Prop:=∃a o xs n,v=.ref a/\h.get? a=U o/\o.cls=.type "tuple" /\ o.data=.seq xs n/\IntsAre xs.toList k
section
variable{prog:t}{w:X}{A:q}{E:bc}{s:B}{Q:Bool->B->Prop}
theorem HD{fin:Bool}:∀{us ws:-L}{ks ls:LK}(i:Nat),IntsAre us ks->IntsAre ws ls->fin=l (↑us<↑ws)->Q (HT.lexLt ks ls) s->KatLex prog w A θ fin Q (us.zip ws) i s
 |_,_,_,_,i,.nil,.nil,hf,h=>by
  rw[q1y];subst hf;exact h
 |_,_,_,_,i,.nil,.cons m u r,hf,h=>by
  rw[q1y];let:fin=θ:=by rw[hf];simp
  subst this;exact h
 |_,_,_,_,i,.cons n t r,.nil,hf,h=>by
  rw[q2X];let:fin=ι:=by rw[hf];simp
  subst this;exact h
 |_,_,_,_,i,.cons n t r,.cons m u r',hf,h=>by
  rw[q1i];refine kat_cons (q3w (kat_go (λe=>?_) λe=>?_))
  .let e:n=m:=Zg e
   subst e;rw[HT.qP,XI Y] at h;exact kat_yes (HD (i+1) r r' (by rw[hf];simp) h)
  .let e:¬ n=m:=λz=>by subst z;simp at e
   rw[HT.qP,WK e] at h;refine kat_no ?_
   cases q:(θ&&i==0) with
   |true=>exact oneLt_int h
   |false=>calc kat_one _ _ (q2v h)
theorem Q_{k l:LK}{x y:L}(hx:lC s.heap k x)(hy:lC s.heap l y)(h:Q (HT.lexLt k l) s):G (S prog w) A (keyLt' (tuples' θ) x y) Q E s:=by
 let⟨a,o,xs,n,rfl,h1,_,h2,h3⟩:=hx;let⟨b,o',ys,n',rfl,g1,_,g2,g3⟩:=hy;calc kat_lt h1 h2 g1 g2 (HD 0 h3 g3 (by rw[XU,XU]) h)
theorem HE{h:I}:∀{keys:-L}{ks:-LK},(∀k∈ks,k≠[])->↑keys=↑ks->(∀(i:Nat)(k:LK)(v:L),ks[i]?=U k->keys[i]?=U v->lC h k v)->∃fs,KatTups h keys fs/\fs.length=↑keys/\∀v∈fs,∃n t,v=Z8 n t
 |[],[],_,_,_=>⟨[],.nil,Y,λv hv=>nomatch hv⟩
 |[],_::_,_,hl,_=>by simp at hl
 |_::_,[],_,hl,_=>by simp at hl
 |v::keys,k::ks,ja,hl,ht=>by
  let⟨fs,t,hf,hi⟩:=HE (h:=h) (keys:=keys) (ks:=ks) (λk hk=>ja k (WH _ hk)) hl⁻¹ λi k v e1 e2=>ht (i+1) k v e1⁻¹ e2⁻¹;let⟨a,o,xs,n,rfl,h1,hc,h2,h3⟩:=ht 0 k v Y Y;let hk:=ja k NJ;generalize hx:xs.toList=xl at h3
  cases h3 with
  |nil=>exact absurd Y hk
  |cons m t' r =>
   let h0:xs[0]?=U (.int m t'):=by rw[<-Ym,hx];rfl
   calc⟨.int m t'::fs,.cons h1 hc h2 h0 t,by rw[NG,NG,hf],λv hv=>?_⟩;rcases XJ.mp hv with rfl|hv
   .exact⟨m,t',Y⟩
   .calc hi v hv
theorem Ra{M:Model}{keys:-L}{ks:-LK}{Q:SortKind->B->Prop}(h0:0<↑keys)(ja:∀k∈ks,k≠[])(hl:↑keys=↑ks)(ht:∀(i:Nat) (k:LK) (v:L),ks[i]?=U k->keys[i]?=U v->lC s.heap k v)(h:Q (tuples' θ) s):
  G M A (keyKind' keys.toArray) Q E s:=by
 let⟨fs,t,hf,hi⟩:=HE ja hl ht;refine kat_kind (T:=.type "int") t ⋯ (λv hv=>?_) (by decide) ?_
 .let⟨n,t',rfl⟩:=hi v hv
  exact .now
 .calc h
theorem getD_some{α:Type}{l:-α}{i:Nat}{d:α}(h:i<↑l):l[i]?=U (l.getD i d):=by
 rw[pQ h,Fl,pQ h];rfl
theorem Rb{a kS:O}{e1:Nat}{vs keys:-L}{ks:-LK}{P:q7F->B->Prop}(hv:↑keys=↑vs)(oF:↑vs<64)(ja:∀k∈ks,k≠[])(hl:↑keys=↑ks)(ht:∀(i:Nat) (k:LK) (v:L),ks[i]?=U k->keys[i]?=U v->lC s.heap k v)
  (fin:∀st (p:Array Nat),(arrOf st).map (·.2)=YR (p.toList.map λi=>vs.getD i Yk)->failedOf st=Z->ee ↑vs p->Up (λi=>ks.getD i []) p ↑vs->ρ (S prog w) A (ksk_tail a ι e1 (.ref kS) st) P E s) :
  ρ (S prog w) A (ksk_end a ι vs.toArray e1 (.ref kS) (YR keys)) P E s:=by
 unfold ksk_end
 try dsimp only
 erw[Ze,q0f]
 by_cases h2:vs.toArray.size<2
 .rw[XI h2,XI h2]
  calc tH (NH ?_);rw[StateT.run_pure];refine tH (NH ?_)
  try dsimp only
  rw[Fp] at h2;refine fin _ (X_ ↑vs).toArray ?_ Y ⟨q32 _⟩ λi j jL hj=>?_
  .let Rc:arrOf (SortSt.mk' general' (keys.toArray.zip vs.toArray) #[] 7 Z)=(YR (X_ ↑vs)).map (kas_item (keys.toArray.zip vs.toArray)):=by
    let e:=kas_range (keys.toArray.zip vs.toArray);rw[show(keys.toArray.zip vs.toArray).size=↑vs by simp[hv]] at e;rw[e]
   exact kat_snds hv Rc
  .let:i=j:=by symm
   subst this;exact kle_refl _
 .rw[WK h2,WK h2]
  rw[Fp] at h2;refine tH (Ra ⋯ ja hl ht ?_)
  refine tH (Zm (kat_run (κ:=tuples' θ) (E:=E) (Q:=λjA s'=>s'=s/\∃p:Array Nat,arrOf jA=p.map (kas_item (keys.toArray.zip vs.toArray))/\failedOf jA=Z/\ee ↑vs p/\Up (λi=>ks.getD i []) p ↑vs)
   (G:=λp s'=>s'=s/\ee ↑vs p/\Up (λi=>ks.getD i []) p ↑vs) hv ⋯ oF (λp jA s' a1 a2 a3 a4=>⟨a4.1,p,a2,a3,a4.2.1,a4.2.2⟩) ?_) ?_ λ_ _ x=>x)
  .refine PV (k:=λi=>ks.getD i []) (I:=λs'=>s'=s) (λi j C s' hi hj e hC=>?_) ⋯ Y λp s' a1 a2 a3=>⟨a3,a1,a2⟩
   subst e;exact Q_ (ht i _ _ (getD_some ⋯) (getD_some ⋯)) (ht j _ _ (getD_some ⋯) (getD_some ⋯)) (hC _ Y)
  .ext ⟨⟨⟩,jA⟩ s' ⟨rfl,p,a1,a2,a3,a4⟩
   try dsimp only
   calc fin jA p (kat_snds hv a1) a2 a3 a4
end
theorem bM.at{X:Cx}{pins:aH}{H H':Hp}{b:O}(f:bM X pins H b)(h:H' b=Z):bM X pins H' b:=⟨h,f.2⟩
section
variable{X:Cx}{pins:aH}{σ:St}{H:Hp}{s:B}{A:q}{E:bc}{a:O}{vs:-L}{f:L}
theorem Inv.jP{h':Α}{t':Nat}{b:O}(I:Inv X pins σ H s)(fb:bM X pins H b)(k:∀c o,c≠b->s.heap.get? c=U o->h'.get? c=U o):Inv X pins σ H {s with heap:=h',toks:=t'} :=
 I.turned k fb.1 fb.2.1 fb.2.2.2.1 fb.2.2.2.2.1 fb.2.2.2.2.2
theorem Inv.nK{b:O}{o:Q}(I:Inv X pins σ H s)(fb:bM X pins H b)(e:s.heap.get? b=U o)(hc:∀v,o.data≠.cell v):Inv X ((b,o)::pins) σ H s :=
 I.fM λp hp=>by
  rcases XJ.mp hp with rfl|hp
  .exact⟨e,fb.1,fb.2.1,fb.2.2.1,hc⟩
  .calc I.pin p (XR _ hp)
theorem Inv.gY{p:O×Q}(I:Inv X (p::pins) σ H s):Inv X pins σ H s:=I.fM λq hq=>I.pin q (XR _ (WH _ hq))
theorem bM.cons{b:O}{p:O×Q}(f:bM X pins H b)(n:p.1≠b):bM X (p::pins) H b :=
 ⟨f.1,f.2.1,f.2.2.1,f.2.2.2.1,f.2.2.2.2.1,λq hq=>by
  rcases Yc.mp hq with z|z
  .exact f.2.2.2.2.2 q (Yj _ z)
  .rcases XJ.mp z with rfl|z
   .exact n
   .calc f.2.2.2.2.2 q (XR _ z)⟩
theorem xm{c:String}{xs:Array L}{n:Nat}:∀v,(seqObj c xs n).data≠.cell v:=λv z=>by cases z
theorem Rf{P:-V->Hp->Prop}{n0:Nat}{R:q7F->B->Prop}(I:Inv X pins σ H s)(fa:bM X pins H a)(ha:s.heap.get? a=U (seqObj "list" vs.toArray n0))(oF:↑vs<64)(p0:P [] H)
  (qu:∀(cB:aH)(v:L)(kvs:-V)(H':Hp)(s':B),vs[↑kvs]?=U v->Inv X cB σ H' s'->P kvs H'->G (S X.prog X.w) A (call f [v]) (EP X cB σ λk lg=>P (kvs++[k]) lg) (λ_ _=>False) s')
  (fin:∀kvs H',↑kvs=↑vs->P kvs H'->∃ks:-LK,↑ks=↑vs/\(∀k∈ks,k≠[])/\(∀(i:Nat)(k:LK),ks[i]?=U k->∃t,kvs[i]?=U (.ref t)/\H' t=U (.tup (k.map V.int))) ∧
   ∀(p:Array Nat)(s':B)(c:Nat),ee ↑vs p->Up (λi=>ks.getD i []) p ↑vs->Inv X pins σ H' s'->bM X pins H' a->s'.heap.get? a=U (seqObj "list" (YR (p.toList.map λi=>vs.getD i Yk)) c)->R (.done (.ret .none)) s') :
  G (S X.prog X.w) A (ksk_tree a f ι) R E s:=by
 unfold ksk_tree;calc tH (listItems_at ha Y ?_);calc tH (q1H ha Y ?_ (by rw[Fp,Zq];symm) (YD _));let sb:=YK s.heap a (YC λ_=>(#[]:Array L));let⟨e1,ku⟩:∃e1,(s.heap.update a (YC λ_=>(#[]:Array L))).get? a=U (seqObj "list" #[] e1):=⟨_,q2c ha λ_ => #[]⟩;let I1:Inv X pins σ H {s with heap:=s.heap.update a (YC λ_=>(#[]:Array L))}:=I.jP (t':=s.toks) fa λc o n e=>(sb.2 c n).trans e;calc tH (seqEpoch_at ku Y ?_);calc tH (wpAny_newTuple ?_ (by show ↑vs<=_;rw[Zq];symm));calc tH (q4H ?_ (YD _));calc Yw ?_;generalize W_:s.heap.update a (YC λ_=>(#[]:Array L))=g0 at ku I1
 show G _ _ (ksk_rest a f ι vs.toArray e1 (.ref (g0.push (seqObj "tuple" vs.toArray 0)).objs.size)) R E {s with heap:=(g0.push (seqObj "tuple" vs.toArray 0)).push (seqObj "list" #[] 0)};let I2:Inv X pins σ H {s with heap:=(g0.push (seqObj "tuple" vs.toArray 0))}:=I1.kept (h':=g0.push (seqObj "tuple" vs.toArray 0)) (t':=s.toks) λb u e=>zk _ e;let hW:(g0.push (seqObj "tuple" vs.toArray 0)).get? a=U (seqObj "list" #[] e1):=zk _ ku;generalize g0.push (seqObj "tuple" vs.toArray 0)=g1 at I2 hW;let fk:bM X pins H g1.objs.size:=I2.iX (Fm _) (I2.aY.fresh (Fm _));let I3:Inv X pins σ H {s with heap:=g1.push (seqObj "list" #[] 0)}:=I2.kept (h':=g1.push (seqObj "list" #[] 0)) (t':=s.toks) λb u e=>zk _ e
 let uU:g1.objs.size≠a:=ZZ (WJ hW);let I4:=(I3.nK fk (WL _ Y) xm).nK (fa.cons (p:=(g1.objs.size,seqObj "list" #[] 0)) uU) (zk _ hW) xm;generalize g1.objs.size=kS at I4 uU fk;unfold ksk_rest;refine tH (q4m ?_)
 first
  |rw[List.forIn_toArray]
  |(rw[<-q1d];erw[List.toList_toArray])
  |rw[<-q1d]
 refine tH (ksk_fold (λi s'=>∃H' kvs ks e,Inv X ((a,seqObj "list" #[] e1)::(kS,seqObj "list" (YR ks) e)::pins) σ H' s'/\P kvs H'/\Vals kvs ks/\↑kvs=i) vs 0 _ ⟨H,[],[],0,I4,p0,.nil,Y⟩ ?step ?done)
 case step =>
  ext j x s' hx ⟨H',kvs,ks,e,J,pk,rv,hl⟩;rw[YF] at hl;let hj:j<↑vs:=(qV.mp hx).1;calc tH (wpAny_attempt (Zm (qu _ x kvs H' s' (by rw[hl];calc hx) J pk) (λu s2 hs=>?_) λ_ _ z=>z.elim));let⟨k,H2,J2,r2,p2⟩:=hs
  try dsimp only
  let pa:=J2.pin (a,seqObj "list" #[] e1) (XR _ (.head _));let o8:=J2.pin (kS,seqObj "list" (YR ks) e) (XR _ (.tail _ (.head _)));let lk:↑ks=j:=by rw[<-↑rv];exact hl
  calc tH (q1H o8.1 Y ?_ (by rw[Fp,Zq];symm) (Yi (q1Y (q19 ..)) (by rw[Fp,Zq];symm)));let s1:=YK s2.heap kS (YC (·.push u));let ea:(YR ks).push u=YR (ks++[u]):=by simp
  let⟨c2,kB⟩:∃c2,(s2.heap.update kS (YC (·.push u))).get? kS=U (seqObj "list" (YR (ks++[u])) c2):=⟨_,by rw[<-ea];calc q2c o8.1 (·.push u)⟩;let J3:=J2.gY.gY;let J4:Inv X pins σ H2 {s2 with heap:=s2.heap.update kS (YC (·.push u))}:=J3.jP (t':=s2.toks) (fk.at o8.2.1) λc o n e=>(s1.2 c n).trans e;calc NH ⟨Y,H2,kvs++[k],ks++[u],c2,?_,p2,rv.append (.cons r2 .nil),by rw[Fs,hl,YF];rfl⟩;exact(J4.nK (fk.at o8.2.1) kB xm).nK ((fa.at pa.2.1).cons uU) ((s1.2 a uU.symm).trans pa.1) xm
 case done =>
  ext s' ⟨H',kvs,ks,e,J,pk,rv,hl⟩;rw[YF] at hl;let pa:=J.pin (a,seqObj "list" #[] e1) (XR _ (.head _));let o8:=J.pin (kS,seqObj "list" (YR ks) e) (XR _ (.tail _ (.head _)));let lk:↑ks=↑vs:=by rw[<-↑rv];exact hl
  let⟨kk,k1,k2,k3,k4⟩:=fin kvs H' hl pk
  try dsimp only
  calc tH (listItems_at o8.1 Y ?_);refine Rb (ks:=kk) lk oF k2 (by rw[lk,k1]) (λi k v e1 e2=>?_) λst p Bq hf hp up=>?_
  .let⟨t,e3,e4⟩:=k3 i k e1
   let⟨u,e5,e6⟩:=rv.get e3;rw[e2] at e5;cases e5;cases e6
   let⟨au,r',it,_⟩:=J.tuple (bV.of e4);let⟨o,o1,o2,n,o3⟩:=it;exact⟨t,o,_,n,Y,o1,o2,o3,by simpa using intsAre_of r'⟩
  .let hz:↑(p.toList.map λi=>vs.getD i Yk)=↑vs:=by rw[pR,XU,hp.size]
   unfold ksk_tail
   try dsimp only
   rw[Bq];calc tH (q1H o8.1 Y ?_ (by rw[Fp,Zq];symm) (YD _));calc tH (wpAny_letGo ?_);let s1:=YK s'.heap kS (YC λ_=>(#[]:Array L));let na:(s'.heap.update kS (YC λ_=>(#[]:Array L))).get? a=U (seqObj "list" #[] e1):=(s1.2 a uU.symm).trans pa.1;calc tH (seqEpoch_at na Y ?_);erw[Ze,q0f];calc tH (q1H na Y ?_ (YD _) (Yi (q1Y (by rw[Fp,hz])) (by rw[Zq];symm)));rw[hf];erw[bne_self_eq_false,Ze,q0f];let J1:Inv X pins σ H' {s' with heap:=s'.heap.update kS (YC λ_=>(#[]:Array L))}:=J.gY.gY.jP (t':=s'.toks) (fk.at o8.2.1) λc o n e=>(s1.2 c n).trans e
   let s2:=YK (s'.heap.update kS (YC λ_=>(#[]:Array L))) a (YC λ_=>YR (p.toList.map λi=>vs.getD i Yk));let J2:Inv X pins σ H' {s' with heap:=(s'.heap.update kS (YC λ_=>(#[]:Array L))).update a (YC λ_=>YR (p.toList.map λi=>vs.getD i Yk))}:=J1.jP (t':=s'.toks) (fa.at pa.2.1) λc o n e=>(s2.2 c n).trans e;let⟨c2,kB⟩:∃c2,((s'.heap.update kS (YC λ_=>(#[]:Array L))).update a (YC λ_=>YR (p.toList.map λi=>vs.getD i Yk))).get? a=U (seqObj "list" (YR (p.toList.map λi=>vs.getD i Yk)) c2):=⟨_,q2c na λ_=>YR (p.toList.map λi=>vs.getD i Yk)⟩;calc NH (k4 p _ c2 hp up J2 (fa.at pa.2.1) kB)
end
section
variable{prog:t}{w:X}{A:q}{E:bc}{s:B}
theorem Rg{Q:-L->B->Prop}{r:O}{a b c:Int}{t u v:Tok}{n:Nat}(hh:A.handled=Z)(hr:IsRange s.heap r a b c t u v)(qv:Builtin.Range.small a b c=θ)
  (hn:ZV a b c=n) (hlen:n<=2 ^ 24)
  (hQ:∀h' tk cZ,(∀b o,s.heap.get? b=U o->h'.get? b=U o)->ItemsOf (λi v=>∃t,v=.int (a+i*c) t) cZ n->Q cZ.toList {s with heap:=h',toks:=tk}):G (S prog w) A (collect (.ref r)) Q E s:=by
 let key:∀R:Result->B->Prop,(∀h' tk cZ c',(∀b o,s.heap.get? b=U o->h'.get? b=U o)->h'.get? ⇑s=U {cls:=.type "list",dict:=none,data:=.seq cZ c',slots := #[]}->ItemsOf (λi v=>∃t,v=.int (a+i*c) t) cZ n->R (.ok (.ret (.ref ⇑s))) {s with heap:=h',toks:=tk})->codeAny (S prog w) A (.builtin "proto.collect" ⟨[.ref r],[]⟩) R s:=by
  ext R hR;calc q0v F.entry_proto_collect ?_;rw[q0g F.plain_proto_collect _];show G _ A.in1 (newList [] >>= λl=>again (.builtin "list.__iadd__" ⟨[l,.ref r],[]⟩)) _ _ s;calc tH (Yu ?_);calc NH ⟨q4x q3r _,q0v F.entry_list_iadd ?_⟩;rw[q0g q3r _];show G _ A.in1 (Builtin.List.listExtendWith (.ref ⇑s) (.ref r) (.ref ⇑s)) _ _ _;let Rh:(s.heap.push {cls:=.type "list",data:=.seq ([]:-L).toArray}).get? ⇑s=U {cls:=.type "list",data:=.seq #[] 0}:=WL _ Y;refine wpAny_extend_range (R:=R) (s:={s with heap:=s.heap.push {cls:=.type "list",data:=.seq ([]:-L).toArray}}) hh (zk _ hr) qv hn hlen ⇑s (.ref ⇑s) 0 Rh λh' tk cZ c' hk Br qw=>?_
  exact hR h' tk cZ c' (λb o e=>hk b o (XQ (WJ e)) (zk _ e)) Br qw
 unfold collect;calc tH (q4a (key _ λh' tk cZ c' hk Br qw=>?_));show G _ A (load ⇑s >>= _) _ _ _;calc tH (wpAny_load Br ?_);calc NH (hQ h' tk cZ hk qw)
end
section
variable{X:Cx}{pins:aH}{σ:St}{H:Hp}{s:B}{E:bc}
theorem Inv.uV{a:O}{o:HO}(I:Inv X pins σ H s)(fa:bM X pins H a)(ha:⇑X.s₀<=a)(new:aU X.prog X.w (upd H a o) s.heap a o):Inv X pins σ (upd H a o) s:=by
 let⟨f0,f1,f2,_,f4,f5⟩:=fa;let ne:∀{b u},H b=U u->b≠a:=λe z=>by rw[z,f0] at e;cases e
 refine⟨I.ok,I.os,I.bare,⟨I.base.keep,I.base.slot,λb u e n hx=>?_,I.base.there,λb xs e=>?_,λb u v e=>?_,λb ps e=>?_,I.base.eu⟩,I.loc,I.cell,?_,λx c e=>?_,λp hp=>?_,λb u e=>?_,I.len⟩
 .rw[aZ (XQ (XN (WJ e) ha))];exact I.base.free b u e n hx
 .let:=I.base.df b xs e
  rw[aZ (ne this)];exact this
 .let:=I.base.eY b u v e
  rw[aZ (ne this)];exact this
 .let⟨more,this⟩:=I.base.eZ b ps e
  exact⟨more,by rw[aZ (ne this)];calc this⟩
 .rw[aZ (Zl f1)];exact I.free
 .rw[aZ (f4 x c e)];exact I.bU x c e
 .let⟨e1,e2,e3⟩:=I.pin p hp
  exact⟨e1,by rw[aZ (f5 p hp)];calc e2,e3⟩
 .by_cases z:b=a
  .subst z;rw[bK] at e;cases e;exact new
  .rw[aZ z] at e
   refine(I.aY b u e).eW (λc v _ q=>q) (λc q=>?_) λc xs q=>?_
   .rw[aZ (ne q)];exact q
   .rw[aZ (ne q)];calc q
theorem Ri{xs:-V}{vs:-L}(r:Vals xs vs){p:-Nat}(hp:∀i∈p,i<↑vs):Vals (p.map λi=>xs.getD i .non) (p.map λi=>vs.getD i Yk):=by
 induction p with
 |nil=>exact .nil
 |cons i q ih =>
  calc .cons ?_ (ih λj hj=>hp j (WH _ hj));let hi:=hp i NJ;let⟨u,e1,e2⟩:=r.get (getD_some (l:=xs) (d:=V.non) (by rw[↑r];calc hi));let:=getD_some (l:=vs) (d:=Yk) hi;rw[this] at e1;cases e1;calc e2
theorem ee.mem{n:Nat}{p:Array Nat}(h:ee n p){i:Nat}(hi:i∈p.toList):i<n:=by
 let:=(q1p.mp h.perm).mem_iff.mp hi;simpa using this
theorem Rj{l q:O}{P:-V->Hp->Prop}{xs:-V}{Q:bc}(I:Inv X pins σ H s)
  (col:∀Q':-L->B->Prop,(∀h' tk vs,(∀b o,s.heap.get? b=U o->h'.get? b=U o)->Vals xs vs->Q' vs {s with heap:=h',toks:=tk})->G (S X.prog X.w) X.A.in1 (collect (.ref l)) Q' E s)
  (oF:↑xs<64) (p0:P [] H)
  (qu:∀(cB:aH)(x:V)(u:L)(kvs:-V)(H':Hp)(s':B),xs[↑kvs]?=U x->RelV x u->Inv X cB σ H' s'->P kvs H'->G (S X.prog X.w) X.A.in1.in1 (call (.ref q) [u]) (EP X cB σ λk lg=>P (kvs++[k]) lg) (λ_ _=>False) s')
  (fin:∀kvs H',↑kvs=↑xs->P kvs H'->∃ks:-LK,↑ks=↑xs/\(∀k∈ks,k≠[])/\(∀(i:Nat)(k:LK),ks[i]?=U k->∃t,kvs[i]?=U (.ref t)/\H' t=U (.tup (k.map V.int))) ∧
   ∀(p:Array Nat)(s':B)(a:O),ee ↑xs p->Up (λi=>ks.getD i []) p ↑xs->H' a=Z->Inv X pins σ (upd H' a (.lst (p.toList.map λi=>xs.getD i .non))) s'->Q (.ref a) s') :
  G (S X.prog X.w) X.A (call (.builtin "sorted") [.ref l] [(Z0 "key",.ref q)]) Q E s:=by
 calc call_function_entry_kw kind_sorted plain_sorted entry_sorted (ksk_s1 _ _) ?_;unfold Builtin.«sorted»;calc tH (m:=checkCount "sorted" 1 1 _) (NH ?_);calc tH (col _ λh' tk vs kp rv=>?_);let lv:↑vs=↑xs:=rv.length.symm;calc tH (q4H ?_ (by rw[Zq];symm));let I1:Inv X pins σ H {s with heap:=h',toks:=tk}:=I.kept kp;let fa:bM X pins H h'.objs.size:=I1.iX (Fm _) (I1.aY.fresh (Fm _));let Rk:⇑X.s₀<=h'.objs.size:=I1.sz;let I2:Inv X pins σ H {s with heap:=h'.push (seqObj "list" vs.toArray 0),toks:=tk}:=I1.kept (h':=h'.push (seqObj "list" vs.toArray 0)) (t':=tk) λb u e=>zk _ e
 let vE:(h'.push (seqObj "list" vs.toArray 0)).get? h'.objs.size=U (seqObj "list" vs.toArray 0):=WL _ Y;refine tH (Yw (wpAny_call_entry_kw slot_list_sort ⟨_,vE,Y⟩ entry_list_sort ?body (ksk_l1 _ _)))
 case body =>
  show G (S X.prog X.w) X.A.in1.in1 (Builtin.«list.sort» ⟨[.ref h'.objs.size],[(Z0 "key",.ref q)]⟩) _ _ _;rw[ksk_t1];refine Rf (P:=P) I2 fa vE ⋯ p0 (λcB v kvs H' s' hv J pk=>?_) λkvs H' hl pk=>?_
  .let hi:↑kvs<↑xs:=by rw[<-lv];exact(qV.mp hv).1
   let⟨u,e1,e2⟩:=rv.get (pQ hi);rw[hv] at e1;cases e1;exact qu cB _ v kvs H' s' (pQ hi) e2 J pk
  .let⟨ks,k1,k2,k3,k4⟩:=fin kvs H' ⋯ pk
   calc⟨ks,⋯,k2,k3,λp s' c hp up J fj e=>⟨_,Y,?_⟩⟩;rw[lv] at hp up;calc NH ⟨_,Y,k4 p s' h'.objs.size hp up fj.1 (J.uV fj Rk ?_)⟩;let hz:↑(p.toList.map λi=>xs.getD i V.non)=↑xs:=by rw[pR,XU,hp.size]
   calc⟨by rw[hz,Zq];symm,_,c,Ri rv λi hi=>by rw[lv];calc hp.mem hi,e⟩
end
theorem ah.at{H:Hp}{ds:-D}{vs:-V}{i:Nat}{d:D}{v:V}(h:ah H ds vs)(e1:ds[i]?=U d)(e2:vs[i]?=U v):Is H d v:=by
 let⟨d',e3,h'⟩:=h.get e2;rw[e1] at e3;cases e3;calc h'
theorem ah.uW{H:Hp}:∀{ds:-D}{vs:-V},↑vs=↑ds->(∀(i:Nat)(d:D),ds[i]?=U d->∃v,vs[i]?=U v/\Is H d v)->ah H ds vs
 |[],[],_,_=>.nil
 |[],_::_,h,_=>by simp at h
 |_::_,[],h,_=>by simp at h
 |d::ds,v::vs,h,g=>by
  let⟨v',e,h1⟩:=g 0 d Y;cases(show U v=U v' from e)
  calc .cons h1 (ah.uW h⁻¹ λi d e=>by simpa using g (i+1) d e⁻¹)
structure ke where
 T:O
 pos:y
 qual:J
theorem eO.same{H H':Hp}{T:O}{pos:y}{q:J}(h:eO H T pos q)(s:aO H H'):eO H' T pos q:=by
 let⟨ps,e,t,c⟩:=h;calc⟨ps,s _ _ e,t,c.imp id λ⟨c,e1,e2⟩↦⟨c,e1,s _ _ e2⟩⟩
theorem eO.keep{H H':Hp}{T T':O}{pos:y}{q:J}(h:eO H T pos q)(ne:T≠T')(hT:∃ps,H T'=U (.tbl ps))(s:∀b o,H b=U o->b≠T'->H' b=U o):eO H' T pos q:=by
 let⟨ps,e,t,c⟩:=h;calc⟨ps,s _ _ e ne,t,c.imp id λ⟨c,e1,e2⟩=>⟨c,e1,s _ _ e2 λz=>?_⟩⟩;let⟨qs,hT⟩:=hT;rw[z,hT] at e2;cases e2
theorem eO.put{H:Hp}{T a:O}{pos:y}{q:J}{o o':HO}(h:eO H T pos q)(ha:H a=U o)(hk:(∃vs,o=.lst vs)\/(∃ws,o=.dK ws)\/(∃ws,o=.dT ws)\/∃C dx ws,o=.ins C dx ws):eO (upd H a o') T pos q:=by
 let⟨ps,e,t,c⟩:=h
 let ne:∀{b u},H b=U u->(∀vs,u≠.lst vs)->(∀ws,u≠.dK ws)->(∀ws,u≠.dT ws)->(∀C dx ws,u≠.ins C dx ws)->b≠a:=λ{b u} e n1 n2 n3 n4 z=>by
  subst z;rw[ha] at e;cases e;rcases hk with⟨_,z⟩|⟨_,z⟩|⟨_,z⟩|⟨_,_,_,z⟩
  .exact n1 _ z
  .exact n2 _ z
  .exact n3 _ z
  .exact n4 _ _ _ z
 calc⟨ps,by rw[aZ (ne e (λ_ z=>by cases z) (λ_ z=>by cases z) (λ_ z=>by cases z) λ_ _ _ z=>by cases z)];calc e,t,c.imp id λ⟨c,e1,e2⟩=>⟨c,e1,?_⟩⟩;rw[aZ (ne e2 (λ_ z=>by cases z) (λ_ z=>by cases z) (λ_ z=>by cases z) λ_ _ _ z=>by cases z)];calc e2
structure CC where
 cs:Hp
 ct:∀{a:O}{o:HO},cs a=U o->∃vs,o=.tup vs
@[reducible] noncomputable def iI (ls:-ke) (C:CC):aM where
 ad:=ls.map (·.T)
 ok:=λH=>(∀l∈ls,eO H l.T l.pos l.qual)/\aO C.cs H
 same:=λh s=>⟨λl hl=>(h.1 l hl).same s,h.2.trans s⟩
 put:=λh ha hk=>⟨λl hl=>(h.1 l hl).put ha hk,λb o e=>by
  let:=h.2 b o e
  rw[aZ λz=>by
   subst z;let⟨vs,rfl⟩:=C.ct e;rw[ha] at this;cases this
   rcases hk with⟨_,z⟩|⟨_,z⟩|⟨_,z⟩|⟨_,_,_,z⟩<;>cases z]
  calc this⟩
 tb:=λh ha=>by
  let⟨l,hl,rfl⟩:=XM.mp ha;let⟨ps,e,_⟩:=h.1 l hl;exact⟨ps,e⟩
 cs:=C.cs
 ct:=C.ct
 co:=λh=>h.2
@[reducible] noncomputable def Bs (ls:-ke):aM:=iI ls ⟨λ_=>Z,λh=>nomatch h⟩
variable[aM]
structure Bt(T:O)(pos:y)(q:J):Prop where
 mem:T∈aM.ad
 get:∀H:Hp,aM.ok H->eO H T pos q
 put:∀H H':Hp,aM.ok H->eO H' T pos q->(∀b o,H b=U o->b≠T->H' b=U o)->aM.ok H'
omit [aM] in
theorem Rl {ls:-ke} {l:ke} (hl:l∈ls) (nd:∀a∈ls,∀b∈ls,a.T=b.T->a=b) {C:CC}:@Bt (iI ls C) l.T l.pos l.qual:=by
 letI:aM:=iI ls C;refine⟨Y2 hl,λH h=>h.1 l hl,λH H' h t k=>⟨λl' jj=>?_,λb o e=>?_⟩⟩
 .by_cases z:l'.T=l.T
  .rw[nd _ jj _ hl z];exact t
  .let⟨ps,e,_⟩:=h.1 l hl
   exact(h.1 l' jj).keep z ⟨ps,e⟩ k
 .refine k b o (h.2 b o e) λz=>?_
  let⟨ps,e2,_⟩:=h.1 l hl;let⟨vs,rfl⟩:=C.ct e;rw[<-z,h.2 b _ e] at e2;cases e2
structure Rm(X:Cx)(T:O):Prop where
 code:∃cc,X.env.code=.ref cc/\CodeHd X.base cc T
 ng:mainGlobals≠T
 blt:X.base.BuiltinsAt X.mg T
section
variable{F H H':Hp}{ad:-O}{δ:aJ}{σ:St}
theorem SR.Bu(S:SR F ad δ σ H)(k:∀b o,H b=U o->b∉aM.ad->H' b=U o)(tk:aM.ok H'):SR (Nw F H H') ad δ σ H':=by
 let sm:=Nw.same (H':=H') S.sub;let nF:∀{a o},F a=U o->a∉aM.ad:=λ{a o} e t=>by rw[S.nt a t] at e;cases e
 let nO:∀{i a ov},ad[i]?=U a->δ.mu[i]?=U (U ov)->a∉aM.ad:=λ{i a ov} e1 e2 t=>by
  let⟨a',o,e3,e4,h⟩:=S.mu i ov e2;rw[e1] at e3;cases e3;let⟨ps,q⟩:=aM.tb S.tab t;rw[e4] at q;cases q;exact h.kind _ Y
 refine⟨λa o e=>?_,λa l=>?_,S.bX,S.inj,λi ov e=>?_,λi x e=>?_,S.len,tk,S.nt.up sm λa ha=>?_⟩
 .unfold Nw at e
  cases q:H a with
  |none=>rw[q] at e;exact e
  |some u=>rw[q] at e;exact k a o (S.sub a o e) (nF e)
 .let⟨i,ov,e1,e2⟩:=l
  let⟨a',o,e3,e4,_⟩:=S.mu i ov e2;rw[e1] at e3;cases e3;unfold Nw;rw[e4];exact S.off a ⟨i,ov,e1,e2⟩
 .let⟨a,o,e1,e2,h⟩:=S.mu i ov e
  exact⟨a,o,e1,k a o e2 (nO e1 e),h.same sm⟩
 .let⟨v,e1,h⟩:=S.sl i x e
  exact⟨v,e1,h.same sm⟩
 .let⟨ps,q⟩:=aM.tb S.tab ha
  unfold Nw;rw[q];calc S.nt a ha
theorem Ext.Bu(S:SR F ad δ σ H)(k:∀b o,H b=U o->b∉aM.ad->H' b=U o)(tk:aM.ok H'):Ext F ad δ.mu H (Nw F H H') ad δ.mu H' where
 same:=Nw.same S.sub
 new:=λa o e=>by
  unfold Nw at e
  cases q:H a with
  |none=>exact .inr (.inl Y)
  |some u=>rw[q] at e;exact .inl e
 keep:=λa o e _ t=>k a o e t
 pre:=λ_ _ e=>e
 b9:=λ_ l=>.inl l
 gu:=λa o e=>by
  by_cases t:a∈aM.ad
  .let⟨ps,q⟩:=aM.tb tk t
   exact⟨_,q⟩
  .calc⟨o,k a o e t⟩
theorem SR.uX{sl:-(Option DV)}{mu:-(Option OV)}{τ:St}{d:D}{v:V}(S:SR F ad ⟨sl,mu⟩ τ H)(h:Is F d v):SR F ad ⟨U (.p d)::sl,mu⟩ (U v::τ) H:=by
 refine⟨S.sub,S.off,S.bX,S.inj,S.mu,λi x e=>?_,by let:=S.len;erw[NG];calc congrArg (· + 1) this,S.tab,S.nt⟩
 cases i with
 |zero=>cases(show U (U (DV.p d))=U (U x) from e);exact⟨v,Y,h⟩
 |succ i=>calc S.sl i x e
theorem Ext.o9{F' H':Hp}{aG:-O}{cW:-(Option OV)}{a:O}{o:HO}(S:SR F ad δ σ H)(e:Ext F ad δ.mu H F' aG cW H')(h:H a=U o)(n1:∀vs,o≠.lst vs)(n2:∀ws,o≠.dK ws)(n3:∀ps,o≠.tbl ps)(n4:∀ws,o≠.dT ws)(n5:∀C dx ws,o≠.ins C dx ws:=by ext _ _ _ z;cases z):H' a=U o:=by
 refine e.keep a o h (λ⟨i,ov,e1,e2⟩=>?_) λt=>?_
 .let⟨a',u,e3,e4,q⟩:=S.mu i ov e2
  rw[e1] at e3;cases e3;rw[h] at e4;cases e4;rcases q.kd with⟨_,z⟩|⟨_,z⟩|⟨_,z⟩|⟨_,_,_,z⟩
  .exact n1 _ z
  .exact n2 _ z
  .exact n4 _ z
  .exact n5 _ _ _ z
 .let⟨ps,q⟩:=aM.tb S.tab t
  rw[h] at q;calc n3 _ (Yf q)
end
def Rn(cp:-(Option Nat))(fb:WE)(δ:aJ)(ds:-D)(key:D->LK):Prop :=
 ∀d∈ds,key d≠[]/\fb ⟨U (.p d)::dM cp δ.sl,δ.mu⟩ λy δ'=>y=.p (.tup ((key d).map D.int))/\δ'.mu=δ.mu
def sortBy(cp:-(Option Nat))(fb:WE)(δ:aJ)(ds:-D)(K:-D->Prop):Prop :=
 ↑ds<64/\∃key:D->LK,Rn cp fb δ ds key/\∀out:-D,out.Perm ds->(out.map key).Pairwise kle->K out
section
variable{X:Cx}{params:Arguments}{body:M}{scope:o}{fI:y}{x:J}{Nb:-J}{cp:-(Option Nat)}{fb:WE}{T:O}
structure jQ(X:Cx)(params:Arguments)(body:M)(scope:o)(fI:y)(T:O)(x:J)(Nb:-J)(cp:-(Option Nat))(fb:WE):Prop where
 env:Rm X T
 tbl:Bt T fI (X.env.qual++"<lambda>")
 Ro:defaultsOf params X.env=([],[])
 kind:scope.kind=.function
 names:xj X.N X.env.scope scope x Nb cp=θ
 co:scope.isCoroutine=ι
 gen:scope.isGenerator=ι
 bind:∀(cl:-(J×O))(pm cd ct u:L),bindArgs (kla_fn "<lambda>" (X.env.qual++"<lambda>") params body scope cl pm cd ct) ⟨[u],[]⟩=pure [(x,u)]
 room:∃k,a6 (k+3) X.A/\∀d:LD,a6 k (d.A.deeper (envX (X.env.qual++"<lambda>") scope ⇑d.s d.f d.cd d.cl))->JE (nJ X (X.env.qual++"<lambda>") scope (x::Nb) d) body (tD fb)
theorem Rp{pins:aH}{σ:St}{H:Hp}{s:B}{E:bc}{l:O}{F:Hp}{ad:-O}{δ:aJ}{ds:-D}{xs:-V}{i8 pos:Ε}{Q:VK}(L:jQ X params body scope fI T x Nb cp fb)
  (I:Inv X pins σ H s) (S:SR F ad δ σ H) (hx:ah F ds xs)
  (col:∀(s:B)(H':Hp),Inv X pins σ H' s->(∀b o,H b=U o->b∉aM.ad->H' b=U o)->∀Q':-ν->B->Prop,(∀h' tk vs,(∀b o,s.heap.get? b=U o->h'.get? b=U o)->Vals xs vs->Q' vs {s with heap:=h',toks:=tk})->G (ς X.prog X.w) X.A.in1 (collect (.ref l)) Q' E s)
  (hs:sortBy cp fb δ ds λout=>∀a F' H' us,Ext F ad δ.mu H F' ad δ.mu H'->SR F' ad δ σ H'->H' a=Z->ah F' out us->Q (.ref a) (upd H' a (.lst us))) :
  G (ς X.prog X.w) X.A (evalAll ((backToKw pos (keywordEach [⟨U "key",.Lambda params body scope fI,i8⟩] X.env)).map (·.2))) (λkvs s₂=>G (ς X.prog X.w) X.A (call (.builtin "sorted") [.ref l] (((backToKw pos (keywordEach [⟨U "key",.Lambda params body scope fI,i8⟩] X.env)).filterMap (·.1)).zip kvs)) (EP X pins σ Q) E s₂) E s:=by
 let⟨oF,key,hk,K⟩:=hs;let⟨k,uY,J⟩:=L.room;let⟨cc,jO,hC⟩:=L.env.code;show G _ _ (evalAll [do let v <- eval (.Lambda params body scope fI) X.env;standAt pos;pure v]) _ _ _;calc evalAll_cons (tH ?_);let Bv:=L.names;unfold xj at Bv;erw[YY,Zf,Y4] at Bv;let SC:=x1y L.kind Bv.1.1.1;let⟨cl,oE,qt,xk⟩:=Ft (scope:=scope) (env:=X.env) λy hy e=>I.ok.has y.1 (SC.free y hy e);calc Q2 I (L.tbl.get H S.tab) L.Ro oE jO (hC.keeps I.bk) L.env.ng (I.mod.glob.keeps I.bk) (L.env.blt.keeps I.bk) λf H1 s1 c I1 t1 k1 QZ hf hc=>?_;calc tH (Z9 (NH ?_));calc evalAll_nil ?_;show G _ _ (call (.builtin "sorted") [.ref l] [(Z0 "key",.ref f)]) _ _ _
 let kT:∀b o,H b=U o->b∉aM.ad->H1 b=U o:=λb o e t=>k1 b o e λz=>t (by rw[z];calc L.tbl.mem);let n_:=L.tbl.put H H1 S.tab t1 k1;let S1:=S.Bu kT n_;let E1:=Ext.Bu S kT n_;let lx:=↑hx
 refine Rj (xs:=xs) (P:=λkvs H'=>∃F',Ext F ad δ.mu H F' ad δ.mu H'/\SR F' ad δ σ H'/\H' f=U (jr f "<lambda>" (X.env.qual++"<lambda>") params body scope cl ((X.mg "__name__").getD .none) (.ref c))/\H' c=U (l8 c (X.env.qual++"<lambda>"))/\∀(i:Nat)(d:D)(kv:V),ds[i]?=U d->kvs[i]?=U kv->Is F' (.tup ((key d).map D.int)) kv)
  I1 (col s1 H1 I1 kT) ⋯ ⟨_,E1,S1,hf,hc,λi d kv _ e=>by simp at e⟩ (λcB v u kvs H' s' hv rv I' ⟨F',E',S',Bw,ky,Bx⟩=>?_) λkvs H' hl ⟨F',E',S',Bw,ky,Bx⟩=>?_
 .let hi:↑kvs<↑ds:=by rw[<-lx];exact(qV.mp hv).1
  let hd:=pQ hi;let Rq:Is F' ds[↑kvs] v:=ah.at (hx.same E'.same) hd hv;let⟨Xa,Rr⟩:=hk _ (Zv hi);let r2:a6 (k+1) X.A.in1.in1:=(a6.in1 (a6.in1 (k:=k+2) uY));calc Q7 I' Bw ky (by rw[show X.A.in1.in1.frames=X.A.frames from Y];calc I'.ok.frames) r2.hd r2.depth L.kind L.names L.co L.gen qt xk (λct=>L.bind cl _ _ ct u) rv (J ⟨X.A.in1.in1,cl,f,.ref c,s',H'⟩ (r2.deeper _)) ?_;calc⟨F',ad,_,_,(S'.uj (cp:=cp)).uX Rq,Rr,?_⟩;ext y δ' ⟨ey,em⟩ w F2 bP H2 E2 S2 V2;subst ey
  let ea:bP=ad:=by
   let l2:↑bP=↑ad:=by rw[S2.bX,em,S'.bX]
   refine Z_ λi=>?_
   by_cases hi:i<↑ad
   .rw[pQ hi];exact E2.pre i _ (pQ hi)
   .rw[Yy ⋯,Yy ⋯]
  subst ea;let⟨qL,cW⟩:=δ';let em:cW=δ.mu:=em;subst em;refine⟨F2,E'.trans E2,SR.back S' E2 S2,E2.o9 S' Bw (λ_ z=>by cases z) (λ_ z=>by cases z) (λ_ z=>by cases z) (λ_ z=>by cases z),E2.o9 S' ky (λ_ z=>by cases z) (λ_ z=>by cases z) (λ_ z=>by cases z) (λ_ z=>by cases z),λi d kv e1 e2=>?_⟩
  by_cases qp:i<↑kvs
  .rw[NI qp] at e2
   exact Is.same E2.same (Bx i d kv e1 e2)
  .let:i=↑kvs:=by
    let:=(qV.mp e2).1;rw[Fs,Yz] at this;symm
   subst this;rw[NK (Fm _),Yv] at e2;cases(show U w=U kv from e2)
   rw[hd] at e1;cases e1;exact V2
 .refine⟨ds.map key,by rw[pR];symm,λk lY=>?_,λi k' e=>?_,λp s' a hp up ha I'=>?_⟩
  .let⟨d,hd,rfl⟩:=XM.mp lY
   exact(hk d hd).1
  .rw[WD] at e
   let⟨d,hd,rfl⟩:=XX.mp e;let hi:i<↑kvs:=by rw[hl,lx];exact(qV.mp hd).1
   let is:=Bx i d _ hd (pQ hi);erw[Is] at is;let⟨t,us,e1,e2,e3⟩:=is;calc⟨t,by rw[pQ hi,e1],?_⟩;rw[<-oQ e3];exact S'.sub _ _ e2
  .let pm:(p.toList.map λi=>ds.getD i .non).Perm ds:=by
    let h1:=(q1p.mp hp.perm).map λi=>ds.getD i .non
    let h2:(X_ ↑xs).map (λi=>ds.getD i D.non)=ds:=by
     calc Z_ λi=>?_;rw[WD]
     by_cases hi:i<↑ds
     .rw[Y0 ⋯,q3U,pQ hi,Fl,pQ hi];rfl
     .rw[Yy (by rw[Ys];symm),Yy ⋯];rfl
    rw[show(X_ ↑xs).toArray.toList=X_ ↑xs from Y,h2] at h1;exact h1
   refine⟨.ref a,_,I',Y,K _ pm ?_ a _ _ _ E' S' ha ?_⟩
   .rw[X8,q0n]
    ext i j hi hj jL;rw[pR,XU,hp.size] at hi hj;let:=up i j (Zx jL) hj;unfold KA at this;rw[Yr,Yr]
    let gp:∀{i:Nat}(h:i<↑p.toList),p.getD i 0=p.toList[i]:=λ{i} h=>by
     let h':i<p.size:=by rw[<-XU];exact h
     simp[q7d,h']
    let gk:∀{i:Nat},i<↑ds->(ds.map key).getD i []=key (ds.getD i .non):=λ{i} h=>by
     rw[Fl,WD,pQ h,Fl,pQ h];rfl
    let pi:=hp.lt hi;let pj:=hp.lt hj;dsimp only at this;rw[gk ⋯,gk ⋯,gp (by rw[XU,hp.size];calc hi),gp (by rw[XU,hp.size];calc hj)] at this;exact this
   .refine ah.uW ?_ λi d e=>?_
    .rw[pR,pR]
    .rw[WD] at e ⊢
     let⟨z,e1,rfl⟩:=XX.mp e;rw[e1];let hz:=hp.mem (Yl e1);calc⟨_,Y,ah.at (hx.same E'.same) (getD_some ⋯) (getD_some ⋯)⟩
end
structure gZ(mg:J->Option L)(base:I)(fd:FuncData)(T:O)(pos:y)(q:J):Prop where
 code:∃cc,fd.code=.ref cc/\CodeHd base cc T
 ng:mainGlobals≠T
 blt:base.BuiltinsAt mg T
 tbl:Bt T pos q
theorem fF.By{P:t}{w:X}{K:vS}{mg:J->Option L}{base:I}{x qual:J}{st:R}{f:O}{fd:FuncData}{N ps:-J}{k:Nat}{G:GD}(F:fF K x qual st f fd)(S:kW N ps (bW st))
  (du:∀(a9:L)(A:q)(outer:-u)(s:ο)(H:Hp)(E:XK),fd.code=a9->a6 k (A.deeper (envOfC qual (bW st) ⇑s f a9)) →
   ∃B:WS,c6 (b8 eV P w K mg base N qual (bW st) f a9 A outer s H E).kz (fE st) (cY B)/\∀ys ar K',↑ys=↑ps->G ys ar K'->B (mZ ↑ar K') ⟨ys.map U++My (↑N-↑ps) Z,ar.map U⟩) :
  bN P w K mg base eV (k+1) f fd ps (lW G ↑ps):=by
 let⟨oc,od,kV,doc,pm,an,a9,ct,lT,rfl,lk,fS⟩:=F.ex;calc yQ lk fS S (λvs H Q E h=>h.1) λA outer s H vs Q E hr h=>?_;let⟨hl,Fz,ad,ys,ar,K',S0,g,kk⟩:=h;let⟨B,jb,hb⟩:=du a9 A outer s H E Y hr
 let hy:↑ys=↑ps:=by
  let:=S0.len;rw[pR] at this;rw[<-hl,this];show _=↑(ys.map U);rw[pR]
 refine⟨_,jb.kz,Fz,ad,⟨ys.map U++My (↑N-↑ps) Z,ar.map U⟩,mZ ↑ar K',by rw[<-hl];calc S0.start,hb ys ar K' hy g,⟨fun δ' h F' aG σ' H' E' S'=>?_,fun δ' h=>h.elim,fun δ' h=>h.elim,λy δ' h v F' aG σ' H' E' S' V=>?_,trivial⟩⟩
 .exact wA (σ':=σ') S0 E' S' (x:=.p .non) (v:=.non) Y h kk
 .calc wA (σ':=σ') S0 E' S' V h kk
section
variable{X:Cx}{params:Arguments}{body a e:M}{scope:o}{fI p1 p2 q1 q2 i8:y}{x:J}{Nb:-J}{cp:-(Option Nat)}{fb f:WE}{fa:WA}{T:O}
def Bz(fa:WA)(cp:-(Option Nat))(fb:WE):WE:=fun δ K=>fa δ λxs δ1=>match xs with
 |[.p (.int j)]=>(0<=j/\j<=60)/\sortBy cp fb δ1 (cP 0 j.toNat) λout=>K (.o ↑δ1.mu) ⟨δ1.sl,δ1.mu++[U (.lst out)]⟩
 |_=>False
theorem Rt(L:jQ X params body scope fI T x Nb cp fb)(hc:X.calm=θ)(BA:Gl X "sorted")(hs:X.mg "sorted" = Z)(BB:bootBuiltins "sorted" = U (.builtin "sorted"))(qj:Gl X "range")(hr:X.mg "range" = Z)(qk:bootBuiltins "range" = U (.type "range"))(ha:JA X [a] (b_ fa))
  (he:starEach [a] X.env=[(ι,eval a X.env)]) (M:aJ->-D->Prop)
  {pins:aH} {s:B} {σ:St} {H:Hp} {Q:VK} {F:Hp} {ad:-O} {δ:aJ} (I:Inv X pins σ H s) (S:SR F ad δ σ H)
  (q:fa δ λxs δ1=>match xs with
   |[.p (.int j)]=>(0<=j/\j<=60)/\sortBy cp fb δ1 (cP 0 j.toNat) (M δ1)
   |_=>False)
  (fin:∀δ1 out,M δ1 out->∀a F' aG H' us,Ext F ad δ.mu H F' aG δ1.mu H'->SR F' aG δ1 σ H'->H' a=Z->ah F' out us->Q (.ref a) (upd H' a (.lst us))) :
  G (ς X.prog X.w) X.A (eval (.Call (.Name "sorted" p1) [.Call (.Name "range" p2) [a] [] q2] [⟨U "key",.Lambda params body scope fI,i8⟩] q1) X.env) (EP X pins σ Q) X.xe s:=by
 calc ZJ (oh I BA hs BB ?_);calc callWith_kw ?_;refine bg ((j5 (oq F8 qj hr qk ha (he:=he)) bF) q1 pins s σ H (λvs H2=>∃(r:O)(j:Int)(F1:Hp)(aW:-O)(δ1:aJ)(H1:Hp),vs=[.ref r]/\H2=upd H1 r (.rng 0 j)/\H1 r=Z/\Ext F ad δ.mu H F1 aW δ1.mu H1/\SR F1 aW δ1 σ H1/\(0<=j/\j<=60)/\sortBy cp fb δ1 (cP 0 j.toNat) (M δ1)) I ?_) λus s1 Ru=>?_
 .refine⟨F,ad,δ,_,S,q,λxs δ1 h1 vs F1 aW H1 E1 S1 V1=>?_⟩
  split at h1
  .rename_i j
   let⟨v,r,e,W1,W2⟩:=V1;let W2:r=[]:=W2;let W1:v=.int j:=W1;subst W2 W1 e;exact⟨j,Y,λrr Az=>⟨rr,j,F1,aW,δ1,H1,Y,Y,Az,E1,S1,h1.1,h1.2⟩⟩
  .exact h1.elim
 .let⟨vs,H2,I2,r2,r,j,F1,aW,δ1,H1,ev,eH,Rv,E1,S1,hj,HF⟩:=Ru
  subst ev eH;let⟨u,rfl,rx⟩:=vals1 r2;cases rx
  let sm:aO H1 (upd H1 r (.rng 0 j)):=cL Rv;let S2:=S1.al sm;let E2:=Ext.al S1 sm;let⟨n,rfl⟩:∃n:Nat,j=n:=⟨j.toNat,⋯⟩;rw[XZ,qi] at HF;refine Rp L I2 S2 (ds:=(br n).map D.int) (xs:=(br n).map V.int) qf (λs' H' I' kp Q' hQ=>?_) ?_
  .let xn:H' r=U (.rng 0 (n:Int)):=kp r _ bK λt=>by
    let⟨ps,z⟩:=aM.tb S2.tab t;rw[bK] at z;cases z
   let⟨t,u,v,e⟩:=(show ∃t u v,s'.heap.get? r=U {cls:=.type "range",data:=.fields #[.int 0 t,.int (n:Int) u,.int 1 v]} from I'.aY r _ xn);let hsz:ZV 0 (n:Int) 1=n:=by rw[q2I];split<;>symm
   calc Rg (n:=n) (by rw[Z1];calc I'.ok.hd hc) e (q4O ⋯ ⋯ ⋯ ⋯) hsz ⋯ λh' tk acc Rw it=>hQ h' tk _ Rw ?_;refine zK ?_ λi u e=>?_
   .rw[XU,it.1,br,pR,Ys]
   .rw[Ym] at e
    let⟨t',e2⟩:=it.2 i u e;let hi:i<n:=by rw[<-it.1];exact(YT.mp e).1
    calc⟨t',e2.trans ?_⟩;rw[br,Fl,WD,Y0 hi];show Z8 (0+(i:Int)*1) t'=Z8 (i:Int) t';rw[q12,q3Q]
  .let⟨oF,key,hk,hK⟩:=HF
   calc⟨oF,key,hk,λout pm pw a F' H' us E' S' hn is=>fin δ1 out (hK out pm pw) a F' aW H' us ((E1.trans E2).trans E') S' hn is⟩
theorem Rx(L:jQ X params body scope fI T x Nb cp fb)(hc:X.calm=θ)(BA:Gl X "sorted")(hs:X.mg "sorted" = Z)(BB:bootBuiltins "sorted" = U (.builtin "sorted"))(qj:Gl X "range")(hr:X.mg "range" = Z)(qk:bootBuiltins "range" = U (.type "range"))(ha:JA X [a] (b_ fa))
  (he:‹starEach [a] X.env=[(ι,eval a X.env)]›):JE X (.Call (.Name "sorted" p1) [.Call (.Name "range" p2) [a] [] q2] [⟨U "key",.Lambda params body scope fI,i8⟩] q1) (tD (Bz fa cp fb)) :=
 ⟨λpins s σ H Q I ⟨F,ad,δ,K,S,q,k⟩↦Rt L hc BA hs BB qj hr qk ha he (fun δ1 out=>K (.o ↑δ1.mu) ⟨δ1.sl,δ1.mu++[U (OV.lst out)]⟩) I S q fun δ1 out hM a F' aG H' us E' S' hn is=>by
  let oi:∀{jG},eJ F' jG (.lst out) (.lst us):=λ{jG}=>⟨us,Y,is⟩
  calc k _ _ hM _ _ _ _ (E'.trans (Ext.own S' hn)) (S'.own hn oi) (AF S')⟩
end
end L2
namespace L2
open PySem PySem.Spec PyProof.Rows PySem.W
section
variable{prog:t}{w:X}{A:q}{E:bc}{s:B}{Q:Bool->B->Prop}
end
section
variable{X:Cx}{pins:aH}{σ:St}{H:Hp}{s:B}{A:q}{E:bc}{a:O}{vs:-L}{ks:-LK}{κ:SortKind}
end
section
variable[aM]{X:Cx}
end
end L2
namespace LJ
open PySem L2 PySem.W
theorem Ry{ls:-ke}{b:O}{ps:Array L}:(ls.map λl=>(l.T,(#[]:Array L))).lookup b=U ps->(∃l∈ls,l.T=b)/\ps = #[]:=by
 induction ls with
 |nil=>ext h;cases h
 |cons l ls ih =>
  ext h;rw[X0,X9] at h
  cases q:b==l.T with
  |true =>
   rw[q] at h;exact⟨⟨l,NJ,(Zg q).symm⟩,(Yf h).symm⟩
  |false =>
   rw[q] at h;let⟨⟨l',h1,h2⟩,h3⟩:=ih h;calc⟨⟨l',WH _ h1,h2⟩,h3⟩
theorem BC{ls:-ke}{l:ke}(h:l∈ls):(ls.map λl=>(l.T,(#[]:Array L))).lookup l.T=U #[]:=by
 induction ls with
 |nil=>cases h
 |cons l' ls ih =>
  rw[X0,X9]
  cases q:l.T==l'.T with
  |true=>rfl
  |false =>
   rcases XJ.mp h with rfl|h
   .simp at q
   .calc ih h
theorem Rz{l:OpenLaw}{q:ψ}{loose:-J}{XP:(J->Option L)->I->Prop}{d:DefRec}{K:Params->Frag}{as:-O}{e:∀P,as=(K P).map (·.1)}{ts:-O}{kk:Nat}(ls:-ke)(C:CC)(BE:ls.map (·.T)=ts)(hn:l.most=U 63)(pM:d.params.defaults=[])(hr:a6 kk callerA)
  (rO:∀(w:X)(h:I),(K w.params).In h->Cs l.prog w C.cs h) (fS:∀(w:X)(h:I),(K w.params).In h->∀t∈ls,∃cc,CodeHd h cc t.T) (BF:∀P,noTabs (K P)=θ)
  (F:∀(w:X)(mg:J->Option L)(fa:O)(h:I),(K w.params).In h->h.Ns mainGlobals mg->mg d.name=U (.ref fa) →
   ∃fd:FuncData,(∀(s:B)(u:L),BindsTo s fd ⟨[u],[]⟩ [("script",u)])/\∀base:I,(K w.params).In base->base.Ns mainGlobals mg->(∀t∈ls,base.BuiltinsAt mg t.T)->bN l.prog w (K w.params) mg base eV kk fa fd ["script"] (@uO (iI ls C) (K w.params))) :
  WalkO q loose XP (kmHook K as e ts).says l.row.toRowW d [] (λf vs=>q2Z f vs) :=
 L2.QW (n:=63) (k:=kk) (x:="script") (K:=λw=>K w.params) (CX:=λ_=>eV) (sp:=λw=>@uO (iI ls C) (K w.params)) (cs:=λ_=>C.cs) (Ts:=λ_=>ls.map λl=>(l.T,#[])) hn (by decide) pM hr (λw h Y=>km_in_of Y)
  (λw h Y b ps hl=>by
   let⟨⟨t,ht,rfl⟩,rfl⟩:=Ry hl;let e1:h.get? t.T=U (tabObj #[]):=km_tabs_of Y t.T (by rw[<-BE];calc Y2 ht);refine⟨e1,?_,?_⟩
   .let⟨cc,o,vs,_,_,_,_,_,_,_,c1,c2,c3,c4,_⟩:=fS w h (km_in_of Y) t ht
    exact⟨cc,o,vs,c1,c2,c3,c4⟩
   .cases z:(K w.params).lookup t.T with
    |none=>rfl
    |some o =>
     let e2:=km_in_of Y t.T o z;rw[e1] at e2;cases e2;let h2:=Zf.mp (BF w.params) (t.T,tabObj #[]) (mem_of_lookupK z)
     calc absurd (show ι=θ from h2) Ya)
  (λw h Y=>rO w h (km_in_of Y))
  (λw mg fa h KX G mI=>by
   let⟨fd,hb,hF⟩:=F w mg fa h KX G mI
   calc⟨fd,hb,λbase k1 k2 k3=>hF base k1 k2 λt ht=>k3 t.T #[] (BC ht)⟩)
  (λw H a ns hl hO hQ hS=>by
   letI:aM:=iI ls C;calc⟨a,ns,rfl,hS,hl,⟨λt ht=>?_,hQ⟩,λ_=>rfl⟩;rcases hO t.T with⟨ps,z1,z2⟩|⟨z1,_⟩
   .rw[BC ht] at z1;cases z1
    exact⟨#[],z2,trivial,.inl rfl⟩
   .rw[BC ht] at z1;cases z1)
  λ_ _ _ _ _ z=>z
theorem RA{l:OpenLaw}{q:ψ}{loose:-J}{XP:(J->Option L)->I->Prop}{d:DefRec}{K:Params->Frag}{as:-O}{e:∀P,as=(K P).map (·.1)}{ts:-O}{kk:Nat}(ls:-ke)(BE:ls.map (·.T)=ts)(hn:l.most=U 63)(pM:d.params.defaults=[])(hr:a6 kk callerA)
  (fS:∀(w:X)(h:I),(K w.params).In h->∀t∈ls,∃cc,CodeHd h cc t.T) (BF:∀P,noTabs (K P)=θ)
  (F:∀(w:X)(mg:J->Option L)(fa:O)(h:I),(K w.params).In h->h.Ns mainGlobals mg->mg d.name=U (.ref fa) →
   ∃fd:FuncData,(∀(s:B)(u:L),BindsTo s fd ⟨[u],[]⟩ [("script",u)])/\∀base:I,(K w.params).In base->base.Ns mainGlobals mg->(∀t∈ls,base.BuiltinsAt mg t.T)->bN l.prog w (K w.params) mg base eV kk fa fd ["script"] (@uO (Bs ls) (K w.params))) :
  WalkO q loose XP (kmHook K as e ts).says l.row.toRowW d [] (λf vs=>q2Z f vs) :=
 Rz ls ⟨λ_=>Z,λh=>nomatch h⟩ BE hn pM hr (λ_ _ _=>⟨λh=>(nomatch h),λh=>(nomatch h)⟩) fS BF F
end LJ
namespace LJ
open PySem L2
variable[aM]
inductive uZ (ys:-DV) (ar:-OV) (K:RV->-OV->Prop):Prop
 |mk (m:Int) (ws:-(Int×Int×Int)) (_:aV m ws) (_:ys=[.p (aN m ws)]) (_:ar=[]) (_:K (.p .non) [])
def BG:WS:=(bA (dJ (dT (aA 1 A_ (aq (aa 0) ai)))) lV dz)
theorem RB:Sem 1 0 uZ BG:=by
 ext ys ar K'-⟨m,ws,W,rfl,rfl,k⟩;unfold BG;simp!;calc⟨m,ws,W,Y,Y,?_⟩;simp!;calc eM k
inductive BH (ys:-DV) (ar:-OV) (K:RV->-OV->Prop):Prop
 |mk (y:Int×Int×Int) (_:ys=[.p (aX y)]) (_:ar=[]) (_:K (.p (.tup [.int y.2.2,.int y.1,.int y.2.1])) [])
def BI:WS:=(aR (bz (aq (d2 (aa 0) (dC (.int 2)) a5) (aq (d2 (aa 0) (dC (.int 0)) a5) (aq (d2 (aa 0) (dC (.int 1)) a5) ai)))))
theorem RC:Sem 1 0 BH BI:=by
 ext ys ar K'-⟨y,rfl,rfl,k⟩;unfold BI;simp![aX,dj,c_,at2];calc eM k
noncomputable def gH(ws:-(Int×Int×Int))(n:Int):LK:=[(ws.getD n.toNat (0,0,0)).2.2,(ws.getD n.toNat (0,0,0)).1,(ws.getD n.toNat (0,0,0)).2.1]
structure aK(ws:-(Int×Int×Int))(ns:-Int):Prop where
 perm:ns.Perm (br ↑ws)
 up:(ns.map (gH ws)).Pairwise kle
theorem aK.nums{ws:-(Int×Int×Int)}{ns:-Int}(h:aK ws ns):Nums ws ns:=λn hn=>Hw (h.perm.mem_iff.mp hn)
theorem aK.len{ws:-(Int×Int×Int)}{ns:-Int}(h:aK ws ns):ns.length=↑ws:=by rw[h.perm.length_eq];unfold br;simp
theorem BJ{m:Int}{ws:-(Int×Int×Int)}(W:aV m ws){a b:Int}(ha:0<=a/\a<(↑ws:Int))(hb:0<=b/\b<(↑ws:Int))(e:gH ws a=gH ws b):a=b:=by
 let⟨i,rfl⟩:∃i:Nat,a=i:=⟨a.toNat,⋯⟩;let⟨j,rfl⟩:∃j:Nat,b=j:=⟨b.toNat,⋯⟩;let hi:i<↑ws:=by symm
 let hj:j<↑ws:=by symm
 unfold gH at e;rw[XZ,XZ,Fl,pQ hi,Fl,pQ hj] at e;erw[q3J,List.cons.injEq,and_true] at e
 let q:(ws.map λy=>(y.1,y.2.1))[i]'(by rw[pR];calc hi)=(ws.map λy=>(y.1,y.2.1))[j]'(by rw[pR];calc hj):=by
  rw[Yr,Yr,e.2.1,e.2.2]
 let:=(ZU W.unlike).mp q;rw[this]
theorem HG{m:Int}{ws:-(Int×Int×Int)}(W:aV m ws):∀{as bs:-Int},as.Perm bs->(∀x∈as,0<=x/\x<(↑ws:Int))->(as.map (gH ws)).Pairwise kle->(bs.map (gH ws)).Pairwise kle->as=bs
 |[],bs,p,_,_,_=>(List.nil_perm.mp p).symm
 |a::as,[],p,_,_,_=>absurd p.length_eq (by simp)
 |a::as,b::bs,p,hm,h1,h2=>by
  rw[X0,Zw] at h1 h2
  let e:a=b:=by
   rcases XJ.mp (p.mem_iff.mp NJ) with z|z
   .exact z
   .rcases XJ.mp (p.mem_iff.mpr (NJ (a:=b) (l:=bs))) with y|y
    .exact y.symm
    .let q1:=h1.1 _ (Y2 y)
     let q2:=h2.1 _ (Y2 z);exact BJ W (hm a NJ) (hm b (WH _ y)) (Ha q1 q2)
  subst e;rw[HG W (p.cons_inv) (λx hx=>hm x (WH _ hx)) h1.2 h2.2]
theorem aK.one{m:Int}{ws:-(Int×Int×Int)}{as bs:-Int}(W:aV m ws)(a:aK ws as)(b:aK ws bs):as=bs:=HG W (a.perm.trans b.perm.symm) a.nums a.up b.up
theorem RD{out:-D}{l:-Int}(h:out.Perm (l.map D.int)):∃ns:-Int,out=ns.map D.int/\ns.Perm l:=by
 refine⟨out.map λd=>match d with
  |.int n=>n
  |_=>0,?_,?_⟩
 .rw[X8]
  calc(q3T out).symm.trans (YB λd hd=>?_);let⟨n,_,rfl⟩:=XM.mp (h.mem_iff.mp hd);rfl
 .let:=h.map λd=>match d with
   |.int n=>n
   |_=>0
  rw[X8] at this;calc this.trans (List.Perm.of_eq ((YB λn _=>Y).trans (q3T l)))
inductive BK (ys:-DV) (ar:-OV) (K:RV->-OV->Prop):Prop
 |mk (m:Int) (ws:-(Int×Int×Int)) (_:aV m ws) (_:ys=[.p (aN m ws)]) (_:ar=[]) (_:∀ns,aK ws ns->K (.n (ns.map D.int)) [])
def BL:WS:=(aw (iR (aA 1 uZ (aq (aa 0) ai))) (aw (aP 1 (d2 (aa 0) (dC (.int 1)) a5)) (aR (Bz (aq (dN (aq (aa 1) ai) cm) ai) [U 1] (aA 1 BH (aq (d2 (aa 1) (aa 0) a5) ai))))))
theorem RE:Sem 1 1 BK BL:=by
 ext ys ar K'-⟨m,ws,W,rfl,rfl,k⟩;let lB:=W.fR;unfold BL;calc a_ λN hN=>?_;simp!;calc⟨m,ws,W,Y,Y,?_⟩;simp!;subst hN;calc a_ λN hN=>?_;simp![c_,aN];subst hN;simp![Bz]
 refine⟨⟨⋯,⋯⟩,by rw[nj];symm,λd=>match d with
  |.int n=>gH ws n
  |_=>[],λd hd=>?_,λout pm pw=>?_⟩
 .let⟨i,hi⟩:=WM.mp hd
  let⟨hi,rfl⟩:=ni hi;let e0:(0+(i:Int))=i:=by symm
  rw[e0];let⟨y,ey,hy,ea,_⟩:=kc W (n:=(i:Int)) ⋯ ⋯;calc⟨(by ext z;cases z),?_⟩;simp![ea];calc⟨y,Y,Y,?_⟩;simp!;unfold gH;rw[ey];rfl
 .rw[XZ,qi] at pm
  let⟨ns,rfl,pn⟩:=RD pm;calc⟨[],Y,Y,.inl (k ns ⟨pn,?_⟩)⟩;rw[X8] at pw;calc pw
noncomputable def xo(p q:Int)(fs:-Int):-Int:=fs.map λx=>if x=p then q else x
theorem RF{p q x y:Int}:(if x=p then q else x)=(if y=p then q else y)↔x=y\/((x=p\/x=q)/\(y=p\/y=q)):=by
 by_cases h1:x=p<;>by_cases h2:y=p
 .rw[XI h1,XI h2];constructor<;>ext h<;>symm
 .rw[XI h1,WK h2];constructor<;>ext h<;>symm
 .rw[WK h1,XI h2];constructor<;>ext h<;>symm
 .rw[WK h1,WK h2];constructor<;>ext h<;>symm
theorem HH{f:Int->Int}{fs:-Int}{i:Nat}(h:i<fs.length):(fs.map f).getD i 0=f (fs.getD i 0):=by
 rw[Fl,WD,pQ h,Fl,pQ h];rfl
theorem RG(fs:-Int)(i j:Nat):h9 fs i j=xo (max (fs.getD i 0) (fs.getD j 0)) (min (fs.getD i 0) (fs.getD j 0)) fs:=rfl
theorem RH(a b:Int):(max a b=a/\min a b=b)\/(max a b=b/\min a b=a):=by
 by_cases h:a<=b
 .exact .inr ⟨q3K h,q35 h⟩
 .calc .inl ⟨q36 ⋯,q3L ⋯⟩
noncomputable def lD(ws:-(Int×Int×Int))(st:-Int×-Int)(n:Int):-Int×-Int :=
 if st.2.getD (cQ ws n).1 0=st.2.getD (cQ ws n).2 0 then st else(st.1++[n],h9 st.2 (cQ ws n).1 (cQ ws n).2)
noncomputable def fY(ws:-(Int×Int×Int))(fs ns:-Int):-Int×-Int:=ns.foldl (lD ws) ([],fs)
noncomputable def iT(m:Int)(ws:-(Int×Int×Int))(ns:-Int):-Int:=sortI (fY ws (br m.toNat) ns).1
theorem RI(ws:-(Int×Int×Int))(st:-Int×-Int)(n:Int):↑(lD ws st n).2=↑st.2:=by
 unfold lD;split
 .rfl
 .calc rN _ _ _
theorem u4(ws:-(Int×Int×Int)):∀(ns:-Int)(st:-Int×-Int),∃l,(ns.foldl (lD ws) st).1=st.1++l/\l.Sublist ns/\↑(ns.foldl (lD ws) st).2=↑st.2
 |[],st=>⟨[],by simp,.slnil,Y⟩
 |n::r,st=>by
  let⟨l,h1,h2,h3⟩:=u4 ws r (lD ws st n);rw[q18];rw[RI] at h3;unfold lD at h1 h3 ⊢;split at h1
  .rename_i q
   rw[XI q] at h3 ⊢;exact⟨l,h1,h2.cons _,h3⟩
  .rename_i q
   rw[WK q] at h3 ⊢;calc⟨n::l,by rw[h1,ZE];rfl,h2.cons₂ _,h3⟩
theorem l9{a b:Int}:aQ (.int a) (.int b)=l (a=b):=by
 cases q:aQ (.int a) (.int b)
 .exact (XO λz=>by rw[z,h8] at q;cases q).symm
 .erw[aQ] at q
  calc(X7 (Zg q)).symm
inductive xp (ys:-DV) (ar:-OV) (K:RV->-OV->Prop):Prop
 |mk (m:Int) (ws:-(Int×Int×Int)) (_:aV m ws) (_:ys=[.p (aN m ws)]) (_:ar=[]) (_:∀ns,aK ws ns->K (.n ((iT m ws ns).map D.int)) [])
def BM:WS:=(aw (aP 1 (aA 1 BK (aq (aa 0) ai))) (aw (aP 2 (q_ ai)) (aw (aP 3 (aA 2 w6 (aq (aa 0) (aq (aa 2) ai)))) (aw (fH (cA (aa 1)) (b7 4) (aw (aP 5 (d2 (d2 (aa 0) (dC (.int 1)) a5) (aa 4) a5)) (bA (dT (d2 (d2 (aa 3) (d2 (aa 5) (dC (.int 0)) a5) a5) (d2 (aa 3) (d2 (aa 5) (dC (.int 1)) a5) a5) kH)) (aw (iR (ly (aa 2) (aq (aa 4) ai))) (aP 3 (aA 3 uN (aq (aa 3) (aq (d2 (aa 5) (dC (.int 0)) a5) (aq (d2 (aa 5) (dC (.int 1)) a5) ai)))))) dz))) (aR (rK (aq (aa 2) ai) wV))))))
theorem RJ:Sem 1 5 xp BM:=by
 ext ys ar K'-⟨m,ws,W,rfl,rfl,k⟩;let lB:=W.fR;let m1:=W.m1;let kD:=W.kD;unfold BM;calc a_ λN hN=>?_;simp!;calc⟨m,ws,W,Y,Y,λns ho=>?_⟩;simp!;subst hN;calc a_ λN hN=>?_;simp!;subst hN;calc a_ λN hN=>?_;simp!;calc⟨m,ws,[],W,λn hn=>absurd hn Yh,.inr ⟨Y,Y,?_⟩⟩;simp!;subst hN;calc a_ λN hN=>uK λg' b' K2 hg hb' hK=>?_;simp!;subst hg hb' hK;let il:↑(br m.toNat)=m.toNat:=by unfold br;simp
 let hlen:=ho.len
 let inv:∀i,↑(fY ws (br m.toNat) (ns.take i)).2=m.toNat/\↑(fY ws (br m.toNat) (ns.take i)).1<=30:=λi=>by
  let⟨l,h1,h2,h3⟩:=u4 ws (ns.take i) ([],br m.toNat);calc⟨h3.trans il,?_⟩;let:(fY ws (br m.toNat) (ns.take i)).1=l:=h1;rw[this];let:=h2.length_le;rw[Yb] at this;symm
 refine oX (λi δ=>δ=⟨[U (.p (aN m ws)),U (.p (.lst (ns.map D.int))),U (.o 0),U (.p (bC (fY ws (br m.toNat) (ns.take i)).2)),Z,Z],[U (.lst ((fY ws (br m.toNat) (ns.take i)).1.map D.int))]⟩) Y ?_ ?_
 .ext i d δ L hi rfl hL
  rw[WD] at hi;let⟨n,HI,rfl⟩:=XX.mp hi;let⟨n0,n1⟩:=ho.nums n (Yl HI);let⟨y,ey,hy,ea,a,b,e1,e2,h1,h2,_⟩:=kc W n0 n1;let en:cQ ws n=(a,b):=by unfold cQ;rw[ey,e1,e2,XZ,XZ]
  let⟨hf,hl⟩:=inv i
  let step:fY ws (br m.toNat) (ns.take (i+1))=lD ws (fY ws (br m.toNat) (ns.take i)) n:=by
   let:ns.take (i+1)=ns.take i++[n]:=by rw[q0O,HI];rfl
   rw[this];unfold fY;rw[q1C];rfl
  let lE:=hL _ Y;rw[step] at lE;generalize fY ws (br m.toNat) (ns.take i)=st at hf hl lE;let⟨acc,fs⟩:=st;dsimp only at hf hl lE ⊢;unfold lD at lE;rw[en] at lE;dsimp only at lE;calc⟨trivial,?_⟩;erw[b7,YU,YV];calc a_ λN2 cD=>?_;simp![c_,aN,ea];subst cD;let a1:=uM (ns:=fs) (i:=a) ⋯;let a2:=uM (ns:=fs) (i:=b) ⋯;calc jM λAy Bn hA hB=>?_;simp![dj,c_,aX,e1,e2,bC,a1,a2,l9]
  by_cases q:fs.getD a 0=fs.getD b 0
  .rw[X7 q]
   simp!;subst hB;rw[XI q] at lE;simp!;exact lE
  .rw[XO q]
   simp!;subst hA;rw[WK q] at lE;calc a_ λN2 cD=>?_;simp!;calc⟨⋯,?_⟩;subst cD;simp![dj,c_];calc⟨fs,a,b,Y,Y,⋯,⋯,⋯,?_⟩;simp!;rw[XY] at lE;exact lE
 .ext δ rfl
  calc⟨trivial,?_⟩;let⟨hf,hl⟩:=inv ns.length;rw[pR,YI (Fm _)] at *;show N _;subst hN;simp![wV,rA];calc⟨⋯,[],Y,Y,.inl (k ns ho)⟩
theorem qz{us:-Int}{n:Int}:((us.map D.int).any λe=>aQ e (.int n))=l (n∈us):=by
 cases q:(us.map D.int).any λe=>aQ e (.int n)
 .refine (XO λz=>?_).symm
  let:=q0c.mp q (.int n) (Y2 z);exact this (h8 _)
 .let⟨e,he,h⟩:=q3M.mp q
  let⟨z,hz,rfl⟩:=XM.mp he;rw[l9] at h;rw[<-YQ h];calc(X7 hz).symm
theorem kK:∀us:-Int,bG (us.map D.int)<=55
 |[]=>by simp[bG]
 |n::r=>by
  let:=kK r;erw[X0,bG,dep];symm
noncomputable def ft(ws:-(Int×Int×Int))(us:-Int):-(Int×Int×Int):=us.map λu=>ws.getD u.toNat (0,0,0)
noncomputable def d6(ws:-(Int×Int×Int))(sh:-Int):-Int:=(br ↑ws).filter λn=>l (n∉sh)
noncomputable def h_(us:-Int)(i:Int):Int:=us.getD i.toNat 0
structure eQ(ws:-(Int×Int×Int))(us:-Int):Prop where
 up:us.Pairwise (· < ·)
 nums:Nums ws us
theorem HJ(n:Nat):(br n).Pairwise (· < ·):=by
 unfold br;rw[Zp];calc List.pairwise_lt_range.imp λh=>by symm
theorem ju(ws:-(Int×Int×Int))(sh:-Int):eQ ws (d6 ws sh):=⟨(HJ _).filter _,λn hn=>Hw (YJ.mp hn).1⟩
theorem eQ.nd{ws:-(Int×Int×Int)}{us:-Int}(S:eQ ws us):us.Nodup:=S.up.imp λh=>by symm
theorem RL{ws:-(Int×Int×Int)}{us:-Int}{i:Int}(h:0<=i/\i<(↑us:Int)):(ft ws us).getD i.toNat (0,0,0)=ws.getD (h_ us i).toNat (0,0,0):=by
 let hi:i.toNat<↑us:=by symm
 unfold ft h_;rw[Fl,WD,Fl (l:=us),pQ hi];rfl
theorem sub_len{ws:-(Int×Int×Int)}{us:-Int}:↑(ft ws us)=↑us:=by unfold ft;rw[pR]
theorem HK{us:-Int}{i:Int}(h:0<=i/\i<(↑us:Int)):h_ us i∈us:=by
 let hi:i.toNat<↑us:=by symm
 unfold h_;rw[Fl,pQ hi];calc Zv hi
theorem eQ.lt{ws:-(Int×Int×Int)}{us:-Int}(S:eQ ws us){i j:Int}(hi:0<=i)(jL:i<j)(hj:j<(↑us:Int)):h_ us i<h_ us j:=by
 let h1:i.toNat<↑us:=by symm
 let h2:j.toNat<↑us:=by symm
 unfold h_;rw[Fl,Fl,pQ h1,pQ h2];calc q0n.mp S.up i.toNat j.toNat h1 h2 ⋯
theorem getD_mem{ws:-(Int×Int×Int)}{n:Int}(h:0<=n/\n<(↑ws:Int)):ws.getD n.toNat (0,0,0)∈ws:=by
 let hi:n.toNat<↑ws:=by symm
 rw[Fl,pQ hi];calc Zv hi
theorem l_{m:Int}{ws:-(Int×Int×Int)}{us:-Int}(W:aV m ws)(S:eQ ws us):aV m (ft ws us):=by
 let hl:↑us<=↑ws:=by
  let h:us.Sublist (br ↑ws):=by
   let e:us=(br ↑ws).filter λn=>l (n∈us):=by
    calc List.Perm.eq_of_pairwise (le:=(· < ·)) (λa b _ _ h1 h2=>by symm) S.up ((HJ _).filter _) ?_;calc(q1q S.nd ((Bd _).filter _)).mpr λa=>?_;rw[YJ,Y4];calc⟨λh=>⟨?_,h⟩,λh=>h.2⟩;let⟨h1,h2⟩:=S.nums a h;unfold br;exact XM.mpr ⟨a.toNat,Yo.mpr ⋯,⋯⟩
   rw[e];exact q08
  let:=h.length_le;unfold br at this;simpa using this
 refine⟨W.m1,W.kD,by rw[sub_len];calc Yi hl W.fR,λy hy=>?_,?_⟩
 .let⟨u,hu,rfl⟩:=XM.mp hy
  exact W.ends _ (getD_mem (S.nums u hu))
 .unfold ft
  rw[X8];calc Zp.mpr (S.nd.imp_of_mem λ{a b} ha hb ne e=>ne ?_);let⟨a0,a1⟩:=S.nums a ha;let⟨b0,b1⟩:=S.nums b hb;let h1:a.toNat<↑ws:=by symm
  let h2:b.toNat<↑ws:=by symm
  let e:((ws.map λy=>(y.1,y.2.1))[a.toNat]'(by rw[pR];calc h1))=(ws.map λy=>(y.1,y.2.1))[b.toNat]'(by rw[pR];calc h2):=by
   erw[q2N,Fl,pQ h1,pQ h2,q3J] at e;rw[Yr,Yr];exact e
  let:=(List.getElem?_inj (i:=a.toNat) (j:=b.toNat) (by rw[pR];calc h1) W.unlike).mp (by rw[pQ (by rw[pR];calc h1),pQ (by rw[pR];calc h2),e]);symm
theorem RM(ws:-(Int×Int×Int))(ns fs:-Int):∀i∈(fY ws fs ns).1,i∈ns:=λi hi=>by
 let⟨l,e,s,_⟩:=u4 ws ns ([],fs);unfold fY at hi;rw[e,Zr] at hi;calc s.subset hi
theorem u5{m:Int}{ws:-(Int×Int×Int)}(ns:-Int):∀i∈iT m ws ns,i∈ns:=λi hi=>RM ws ns _ i ((sortI_perm _).mem_iff.mp hi)
theorem BN{m:Int}{ws:-(Int×Int×Int)}(ns:-Int):↑(iT m ws ns)<=ns.length:=by
 unfold iT fY;let⟨l,e,s,_⟩:=u4 ws ns ([],br m.toNat);rw[Py,e,Zr];calc s.length_le
theorem HL{m:Int}{ws:-(Int×Int×Int)}{ns:-Int}(o:aK ws ns):(iT m ws ns).Nodup:=by
 unfold iT fY;let⟨l,e,s,_⟩:=u4 ws ns ([],br m.toNat);calc(sortI_perm _).nodup_iff.mpr ?_;rw[e,Zr];calc s.nodup (o.perm.nodup_iff.mpr (Bd _))
theorem HM{us:-Int}{n:Int}(h:0<=n/\n<(↑us:Int)):eU (us.map D.int) n=U (.int (h_ us n)):=by
 let:=uM (ns:=us) (i:=n.toNat) ⋯
 rwa [show((n.toNat:Nat):Int)=n by symm] at this
end LJ
namespace L2
open PySem PySem.Spec PyProof.Rows
variable[aM]
noncomputable def dg{α:Type}(kvs:-(Key×α))(k:Key):Option α:=(kvs.find? λkv=>l (kv.1=k)).map (·.2)
noncomputable def putD{α:Type}(kvs:-(Key×α))(k:Key)(d:α):-(Key×α) :=
 if(kvs.any λkv=>l (kv.1=k))=θ then kvs.map (λkv=>if kv.1=k then(kv.1,d) else kv) else kvs++[(k,d)]
section
omit [aM]
variable{α:Type}{R:α->V->Prop}
theorem fz.val(k:Key):∀{ib:-(Key×α)}{ws:-(Key×V)},fz R ib ws->(dg ib k=Z/\cz ws k=Z)\/∃d v,dg ib k=U d/\cz ws k=U v/\R d v
 |[],_,h=>by let h:_=[]:=h;subst h;exact .inl ⟨Y,Y⟩
 |kd::r,_,⟨v,t,e,h1,h2⟩=>by
  subst e
  by_cases c:kd.1=k
  .refine .inr ⟨kd.2,v,?_,t4 c,h1⟩
   unfold dg;rw[q14 c⁻¹];rfl
  .rw[t5 c]
   let e:dg (kd::r) k=dg r k:=by unfold dg;rw[q15 c⁻¹]
   rw[e];calc fz.val k h2
theorem fz.length{κ:Type}:∀{ib:-(κ×α)}{ws:-(κ×V)},fz R ib ws->↑ws=↑ib
 |[],_,h=>by let h:_=[]:=h;subst h;rfl
 |kd::r,_,⟨v,t,e,h1,h2⟩=>by subst e;rw[NG,NG,↑h2]
theorem fz.any(k:Key):∀{ib:-(Key×α)}{ws:-(Key×V)},fz R ib ws->(ws.any λkv=>l (kv.1=k))=ib.any λkv=>l (kv.1=k)
 |[],_,h=>by let h:_=[]:=h;subst h;rfl
 |kd::r,_,⟨v,t,e,h1,h2⟩=>by subst e;rw[ZQ,ZQ,h2.any k]
theorem fz.jd(k:Key){d:α}{v:V}(hd:R d v):∀{ib:-(Key×α)}{ws:-(Key×V)},fz R ib ws->fz R (ib.map λkv=>if kv.1=k then(kv.1,d) else kv) (ws.map λkv=>if kv.1=k then(kv.1,v) else kv)
 |[],_,h=>by let h:_=[]:=h;subst h;rfl
 |kd::r,_,⟨u,t,e,h1,h2⟩=>by
  subst e
  by_cases c:kd.1=k
  .rw[X0,X0,XI c,XI c]
   exact⟨v,_,Y,hd,h2.jd k hd⟩
  .rw[X0,X0,WK c,WK c]
   calc⟨u,_,Y,h1,h2.jd k hd⟩
theorem fz.snoc{k:Key}{d:α}{v:V}(hd:R d v):∀{ib:-(Key×α)}{ws:-(Key×V)},fz R ib ws->fz R (ib++[(k,d)]) (ws++[(k,v)])
 |[],_,h=>by let h:_=[]:=h;subst h;exact⟨v,[],Y,hd,Y⟩
 |kd::r,_,⟨u,t,e,h1,h2⟩=>by subst e;calc⟨u,_,Y,h1,h2.snoc hd⟩
theorem fz.put{ib:-(Key×α)}{ws:-(Key×V)}{k:Key}{d:α}{v:V}(h:fz R ib ws)(hd:R d v):fz R (putD ib k d) (putK ws k v):=by
 unfold putD putK;rw[h.any k];split
 .exact h.jd k hd
 .calc h.snoc hd
end
def kg(x:DV)(δ:aJ)(K:Nat->(-(Key×D)->OV)->-(Key×D)->Prop):Prop:=match x with
 |.o k=>match δ.mu[k]? with
  |some (some (.dct kvs))=>K k OV.dct kvs
  |some (some (.ac a kvs))=>K k (OV.ac a) kvs
  |_=>False
 |_=>False
theorem HN{F H:Hp}{ad:-O}{δ:aJ}{σ:St}{x:DV}{v:V}{K:Nat->(-(Key×D)->OV)->-(Key×D)->Prop}(S:SR F ad δ σ H)(V1:dF F ad x v)(h:kg x δ K):∃k B kvs a ws,x=.o k/\K k B kvs/\v=.ref a/\ad[k]?=U a/\H a=U (.dK ws)/\v9 F kvs ws/\δ.mu[k]?=U (U (B kvs))/\∀{F' es us},v9 F' es us->eJ F' a (B es) (.dK us):=by
 unfold kg at h;split at h
 .rename_i k
  split at h
  .rename_i kvs e
   let⟨a,e1,rfl⟩:=V1;let⟨a',o,e2,e3,ws,rfl,h4⟩:=S.mu k _ e;rw[e1] at e2;cases e2;exact⟨k,_,kvs,a,ws,Y,h,Y,e1,e3,h4,e,λi=>⟨_,Y,i⟩⟩
  .rename_i b kvs e
   let⟨a,e1,rfl⟩:=V1;let⟨a',o,e2,e3,z,ws,rfl,h4⟩:=S.mu k _ e;rw[e1] at e2;cases e2;exact⟨k,_,kvs,a,ws,Y,h,Y,e1,e3,h4,e,λi=>⟨z,_,Y,i⟩⟩
  .exact h.elim
 .calc h.elim
def kh(x:DV)(P:Int->Prop):Prop:=match x with
 |.p (.int i)=>P i
 |_=>False
theorem HP{F:Hp}{ad:-O}{x:DV}{v:V}{P:Int->Prop}(hv:dF F ad x v)(h:kh x P):∃i,v=kV (.inl i)/\P i:=by
 unfold kh at h;split at h
 .rename_i i;exact⟨i,hv,h⟩
 .calc h.elim
def BO:WE:=fun δ K=>K (.o ↑δ.mu) ⟨δ.sl,δ.mu++[U (.dct [])]⟩
def nM(neg:Bool)(fi fo:WE):WE:=fun δ K=>fi δ λx δ1=>fo δ1 λy δ2=>kh x λi=>kg y δ2 λ_ _ kvs=>K (.p (.bl (neg != (dg kvs (.inl i)).isSome))) δ2
def BP(fv fo fi:WE):WS:=λK δ=>fv δ λz δ1=>fo δ1 λx δ2=>fi δ2 λy δ3=>mR z δ3 λd δ4=>kh y λi=>kg x δ4 λk B kvs=>↑kvs<1000/\K.nx ⟨δ4.sl,δ4.mu.set k (U (B (putD kvs (.inl i) d)))⟩
section
variable{X:Cx}{o i e v:M}{fo fi fv fk fe:WE}{pos:y}
theorem RN:JE X (.Dict [] [] pos) (tD BO):=iB.weak fun σ H Q ⟨F,ad,δ,K,S,q,k⟩ p hp=>by
 let oi:∀{jG},eJ F jG (.dct []) (.dK []):=λ{jG}=>⟨[],Y,Y⟩;calc k _ _ q _ _ _ _ (Ext.own S hp) (S.own hp oi) ⟨p,?_,Y⟩;rw[<-S.bX,NK (Fm _),Yv];rfl
theorem RO{neg:Bool}(td:TE)(hn:∀σ H (Q:VK),(tD fi σ H λy H1=>tD fo σ H1 λx H2=>∃a o,x=.ref a/\j6 H2 a y o/\Q (.bl (neg != o.isSome)) H2)->td σ H Q):∀σ H Q,tD (nM neg fi fo) σ H Q->td σ H Q:=fun σ H Q ⟨F,ad,δ,K,S,q,k⟩=>hn σ H Q ⟨F,ad,δ,_,S,q,λx δ1 h1 v F1 aW H1 E1 S1 V1=>⟨F1,aW,δ1,_,S1,h1,λy δ2 h2 u F2 bP H2 E2 S2 V2=>by
  let⟨i,rfl,h3⟩:=HP (V1.ext E2) h2;let⟨k0,B,kvs,a,ws,rfl,h4,rfl,e1,e2,i1,m1,nv⟩:=HN S2 V2 h3;refine⟨a,_,Y,j6.k e2,?_⟩
  let es:(cz ws (q0b i:Key)).isSome=(dg kvs (.inl i)).isSome:=by
   rcases i1.val (.inl i) with⟨z1,z2⟩|⟨d,v,z1,z2,_⟩
   .rw[z1,z2];rfl
   .rw[z1,z2];rfl
  rw[es]
  calc k _ _ h4 _ _ _ _ (E1.trans E2) S2 Y⟩⟩
theorem RP{t:TE}{f:WE}(h:∀σ H Q,tD f σ H Q->t σ H Q):∀σ H Q,di (dT f) σ H Q->tB t σ H Q:=fun σ H Q ⟨F,ad,δ,K,S,q,k⟩↦h σ H _ ⟨F,ad,δ,_,S,q,λx δ1 h1 v F1 aW H1 E1 S1 V1=>by
  let⟨b,rfl,h2⟩:=rj V1 h1
  calc⟨b,Y,k _ _ h2 _ _ _ E1 S1⟩⟩
theorem RQ(hu:X.A.units+64<cLine)(hi:JE X i (tD fi))(ho:JE X o (tD fo))(hm:‹behindInMarks .In o=ι›):JT X (.Compare i [.In] [o] pos) (di (dT (nM ι fi fo))) :=
 (LO (Oi ⋯ hi ho) hm).weak (RP (RO (t6 (tD fi) (tD fo)) fun σ H Q h=>by erw[q4q] at h;calc h))
theorem RR[d_]{pos':Ε}(hu:X.A.units+64<cLine)(ho:JE X o (tD fo))(hi:JE X i (tD fi))(hv:JE X v (tD fv))(hs:‹swapsWith v (U (.Subscript o i pos')) pos.line X.env=pure ι›):JS X (.Assign [.Subscript o i pos'] v pos) (cY (BP fv fo fi)) :=
 (Oj ⋯ ho hi hv hs).weak λD σ H ⟨F,ad,δ,K,S,q,k⟩=>⟨F,ad,δ,_,S,q,λz δ1 h1 w F1 aW H1 E1 S1 V1=>⟨F1,aW,δ1,_,S1,h1,λx δ2 h2 u F2 bP H2 E2 S2 V2=>⟨F2,bP,δ2,_,S2,h2,λy δ3 h3 t F3 rm H3 E3 S3 V3=>by
  let⟨d,δ4,F4,h4,E4,S4,i4⟩:=ug S3 ((V1.ext E2).ext E3) h3;let⟨i,rfl,h5⟩:=HP V3 h4;let⟨k0,B,kvs,a,ws,rfl,h6,rfl,e1,e2,i1,m1,nv⟩:=HN S4 ((V2.ext E3).ext E4) h5;let oi:=nv (F':=F4) (us:=putK ws (.inl i) w) (i1.put i4);refine⟨a,_,Y,k9.k e2 (mK (by rw[↑i1];calc Zx h6.1)),?_⟩
  calc k.nx _ h6.2 _ _ _ _ ((((E1.trans E2).trans E3).trans E4).trans (Ext.put S4 m1 e1)) (S4.put m1 e1 oi)⟩⟩⟩
end
end L2
namespace LJ
open PySem L2
variable[aM]
theorem RS{kvs:-(Key×D)}{k l:Key}{d:D}(h:dg kvs k=Z):dg (putD kvs k d) l=if l=k then U d else dg kvs l:=by
 let na:(kvs.any λkv=>μ (kv.1=k))=ι:=by
  cases q:kvs.any λkv=>μ (kv.1=k) with
  |false=>rfl
  |true =>
   let⟨kv,h1,h2⟩:=q3M.mp q;unfold dg at h;rw[Option.map_eq_none_iff] at h;exact absurd h2 (q1b.mp h kv h1)
 unfold putD;rw[na,WK Ya];unfold dg;rw[List.find?_append]
 cases q:kvs.find? λkv=>μ (kv.1=l) with
 |some kv =>
  let e:=q00 q;let e:kv.1=l:=by simpa using e
  rw[WK]
  .rfl
  .ext z
   subst z;let hm:=q1v q;let:=q0c.mp na kv hm;exact this e⁻¹
 |none =>
  by_cases c:l=k
  .subst c
   rw[XI Y];simp
  .rw[WK c]
   simp[show ¬ k=l fromλz=>c z.symm]
theorem RT{kvs:-(Key×D)}{k:Key}{d:D}:↑(putD kvs k d)<=↑kvs+1:=by
 unfold putD;split
 .rw[pR];symm
 .rw[Fs];simp
inductive xq (ys:-DV) (ar:-OV) (K:RV->-OV->Prop):Prop
 |mk (m:Int) (ws:-(Int×Int×Int)) (ns:-Int) (_:aV m ws) (_:Nums ws ns) (_:ns.Nodup) (_:ns.length<=900) (_:ys=[.p (aN m ws),.p (bC ns)]) (_:ar=[]) (_:K (.p .non) [])
def BQ:WS:=(aw (iR (aA 1 uZ (aq (aa 0) ai))) (aw (bA (dJ (dT (d1 (aa 1) (jn "list")))) lV dz) (aw (aP 2 (d2 (dN (aq (d2 (aa 0) (dC (.int 1)) a5) ai) cm) (dC (.int 1)) (oI λi j=>.int (i-j)))) (aw (aP 3 BO) (fH (nh (aq (aa 1) ai)) (oN 2 (jI (b7 4) (jI (b7 5) mV))) (aw (bA (kG (dJ (dT (aA 3 nH (aq (aa 5) (aq (dC (.int 0)) (aq (aa 2) ai)))))) (dT (nM ι (aa 5) (aa 3)))) lV dz) (BP (dC (.bl θ)) (aa 3) (aa 5))))))))
theorem RU:Sem 2 4 xq BQ:=by
 ext ys ar K'-⟨m,ws,ns,W,hn,nd,hl,rfl,rfl,k⟩;unfold BQ;calc a_ λN hN=>?_;simp!;calc⟨m,ws,W,Y,Y,?_⟩;show N _;subst hN;calc a_ λN hN=>?_;simp!;rw[show bC ns=.lst (ns.map D.int) from Y];simp![gR,eI,q45];subst hN;calc a_ λN hN=>?_;simp![c_,aN];subst hN;calc a_ λN hN=>?_;simp![BO];subst hN
 let il:∀(j:Nat)(d:D),(lZ 0 (ns.map D.int))[j]?=U d->∃n:Int,ns[j]?=U n/\d=D.tup [.int (j:Int),.int n]:=λj d hd=>by
  let⟨e,h1,h2⟩:=wC hd;rw[WD] at h1;let⟨n,h3,rfl⟩:=XX.mp h1;exact⟨n,h3,by rw[h2,YF]⟩
 let el:↑(lZ 0 (ns.map D.int))=ns.length:=by rw[wB,pR]
 erw[fH,nh,aq,aa,ai,q1N,q0D,rq];refine oX (λi δ=>∃kvs:-(Key×D),↑kvs<=i/\(∀n:Int,(dg kvs (.inl n)).isSome=μ (n∈ns.take i))/\δ=⟨[U (.p (.tup [.int m,.tup (ws.map aX)])),U (.p (.lst (ns.map D.int))),U (.p (.int (↑ws-1))),U (.o 0),Z,Z],[U (.dct kvs)]⟩) ?_ ?_ ?_
 .refine⟨[],Fm _,λn=>by simp[dg],?_⟩
  erw[pR]
 .ext j d δ L hj ⟨kvs,kl,kv,rfl⟩ hL
  let⟨n,qr,rfl⟩:=il j d hj;let⟨n0,n1⟩:=hn n (Yl qr);let jl:j<ns.length:=(qV.mp qr).1
  let ff:(dg kvs (.inl n)).isSome=ι:=by
   rw[kv n];calc XO λhm=>?_;let⟨i,hi,ei⟩:=ZO.mp hm;rw[Yb] at hi;rw[List.getElem_take] at ei;let e2:ns[j]=n:=(qV.mp qr).2;let:=(ZU (h₀:=by symm) (h₁:=jl) nd).mp (ei.trans e2.symm);symm
  let fn:dg kvs (.inl n)=Z:=by
   cases q:dg kvs (.inl n) with
   |none=>rfl
   |some d=>rw[q] at ff;cases ff
  let wb:wY (.int n) 0 (↑ws-1)=θ:=by
   show(μ (0<=n)&&μ (n<=(↑ws:Int)-1))=θ;rw[X7 n0,X7 ⋯];rfl
  calc⟨trivial,?_⟩;erw[oN,jI,mV,b7,hZ,YU,YV,NG,Z5];calc⟨trivial,?_⟩;calc a_ λN hN=>?_;simp!;calc⟨.int n,0,↑ws-1,Y,Y,?_⟩;simp![wb,nM,kh,kg,ff,q4q];subst hN;simp![BP,kh,kg];refine⟨⋯,hL _ ⟨putD kvs (.inl n) (.bl θ),?_,λl=>?_,?_⟩⟩
  .let:=RT (kvs:=kvs) (k:=.inl n) (d:=.bl θ);symm
  .rw[RS fn,q0O,qr]
   by_cases c:l=n
   .subst c
    rw[XI Y];exact(X7 (by simp)).symm
   .rw[WK (λz=>c (q3O z)),kv l]
    simp[c]
  .simp!
 .ext δ ⟨kvs,_,_,rfl⟩
  calc⟨trivial,eM k⟩
end LJ
namespace L2
open PySem PySem.Spec PyProof.Rows PySem.W
section
open PySem.SeqAt
open PySem.AutoSeq1 (wpAny_loadPart')
open PySem.MeetsSeq PySem.MeetsSeq2 PySem.MeetsSeq3
end
section
variable{prog:t}{w:X}{A:q}{E:bc}{s:B}{Q:Bool->B->Prop}
end
section
variable[aM]{X:Cx}
end
end L2
namespace LJ
open PySem L2
abbrev Lt:=Int×(O×-Int)
noncomputable def eR(es:-Lt):-(Key×V):=es.map λe=>(q0b e.1,V.ref e.2.1)
structure dA(H:Hp)(es:-Lt):Prop where
 at_:∀e∈es,H e.2.1=U (.lst (e.2.2.map V.int))
 nN:(es.map (·.2.1)).Nodup
 nP:(es.map (·.1)).Nodup
noncomputable def strip(es:-Lt):-(Int×-Int):=es.map λe=>(e.1,e.2.2)
noncomputable def o_(g:-(Int×-Int))(x h:Int):-(Int×-Int):=if x∈g.map (·.1) then g.map (λe=>if e.1=x then(e.1,e.2++[h]) else e) else g++[(x,[h])]
noncomputable def fZ(fs:-Int):Nat->-(Int×-Int)
 |0=>[]
 |i+1=>o_ (fZ fs i) (fs.getD i 0) i
theorem HQ(x:Int):∀es:-Lt,cz (eR es) (q0b x:Key)=(es.find? λe=>l (e.1=x)).map λe=>V.ref e.2.1
 |[]=>Y
 |e::es=>by
  by_cases c:e.1=x
  .rw[q14 c⁻¹]
   exact t4 (congrArg q0b c)
  .rw[q15 c⁻¹]
   let:=HQ x es;rw[<-this];calc t5 (λz=>c (q3O z))
theorem RW(es:-Lt):(strip es).map (·.1)=es.map (·.1):=by unfold strip;rw[X8];rfl
noncomputable def grow(es:-Lt)(x h:Int):-Lt:=es.map λe=>if e.1=x then(e.1,e.2.1,e.2.2++[h]) else e
theorem RX(es:-Lt)(x h:Int):eR (grow es x h)=eR es:=by
 unfold eR grow;rw[X8];calc YB λe _=>?_;show((q0b (if e.1=x then(e.1,e.2.1,e.2.2++[h]) else e).1:Key),V.ref (if e.1=x then(e.1,e.2.1,e.2.2++[h]) else e).2.1)=_;split<;>rfl
theorem RY(es:-Lt)(x h:Int):(grow es x h).map (·.2.1)=es.map (·.2.1):=by
 unfold grow;rw[X8];calc YB λe _=>?_;show(if e.1=x then(e.1,e.2.1,e.2.2++[h]) else e).2.1=_;split<;>rfl
theorem RZ(es:-Lt)(x h:Int):(grow es x h).map (·.1)=es.map (·.1):=by
 unfold grow;rw[X8];calc YB λe _=>?_;show(if e.1=x then(e.1,e.2.1,e.2.2++[h]) else e).1=_;split<;>rfl
theorem R0{es:-Lt}{x h:Int}(hx:x∈es.map (·.1)):strip (grow es x h)=o_ (strip es) x h:=by
 unfold o_;rw[XI (by rw[RW];calc hx)];unfold strip grow;rw[X8,X8];calc YB λe _=>?_;show((if e.1=x then(e.1,e.2.1,e.2.2++[h]) else e).1,(if e.1=x then(e.1,e.2.1,e.2.2++[h]) else e).2.2)=if e.1=x then(e.1,e.2.2++[h]) else(e.1,e.2.2);split<;>rfl
theorem R1{es:-Lt}(n:(es.map (·.1)).Nodup){e e':Lt}(h:e∈es)(h':e'∈es)(q:e.1=e'.1):e=e':=by
 let⟨i,hi,rfl⟩:=ZO.mp h;let⟨j,hj,rfl⟩:=ZO.mp h';let:=(ZU (h₀:=by rw[pR];calc hi) (h₁:=by rw[pR];calc hj) n).mp (by rw[Yr,Yr];calc q);subst this;rfl
theorem R3{es:-Lt}(n:(es.map (·.2.1)).Nodup){e e':Lt}(h:e∈es)(h':e'∈es)(q:e.2.1=e'.2.1):e=e':=by
 let⟨i,hi,rfl⟩:=ZO.mp h;let⟨j,hj,rfl⟩:=ZO.mp h';let:=(ZU (h₀:=by rw[pR];calc hi) (h₁:=by rw[pR];calc hj) n).mp (by rw[Yr,Yr];calc q);subst this;rfl
theorem dA.grow{H:Hp}{es:-Lt}{e:Lt}{h:Int}(L:dA H es)(he:e∈es):dA (upd H e.2.1 (.lst (e.2.2.map V.int++[V.int h]))) (grow es e.1 h):=by
 calc⟨λe' pb=>?_,by rw[RY];calc L.nN,by rw[RZ];calc L.nP⟩;unfold LJ.grow at pb;let⟨d,hd,rfl⟩:=XM.mp pb
 by_cases c:d.1=e.1
 .obtain rfl:=R1 L.nP hd he c
  rw[XI Y];show upd H d.2.1 _ d.2.1=U (.lst ((d.2.2++[h]).map V.int));rw[bK,XY];rfl
 .rw[WK c]
  rw[aZ λz=>c (by rw[R3 L.nN hd he z])];calc L.at_ d hd
theorem dA.snoc{H H':Hp}{es:-Lt}{x h:Int}{n:O}(L:dA H es)(hn:H n=Z)(hx:x∉es.map (·.1))(kp:∀e∈es,H' e.2.1=H e.2.1)(h':H' n=U (.lst [V.int h])):dA H' (es++[(x,n,[h])]):=by
 refine⟨λe he=>?_,?_,?_⟩
 .rcases Yc.mp he with q|q
  .rw[kp e q];exact L.at_ e q
  .rw[X1.mp q];exact h'
 .rw[XY]
  calc Y5.mpr ⟨L.nN,by simp,λa ha b hb z=>?_⟩;subst z;let⟨e,he,rfl⟩:=XM.mp ha;let:e.2.1=n:=by simpa using hb
  rw[<-this,L.at_ e he] at hn;cases hn
 .rw[XY]
  calc Y5.mpr ⟨L.nP,by simp,λa ha b hb z=>?_⟩;subst z;let:a=x:=by simpa using hb
  calc hx (by rw[<-this];calc ha)
variable[aM]
inductive BR (ys:-DV) (ar:-OV) (K:RV->-OV->Prop):Prop
 |mk (m:Int) (ws:-(Int×Int×Int)) (ns:-Int) (_:aV m ws) (_:Nums ws ns) (_:ns.Nodup) (_:ns.length<=900) (_:ys=[.p (aN m ws),.p (bC ns)]) (_:ar=[]) (_:K (.p (xa ((fZ (fX m ws ns) m.toNat).map (·.2)))) [])
end LJ
namespace L2
open PySem
variable[aM]
section
variable{F F' H H':Hp}{ad aG:-O}{δ δ':aJ}{σ σ':St}
def HR(H:Hp)(v:V)(H':Hp):Prop:=∃a b r,v=.ref a/\H a=Z/\H' a=U (.lst (.ref b::r))/\H b=Z
end
section
variable{X:Cx}{Xb lO oj qN:R}{i n:Nat}{G:GD}{fa:WA}{t:WT}{B:TS}{E:XK}
end
end L2
namespace LJ
open PySem L2
variable[aM]
def R4:V->-V->Hp->VK->Prop:=λx vs H Q=>∃(d:O)(kvs:-(Key×V))(k:Key)(dv:V),x=.ref d/\vs=[kV k,dv]/\H d=U (.dK kvs)/\↑kvs<sizeLine/\(∀v,cz kvs k=U v->Q v H)/\(cz kvs k=Z->Q dv (upd H d (.dK (putK kvs k dv))))
def R5:V->-V->Hp->VK->Prop:=λx vs H Q=>∃(d:O)(kvs:-(Key×V)),x=.ref d/\vs=[]/\H d=U (.dK kvs)/\∀r,H r=Z->Q (.ref r) (upd H r (iC r d))
def R6:-V->Hp->VK->Prop:=λxs H Q=>∃(r d:O)(kvs:-(Key×V)),xs=[.ref r]/\H r=U (iC r d)/\H d=U (.dK kvs)/\∀l,H l=Z->Q (.ref l) (upd H l (.lst (kvs.map (·.2))))
def R7:TS:=cY (iR (aA 2 xq (aq (aa 0) (aq (aa 1) ai))))
def R8(Kf:vS):TS:=my (jU FT (pD 2)) (my (sN (FG Kf (iP (vN (lW w6 2) [] E0 (iP (ip 0) (iP (ip 1) gP))) gP)) (sJ Kf 2 (yw (pD 3) (yw (pD 4) sH)))
 (Ez (qR Kf "list" zc (qR Kf "dict" R4 (ip 2) (iP (ip 4) (iP (sU gP) gP))) (iP (ip 3) gP))))
 (sE (sX R6 (iP (pK Kf "dict" R5 (ip 2)) gP))))
theorem R9{fs:-Int}:∀{i:Nat},0<i->fZ fs i≠[]
 |i+1,_,z=>by
  unfold fZ o_ at z;split at z
  .rename_i c
   rw[List.map_eq_nil_iff] at z;rw[z] at c;exact nomatch c
  .simp at z
theorem R_{Kf:vS}{H F0:Hp}{ad:-O}{vs:-V}{m:Int}{ws:-(Int×Int×Int)}{ns:-Int}{K':RV->-OV->Prop}{Q:VK}{Dd:Ends}(hl:↑vs=2)(W:aV m ws)(hn:Nums ws ns)(hd:ns.Nodup)(BS:ns.length<=900)
  (hK:K' (.p (xa ((fZ (fX m ws ns) m.toNat).map (·.2)))) []) (S0:SR F0 ad ⟨[DV.p (aN m ws),DV.p (bC ns)].map U,([]:-OV).map U⟩ (vs.map U) H) (kk:∀r ows,K' r ows->∀v F' H',wz F0 ad H r ows v F' H'->HR H v H'->Q v H') (hD:∀v H',Q v H'->Dd.rt v H') :
  my R7 (R8 Kf) Dd (start ["web", "ways", "lots", "house", "first"] vs) H:=by
 let ea:ad=[]:=by let:=S0.bX;simpa using this
 subst ea;let S1:=S0.start (N:=["web", "ways", "lots", "house", "first"]);rw[hl] at S1;refine⟨F0,[],_,{nx:=fun δ'=>δ'=⟨[U (.p (aN m ws)),U (.p (bC ns)),Z,Z,Z],[]⟩,rt:=λ_ _=>False},S1,?_,⟨?_,λ_ h=>h.elim,λ_ h=>h.elim,λ_ _ h=>h.elim,trivial⟩⟩
 .simp!
  exact⟨m,ws,ns,W,hn,hd,BS,Y,Y,Y⟩
 ext δ' rfl F1 aW σ1 H1 E1 S1;let ea:aW=[]:=by let:=S1.bX;simpa using this
 subst ea;let⟨v0,e0,i0⟩:=S1.sl 0 _ Y;let⟨v1,e1,i1⟩:=S1.sl 1 _ Y;let hlen:=S1.len
 let⟨w2,w3,w4,rfl⟩:∃w2 w3 w4,σ1=[U v0,U v1,w2,w3,w4]:=by
  let⟨a,r,rfl⟩:=YZ hlen;let⟨b,r,rfl⟩:=YZ (Z3 hlen);let hlen:=Z3 (Z3 hlen);let⟨c,r,rfl⟩:=YZ hlen;let⟨d,r,rfl⟩:=YZ (Z3 hlen);let⟨e,rfl⟩:=q16.mp (Z3 (Z3 hlen));cases(show U a=U (U v0) from e0)
  cases(show U b=U (U v1) from e1)
  exact⟨c,d,e,Y⟩
 ext dl m_
 let u6:H dl=Z:=by
  cases q:H dl with
  |none=>rfl
  |some u=>let⟨u',h'⟩:=E1.gu dl u q;rw[m_] at h';cases h'
 let fl:F1 dl=Z:=by
  cases q:F1 dl with
  |none=>rfl
  |some u=>rw[S1.sub dl u q] at m_;cases m_
 let nl:¬ Lv [] ([]:-(Option OV)) dl:=λ⟨k,ov,z,_⟩↦by simp at z
 let S2:=S1.other (o:=.dK []) fl nl (aM.same S1.tab (cL m_));let E2:=E1.other (o:=.dK []) u6;calc⟨_,Y,_,Y,?_⟩;calc z9 (E:=E0) (xs:=[.p (aN m ws),.p (bC ns)]) (K:=λr ows=>r=.p (bC (fX m ws ns))/\ows=[]) S2 ⟨v0,_,Y,i0,v1,_,Y,i1,Y⟩ Y Y Y ⟨m,ws,ns,W,hn,.inl ⟨Y,Y,Y,Y⟩⟩ ?_;ext res ows v F3 H3 ⟨er,eo⟩ X3 S3 cf;subst er eo;let u7:↑(fX m ws ns)=m.toNat:=QO;let kD:=W.kD;generalize fX m ws ns=fs at hK cf u7;let cf:Is F3 (.lst (fs.map D.int)) v:=cf;erw[Is] at cf;let⟨g,us,rfl,hg,iu⟩:=cf;let zd:=oQ iu;subst zd;let BU:Ext F1 [] [] (upd H1 dl (.dK [])) F3 [] [] H3:=X3
 let E3:Ext F0 [] [] H F3 [] [] H3:=E2.trans BU;let xr:∀a,¬ Lv [] ([]:-(Option OV)) a:=λa ⟨k,ov,z,_⟩↦by simp at z
 let Sa:dl∉aM.ad:=λz=>by let⟨ps,q⟩:=aM.tb S1.tab z;rw[m_] at q;cases q
 let xt:H3 dl=U (.dK []):=BU.keep dl _ bK (xr _) Sa;let xu:H3 g=U (.lst (fs.map V.int)):=S3.sub _ _ hg
 let Sb:F3 dl=Z:=by
  cases q:F3 dl with
  |none=>rfl
  |some u =>
   rcases BU.new dl u q with z|z|z
   .rw[fl] at z;cases z
   .rw[bK] at z;cases z
   .exact absurd z (xr _)
 let gd:g≠dl:=λz=>by rw[z,xt] at xu;cases xu
 calc⟨g,Y,⟨_,bE.of xu⟩,?_⟩;refine FL (K:=Kf) (a:=g) (xs:=fs.map V.int) (λi σ H4=>∃(es:-Lt)(w3 w4:Option V),σ=[U v0,U v1,U (.ref dl),w3,w4]/\(∀a o,H3 a=U o->a≠dl->H4 a=U o)/\aM.ok H4/\H4 dl=U (.dK (eR es))/\dA H4 es/\(∀e∈es,H3 e.2.1=Z)/\strip es=fZ fs i/\↑es<=i/\∀e∈es,↑e.2.2<=i) ?_ (λi σ H4 _ ⟨_,_,_,_,kp,_⟩↦bE.of (kp g _ xu gd)) ?_ ?_
 .exact⟨[],w3,w4,Y,λa o e _=>e,S3.tab,xt,⟨(λe he=>nomatch he),q2r,q2r⟩,(λe he=>nomatch he),Y,Fm _,λe he=>nomatch he⟩
 .ext i x T' σ H4 hx ⟨es,w3,w4,rfl,kp,tk,pd,L4,fr,st,le,ll⟩ xg
  rw[WD] at hx;let⟨y,ey,rfl⟩:=XX.mp hx;let hi:=(qV.mp ey).1;let eD:fs.getD i 0=y:=by rw[Fl,ey];rfl
  let s5:aO H4 (upd H4 T' (.tup [.int (i:Int),.int y])):=l7 xg;calc⟨T',_,Y,bV.of bK,Y,_,_,Y,_,_,Y,Y,?_⟩;let Sd:=s5 _ _ pd;calc⟨_,Y,.inr (.inr (.inl ⟨Y,.inl ⟨_,Sd⟩⟩)),_,Y,YD _,λen vX=>?_⟩;let s6:=s5.trans (l7 (o:=.lst []) vX);let xv:=s6 _ _ pd;let u9:upd (upd H4 T' (.tup [.int (i:Int),.int y])) en (.lst []) en=U (.lst []):=bK;let ki:H4 en=Z:=s5.free vX;let rP:=aM.same tk s6;generalize upd (upd H4 T' (.tup [.int (i:Int),.int y])) en (.lst [])=H6 at s6 xv u9 rP;let L6:dA H6 es:=⟨λe he=>s6 _ _ (L4.at_ e he),L4.nN,L4.nP⟩;let BV:en≠dl:=λz=>by rw[z,pd] at ki;cases ki
  let u_:H3 en=Z:=by
   cases q:H3 en with
   |none=>rfl
   |some u=>rw[kp en u q BV] at ki;cases ki
  let fv:=HQ y es;refine⟨dl,eR es,q0b y,.ref en,Y,Y,xv,mK (by unfold eR;rw[pR];symm),λv hv=>?_,λhv=>?_⟩
  .rw[hv] at fv
   cases ff:es.find? λe=>l (e.1=y) with
   |none=>rw[ff] at fv;cases fv
   |some e =>
    rw[ff] at fv;obtain rfl:v=V.ref e.2.1:=by simpa using fv
    let he:e∈es:=q1v ff;let ek:e.1=y:=by simpa using q00 ff
    let k7:y∈es.map (·.1):=XM.mpr ⟨e,he,ek⟩;let BW:=L6.at_ e he;let BX:e.2.1≠dl:=λz=>by let:=fr e he;rw[z,xt] at this;cases this
    refine⟨.inl ⟨Y,_,bE.of BW⟩,_,Y,e.2.1,_,_,Y,Y,BW,?_,?_⟩
    .refine mK ?_
     rw[pR];let:=ll e he;symm
    .refine⟨LJ.grow es y i,_,_,Y,λb' o eb nb=>?_,aM.put rP BW (.inl ⟨_,Y⟩),?_,?_,?_,?_,?_,?_⟩
     .rw[aZ (cR eb (fr e he))];exact s6 _ _ (kp _ _ eb nb)
     .rw[aZ (Zl BX),RX];exact xv
     .rw[<-ek];exact L6.grow he
     .ext e' pb
      unfold LJ.grow at pb;let⟨d,hd,rfl⟩:=XM.mp pb;let:=fr d hd;split<;>exact this
     .rw[R0 k7,st];show o_ (fZ fs i) y i=o_ (fZ fs i) (fs.getD i 0) i;rw[eD]
     .unfold LJ.grow;rw[pR];symm
     .ext e' pb
      unfold LJ.grow at pb;let⟨d,hd,rfl⟩:=XM.mp pb;let:=ll d hd;split
      .show ↑(d.2.2++[(i:Int)])<=i+1
       rw[Fs,Yz];symm
      .omega
  .rw[hv] at fv
   let k7:y∉es.map (·.1):=λz=>by
    let⟨e,he,ek⟩:=XM.mp z
    cases ff:es.find? λe=>l (e.1=y) with
    |none=>exact absurd (q1b.mp ff e he) ek⁻¹
    |some e'=>rw[ff] at fv;cases fv
   let qA:upd H6 dl (.dK (putK (eR es) (q0b y) (.ref en))) en=U (.lst []):=by rw[aZ BV];exact u9
   calc⟨.inl ⟨Y,_,bE.of qA⟩,_,Y,en,_,_,Y,Y,qA,mK (YD _),?_⟩;refine⟨es++[(y,en,[(i:Int)])],_,_,Y,λb' o eb nb=>?_,aM.put (aM.put rP xv (.inr (.inl ⟨_,Y⟩))) qA (.inl ⟨_,Y⟩),?_,?_,?_,?_,?_,?_⟩
   .rw[aZ (cR eb u_),aZ nb];exact s6 _ _ (kp _ _ eb nb)
   .rw[aZ (Zl BV),bK,Oe _ hv];unfold eR;rw[XY];rfl
   .refine L4.snoc ki k7 (λe he=>?_) (by rw[bK];rfl)
    let ne1:e.2.1≠en:=cR (L4.at_ e he) ki;let BX:e.2.1≠dl:=λz=>by let:=fr e he;rw[z,xt] at this;cases this
    rw[aZ ne1,aZ BX,L4.at_ e he];exact s6 _ _ (L4.at_ e he)
   .ext e he
    rcases Yc.mp he with q|q
    .exact fr e q
    .rw[X1.mp q];exact u_
   .unfold strip at st ⊢
    rw[XY,st];show fZ fs i++[(y,[(i:Int)])]=o_ (fZ fs i) (fs.getD i 0) i;unfold o_;rw[eD,WK (by rw[<-st,X8];calc k7)]
   .rw[Fs,Yz];symm
   .ext e he
    rcases Yc.mp he with q|q
    .let:=ll e q;symm
    .rw[X1.mp q];show 1<=i+1;symm
 .ext σ H4 ⟨es,w3,w4,rfl,kp,tk,pd,L4,fr,st,le,ll⟩
  rw[pR,u7] at st;calc⟨_,Y,.inr (.inr (.inl ⟨Y,.inl ⟨_,pd⟩⟩)),dl,_,Y,Y,pd,λv hv=>?_⟩;let s5:aO H4 (upd H4 v (iC v dl)):=l7 hv;calc⟨v,dl,_,Y,bK,s5 _ _ pd,λr xn=>?_⟩;let s6:=s5.trans (l7 (o:=.lst ((eR es).map (·.2))) xn);let xw:H4 r=Z:=s5.free xn;let BY:upd (upd H4 v (iC v dl)) r (.lst ((eR es).map (·.2))) r=U (.lst ((eR es).map (·.2))):=bK;let rP:=aM.same tk s6;generalize upd (upd H4 v (iC v dl)) r (.lst ((eR es).map (·.2)))=H5 at s6 BY rP;let Se:r≠dl:=λz=>by rw[z,pd] at xw;cases xw
  let HS:H3 r=Z:=by
   cases q:H3 r with
   |none=>rfl
   |some u=>rw[kp r u q Se] at xw;cases xw
  let non:∀{x:O},H3 x=Z->H x=Z:=λ{x} e=>by
   cases q:H x with
   |none=>rfl
   |some u=>let⟨u',z⟩:=E3.gu x u q;rw[e] at z;cases z
  let Sf:HR H (.ref r) H5:=by
   cases es with
   |nil=>exact absurd st.symm (R9 (by let:=W.m1;symm))
   |cons e es=>exact⟨r,e.2.1,_,Y,non HS,BY,non (fr e NJ)⟩
  calc hD _ _ (kk _ _ hK _ (Nw F3 H3 H5) _ ?_ Sf);let sm:aO F3 (Nw F3 H3 H5):=Nw.same S3.sub;refine⟨λa o e=>?_,E3.same.trans sm,λa o e=>?_,λa o e _ t=>?_,rP,S3.nt.up sm λa ha=>?_,Y,λj ow e=>by simp at e,λa ha=>by simp at ha,?_⟩
  .unfold Nw at e
   cases q:H3 a with
   |none=>rw[q] at e;exact e
   |some u =>
    rw[q] at e;let e:F3 a=U o:=e;exact s6 _ _ (kp _ _ (S3.sub _ _ e) λz=>by rw[z,Sb] at e;cases e)
  .unfold Nw at e
   cases q:H3 a with
   |none =>
    refine .inr ?_
    cases q0:H a with
    |none=>rfl
    |some u=>let⟨u',h'⟩:=E3.gu a u q0;rw[q] at h';cases h'
   |some u =>
    rw[q] at e;let e:F3 a=U o:=e;rcases E3.new a o e with z|z|z
    .exact .inl z
    .exact .inr z
    .exact absurd z (xr _)
  .exact s6 _ _ (kp _ _ (E3.keep a o e (xr _) t) λz=>by rw[z,u6] at e;cases e)
  .let⟨ps,q⟩:=aM.tb S3.tab ha
   unfold Nw;rw[q];exact S3.nt a ha
  .show Is (Nw F3 H3 H5) (.lst (((fZ fs m.toNat).map (·.2)).map bC)) _
   erw[Is];calc⟨r,_,Y,by unfold Nw;rw[HS];calc BY,?_⟩;rw[<-st]
   let key:∀xs:-Lt,(∀e∈xs,e∈es)->ah (Nw F3 H3 H5) (((strip xs).map (·.2)).map bC) ((eR xs).map (·.2)):=by
    ext xs
    induction xs with
    |nil=>ext _;exact .nil
    |cons e xs ih =>
     ext h;show ah _ (bC e.2.2::_) (V.ref e.2.1::_);erw[ah];calc⟨_,_,Y,?_,ih λx hx=>h x (WH _ hx)⟩;let he:=h e NJ;show Is _ (.lst (e.2.2.map D.int)) _;erw[Is];refine⟨e.2.1,e.2.2.map V.int,Y,by unfold Nw;rw[fr e he];calc s6 _ _ (L4.at_ e he),qf⟩
   calc key es λ_ h=>h
end LJ
namespace LJ
open PySem L2
abbrev Wy:=Int×Int×Int
def xx(S:Wy->Prop)(a b:Int):Prop:=∃w,S w/\((w.1=a/\w.2.1=b)\/(w.1=b/\w.2.1=a))
inductive a7 (S:Wy->Prop) (a:Int):Int->Prop
 |rf:a7 S a a
 |st {b c:Int}:a7 S a b->xx S b c->a7 S a c
section
variable{S S':Wy->Prop}{a b c:Int}
theorem xx.symm(h:xx S a b):xx S b a:=let⟨w,h1,h2⟩:=h;⟨w,h1,h2.symm⟩
theorem a7.trans(h:a7 S a b)(h':a7 S b c):a7 S a c:=by
 induction h' with
 |rf=>exact h
 |st _ e ih=>calc .st ih e
theorem a7.symm(h:a7 S a b):a7 S b a:=by
 induction h with
 |rf=>exact .rf
 |st _ e ih=>calc(a7.st .rf e.symm).trans ih
theorem a7.bind(h:a7 S a b)(k:∀w,S w->a7 S' w.1 w.2.1):a7 S' a b:=by
 induction h with
 |rf=>exact .rf
 |st _ e ih =>
  let⟨w,h1,h2⟩:=e;rcases h2 with⟨rfl,rfl⟩|⟨rfl,rfl⟩
  .exact ih.trans (k w h1)
  .calc ih.trans (k w h1).symm
theorem a7.one{w:Wy}(h:S w):a7 S w.1 w.2.1:=.st .rf ⟨w,h,.inl ⟨Y,Y⟩⟩
theorem a7.mono(h:a7 S a b)(k:∀w,S w->S' w):a7 S' a b:=h.bind λw hw=>.one (k w hw)
theorem a7.none(h:a7 S a b)(k:∀w,¬ S w):a=b:=by
 cases h with
 |rf=>rfl
 |st _ e=>let⟨w,h1,_⟩:=e;calc absurd h1 (k w)
theorem a7.add{w:Wy}(k:∀v,S' v↔S v\/v=w):a7 S' a b↔a7 S a b\/(a7 S a w.1/\a7 S w.2.1 b)\/(a7 S a w.2.1/\a7 S w.1 b):=by
 constructor
 .ext h
  induction h with
  |rf=>exact .inl .rf
  |st _ e ih =>
   rename_i b c _;let⟨v,h1,h2⟩:=e;rcases(k v).mp h1 with h1|rfl
   .let e':a7 S b c:=.st .rf ⟨v,h1,h2⟩
    rcases ih with i|⟨i,j⟩|⟨i,j⟩
    .exact .inl (i.trans e')
    .exact .inr (.inl ⟨i,j.trans e'⟩)
    .exact .inr (.inr ⟨i,j.trans e'⟩)
   .rcases h2 with⟨rfl,rfl⟩|⟨rfl,rfl⟩
    .rcases ih with i|⟨i,j⟩|⟨i,j⟩
     .exact .inr (.inl ⟨i,.rf⟩)
     .exact .inr (.inl ⟨i,.rf⟩)
     .exact .inl i
    .rcases ih with i|⟨i,j⟩|⟨i,j⟩
     .exact .inr (.inr ⟨i,.rf⟩)
     .exact .inl i
     .exact .inr (.inr ⟨i,.rf⟩)
 .let up:∀{x y},a7 S x y->a7 S' x y:=λh=>h.mono λv hv=>(k v).mpr (.inl hv)
  let o:a7 S' w.1 w.2.1:=.one ((k w).mpr (.inr Y));ext(h|⟨h,h'⟩|⟨h,h'⟩)
  .exact up h
  .exact ((up h).trans o).trans (up h')
  .calc ((up h).trans o.symm).trans (up h')
end
variable[aM]
def bh(n:Nat)(fs:-Int)(S:Wy->Prop):Prop:=fs.length=n/\∀i j:Nat,i<n->j<n->(fs.getD i 0=fs.getD j 0↔a7 S i j)
theorem HU{n i:Nat}(h:i<n):(br n).getD i 0=i:=by
 unfold br;rw[Fl,WD,Y0 h];rfl
theorem bh.start(n:Nat):bh n (br n) (λ_=>False):=by
 calc⟨by unfold br;simp,λi j hi hj=>?_⟩;rw[HU hi,HU hj];calc⟨λe=>by rw[e];calc .rf,λh=>h.none λ_ z=>z⟩
theorem bh.join{n i j:Nat}{fs:-Int}{S S':Wy->Prop}{w:Wy}{p q:Int}(h:bh n fs S)(hi:i<n)(hj:j<n)(e1:w.1=i)(e2:w.2.1=j)(k:∀v,S' v↔S v\/v=w)(pq:(p=fs.getD i 0/\q=fs.getD j 0)\/(p=fs.getD j 0/\q=fs.getD i 0)):bh n (xo p q fs) S':=by
 calc⟨by unfold xo;rw[pR,h.1],λx y hx hy=>?_⟩;unfold xo;rw[HH (by rw[h.1];calc hx),HH (by rw[h.1];calc hy),RF,a7.add k,e1,e2,<-h.2 x y hx hy,<-h.2 x i hx hi,<-h.2 x j hx hj,<-h.2 j y hj hy,<-h.2 i y hi hy];rcases pq with⟨rfl,rfl⟩|⟨rfl,rfl⟩
 .constructor
  .ext (h|⟨h1|h1,h2|h2⟩)
   .exact .inl h
   .exact .inl (h1.trans h2.symm)
   .exact .inr (.inl ⟨h1,h2.symm⟩)
   .exact .inr (.inr ⟨h1,h2.symm⟩)
   .exact .inl (h1.trans h2.symm)
  .ext (h|⟨h1,h2⟩|⟨h1,h2⟩)
   .exact .inl h
   .exact .inr ⟨.inl h1,.inr h2.symm⟩
   .exact .inr ⟨.inr h1,.inl h2.symm⟩
 .constructor
  .ext (h|⟨h1|h1,h2|h2⟩)
   .exact .inl h
   .exact .inl (h1.trans h2.symm)
   .exact .inr (.inr ⟨h1,h2.symm⟩)
   .exact .inr (.inl ⟨h1,h2.symm⟩)
   .exact .inl (h1.trans h2.symm)
  .ext (h|⟨h1,h2⟩|⟨h1,h2⟩)
   .exact .inl h
   .exact .inr ⟨.inr h1,.inl h2.symm⟩
   .calc .inr ⟨.inl h1,.inr h2.symm⟩
theorem bh.eW{n i j:Nat}{fs:-Int}{S S':Wy->Prop}{w:Wy}(h:bh n fs S)(hi:i<n)(hj:j<n)(e1:w.1=i)(e2:w.2.1=j)(k:∀v,S' v↔S v\/v=w)(e:fs.getD i 0=fs.getD j 0):bh n fs S':=by
 calc⟨h.1,λx y hx hy=>(h.2 x y hx hy).trans ?_⟩;let ij:=(h.2 i j hi hj).mp e;rw[a7.add k,e1,e2];calc⟨.inl,λz=>z.elim id λz=>z.elim (λ⟨a,b⟩↦(a.trans ij).trans b) λ⟨a,b⟩↦(a.trans ij.symm).trans b⟩
noncomputable def aS(ws:-Wy)(n:Int):Wy:=ws.getD n.toNat (0,0,0)
theorem Sg{m:Int}{ws:-Wy}(W:aV m ws):∀(ns:-Int),Nums ws ns->ns.Nodup->bh m.toNat (fY ws (br m.toNat) ns).2 (λv=>∃k∈ns,v=aS ws k) ∧
  ∀n,n∈(fY ws (br m.toNat) ns).1↔∃as bs,ns=as++n::bs/\¬ a7 (λv=>∃k∈as,v=aS ws k) (aS ws n).1 (aS ws n).2.1:=by
 ext ns
 let rev:∀(rs:-Int),Nums ws rs.reverse->rs.reverse.Nodup->bh m.toNat (fY ws (br m.toNat) rs.reverse).2 (λv=>∃k∈rs.reverse,v=aS ws k) ∧
  ∀n,n∈(fY ws (br m.toNat) rs.reverse).1↔∃as bs,rs.reverse=as++n::bs/\¬ a7 (λv=>∃k∈as,v=aS ws k) (aS ws n).1 (aS ws n).2.1:=by
  ext rs
  induction rs with
  |nil =>
   ext _ _;refine⟨?_,λn=>⟨λh=>absurd h Yh,λ⟨as,bs,e,_⟩=>?_⟩⟩
   .refine⟨(bh.start _).1,λi j hi hj=>((bh.start _).2 i j hi hj).trans ⟨λh=>h.mono λ_ z=>z.elim,λh=>h.mono λv ⟨k,hk,_⟩↦absurd hk Yh⟩⟩
   .exact absurd e (by simp)
  |cons r rs ih =>
   ext hn nd;rw[q0d] at hn nd ⊢;let kP:Nums ws rs.reverse:=λx hx=>hn x (Yj _ hx);let Sh:=(Y5.mp nd).1;let⟨mk,mem⟩:=ih kP Sh;let⟨r0,r1⟩:=hn r (XR _ NJ);let⟨y,ey,hy,_,i,j,e1,e2,h1,h2,_⟩:=kc W r0 r1;let ew:aS ws r=y:=ey;let en:cQ ws r=(i,j):=by unfold cQ;rw[ey,e1,e2,XZ,XZ]
   let step:fY ws (br m.toNat) (rs.reverse++[r])=lD ws (fY ws (br m.toNat) rs.reverse) r:=by unfold fY;rw[q1C];rfl
   let kS:∀v,(∃k∈rs.reverse++[r],v=aS ws k)↔(∃k∈rs.reverse,v=aS ws k)\/v=aS ws r:=λv=>by
    constructor
    .ext ⟨k,hk,rfl⟩
     rcases Yc.mp hk with hk|hk
     .exact .inl ⟨k,hk,Y⟩
     .rw[X1.mp hk];exact .inr Y
    .ext (⟨k,hk,rfl⟩|rfl)
     .exact⟨k,Yj _ hk,Y⟩
     .exact⟨r,XR _ NJ,Y⟩
   let split:∀n (P:-Int->Prop),(∃as bs,rs.reverse++[r]=as++n::bs/\P as)↔(∃as bs,rs.reverse=as++n::bs/\P as)\/(n=r/\P rs.reverse):=λn P=>by
    constructor
    .ext ⟨as,bs,e,hp⟩
     rcases List.eq_nil_or_concat bs with rfl|⟨HV,z,rfl⟩
     .let:=q1P e Y
      let⟨rfl,e3⟩:=this;cases e3
      exact .inr ⟨Y,hp⟩
     .let e':rs.reverse++[r]=(as++n::HV)++[z]:=by rw[e];simp
      let⟨e3,_⟩:=q1P e' Y;exact .inl ⟨as,HV,e3,hp⟩
    .ext (⟨as,bs,e,hp⟩|⟨rfl,hp⟩)
     .exact⟨as,bs++[r],by rw[e];simp,hp⟩
     .exact⟨rs.reverse,[],Y,hp⟩
   rw[step];unfold lD;rw[en];dsimp only;let HW:=mk.2 i j h1 h2
   by_cases q:(fY ws (br m.toNat) rs.reverse).2.getD i 0=(fY ws (br m.toNat) rs.reverse).2.getD j 0
   .rw[XI q]
    calc⟨mk.eW (w:=aS ws r) h1 h2 (by rw[ew];calc e1) (by rw[ew];calc e2) kS q,λn=>?_⟩;rw[split n (λas=>¬ a7 (λv=>∃k∈as,v=aS ws k) (aS ws n).1 (aS ws n).2.1),mem n];calc⟨.inl,λz=>z.elim id ?_⟩;ext ⟨e,hc⟩;subst e;rw[ew,e1,e2] at hc;exact absurd (HW.mp q) hc
   .rw[WK q]
    refine⟨?_,λn=>?_⟩
    .dsimp only
     rw[RG];exact mk.join (w:=aS ws r) h1 h2 (by rw[ew];calc e1) (by rw[ew];calc e2) kS (RH _ _)
    .rw[split n (λas=>¬ a7 (λv=>∃k∈as,v=aS ws k) (aS ws n).1 (aS ws n).2.1)]
     dsimp only;rw[Yc,mem n,X1];calc or_congr Iff.rfl ⟨λe=>⟨e,?_⟩,λh=>h.1⟩;subst e;rw[ew,e1,e2];exactλz=>q (HW.mpr z)
 ext hn nd;let:=rev ns.reverse (by rw[q0Z];calc hn) (by rw[q0Z];calc nd);rw[q0Z] at this;calc this
noncomputable def ma(w:Wy):LK:=[w.2.2,w.1,w.2.1]
def gc(v w:Wy):Prop:=HT.lexLt (ma v) (ma w)=θ
def BZ(ws:-Wy)(w:Wy):Prop:=w∈ws/\¬ a7 (λv=>v∈ws/\gc v w) w.1 w.2.1
theorem B1{ws:-Wy}{n:Int}(h0:0<=n)(h1:n<(↑ws:Int)):aS ws n∈ws:=by
 unfold aS;calc Yl (getD_some ⋯)
theorem HX{ws:-Wy}{w:Wy}(h:w∈ws):∃n:Int,(0<=n/\n<(↑ws:Int))/\aS ws n=w:=by
 let⟨i,hi⟩:=WM.mp h;let hl:=(qV.mp hi).1;calc⟨i,⟨⋯,⋯⟩,?_⟩;unfold aS;rw[XZ,Fl,hi];rfl
theorem Si{a b:LK}(h:kle a b)(n:a≠b):HT.lexLt a b=θ:=by
 cases q:HT.lexLt a b with
 |true=>rfl
 |false=>calc absurd (rH q h) n
theorem B3{m:Int}{ws:-Wy}(W:aV m ws){ns:-Int}(ho:aK ws ns){n:Int}:n∈iT m ws ns↔(0<=n/\n<(↑ws:Int))/\BZ ws (aS ws n):=by
 let nd:ns.Nodup:=ho.perm.nodup_iff.mpr (Bd _);unfold iT;rw[(sortI_perm _).mem_iff,(Sg W ns ho.nums nd).2 n]
 let before:∀as bs,ns=as++n::bs->∀v,(∃k∈as,v=aS ws k)↔(v∈ws/\gc v (aS ws n)):=λas bs e v=>by
  let up:=ho.up;rw[e,XY,X0,List.pairwise_append,Zw] at up;let⟨_,⟨u2,_⟩,u3⟩:=up;let hn:n∈ns:=by rw[e];exact XR _ NJ
  let nn:=ho.nums n hn;rw[e] at nd;let Sj:=Y5.mp nd
  constructor
  .ext ⟨k,hk,rfl⟩
   let lY:k∈ns:=by rw[e];exact Yj _ hk
   let kn:=ho.nums k lY;calc⟨B1 kn.1 kn.2,Si (u3 _ (Y2 hk) _ NJ) λz=>?_⟩;let:=BJ W kn nn z;subst this;exact Sj.2.2 k hk k NJ Y
  .ext ⟨hv,fL⟩
   let⟨k,kn,rfl⟩:=HX hv
   let hk:k∈ns:=ho.perm.mem_iff.mpr (by
    unfold br
    calc XM.mpr ⟨k.toNat,Yo.mpr ⋯,by simp;symm⟩)
   rw[e] at hk;rcases Yc.mp hk with hk|hk
   .exact⟨k,hk,Y⟩
   .exfalso
    rcases XJ.mp hk with rfl|hk
    .let:HT.lexLt (ma (aS ws k)) (ma (aS ws k))=θ:=fL
     rw[qo] at this;cases this
    .let:=u2 _ (Y2 hk)
     let h2:HT.lexLt (gH ws k) (gH ws n)=θ:=fL;unfold kle at this;rw[this] at h2;cases h2
 constructor
 .ext ⟨as,bs,e,hc⟩
  let nn:=ho.nums n (by rw[e];calc XR _ NJ);exact⟨nn,B1 nn.1 nn.2,λz=>hc (z.mono λv hv=>(before as bs e v).mpr hv)⟩
 .ext ⟨nn,_,hc⟩
  let hn:n∈ns:=ho.perm.mem_iff.mpr (by
   unfold br
   calc XM.mpr ⟨n.toNat,Yo.mpr ⋯,by simp;symm⟩)
  let⟨as,bs,e⟩:=List.append_of_mem hn;calc⟨as,bs,e,λz=>hc (z.mono λv hv=>(before as bs e v).mp hv)⟩
noncomputable def xy(ws:-Wy)(w:Wy):Nat:=ws.countP λv=>HT.lexLt (ma v) (ma w)
theorem HY{α:Type}{p q:α->Bool}{x:α}:∀{l:-α},(∀y∈l,p y=θ->q y=θ)->x∈l->q x=θ->p x=ι->l.countP p<l.countP q
 |y::l,h,hx,h1,h2=>by
  let le:l.countP p<=l.countP q:=List.countP_mono_left λz hz=>h z (WH _ hz);rw[ZS,ZS];rcases XJ.mp hx with rfl|hx
  .rw[h1,h2];simp;symm
  .let:=HY (λz hz=>h z (WH _ hz)) hx h1 h2
   let hy:=h y NJ
   cases q1:p y with
   |false=>simp;split<;>symm
   |true=>rw[hy q1];simp;symm
theorem Sk{ws:-Wy}{u v:Wy}(hu:u∈ws)(h:gc u v):xy ws u<xy ws v :=
 HY (λy _ hy=>oV hy h) hu h (qo _)
theorem HZ{ws:-Wy}:∀(k:Nat)(v:Wy),v∈ws->xy ws v<=k->a7 (λu=>BZ ws u/\(gc u v\/u=v)) v.1 v.2.1
 |k,v,hv,hk=>by
  by_cases t:BZ ws v
  .exact .one ⟨t,.inr Y⟩
  .let c:a7 (λu=>u∈ws/\gc u v) v.1 v.2.1:=Yn λz=>t ⟨hv,z⟩
   calc c.bind λu hu=>?_;let lt:=Sk hu.1 hu.2
   match k,hk with
   |0,hk=>symm
   |k+1,hk =>
    calc(HZ k u hu.1 ⋯).mono λx hx=>⟨hx.1,.inl ?_⟩;rcases hx.2 with h|rfl
    .exact oV h hu.2
    .calc hu.2
theorem H_(n:Nat):↑(br n)=n:=by unfold br;simp
structure Good(fs:-Int):Prop where
 le:∀h:Nat,h<fs.length->0<=fs.getD h 0/\fs.getD h 0<=h
 own:∀h:Nat,h<fs.length->fs.getD (fs.getD h 0).toNat 0=fs.getD h 0
theorem getD_at{fs:-Int}{h:Nat}(hl:h<fs.length):fs.getD h 0=fs[h]:=by rw[Fl,pQ hl];rfl
theorem Sl{fs:-Int}{i j h:Nat}(hl:h<fs.length):(h9 fs i j).getD h 0=if fs.getD h 0=max (fs.getD i 0) (fs.getD j 0) then min (fs.getD i 0) (fs.getD j 0) else fs.getD h 0:=by
 rw[getD_at (by rw[rN];calc hl),getD_at hl];unfold h9;rw[Yr]
theorem Sm(n:Nat):Good (br n):=by
 let e:∀h:Nat,h<↑(br n)->(br n).getD h 0=h:=λh hl=>by
  rw[H_] at hl;rw[br,Fl,WD,Y0 hl];rfl
 calc⟨λh hl=>by rw[e h hl];symm,λh hl=>?_⟩;rw[e h hl,XZ,e h hl]
theorem Good.join{fs:-Int}(G:Good fs){i j:Nat}(hi:i<fs.length)(hj:j<fs.length):Good (h9 fs i j):=by
 let a1:=G.le i hi;let a2:=G.le j hj;let o1:=G.own i hi;let o2:=G.own j hj;generalize hg:max (fs.getD i 0) (fs.getD j 0)=g;generalize hk:min (fs.getD i 0) (fs.getD j 0)=k
 let gk:0<=k/\k<=g/\k.toNat<fs.length/\fs.getD k.toNat 0=k:=by
  rw[<-hg,<-hk];rcases Int.le_total (fs.getD i 0) (fs.getD j 0) with c|c
  .rw[q35 c,q3K c];exact⟨a1.1,c,⋯,o1⟩
  .rw[q3L c,q36 c];exact⟨a2.1,c,⋯,o2⟩
 let at_:∀h,h<fs.length->(h9 fs i j).getD h 0=if fs.getD h 0=g then k else fs.getD h 0:=λh hl=>by rw[Sl hl,hg,hk]
 refine⟨λh hl=>?_,λh hl=>?_⟩
 .rw[rN] at hl
  let:=G.le h hl;rw[at_ h hl];split<;>symm
 .rw[rN] at hl
  let b:=G.le h hl;let c:=G.own h hl;rw[at_ h hl]
  by_cases d:fs.getD h 0=g
  .rw[XI d,at_ _ gk.2.2.1,gk.2.2.2]
   split<;>rfl
  .rw[WK d,at_ _ ⋯,c,WK d]
theorem Ia{m:Int}{ws:-Wy}(W:aV m ws){n:Int}(h0:0<=n)(h1:n<(↑ws:Int)):∃i k:Nat,cQ ws n=(i,k)/\(aS ws n).1=i/\(aS ws n).2.1=k/\i<m.toNat/\k<m.toNat:=by
 let⟨y,ey,hy,_,i,k,e1,e2,h1,h2,_⟩:=kc W h0 h1;calc⟨i,k,?_,by unfold aS;rw[ey];calc e1,by unfold aS;rw[ey];calc e2,h1,h2⟩;unfold cQ;rw[ey,e1,e2,XZ,XZ]
theorem Ib{m:Int}{ws:-Wy}(W:aV m ws):∀(ns fs:-Int),Nums ws ns->fs.length=m.toNat->Good fs->Good (jN ws fs ns)
 |[],_,_,_,G=>G
 |n::ns,fs,hn,hl,G=>by
  let b:=hn n (NJ ..);let⟨i,k,e,_,_,h1,h2⟩:=Ia W b.1 b.2;calc Ib W ns _ (λx hx=>hn x (WH _ hx)) (by rw[rN];calc hl) ?_;show Good (h9 fs (cQ ws n).1 (cQ ws n).2);rw[e];calc G.join ⋯ ⋯
theorem Ic{m:Int}{ws:-Wy}(W:aV m ws):∀(ns fs:-Int)(S:Wy->Prop),Nums ws ns->bh m.toNat fs S->bh m.toNat (jN ws fs ns) (λv=>S v\/∃k∈ns,v=aS ws k)
 |[],fs,S,_,h=>by
  let:(λv=>S v\/∃k∈([]:-Int),v=aS ws k)=S:=funext λv=>propext (by simp);rw[this];exact h
 |n::ns,fs,S,hn,h=>by
  let b:=hn n (NJ ..);let⟨i,k,e,e1,e2,h1,h2⟩:=Ia W b.1 b.2
  let step:bh m.toNat (h9 fs i k) (λv=>S v\/v=aS ws n):=by
   calc bh.join (w:=aS ws n) (p:=max (fs.getD i 0) (fs.getD k 0)) (q:=min (fs.getD i 0) (fs.getD k 0)) h h1 h2 e1 e2 (λv=>Iff.rfl) ?_;symm
  let:=Ic W ns _ _ (λx hx=>hn x (WH _ hx)) step
  let eq:(λv=>(S v\/v=aS ws n)\/∃k∈ns,v=aS ws k)=(λv=>S v\/∃k∈n::ns,v=aS ws k):=funext λv=>propext (by
   constructor
   .ext ((h|h)|⟨k,hk,h⟩)
    .exact .inl h
    .exact .inr ⟨n,NJ,h⟩
    .exact .inr ⟨k,WH _ hk,h⟩
   .ext (h|⟨k,hk,h⟩)
    .exact .inl (.inl h)
    .rcases XJ.mp hk with rfl|hk
     .exact .inl (.inr h)
     .calc .inr ⟨k,hk,h⟩)
  rw[eq] at this;show bh _ (jN ws (h9 fs (cQ ws n).1 (cQ ws n).2) ns) _;rw[e];calc this
def nQ(ws:-Wy)(ns:-Int):Wy->Prop:=λv=>∃k∈ns,v=aS ws k
theorem Ie{m:Int}{ws:-Wy}(W:aV m ws){ns:-Int}(hn:Nums ws ns):bh m.toNat (fX m ws ns) (nQ ws ns):=by
 let:=Ic W ns _ _ hn (bh.start m.toNat);let eq:(λv=>False\/∃k∈ns,v=aS ws k)=nQ ws ns:=funext λv=>propext (by unfold nQ;simp);rw[eq] at this;calc this
theorem Ig{m:Int}{ws:-Wy}(W:aV m ws){ns:-Int}(hn:Nums ws ns):Good (fX m ws ns):=Ib W ns _ hn (H_ _) (Sm _)
open Classical in
noncomputable def cls (n:Nat) (S:Wy->Prop) (h:Int):List Int:=(br n).filter λx=>decide (a7 S h x)
theorem Ih:∀us:-Int,bG (us.map D.int)=0
 |[]=>by simp[bG]
 |u::r=>by rw[X0];erw[bG,dep];rw[Ih r];rfl
theorem Ii:∀ls:-(-Int),bG (ls.map bC)<=1
 |[]=>by simp[bG]
 |l::r=>by
  rw[X0];let h1:=Ii r;let h2:=Ih l;erw[bG,dep,bC];symm
inductive xA (ys:-DV) (ar:-OV) (K:RV->-OV->Prop):Prop
 |mk (m:Int) (ws:-(Int×Int×Int)) (ns:-Int) (_:aV m ws) (_:Nums ws ns) (_:ns.Nodup) (_:ns.length<=900) (_:ys=[.p (aN m ws),.p (bC ns)]) (_:ar=[]) (_:K (.p (.int (ns.map λn=>(ws.getD n.toNat (0,0,0)).2.2).sum)) [])
def B4:WS:=(aw (iR (aA 2 xq (aq (aa 0) (aq (aa 1) ai)))) (aR (dN (aq (fV (cA (aa 1)) [Z,U 0] (b7 0) fh (d2 (d2 (d2 (aa 1) (dC (.int 1)) a5) (aa 0) a5) (dC (.int 2)) a5)) ai) nq)))
theorem Sn:Sem 2 0 xA B4:=by
 ext ys ar K'-⟨m,ws,ns,W,hn,nd,hl,rfl,rfl,k⟩;unfold B4;calc a_ λN hN=>?_;simp!;calc⟨m,ws,ns,W,hn,nd,hl,Y,Y,?_⟩;show N _;subst hN;unfold bC;simp!
 refine l6 (λd=>match d with
  |.int n=>.int (ws.getD n.toNat (0,0,0)).2.2
  |_=>.non) (by rw[pR];symm) trivial ?_ ?_
 .ext d hd acc L ha h
  let⟨n,kP,rfl⟩:=XM.mp hd;let⟨n0,n1⟩:=hn n kP;let⟨y,ey,hy,ea,_⟩:=kc W n0 n1;simp![c_,at2,aN,ea,aX];erw[ey] at h;exact⟨ha,h⟩
 .let e:intsOf ((ns.map D.int).map λd=>match d with
   |.int n=>D.int (ws.getD n.toNat (0,0,0)).2.2
   |_=>.non)=U (ns.map λn=>(ws.getD n.toNat (0,0,0)).2.2):=by
   rw[X8];let:=rA (ns.map λn=>(ws.getD n.toNat (0,0,0)).2.2);rw[X8] at this;exact this
  simp![nq,e];calc⟨⟨λx hx=>?_,⋯⟩,eM k⟩;let⟨n,kP,rfl⟩:=XM.mp hx;let⟨n0,n1⟩:=hn n kP;let⟨y,ey,hy,_⟩:=kc W n0 n1;rw[ey];calc⟨(W.ends y hy).2.2.2.1,(W.ends y hy).2.2.2.2⟩
end LJ
namespace PySem
open Sem (wp)
section
variable{prog:t}{w:X}{A:q}{E:bc}{s:B}{z TI TO i j:O}{fp gp:-O}{n m k:Nat}{P P':Nat->L->Prop}{St Xc:Nat->I->Prop}{a b:L}
end
section
variable{prog:t}{w:X}{A:q}{E:bc}{s:B}
end
end PySem
namespace L2
open PySem PySem.Spec PyProof.Rows
section
variable{X:Cx}{pins:aH}{σ:St}{H:Hp}{s:B}
end
section
variable{X:Cx}{elts:-M}{x1:Nat}{tp:y}
end
section
variable[aM]{X:Cx}{a b:M}{fa:WA}
end
end L2
namespace LJ
open PySem L2
variable[aM]
theorem Ij{ds:-D}{t:Nat}(h:t<=↑ds):cutD ds (U (t:Int)) Z=ds.drop t:=by
 unfold cutD;rw[HT.tj ↑ds 0 t,HT.yU,q37 h,YI (by rw[Zu];symm)]
theorem Ik{ds:-D}{t:Nat}(h:t<=↑ds):cutD ds Z (U (t:Int))=ds.take t:=by
 unfold cutD;rw[HT.yU,HT.tj ↑ds ↑ds t,q37 h,q1n,q3p]
theorem B5(y:Wy):cutD [D.int y.1,D.int y.2.1,D.int y.2.2] Z (U 2)=[D.int y.1,D.int y.2.1]:=rfl
theorem B6(ws:-Wy):bG (ws.map aX)<=55:=by
 let:∀ws:-Wy,bG (ws.map aX)<=2:=λws=>by
  induction ws with
  |nil=>simp[bG]
  |cons n r ih=>erw[X0,bG,dep,aX];symm
 let:=this ws;symm
end LJ
namespace L2
open PySem PySem.Spec PyProof.Rows
variable[aM]
inductive RK where
 |p (d:D)|w (a:O)|n (ds:-D)|u (t:Bool) (fs:-FV)
abbrev GK:=-DV->-OV->(RK->-OV->-OV->Prop)->Prop
def qB(F' H H':Hp)(aG:-O)(cW:-(Option OV))(v:V):RK->Prop
 |.p d=>Is F' d v
 |.w a=>v=.ref a
 |.u t fs=>∃b us,v=.ref b/\F' b=U (t8 t us)/\je F' fs us
 |.n ds=>∃b us,v=.ref b/\H b=Z/\H' b=U (.lst us)/\F' b=Z/\ah F' ds us/\¬ Lv aG cW b
structure va(F:Hp)(ad:-O)(ar:-OV)(H:Hp)(r:RK)(ows news:-OV)(v:V)(F':Hp)(aG:-O)(H':Hp):Prop where
 ext:Ext F ad (ar.map U) H F' aG ((ows++news).map U) H'
 sr:SR F' aG ⟨[],(ows++news).map U⟩ [] H'
 len:↑ows=↑ar
 res:qB F' H H' aG ((ows++news).map U) v r
inductive kL (G:GK) (n:Nat) (vs:-V) (H:Hp) (Q:VK) (_:XK):Prop
 |mk (hl:↑vs=n) (F:Hp) (ad:-O) (ys:-DV) (ar:-OV) (K:RK->-OV->-OV->Prop) (S:SR F ad ⟨ys.map U,ar.map U⟩ (vs.map U) H) (g:G ys ar K) (k:∀r ows news,K r ows news->∀v F' aG H',va F ad ar H r ows news v F' aG H'->Q v H')
def nR(n:Nat)(K:RK->-OV->-OV->Prop)(x:DV)(δ:aJ):Prop:=∃ows news gs,δ.mu=(ows++news).map U++gs/\↑ows=n/\match x with
 |.p d=>K (.p d) ows news
 |.w a=>K (.w a) ows news
 |.u t fs=>K (.u t fs) ows news
 |.o k=>↑(ows++news)<=k/\match δ.mu[k]? with
  |some (some (.lst ds))=>K (.n ds) ows news
  |_=>False
 |.t _ _=>False
noncomputable def ag(n:Nat)(K:RK->-OV->-OV->Prop):KS where
 nx:=nR n K (.p .non)
 rt:=nR n K
section
variable{F F' H H':Hp}{ad aG:-O}{σ σ':St}{δ:aJ}{mu cW:-(Option OV)}
theorem rQ{α:Type}{l:-α}{n k:Nat}{a:α}(e:(l.take n)[k]?=U a):k<n/\l[k]?=U a:=by
 let hk:k<n:=by
  let:=(qV.mp e).1;rw[Yb] at this;symm
 rw[Yd hk] at e;calc⟨hk,e⟩
theorem SR.cut(m:Nat)(S:SR F ad δ σ H):SR F (ad.take m) ⟨[],δ.mu.take m⟩ [] H:=by
 refine⟨S.sub,λa x=>S.off a x.take,?_,λk l a w w' e1 e2 e3 e4=>S.inj k l a w w' (rQ e1).2 (rQ e2).2 (rQ e3).2 (rQ e4).2,λk ov e=>?_,λi x e=>by simp at e,Y,S.tab,S.nt⟩
 .show ↑(ad.take _)=↑(δ.mu.take _)
  rw[Yb,Yb,S.bX]
 .let⟨e1,e2⟩:=rQ e
  let⟨a,o,e3,h⟩:=S.mu k ov e2;calc⟨a,o,by rw[Yd e1];calc e3,h⟩
theorem Ext.cut{m:Nat}(e:Ext F ad mu H F' aG cW H')(hm:↑ad<=m):Ext F ad mu H F' (aG.take m) (cW.take m) H' :=
 ⟨e.same,e.new,e.keep,λk a h=>by rw[Yd (XN (qV.mp h).1 hm)];calc e.pre k a h,λa x=>e.b9 a x.take,e.gu⟩
theorem xB{ar:-OV}{x:DV}{v:V}{K:RK->-OV->-OV->Prop}{Q:VK}{sl:-(Option DV)}{τ:St}(S0:SR F ad ⟨sl,ar.map U⟩ τ H)(E:Ext F ad (ar.map U) H F' aG δ.mu H')(S:SR F' aG δ σ' H')(V:dF F' aG x v)
  (h:nR ↑ar K x δ) (k:∀r ows news,K r ows news->∀v F' aG H',va F ad ar H r ows news v F' aG H'->Q v H'):Q v H':=by
 let⟨ows,news,gs,em,hl,h⟩:=h;let al:↑ad=↑ar:=by let:=S0.bX;rwa [pR] at this
 let tk:δ.mu.take ↑(ows++news)=(ows++news).map U:=by rw[em,List.take_left' (by rw[pR])]
 let E2:=E.cut (m:=↑(ows++news)) (by rw[al,Fs];symm);let S2:=S.cut ↑(ows++news);rw[tk] at E2 S2
 cases x with
 |p d=>exact k _ _ _ h _ _ _ _ ⟨E2,S2,hl,V⟩
 |w a=>exact k _ _ _ h _ _ _ _ ⟨E2,S2,hl,V⟩
 |u t fs=>exact k _ _ _ h _ _ _ _ ⟨E2,S2,hl,V⟩
 |t _ _=>exact h.elim
 |o i =>
  let⟨hi,h⟩:=h;split at h
  .rename_i ds ei
   let⟨a,e1,rfl⟩:=V;let⟨a',o,e2,e3,vs,rfl,h4⟩:=S.mu i _ ei;rw[e1] at e2;cases e2;refine k _ _ _ h _ _ _ _ ⟨E2,S2,hl,a,vs,Y,?_,e3,S.off a ⟨i,_,e1,ei⟩,h4,λ⟨j,ov,z1,z2⟩=>?_⟩
   .rcases E.b9 a ⟨i,_,e1,ei⟩ with⟨j,ov,z,_⟩|z
    .let hj:j<↑ows:=by rw[hl,<-al];exact(qV.mp z).1
     let mj:δ.mu[j]?=U (U ows[j]):=by
      rw[em,NI (by rw[pR,Fs];symm),WD,NI hj,pQ hj];rfl
     let:=S.inj i j a _ _ e1 (E.pre j a z) ei mj;rw[Fs] at hi;symm
    .exact z
   .have ⟨hj,z1⟩:=rQ z1
    let mj:δ.mu[j]?=U (U ov):=by
     rw[em,NI (by rw[pR];calc hj)];exact z2
    let:=S.inj i j a _ _ e1 z1 ei mj;symm
  .calc h.elim
end
theorem fF.B7{P:t}{w:X}{K:vS}{mg:J->Option L}{base:I}{x qual:J}{st:R}{f:O}{fd:FuncData}{N ps:-J}{k:Nat}{G:GK}(F:fF K x qual st f fd)(S:kW N ps (bW st))
  (du:∀(a9:L)(A:q)(outer:-u)(s:ο)(H:Hp)(E:XK),a6 k (A.deeper (envOfC qual (bW st) ⇑s f a9)) →
   ∃B:WS,c6 (b8 eV P w K mg base N qual (bW st) f a9 A outer s H E).kz (fE st) (cY B)/\∀ys ar K',↑ys=↑ps->G ys ar K'->B (ag ↑ar K') ⟨ys.map U++My (↑N-↑ps) Z,ar.map U⟩) :
  bN P w K mg base eV (k+1) f fd ps (kL G ↑ps) :=
 F.tK S (λvs H Q E h=>h.1) λa9 A outer s H vs Q E hr h=>by
  let⟨hl,Fz,ad,ys,ar,K',S0,g,kk⟩:=h;let⟨B,jb,hb⟩:=du a9 A outer s H E hr
  let hy:↑ys=↑ps:=by
   let:=S0.len;rw[pR] at this;rw[<-hl,this];rw[pR]
  refine⟨_,jb,Fz,ad,⟨ys.map U++My (↑N-↑ps) Z,ar.map U⟩,ag ↑ar K',by rw[<-hl];calc S0.start,hb ys ar K' hy g,⟨fun δ' h F' aG σ' H' E' S'=>?_,fun δ' h=>h.elim,fun δ' h=>h.elim,λy δ' h v F' aG σ' H' E' S' V=>?_,trivial⟩⟩
  .exact xB (σ':=σ') S0 E' S' (x:=.p .non) (v:=.non) Y h kk
  .calc xB (σ':=σ') S0 E' S' V h kk
def rR(mu:-(Option OV)):-(Nat×OV)->Prop
 |[]=>True
 |(k,ov)::r=>mu[k]?=U (U ov)/\rR mu r
theorem Il{mu:-(Option OV)}:∀{es:-(Nat×OV)},rR mu es->∀ko∈es,mu[ko.1]?=U (U ko.2)
 |(k,ov)::r,h,ko,hk=>by
  rcases XJ.mp hk with rfl|hk
  .exact h.1
  .calc Il h.2 ko hk
section
variable{F F' H H':Hp}{ad aG:-O}{δ:aJ}{σ σ':St}
theorem Im{xs:-DV}{vs:-V}{r:-DV×-(Nat×OV)}{es:-(Nat×OV)}(S:SR F ad δ σ H)(V:cM F ad xs vs)(hp:passes δ.mu xs 0=U r)(he:rR δ.mu es)(nd:jk (r.2++es)=θ):
  ∃as:-O,↑as=↑(r.2++es)/\SR F as ⟨r.1.map U,((r.2++es).map (·.2)).map U⟩ (vs.map U) H/\∀res ows news v F' aG H',va F as ((r.2++es).map (·.2)) H res ows news v F' aG H' →
   Ext F ad δ.mu H F' (ad++aG.drop ↑(r.2++es)) (cC δ.mu (r.2++es) ows++news.map U) H'/\SR F' (ad++aG.drop ↑(r.2++es)) ⟨δ.sl,cC δ.mu (r.2++es) ows++news.map U⟩ σ H'/\qB F' H H' (ad++aG.drop ↑(r.2++es)) (cC δ.mu (r.2++es) ows++news.map U) v res:=by
 let⟨So,xC,b0,c⟩:=rp S.mu hp V;let⟨_,c1,c2⟩:=c [] Y;let⟨B8,rS⟩:∃B8:-O,B8=es.map λko=>(ad[ko.1]?).getD 0:=⟨_,Y⟩;let⟨as,has⟩:∃as,as=So++B8:=⟨_,Y⟩;let⟨bI,qC⟩:∃bI,bI=r.2++es:=⟨_,Y⟩;rw[<-qC] at nd ⊢
 let b:∀(i:Nat)(ko:Nat×OV),bI[i]?=U ko->δ.mu[ko.1]?=U (U ko.2)/\∃a o,as[i]?=U a/\ad[ko.1]?=U a/\H a=U o/\eJ F a ko.2 o:=λi ko e=>by
  rw[qC] at e
  by_cases hi:i<↑r.2
  .rw[NI hi] at e
   let⟨z1,a,o,z2,z3⟩:=b0 i ko e;exact⟨z1,a,o,by rw[has,NI (by rw[xC];calc hi)];calc z2,z3⟩
  .let hi:↑r.2<=i:=by symm
   rw[NK hi] at e;let m:=Il he ko (Yl e);let⟨a,o,z1,z2⟩:=S.mu _ _ m;calc⟨m,a,o,?_,z1,z2⟩;rw[has,NK (by rw[xC];calc hi),xC,rS,WD,e];show U ((ad[ko.1]?).getD 0)=U a;rw[z1];rfl
 let al:↑as=↑bI:=by rw[has,qC,Fs,Fs,xC,rS,pR]
 let jK:∀(i:Nat)(a:O),as[i]?=U a->Lv ad δ.mu a/\∃ko,bI[i]?=U ko/\ad[ko.1]?=U a/\δ.mu[ko.1]?=U (U ko.2):=λi a e=>by
  let hi:i<↑bI:=by rw[<-al];exact(qV.mp e).1
  let⟨m1,a',o,e1,e2,_,_⟩:=b i _ (pQ hi);rw[e] at e1;cases e1;exact⟨⟨_,_,e2,m1⟩,_,pQ hi,e2,m1⟩
 let Sq:∀(i:Nat)(ov:OV),((bI.map (·.2)).map U)[i]?=U (U ov)->∃ko,bI[i]?=U ko/\ko.2=ov:=λi ov e=>by
  let e:=uq e;rw[WD] at e;let⟨ko,e1,e2⟩:=XX.mp e;exact⟨ko,e1,e2⟩
 refine⟨as,al,⟨S.sub,λa ⟨i,ov,e1,e2⟩↦S.off a (jK i a e1).1,by rw[al];rw[pR,pR],λi j a ov ow e1 e2 _ _=>?_,λi ov e=>?_,λi y e=>?_,?_,S.tab,S.nt⟩,λres ows news v F' aG H' P=>?_⟩
 .let⟨_,ko,k1,k2,k3⟩:=jK i a e1
  let⟨_,kp,p1,p2,p3⟩:=jK j a e2;let:ko.1=kp.1:=S.inj _ _ a _ _ k2 p2 k3 p3;exact z6 nd i j ko.1 ko.2 kp.2 k1 (by rw[this];calc p1)
 .let⟨ko,e1,rfl⟩:=Sq i ov e
  let⟨_,a,o,e2,_,e4,e5⟩:=b i ko e1;exact⟨a,o,e2,e4,e5⟩
 .let⟨v,e1,e2⟩:=c2 i y (uq e)
  calc⟨v,ur e1,?_⟩;rw[Zr] at e2;exact e2.pre λk a h _=>by rw[has,NI (qV.mp h).1];exact h
 .show ↑(vs.map U)=↑(r.1.map U)
  rw[pR,pR,c1]
 .let X:=P.ext
  let T:=P.sr;let ol:↑ows=↑bI:=by rw[P.len,pR]
  let bX:↑aG=↑bI+↑news:=by
   let:=T.bX;rw[this];show↑((ows++news).map U)=_;rw[pR,Fs,ol]
  let ux:∀a,Lv as ((bI.map (·.2)).map U) a->Lv ad δ.mu a:=λa ⟨i,_,e,_⟩↦(jK i a e).1
  let Xd:∀(i:Nat)(a:O),as[i]?=U a->Lv as ((bI.map (·.2)).map U) a:=λi a e=>by
   let⟨_,ko,k1,_⟩:=jK i a e;exact⟨i,ko.2,e,ur (by rw[WD,k1];rfl)⟩
  let pre:∀(i:Nat)(a:O),as[i]?=U a->aG[i]?=U a:=X.pre;let mo:∀(i:Nat)(ow:OV),ows[i]?=U ow->((ows++news).map U)[i]?=U (U ow):=λi ow e=>ur (by rw[NI (qV.mp e).1];calc e);let mn:∀(j:Nat)(w:OV),news[j]?=U w->((ows++news).map U)[↑bI+j]?=U (U w):=λj w e=>ur (by rw[NK ⋯,ol,q1Q];calc e);let nU:↑(cC δ.mu bI ows)=↑ad:=by rw[z7,S.bX]
  let jy:∀(l:Nat)(ow:OV),(cC δ.mu bI ows++news.map U)[l]?=U (U ow)->(∃(i:Nat)(ko:Nat×OV),l<↑ad/\bI[i]?=U ko/\ko.1=l/\ows[i]?=U ow)\/(l<↑ad/\(∀ko∈bI,ko.1≠l)/\δ.mu[l]?=U (U ow))\/(↑ad<=l/\news[l-↑ad]?=U ow):=λl ow e=>by
   by_cases hl:l<↑ad
   .rw[NI (by rw[nU];calc hl)] at e
    by_cases z:∃ko∈bI,ko.1=l
    .let⟨ko,hk,rfl⟩:=z
     let⟨i,hi⟩:=WM.mp hk;let lX:i<↑ows:=by rw[ol];exact(qV.mp hi).1
     let:=z8 (mu:=δ.mu) nd hi (pQ lX) (qV.mp (b i ko hi).1).1;rw[e] at this;cases this
     exact .inl ⟨i,ko,hl,hi,Y,pQ lX⟩
    .let z':∀ko∈bI,ko.1≠l:=λko hk q=>z ⟨ko,hk,q⟩
     rw[uw _ _ _ _ z'] at e;exact .inr (.inl ⟨hl,z',e⟩)
   .rw[NK (by rw[nU];symm),nU] at e
    exact .inr (.inr ⟨⋯,uq e⟩)
  let gn:∀(l:Nat)(a:O),↑ad<=l->(ad++aG.drop ↑bI)[l]?=U a->aG[↑bI+(l-↑ad)]?=U a:=λl a hl e=>by
   rw[NK hl,q24] at e;exact e
  let go:∀(l:Nat)(a:O),l<↑ad->(ad++aG.drop ↑bI)[l]?=U a->ad[l]?=U a:=λl a hl e=>by
   rw[NI hl] at e;exact e
  let m9:∀(l:Nat)(ow:OV)(a:O),(ad++aG.drop ↑bI)[l]?=U a->(cC δ.mu bI ows++news.map U)[l]?=U (U ow)->(Lv ad δ.mu a/\l<↑ad/\ad[l]?=U a/\∃w,δ.mu[l]?=U (U w))\/(↑ad<=l/\aG[↑bI+(l-↑ad)]?=U a/\((ows++news).map U)[↑bI+(l-↑ad)]?=U (U ow)):=λl ow a e1 e2=>by
   rcases jy l ow e2 with⟨i,ko,hl,hi,rfl,_⟩|⟨hl,_,q⟩|⟨hl,q⟩
   .exact .inl ⟨⟨_,_,go _ _ hl e1,(b i ko hi).1⟩,hl,go _ _ hl e1,_,(b i ko hi).1⟩
   .exact .inl ⟨⟨_,_,go _ _ hl e1,q⟩,hl,go _ _ hl e1,_,q⟩
   .exact .inr ⟨hl,gn l a hl e1,mn _ _ q⟩
  let alive:∀a,Lv ad δ.mu a->∃o,H a=U o/\a∉aM.ad:=λa ⟨k,ov,e1,e2⟩=>by
   let⟨a',o,e3,e4,h⟩:=S.mu k ov e2;rw[e1] at e3;cases e3;calc⟨o,e4,λt=>?_⟩;let⟨ps,q⟩:=aM.tb S.tab t;rw[e4] at q;exact h.kind ps (Yf q)
  let qb:∀a,Lv ad δ.mu a->F' a=Z:=λa l=>by
   cases q:F' a with
   |none=>rfl
   |some u =>
    rcases X.new a u q with y|y|⟨i,ov,y,_⟩
    .rw[S.off a l] at y;cases y
    .let⟨o,z,_⟩:=alive a l
     rw[y] at z;cases z
    .let⟨_,ko,k1,_⟩:=jK i a y
     let hi:i<↑ows:=by rw[ol];exact(qV.mp k1).1
     rw[T.off a ⟨i,ows[i],pre i a y,mo i _ (pQ hi)⟩] at q;cases q
  let Io:∀(j:Nat)(a:O)(w:OV),aG[↑bI+j]?=U a->((ows++news).map U)[↑bI+j]?=U (U w)->¬ Lv ad δ.mu a:=λj a w e1 e2 l=>by
   rcases X.b9 a ⟨_,w,e1,e2⟩ with⟨i,ov,y,_⟩|y
   .let hi:i<↑ows:=by rw[ol,<-al];exact(qV.mp y).1
    let:=T.inj _ _ a _ _ e1 (pre i a y) e2 (mo i _ (pQ hi));symm
   .let⟨o,z,_⟩:=alive a l
    rw[y] at z;cases z
  let ex:Ext F ad δ.mu H F' (ad++aG.drop ↑bI) (cC δ.mu bI ows++news.map U) H':=by
   refine⟨X.same,λa o e=>?_,λa o e n t=>X.keep a o e (λz=>n (ux a z)) t,λk a e=>by rw[NI (qV.mp e).1];calc e,λa ⟨l,ow,e1,e2⟩=>?_,X.gu⟩
   .rcases X.new a o e with z|z|z
    .exact .inl z
    .exact .inr (.inl z)
    .exact .inr (.inr (ux a z))
   .rcases m9 l ow a e1 e2 with⟨z,_⟩|⟨_,z1,z2⟩
    .exact .inl z
    .rcases X.b9 a ⟨_,_,z1,z2⟩ with z|z
     .exact .inl (ux a z)
     .exact .inr z
  let sr:SR F' (ad++aG.drop ↑bI) ⟨δ.sl,cC δ.mu bI ows++news.map U⟩ σ H':=by
   refine⟨T.sub,λa ⟨l,ow,e1,e2⟩=>?_,?_,λk l a ov ow e1 e2 e3 e4=>?_,λl ow e=>?_,λi y e=>?_,S.len,T.tab,T.nt⟩
   .rcases m9 l ow a e1 e2 with⟨z,_⟩|⟨_,z1,z2⟩
    .exact qb a z
    .exact T.off a ⟨_,_,z1,z2⟩
   .show ↑(ad++aG.drop ↑bI)=↑(cC δ.mu bI ows++news.map U)
    rw[Fs,Fs,nU,Zu,bX,pR,q1Q]
   .rcases m9 k ov a e1 e3 with⟨z,_,y1,w1,y2⟩|⟨lY,z1,z2⟩
    .rcases m9 l ow a e2 e4 with⟨_,_,y3,w2,y4⟩|⟨_,z1,z2⟩
     .exact S.inj k l a _ _ y1 y3 y2 y4
     .exact (Io _ _ _ z1 z2 z).elim
    .rcases m9 l ow a e2 e4 with⟨z,_⟩|⟨jj,z3,z4⟩
     .exact (Io _ _ _ z1 z2 z).elim
     .let:=T.inj _ _ a _ _ z1 z3 z2 z4
      symm
   .rcases jy l ow e with⟨i,ko,hl,hi,rfl,ho⟩|⟨hl,z,q⟩|⟨hl,q⟩
    .let⟨_,a,o,e1,e2,_,_⟩:=b i ko hi
     let⟨a',o',e3,e4,h5⟩:=T.mu i ow (mo i ow ho);rw[pre i a e1] at e3;cases e3;exact⟨a,o',by rw[NI hl];calc e2,e4,h5⟩
    .let⟨a,o,e1,e2,h⟩:=S.mu l ow q
     let lv:Lv ad δ.mu a:=⟨l,ow,e1,q⟩;calc⟨a,o,by rw[NI hl];calc e1,X.keep a o e2 (λ⟨i,_,y,_⟩=>?_) (alive a lv).choose_spec.2,h.same X.same⟩;let⟨_,ko,k1,k2,k3⟩:=jK i a y;exact z ko (WM.mpr ⟨i,k1⟩) (S.inj _ _ a _ _ k2 e1 k3 q)
    .let⟨a,o,e1,e2,h⟩:=T.mu _ _ (mn _ _ q)
     exact⟨a,o,by rw[NK hl,q24];calc e1,e2,h⟩
   .let⟨v,e1,h⟩:=S.sl i y e
    exact⟨v,e1,h.ext ex⟩
  calc⟨ex,sr,?_⟩;let gU:=P.res
  cases res with
  |p d=>exact gU
  |w a=>exact gU
  |u t fs=>exact gU
  |n ds =>
   let⟨c,us,rfl,n1,n2,n3,n4,n5⟩:=gU;calc⟨c,us,Y,n1,n2,n3,n4,?_⟩;ext ⟨l,ow,e1,e2⟩;rcases m9 l ow c e1 e2 with⟨z,_⟩|⟨_,z1,z2⟩
   .let⟨o,y,_⟩:=alive c z
    rw[n1] at y;cases y
   .calc n5 ⟨_,_,z1,z2⟩
theorem Sr{xs:-DV}{vs:-V}{r:-DV×-(Nat×OV)}{es:-(Nat×OV)}{G:GK}{n:Nat}{Q:VK}{E:XK}{K:RK->-OV->-OV->Prop}(S:SR F ad δ σ H)(V:cM F ad xs vs)(hn:↑vs=n)(hp:passes δ.mu xs 0=U r)(he:rR δ.mu es)(nd:jk (r.2++es)=θ)(g:G r.1 ((r.2++es).map (·.2)) K)
  (fin:∀res ows news v F' aG H',K res ows news->Ext F ad δ.mu H F' aG (cC δ.mu (r.2++es) ows++news.map U) H'->SR F' aG ⟨δ.sl,cC δ.mu (r.2++es) ows++news.map U⟩ σ H'->qB F' H H' aG (cC δ.mu (r.2++es) ows++news.map U) v res->Q v H'):kL G n vs H Q E:=by
 let⟨as,_,S',l⟩:=Im S V hp he nd;calc⟨hn,F,as,r.1,(r.2++es).map (·.2),K,S',g,λres ows news hk v F' aG H' P=>let⟨a,b,c⟩:=l res ows news v F' aG H' P;fin res ows news v F' _ H' hk a b c⟩
end
def ak(δ:aJ)(bI:-(Nat×OV))(K:DV->aJ->Prop)(r:RK)(ows news:-OV):Prop:=match r with
 |.p d=>K (.p d) ⟨δ.sl,cC δ.mu bI ows++news.map U⟩
 |.w a=>K (.w a) ⟨δ.sl,cC δ.mu bI ows++news.map U⟩
 |.u t fs=>K (.u t fs) ⟨δ.sl,cC δ.mu bI ows++news.map U⟩
 |.n ds=>K (.p (.lst ds)) ⟨δ.sl,cC δ.mu bI ows++news.map U⟩
def aF(δ:aJ)(bI:-(Nat×OV))(K:DV->aJ->Prop)(r:RK)(ows news:-OV):Prop:=match r with
 |.n ds=>K (.o ↑(cC δ.mu bI ows++news.map U)) ⟨δ.sl,cC δ.mu bI ows++news.map U++[U (.lst ds)]⟩
 |_=>False
def rT(o:Bool)(n:Nat)(G:GK)(xs:-DV)(δ:aJ)(K:DV->aJ->Prop):Prop:=∃es,rR δ.mu es/\match passes δ.mu xs 0 with
 |some r=>(jk (r.2++es)=θ/\↑r.1=n)/\G r.1 ((r.2++es).map (·.2)) (if o then aF δ (r.2++es) K else ak δ (r.2++es) K)
 |none=>False
section
variable{F F1 H H1:Hp}{ad aW:-O}{δ δ1:aJ}{σ:St}{K:DV->aJ->Prop}{Q:VK}{xs:-DV}{vs:-V}{n:Nat}{G:GK}{E:XK}{o:Bool}
theorem xD(kk:∀x δ',K x δ'->∀v F' aG H',Ext F ad δ.mu H F' aG δ'.mu H'->SR F' aG δ' σ H'->dF F' aG x v->Q v H')(h1:rT o n G xs δ1 K)(E1:Ext F ad δ.mu H F1 aW δ1.mu H1)(S1:SR F1 aW δ1 σ H1)(V1:cM F1 aW xs vs):kL G n vs H1 Q E:=by
 let⟨es,he,h1⟩:=h1;split at h1
 .rename_i r hp
  let⟨⟨nd,hn⟩,h1⟩:=h1;refine Sr S1 V1 (by rw[↑V1,<-qc hp,hn]) hp he nd h1 λres ows news v F2 bP H2 hk E2 S2 cf=>?_
  cases o with
  |false =>
   cases res with
   |p d=>exact kk _ _ hk _ _ _ _ (E1.trans E2) S2 cf
   |w a=>exact kk _ _ hk _ _ _ _ (E1.trans E2) S2 cf
   |u t fs=>exact kk _ _ hk _ _ _ _ (E1.trans E2) S2 cf
   |n ds =>
    let⟨a,us,rfl,n1,n2,n3,n4,n5⟩:=cf;calc kk _ _ hk _ _ _ _ (E1.trans (E2.adopt (o:=.lst us) n1 n3)) (S2.adopt n3 n2 n5) ?_;show Is _ (.lst ds) _;exact⟨a,us,Y,bK,n4.same (cL n3)⟩
  |true =>
   cases res with
   |p d=>exact hk.elim
   |w a=>exact hk.elim
   |u t fs=>exact hk.elim
   |n ds =>
    let⟨a,us,rfl,n1,n2,n3,n4,n5⟩:=cf;let oi:eJ F2 a (.lst ds) (.lst us):=⟨us,Y,n4⟩;calc kk _ _ hk _ _ _ _ (E1.trans (E2.cb (ov:=.lst ds) n1 S2.bX)) (S2.cb n3 n2 n5 oi) ⟨a,?_,Y⟩;let:=S2.bX;rw[<-show ↑bP=↑(cC δ1.mu (r.2++es) ows++news.map U) from this,NK (Fm _),Yv];rfl
 .calc h1.elim
end
def aB(o:Bool)(n:Nat)(G:GK)(fa:WA):WE:=fun δ K=>fa δ λxs δ1=>rT o n G xs δ1 K
def az(o:Bool)(C:O)(m:J)(n:Nat)(G:GK)(fo:WE)(fa:WA):WE:=fun δ K=>fo δ λx δ1=>(∃(a:O)(k:Nat)(fs:-(J×FV)),x=.w a/\δ1.mu[k]?=U (U (.ins a C fs))/\fs.lookup m=Z)/\fa δ1 λxs δ2=>rT o n G (x::xs) δ2 K
def aE(C:O)(n:Nat)(G:GK)(fa:WA):WE:=fun δ K=>fa δ λxs δ1=>∀a,rT ι n G (.w a::xs) ⟨δ1.sl,δ1.mu++[U (.ins a C [])]⟩ λx δ2=>x=.p .non/\K (.w a) δ2
theorem fz.look{α:Type}{R:α->V->Prop}{x:J}:∀{fs:-(J×α)}{ws:-(J×V)},fz R fs ws->(fs.lookup x=Z/\ws.lookup x=Z)\/∃f v,fs.lookup x=U f/\ws.lookup x=U v/\R f v
 |[],ws,h=>by let h:ws=[]:=h;subst h;exact .inl ⟨Y,Y⟩
 |(y,g)::r,ws,⟨v,t,e,h1,h2⟩=>by
  subst e;rw[X9,X9]
  cases q:x==y with
  |true=>exact .inr ⟨_,_,Y,Y,h1⟩
  |false=>calc fz.look h2
theorem kE.v{F:Hp}{ad:-O}{v:V}:∀{f:FV},kE F f v->dF F ad f.v v
 |.p _,h=>h
 |.w _,h=>h
noncomputable def lF(f:J)(v:FV):-(J×FV)->-(J×FV)
 |[]=>[(f,v)]
 |(g,x)::r=>if g=f then(g,v)::r else(g,x)::lF f v r
theorem oG.put{F:Hp}{x:J}{g:FV}{v:V}(hg:kE F g v):∀{fs:-(J×FV)}{ws:-(J×V)},oG F fs ws->oG F (lF x g fs) (cU x v ws)
 |[],ws,h=>by let h:ws=[]:=h;subst h;exact⟨v,[],Y,hg,Y⟩
 |(y,f)::r,ws,⟨u,t,e,h1,h2⟩=>by
  subst e;unfold lF cU;split
  .exact⟨v,t,Y,hg,h2⟩
  .calc⟨u,_,Y,h1,oG.put hg h2⟩
def af(C:O)(x:J)(f:WE):WE:=fun δ K=>f δ λy δ1=>∃(a:O)(k:Nat)(fs:-(J×FV))(v:FV),(y=.w a/\δ1.mu[k]?=U (U (.ins a C fs))/\fs.lookup x=U v)/\K v.v δ1
noncomputable def B9:OV->Option O
 |.al a _=>U a
 |.ac a _=>U a
 |.av a _=>U a
 |_=>Z
def aj(f:WE):WE:=fun δ K=>f δ λy δ1=>∃(a:O)(k:Nat)(ov:OV),(y=.w a/\δ1.mu[k]?=U (U ov)/\B9 ov=U a)/\K (.o k) δ1
def toF(x:DV)(δ:aJ)(K:FV->aJ->Prop):Prop:=match x with
 |.p d=>K (.p d) δ
 |.w a=>K (.w a) δ
 |.o k=>match δ.mu[k]? with
  |some (some (.lst ds))=>∀a,K (.w a) ⟨δ.sl,δ.mu.set k (U (.al a ds))⟩
  |some (some (.dct kvs))=>∀a,K (.w a) ⟨δ.sl,δ.mu.set k (U (.ac a kvs))⟩
  |_=>False
 |.u _ _=>False
 |.t _ _=>False
def aD(C:O)(x:J)(fv fo:WE):WS:=λK δ=>fv δ λz δ1=>fo δ1 λy δ2=>toF z δ2 λg δ3=>∃(a:O)(k:Nat)(fs:-(J×FV)),(y=.w a/\δ3.mu[k]?=U (U (.ins a C fs))/\fs.length<1000)/\K.nx ⟨δ3.sl,δ3.mu.set k (U (.ins a C (lF x g fs)))⟩
section
variable{F H:Hp}{ad:-O}{δ:aJ}{σ:St}
theorem Ip{H:Hp}{a:O}{o:HO}(h:H a=U o):upd H a o=H:=by
 funext b
 by_cases c:b=a
 .subst c;rw[bK,h]
 .rw[aZ c]
theorem Ss{x:DV}{v:V}{K:FV->aJ->Prop}(S:SR F ad δ σ H)(V:dF F ad x v)(h:toF x δ K):∃f δ',K f δ'/\Ext F ad δ.mu H F ad δ'.mu H/\SR F ad δ' σ H/\kE F f v:=by
 cases x with
 |p d=>exact⟨_,_,h,.refl,S,V⟩
 |w a=>exact⟨_,_,h,.refl,S,V⟩
 |u _ _=>exact h.elim
 |t _ _=>exact h.elim
 |o k =>
  let⟨a,e1,rfl⟩:=V;unfold toF at h;dsimp only at h;split at h
  .rename_i ds e
   let⟨a',o,e2,e3,vs,rfl,h4⟩:=S.mu k _ e;rw[e1] at e2;cases e2;let oi:eJ F a (.al a ds) (.lst vs):=⟨Y,vs,Y,h4⟩;let E:=Ext.put (ov:=.al a ds) (o:=.lst vs) S e e1;let T:=S.put e e1 oi;rw[Ip e3] at E T;exact⟨_,_,h a,E,T,Y⟩
  .rename_i ds e
   let⟨a',o,e2,e3,vs,rfl,h4⟩:=S.mu k _ e;rw[e1] at e2;cases e2;let oi:eJ F a (.ac a ds) (.dK vs):=⟨Y,vs,Y,h4⟩;let E:=Ext.put (ov:=.ac a ds) (o:=.dK vs) S e e1;let T:=S.put e e1 oi;rw[Ip e3] at E T;exact⟨_,_,h a,E,T,Y⟩
  .calc h.elim
theorem vb{k:Nat}{a C:O}{fs:-(J×FV)}(S:SR F ad δ σ H)(h:δ.mu[k]?=U (U (.ins a C fs))):∃dx ws,ad[k]?=U a/\H a=U (.ins C dx ws)/\oG F fs ws:=by
 let⟨a',o,e1,e2,rfl,dx,ws,rfl,h4⟩:=S.mu k _ h;calc⟨dx,ws,e1,e2,h4⟩
end
section
variable{X:Cx}{a b o v:M}{f fo fv:WE}{fa:WA}{C:O}{x m:J}{pos pos' apos p:y}{G:GK}{n k:Nat}{g:O}{fd:FuncData}{ps:-J}{e:M}{es:-M}
theorem gf(c:hX X.K C)(hx:cG X.K C x)(he:JE X a (tD f))(hb:‹attributeBase a x X.env (eval a X.env)=eval a X.env›):JE X (.Attribute a x pos) (tD (af C x f)) :=
 (MP he hb).weak fun σ H Q ⟨F,ad,δ,K,S,q,k⟩↦⟨F,ad,δ,_,S,q,λy δ1 h1 u F1 aW H1 E1 S1 V1=>by
  let⟨a,i,fs,w,⟨rfl,hi,hl⟩,h2⟩:=h1;let⟨dx,ws,e1,e2,e3⟩:=vb S1 hi;rcases e3.look (x:=x) with⟨z,_⟩|⟨f,w',z1,z2,z3⟩
  .rw[z] at hl;cases hl
  .rw[z1] at hl;cases hl
   calc⟨a,C,dx,ws,w',V1,e2,c,hx,z2,k _ _ h2 _ _ _ _ E1 S1 z3.v⟩⟩
theorem vc(he:JE X a (tD f)):JE X a (tD (aj f)) :=
 he.weak fun σ H Q ⟨F,ad,δ,K,S,q,k⟩↦⟨F,ad,δ,_,S,q,λy δ1 h1 u F1 aW H1 E1 S1 V1=>by
  let⟨a,i,ov,⟨rfl,hi,ht⟩,h2⟩:=h1;let⟨a',o,e1,e2,e3⟩:=S1.mu i ov hi
  let:a'=a:=by
   cases ov with
   |al b ds=>cases ht;exact e3.1.symm
   |ac b ds=>cases ht;exact e3.1.symm
   |av b ds=>cases ht;exact e3.1.symm
   |lst _=>cases ht
   |dct _=>cases ht
   |dtt _=>cases ht
   |ins _ _ _=>cases ht
  subst this
  calc k _ _ h2 _ _ _ _ E1 S1 ⟨a',e1,V1⟩⟩
theorem vd[d_](c:hX X.K C)(hx:cG X.K C x)(ho:JE X o (tD fo))(hv:JE X v (tD fv))(hs:‹swapsWith v (U (.Attribute o x pos')) pos.line X.env=pure ι›):JS X (.Assign [.Attribute o x pos'] v pos) (cY (aD C x fv fo)) :=
 (MQ ho hv hs).weak λD σ H ⟨F,ad,δ,K,S,q,k⟩↦⟨F,ad,δ,_,S,q,λz δ1 h1 u F1 aW H1 E1 S1 V1=>⟨F1,aW,δ1,_,S1,h1,λy δ2 h2 w F2 bP H2 E2 S2 V2=>by
  let⟨g,δ3,h3,E3,S3,ig⟩:=Ss S2 (V1.ext E2) h2;let⟨a,i,fs,⟨rfl,hi,hl⟩,h4⟩:=h3;let⟨dx,ws,e1,e2,e3⟩:=vb S3 hi;let oi:eJ F2 a (.ins a C (lF x g fs)) (.ins C dx (cU x u ws)):=⟨Y,dx,_,Y,oG.put ig e3⟩
  calc⟨a,C,dx,ws,V2,e2,c,hx,by rw[↑e3];calc hl,k.nx _ h4 _ _ _ _ (((E1.trans E2).trans E3).trans (Ext.put S3 hi e1)) (S3.put hi e1 oi)⟩⟩⟩
theorem Su(o:Bool)(Fn:bN X.prog X.w X.K X.mg X.base eV k g fd ps (kL G n))(hr:a6 k X.A)(hg:Gl X x)(hm:X.mg x=U (.ref g))(hk:Yt X.K (.ref g)=θ)(hb:Binds X.K fd ps [])
  (ha:JA X (e::es) (b_ fa)) (cV: ~~~(bL x)) (he:‹cj X e es›) (cw:‹cF X pos es›) :
  JE X (.Call (.Name x p) (e::es) [] pos) (tD (aB o n G fa)):=(sV Fn hr hg hm hk hb .nil oA ha cV he cw).weak fun σ H Q ⟨F,ad,δ,K,S,q,kk⟩↦⟨F,ad,δ,_,S,q,λxs δ1 h1 vs F1 aW H1 E1 S1 V1=>by
   rw[mJ];calc xD kk h1 E1 S1 V1⟩
theorem Sv{r:Bool}{E:XK}:∀σ H Q,tD (az r C m n G fo fa) σ H Q->yO C m (kL G n) [] E (tD fo) (b_ fa) σ H Q:=fun σ H Q ⟨F,ad,δ,K,S,q,kk⟩=>⟨F,ad,δ,_,S,q,λy δ1 h1 u F1 aW H1 E1 S1 V1=>by
  let⟨⟨a,i,fs,rfl,hi,hl⟩,h2⟩:=h1;let⟨dx,ws,e1,e2,e3⟩:=vb S1 hi;rcases e3.look (x:=m) with⟨_,z⟩|⟨f,w',z1,z2,z3⟩
  .refine⟨a,dx,ws,V1,e2,z,F1,aW,δ1,_,S1,h2,λxs δ2 h3 vs F2 bP H2 E2 S2 V2=>?_⟩
   rw[mJ];exact xD kk h3 (E1.trans E2) S2 ⟨_,_,Y,V1.ext E2,V2⟩
  .rw[z1] at hl;cases hl⟩
theorem Sw {pl:Sem Bool} (r:Bool) (c:hX X.K C) (hm:Meth X.K C m g) (Fn:bN X.prog X.w X.K X.mg X.base eV k g fd ps (kL G n)) (hr:a6 k X.A) (hb:Binds X.K fd ps []) (ho:JE X o (tD fo)) (ha:JA X (e :: es) (b_ fa))
  (fU:‹cj X e es›) (cw:‹cF X pos es›)
  (ht:‹eval (.Call (.Attribute o m apos) (e :: es) [] pos) X.env=(do
   let ov <- eval o X.env
   standAt apos.atName
   let (f,first) <- holding [ov] (getMethod ov m pl)
   callWith pos f first (backTo pos (starEach (e :: es) X.env)) (backToKw pos (keywordEach [] X.env)))›) :
  JE X (.Call (.Attribute o m apos) (e :: es) [] pos) (tD (az r C m n G fo fa)):=(MW ho c hm Fn hr hb .nil oA ha fU cw ht).weak Sv
theorem Sx {pl:Sem Bool} (r:Bool) (c:hX X.K C) (hm:Meth X.K C m g) (Fn:bN X.prog X.w X.K X.mg X.base eV k g fd ps (kL G n)) (hr:a6 k X.A) (hb:Binds X.K fd ps []) (ho:JE X o (tD fo))
  (ht:‹eval (.Call (.Attribute o m apos) [] [] pos) X.env=(do
   let ov <- eval o X.env
   standAt apos.atName
   let (f,first) <- holding [ov] (getMethod ov m pl)
   callWith pos f first (backTo pos (starEach [] X.env)) (backToKw pos (keywordEach [] X.env)))›) :
  JE X (.Call (.Attribute o m apos) [] [] pos) (tD (az r C m n G fo ai)):=(EL ho c hm Fn hr hb .nil oA ht).weak fun σ H Q ⟨F,ad,δ,K,S,q,kk⟩↦⟨F,ad,δ,_,S,q,λy δ1 h1 u F1 aW H1 E1 S1 V1=>by
  let⟨⟨a,i,fs,rfl,hi,hl⟩,h2⟩:=h1;let⟨dx,ws,e1,e2,e3⟩:=vb S1 hi;rcases e3.look (x:=m) with⟨_,z⟩ | ⟨f,w',z1,z2,z3⟩
  .exact⟨a,dx,ws,V1,e2,z,xD (xs:=[.w a]) (vs:=[u]) kk (show rT r n G [.w a] δ1 K from h2) E1 S1 ⟨_,_,Y,V1,Y⟩⟩
  .rw[z1] at hl;cases hl⟩
theorem Sy{F H F1 H1:Hp}{ad aW:-O}{δ δ1:aJ}{σ:St}{K:DV->aJ->Prop}{Q:VK}{E:XK}{xs:-DV}{vs:-V}(kk:∀x δ',K x δ'->∀v F' aG H',Ext F ad δ.mu H F' aG δ'.mu H'->SR F' aG δ' σ H'->dF F' aG x v->Q v H')
  (h1:∀a,rT ι n G (.w a::xs) ⟨δ1.sl,δ1.mu++[U (.ins a C [])]⟩ λx δ2=>x=.p .non/\K (.w a) δ2) (E1:Ext F ad δ.mu H F1 aW δ1.mu H1) (S1:SR F1 aW δ1 σ H1) (V1:cM F1 aW xs vs) {x dx:O} (nx:H1 x=Z) (xE:H1 dx=Z) (ne:dx≠x) :
  kL G n (.ref x::vs) (upd (upd H1 dx (.own x)) x (.ins C dx [])) (λv H2=>v=.non/\Q (.ref x) H2) E:=by
 let S2:=S1.al (cL (o:=.own x) xE);let E2:=Ext.al S1 (cL (o:=.own x) xE);let Iq:upd H1 dx (.own x) x=Z:=by rw[aZ λz=>ne z.symm];exact nx
 let oi:eJ (Nw F1 H1 (upd H1 dx (.own x))) x (.ins x C []) (.ins C dx []):=⟨Y,dx,[],Y,Y⟩;let S3:=S2.own Iq oi;let E3:=Ext.own (o:=.ins C dx []) (ov:=.ins x C []) S2 Iq;calc xD (K:=λy δ2=>y=.p .non/\K (.w x) δ2) (λy δ' h v F' aG H' X T V=>?_) (h1 x) ((E1.trans E2).trans E3) S3 ⟨_,_,Y,Y,(V1.ext E2).ext E3⟩;let⟨rfl,h⟩:=h;calc⟨V,kk _ _ h _ _ _ _ X T Y⟩
theorem Sz(M:Mk X.K C g)(Fn:bN X.prog X.w X.K X.mg X.base eV k g fd ps (kL G n))(hr:a6 (k+1) X.A)(hg:Gl X x)(hm:X.mg x=U (.ref C))(hb:Binds X.K fd ps [])
  (ha:JA X (e::es) (b_ fa)) (cV: ~~~(bL x)) (he:‹cj X e es›) (cw:‹cF X pos es›) :
  JE X (.Call (.Name x p) (e::es) [] pos) (tD (aE C n G fa)):=(MY M Fn hr hg hm hb .nil oA ha cV he cw).weak fun σ H Q ⟨F,ad,δ,K,S,q,kk⟩↦⟨F,ad,δ,_,S,q,λxs δ1 h1 vs F1 aW H1 E1 S1 V1 x dx nx xE ne=>by
   rw[mJ];calc Sy kk h1 E1 S1 V1 nx xE ne⟩
end
end L2
namespace LJ
open PySem L2
variable[aM]
theorem xF{f g:WE}{op:D->D->(D->Prop)->Prop}{δ:aJ}{K:DV->aJ->Prop}(h:∀K':DV->aJ->Prop,K'=(λx δ1=>g δ1 λy δ2=>hZ x δ2 λd=>hZ y δ2 λe=>op d e λz=>K (.p z) δ2)->f δ K'):d2 f g op δ K:=h _ Y
noncomputable def dI(d:D):Int:=match d with
 |.int n=>n
 |_=>0
theorem rV(p:Int->Bool)(us:-Int):((us.map D.int).filter λd=>p (dI d)).map (λd=>d)=(us.filter p).map D.int:=by
 rw[List.map_id',q33];rfl
inductive B_ (ys:-DV) (ar:-OV) (K:RV->-OV->Prop):Prop
 |mk (m:Int) (ws:-(Int×Int×Int)) (sh:-Int) (_:aV m ws) (_:ys=[.p (aN m ws),.p (bC sh)]) (_:ar=[]) (_:K (.p (bC (d6 ws sh))) [])
def Ca:WS:=(aR (fV (l3 (aq (dN (aq (d2 (aa 0) (dC (.int 1)) a5) ai) cm) ai)) [Z,U 1] (b7 0) (dT (d2 (aa 0) (aa 1) (kI θ))) (aa 0)))
theorem SA:Sem 2 0 B_ Ca:=by
 ext ys ar K'-⟨m,ws,sh,W,rfl,rfl,k⟩;let lB:=W.fR;unfold Ca bC;simp![aN,c_];calc⟨⋯,?_⟩;rw[XZ,qi];refine nA (λd=>l (dI d∉sh)) (λd=>d) (by rw[pR];unfold br;simp;symm) trivial ?_ ?_
 .ext d hd acc L ha h1 h2
  let⟨n,hn,rfl⟩:=XM.mp hd;simp![qz];calc⟨kK sh,?_⟩;erw[dI] at h1 h2
  by_cases c:n∈sh
  .simp![X7 c]
   exact h2 (XO (q0r c))
  .simp![XO c]
   exact⟨ha,h1 (X7 c)⟩
 .rw[rV λn=>l (n∉sh)]
  calc eM k
inductive Cb (ys:-DV) (ar:-OV) (K:RV->-OV->Prop):Prop
 |mk (m:Int) (ws:-(Int×Int×Int)) (us:-Int) (_:aV m ws) (_:eQ ws us) (_:ys=[.p (aN m ws),.p (bC us)]) (_:ar=[]) (_:K (.p (aN m (ft ws us))) [])
def Cc:WS:=(aR (bz (aq (d2 (aa 0) (dC (.int 0)) a5) (aq (dN (aq (fV (cA (aa 1)) [Z,U 0] (b7 0) fh (d2 (d2 (aa 1) (dC (.int 1)) a5) (aa 0) a5)) ai) rD) ai))))
theorem SD:Sem 2 0 Cb Cc:=by
 ext ys ar K'-⟨m,ws,us,W,S,rfl,rfl,k⟩;let lB:=(l_ W S).fR;rw[sub_len] at lB;unfold Cc bC;simp![aN,dj,c_];refine l6 (λd=>aX (ws.getD (dI d).toNat (0,0,0))) (by rw[pR];symm) trivial ?_ ?_
 .ext d hd acc L ha h
  let⟨n,hn,rfl⟩:=XM.mp hd;let⟨n0,n1⟩:=S.nums n hn;let⟨y,ey,hy,ea,_⟩:=kc W n0 n1;simp![c_,aN,ea];erw[dI,ey] at h;exact⟨ha,h⟩
 .rw[X8]
  simp!;calc eM ?_;let e:ft ws us=us.map λn=>ws.getD n.toNat (0,0,0):=Y;unfold aN at k;rw[e,X8] at k;calc k
inductive Cd (ys:-DV) (ar:-OV) (K:RV->-OV->Prop):Prop
 |mk (m:Int) (ws:-(Int×Int×Int)) (n p:Int) (_:aV m ws) (_:(0<=n/\n<(↑ws:Int))) (_:ys=[.p (aN m ws),.p (.int n),.p (.int p)]) (_:ar=[]) (_:K (.p (aN m (ws.set n.toNat ((ws.getD n.toNat (0,0,0)).1,(ws.getD n.toNat (0,0,0)).2.1,p)))) [])
def Ce:WS:=(aw (aP 3 (d2 (d2 (aa 0) (dC (.int 1)) a5) (aa 1) a5)) (aR (bz (aq (d2 (aa 0) (dC (.int 0)) a5) (aq (d2 (d2 (gy (d2 (aa 0) (dC (.int 1)) a5) gx (l5 (aa 1))) (bz (aq (bz (aq (d2 (aa 3) (dC (.int 0)) a5) (aq (d2 (aa 3) (dC (.int 1)) a5) (aq (aa 2) ai)))) ai)) cS) (gy (d2 (aa 0) (dC (.int 1)) a5) (l5 (d2 (aa 1) (dC (.int 1)) cS)) gx) cS) ai)))))
theorem SE:Sem 3 1 Cd Ce:=by
 ext ys ar K'-⟨m,ws,n,p,W,hn,rfl,rfl,k⟩;let lB:=W.fR;let⟨y,ey,hy,ea,_⟩:=kc W hn.1 hn.2;let⟨t,rfl⟩:=q0E hn.1;let ht:t<↑ws:=by symm
 let f1:=Ik (ds:=ws.map aX) (t:=t) (by rw[pR];symm);let f2:cutD (ws.map aX) (U ((t:Int)+1)) Z=(ws.map aX).drop (t+1):=Ij (ds:=ws.map aX) (t:=t+1) (by rw[pR];symm);let l1:↑((ws.map aX).take t)=t:=by rw[Yb,pR];symm
 let l2:↑((ws.map aX).drop (t+1))=↑ws-(t+1):=by rw[Zu,pR]
 let e3:(ws.map aX).take t++[D.tup [.int y.1,.int y.2.1,.int p]]++(ws.map aX).drop (t+1)=(ws.set t (y.1,y.2.1,p)).map aX:=by
  rw[q0F,XI ht,XY,X0,q2O,q2P,ZE];rfl
 rw[XZ] at ey k;rw[ey] at k;unfold aN at k;rw[<-e3] at k;unfold Ce aN;generalize hA:(ws.map aX).take t=A at f1 l1 k;generalize hB:(ws.map aX).drop (t+1)=B at f2 l2 k;generalize ws.map aX=V at ea f1 f2 ⊢;calc a_ λN hN=>?_;simp![c_,ea];subst hN;unfold aR bz;calc jo λK2 ve=>?_;simp![dj];subst ve;dsimp only;calc jo λK2 ve=>xF λK3 lA=>xF λK4 iJ=>?_;simp![c_,f1];subst iJ;dsimp only;calc jo λK4 iJ=>?_;simp![dj,c_,aX];subst iJ;simp!;calc⟨⋯,?_⟩;subst lA;dsimp only;simp![c_,f2];calc⟨⋯,?_⟩;subst ve;simp!;calc eM k
noncomputable def gg(xs ys:-Int):D:=match xs.filter (λn=>l (n∉ys)) with
 |[]=>.non
 |n::_=>.int n
inductive xG (ys:-DV) (ar:-OV) (K:RV->-OV->Prop):Prop
 |mk (xs zs:-Int) (_:↑xs<=1000) (_:ys=[.p (bC xs),.p (bC zs)]) (_:ar=[]) (_:K (.p (gg xs zs)) [])
def Cf:WS:=(aw (aP 2 (fV (cA (aa 0)) [Z,U 1] (b7 0) (dT (d2 (aa 0) (aa 1) (kI θ))) (aa 0))) (aR (rh (dT (d2 (dN (aq (aa 2) ai) cm) (dC (.int 0)) (oI λi j=>.bl (l (j<i))))) (d2 (aa 2) (dC (.int 0)) a5) (dC .non))))
theorem SF:Sem 2 1 xG Cf:=by
 ext ys ar K'-⟨xs,zs,hl,rfl,rfl,k⟩;unfold Cf bC;calc a_ λN hN=>?_;simp!;refine nA (λd=>l (dI d∉zs)) (λd=>d) (by rw[pR];calc hl) trivial ?_ ?_
 .ext d hd acc L ha h1 h2
  let⟨n,hn,rfl⟩:=XM.mp hd;simp![qz];calc⟨kK zs,?_⟩;erw[dI] at h1 h2
  by_cases c:n∈zs
  .simp![X7 c]
   exact h2 (XO (q0r c))
  .simp![XO c]
   exact⟨ha,h1 (X7 c)⟩
 .rw[rV λn=>l (n∉zs)]
  subst hN;unfold gg at k;generalize xs.filter (λn=>l (n∉zs))=q at k ⊢
  cases q with
  |nil=>simp!;exact eM k
  |cons n r =>
   simp!;rw[XI (X7 ⋯)];erw[dj];calc eM k
noncomputable def jR(xs ys:-Int):D:=.tup [gg xs ys,gg ys xs]
inductive Cg (ys:-DV) (ar:-OV) (K:RV->-OV->Prop):Prop
 |mk (xs zs:-Int) (_:↑xs<=1000) (_:↑zs<=1000) (_:ys=[.p (bC xs),.p (bC zs)]) (_:ar=[]) (_:K (.p (jR xs zs)) [])
def Ci:WS:=(aR (bz (aq (aA 2 xG (aq (aa 0) (aq (aa 1) ai))) (aq (aA 2 xG (aq (aa 1) (aq (aa 0) ai))) ai))))
theorem SG:Sem 2 0 Cg Ci:=by
 ext ys ar K'-⟨xs,zs,h1,h2,rfl,rfl,k⟩;unfold Ci;simp!;calc⟨xs,zs,h1,Y,Y,?_⟩;simp!;calc⟨zs,xs,h2,Y,Y,?_⟩;simp!;calc eM k
end LJ
namespace L2
open PySem PySem.Spec PyProof.Rows PySem.W
section
variable{X:Cx}
end
variable[aM]{X:Cx}
end L2
namespace L2
open PySem PySem.Spec PyProof.Rows
variable[aM]{X:Cx}{pins:aH}{σ:St}{F H:Hp}{s:B}
end L2
namespace LJ
open PySem L2
variable[aM]
abbrev Stt:=-(Int×Int×Int)×-Int
noncomputable def dm(m:Int)(s:Stt):D:=.tup [aN m s.1,bC s.2]
noncomputable def kO(C a b:O)(m:Int)(s:Stt):OV:=.ins a C [("town",.p (aN m s.1)),("shut",.p (bC s.2)),("past",.w b)]
noncomputable def pO(b:O)(m:Int)(ps:-Stt):OV:=.al b (ps.map (dm m))
structure bo(m:Int)(s:Stt):Prop where
 d7:aV m s.1
 sh:eQ s.1 s.2
theorem bo.len{m:Int}{s:Stt}(h:bo m s):↑s.2<=30:=by
 let:=(l_ h.d7 h.sh).fR
 rwa [sub_len] at this
noncomputable abbrev a8(s:Stt):-(Int×Int×Int):=ft s.1 (d6 s.1 s.2)
noncomputable def bB(m:Int)(s:Stt)(ns:-Int):-Int:=(iT m (a8 s) ns).map (h_ (d6 s.1 s.2))
theorem kM{K:RK->-OV->-OV->Prop}{d:D}{sl:-(Option DV)}{ows:-OV}{gs:-(Option OV)}(h:K (.p d) ows []):nR ↑ows K (.p d) ⟨sl,ows.map U++gs⟩:=⟨ows,[],gs,by rw[mJ],Y,h⟩
inductive Cj (C:O) (ys:-DV) (ar:-OV) (K:RK->-OV->-OV->Prop):Prop
 |mk (a:O) (m:Int) (ws:-(Int×Int×Int)) (_:aV m ws) (_:ys=[.w a,.p (aN m ws)]) (_:ar=[.ins a C []]) (_:∀b,K (.p .non) [kO C a b m (ws,[])] [pO b m []])
def Cm(c_Keeper:O):WS:=(aw (iR (aA 1 uZ (aq (aa 1) ai))) (aw (aD c_Keeper "town" (aa 1) (aa 0)) (aw (aD c_Keeper "shut" (cN ai) (aa 0)) (aD c_Keeper "past" (q_ ai) (aa 0)))))
theorem SH(C:O):∀ys ar K',↑ys=2->Cj C ys ar K'->Cm C (ag ↑ar K') ⟨ys.map U++My 0 Z,ar.map U⟩:=by
 ext ys ar K'-⟨a,m,ws,W,rfl,rfl,k⟩;unfold Cm;calc a_ λN hN=>?_;simp![af,aj,aD,toF,az,aB,aE,ak,aF,FV.v,ag,mJ,pP];calc⟨m,ws,W,Y,Y,?_⟩;simp![af,aj,aD,toF,az,aB,aE,ak,aF,FV.v,ag,mJ,pP];subst hN;calc a_ λN hN=>?_;simp![af,aj,aD,toF,az,aB,aE,ak,aF,FV.v,ag,mJ,pP];calc⟨a,0,_,⟨Y,Y,by decide⟩,?_⟩;subst hN;calc a_ λN hN=>?_;simp![af,aj,aD,toF,az,aB,aE,ak,aF,FV.v,ag,mJ,pP];calc⟨a,0,_,⟨Y,Y,by show 1<1000;decide⟩,?_⟩;subst hN;simp![af,aj,aD,toF,az,aB,aE,ak,aF,FV.v,ag,mJ,pP];ext b;calc⟨a,0,_,⟨Y,Y,by show 2<1000;decide⟩,?_⟩;calc⟨_,[pO b m []],[],Y,Y,k b⟩
inductive vf (C:O) (ys:-DV) (ar:-OV) (K:RK->-OV->-OV->Prop):Prop
 |mk (a b:O) (m:Int) (s:Stt) (_:ys=[.w a]) (_:ar=[kO C a b m s]) (_:K (.p (aN m s.1)) [kO C a b m s] [])
def Co(c_Keeper:O):WS:=(aR (af c_Keeper "town" (aa 0)))
theorem SI(C:O):∀ys ar K',↑ys=1->vf C ys ar K'->Co C (ag ↑ar K') ⟨ys.map U++My 0 Z,ar.map U⟩:=by
 ext ys ar K'-⟨a,b,m,s,rfl,rfl,k⟩;unfold Co;simp![af,aj,aD,toF,az,aB,aE,ak,aF,FV.v,ag,mJ,pP];calc⟨a,0,_,.p (aN m s.1),⟨Y,Y,Y⟩,?_⟩;calc kM k
inductive vg (C:O) (ys:-DV) (ar:-OV) (K:RK->-OV->-OV->Prop):Prop
 |mk (a b:O) (m:Int) (s:Stt) (_:bo m s) (_:ys=[.w a]) (_:ar=[kO C a b m s]) (_:K (.n (s.2.map D.int)) [kO C a b m s] [])
def Cp(c_Keeper:O):WS:=(aR (rK (aq (af c_Keeper "shut" (aa 0)) ai) wU))
theorem SJ(C:ξ):∀ys ar K',↑ys=1->vg C ys ar K'->Cp C (ag ↑ar K') ⟨ys.map U++My 0 Z,ar.map U⟩:=by
 ext ys ar K'-⟨a,b,m,s,O,rfl,rfl,k⟩;let Cq:=O.len;unfold Cp;simp![af,aj,aD,toF,az,aB,aE,ak,aF,FV.v,ag,mJ,pP];calc⟨a,0,_,.p (bC s.2),⟨Y,Y,Y⟩,?_⟩;simp![af,aj,aD,toF,az,aB,aE,ak,aF,FV.v,ag,mJ,pP,bC];calc⟨[_],[],[U (.lst _)],Y,Y,Fm _,k⟩
inductive kN (C:O) (ys:-DV) (ar:-OV) (K:RK->-OV->-OV->Prop):Prop
 |mk (a b:O) (m:Int) (s:Stt) (_:bo m s) (_:ys=[.w a]) (_:ar=[kO C a b m s]) (_:∀ns,aK (a8 s) ns->K (.n ((bB m s ns).map D.int)) [kO C a b m s] [])
def Cr(c_Keeper:O):WS:=(aw (aP 1 (aA 2 B_ (aq (af c_Keeper "town" (aa 0)) (aq (af c_Keeper "shut" (aa 0)) ai)))) (aR (mW (cA (aA 1 xp (aq (aA 2 Cb (aq (af c_Keeper "town" (aa 0)) (aq (aa 1) ai))) ai))) [Z,U 1] (b7 0) fh (d2 (aa 1) (aa 0) a5))))
theorem SK(C:ξ):∀ys ar K',↑ys=1->kN C ys ar K'->Cr C (ag ↑ar K') ⟨ys.map U++My 1 Z,ar.map U⟩:=by
 ext ys ar K'-⟨a,b,m,s,O,rfl,rfl,k⟩;unfold Cr;calc a_ λN hN=>?_;simp![af,aj,aD,toF,az,aB,aE,ak,aF,FV.v,ag,mJ,pP];calc⟨a,0,_,.p (aN m s.1),⟨Y,Y,Y⟩,a,0,_,.p (bC s.2),⟨Y,Y,Y⟩,?_⟩;simp![af,aj,aD,toF,az,aB,aE,ak,aF,FV.v,ag,mJ,pP];calc⟨m,s.1,s.2,O.d7,Y,Y,?_⟩;simp![af,aj,aD,toF,az,aB,aE,ak,aF,FV.v,ag,mJ,pP];subst hN;simp![af,aj,aD,toF,az,aB,aE,ak,aF,FV.v,ag,mJ,pP];calc⟨a,0,_,.p (aN m s.1),⟨Y,Y,Y⟩,?_⟩;simp![af,aj,aD,toF,az,aB,aE,ak,aF,FV.v,ag,mJ,pP];calc⟨m,s.1,d6 s.1 s.2,O.d7,ju _ _,Y,Y,?_⟩;simp![af,aj,aD,toF,az,aB,aE,ak,aF,FV.v,ag,mJ,pP]
 let W2:aV m (a8 s):=l_ O.d7 (ju s.1 s.2);calc⟨m,a8 s,W2,Y,Y,λns ho=>?_⟩;simp![af,aj,aD,toF,az,aB,aE,ak,aF,FV.v,ag,mJ,pP]
 let fl:↑(iT m (a8 s) ns)<=30:=by
  let:=BN (m:=m) (ws:=a8 s) ns;let:=ho.len;let:=W2.fR;symm
 refine l6 (λd=>.int (h_ (d6 s.1 s.2) (dI d))) (by rw[pR];symm) trivial ?_ ?_
 .ext d hd acc L ha h
  let⟨n,hn,rfl⟩:=XM.mp hd;let hr:=ho.nums n (u5 ns n hn);rw[sub_len] at hr;simp![af,aj,aD,toF,az,aB,aE,ak,aF,FV.v,ag,mJ,pP,bC];rw[HM hr];exact⟨ha,h⟩
 .refine⟨[_],[],[U (.lst _)],Y,Y,Fm _,?_⟩
  let e:(q4r D.int (iT m (a8 s) ns)).map (λd=>D.int (h_ (d6 s.1 s.2) (dI d)))=(bB m s ns).map D.int:=by
   unfold bB;rw[X8,X8];rfl
  show K' (.n ((q4r D.int (iT m (a8 s) ns)).map (λd=>D.int (h_ (d6 s.1 s.2) (dI d))))) _ _;rw[e];calc k ns ho
noncomputable def wsum(ws:-(Int×Int×Int))(ns:-Int):Int:=(ns.map λn=>(ws.getD n.toNat (0,0,0)).2.2).sum
theorem qD{m:Int}{s:Stt}{ns:-Int}(O:bo m s)(ho:aK (a8 s) ns):Nums s.1 (bB m s ns)/\(bB m s ns).Nodup/\↑(bB m s ns)<=30:=by
 let S:=ju s.1 s.2;let W2:aV m (a8 s):=l_ O.d7 S
 let rg:∀i∈iT m (a8 s) ns,0<=i/\i<(↑(d6 s.1 s.2):Int):=λi hi=>by
  let hr:=ho.nums i (u5 ns i hi)
  rwa [sub_len] at hr
 refine⟨λn hn=>?_,?_,?_⟩
 .let⟨i,hi,rfl⟩:=XM.mp hn
  exact S.nums _ (HK (rg i hi))
 .refine Zp.mpr ((HL ho).imp_of_mem λ{i j} hi hj ne e=>ne ?_)
  let h1:=rg i hi;let h2:=rg j hj
  by_cases c:i<j
  .let:=S.lt h1.1 c h2.2;symm
  .by_cases c2:j<i
   .let:=S.lt h2.1 c2 h1.2;symm
   .omega
 .let h1:=BN (m:=m) (ws:=a8 s) ns
  let h2:=ho.len;let h3:=W2.fR;unfold bB;rw[pR];symm
inductive Cu (C:O) (ys:-DV) (ar:-OV) (K:RK->-OV->-OV->Prop):Prop
 |mk (a b:O) (m:Int) (s:Stt) (_:bo m s) (_:ys=[.w a]) (_:ar=[kO C a b m s]) (_:∀ns,aK (a8 s) ns->K (.p (.int (wsum s.1 (bB m s ns)))) [kO C a b m s] [])
def Cv(c_Keeper:O):WS:=(aR (aA 2 xA (aq (af c_Keeper "town" (aa 0)) (aq (az ι c_Keeper "forest" 1 (kN c_Keeper) (aa 0) ai) ai))))
theorem SM(C:ξ):∀ys ar K',↑ys=1->Cu C ys ar K'->Cv C (ag ↑ar K') ⟨ys.map U++My 0 Z,ar.map U⟩:=by
 ext ys ar K'-⟨a,b,m,s,O,rfl,rfl,k⟩;unfold Cv;simp![af,aj,aD,toF,az,aB,aE,ak,aF,FV.v,ag,mJ,pP];calc⟨a,0,_,.p (aN m s.1),⟨Y,Y,Y⟩,⟨a,0,_,Y,Y,Y⟩,[(0,kO C a b m s)],⟨Y,trivial⟩,?_⟩;simp![af,aj,aD,toF,az,aB,aE,ak,aF,FV.v,ag,mJ,pP];calc⟨a,b,m,s,O,Y,Y,λns ho=>?_⟩;let⟨h1,h2,h3⟩:=qD O ho;simp![af,aj,aD,toF,az,aB,aE,ak,aF,FV.v,ag,mJ,pP];calc⟨m,s.1,bB m s ns,O.d7,h1,h2,⋯,Y,Y,?_⟩;simp![af,aj,aD,toF,az,aB,aE,ak,aF,FV.v,ag,mJ,pP];calc kM (k ns ho)
inductive vh (C:O) (ys:-DV) (ar:-OV) (K:RK->-OV->-OV->Prop):Prop
 |mk (a b:O) (m:Int) (s:Stt) (n:Int) (_:bo m s) (_:(0<=n/\n<(↑s.1:Int))) (_:ys=[.w a,.p (.int n)]) (_:ar=[kO C a b m s]) (_:K (.p .non) [kO C a b m s] [])
def Cw(c_Keeper:O):WS:=(bA (dJ (dT (aA 3 nH (aq (aa 1) (aq (dC (.int 0)) (aq (d2 (dN (aq (d2 (af c_Keeper "town" (aa 0)) (dC (.int 1)) a5) ai) cm) (dC (.int 1)) (oI λi j=>.int (i-j))) ai)))))) lV dz)
theorem SN(C:ξ):∀ys ar K',↑ys=2->vh C ys ar K'->Cw C (ag ↑ar K') ⟨ys.map U++My 0 Z,ar.map U⟩:=by
 ext ys ar K'-⟨a,b,m,s,n,O,hn,rfl,rfl,k⟩;unfold Cw;simp![af,aj,aD,toF,az,aB,aE,ak,aF,FV.v,ag,mJ,pP];calc⟨a,0,_,.p (aN m s.1),⟨Y,Y,Y⟩,?_⟩;simp![af,aj,aD,toF,az,aB,aE,ak,aF,FV.v,ag,mJ,pP,aN,c_];calc⟨.int n,0,(↑s.1:Int)-1,Y,Y,?_⟩;simp![af,aj,aD,toF,az,aB,aE,ak,aF,FV.v,ag,mJ,pP];rw[rM hn.1 ⋯];simp![af,aj,aD,toF,az,aB,aE,ak,aF,FV.v,ag,mJ,pP];calc kM k
inductive vi (C:O) (ys:-DV) (ar:-OV) (K:RK->-OV->-OV->Prop):Prop
 |mk (a b:O) (m:Int) (s s':Stt) (_:bo m s) (_:bo m s') (_:ys=[.w a,.p (aN m s'.1),.p (bC s'.2)]) (_:ar=[kO C a b m s]) (_:∀ns bO,aK (a8 s) ns->aK (a8 s') bO->K (.p (jR (bB m s ns) (bB m s' bO))) [kO C a b m s'] [])
def Cy(c_Keeper:O):WS:=(aw (aP 3 (az ι c_Keeper "forest" 1 (kN c_Keeper) (aa 0) ai)) (aw (aD c_Keeper "town" (aa 1) (aa 0)) (aw (aD c_Keeper "shut" (aa 2) (aa 0)) (aR (aA 2 Cg (aq (aa 3) (aq (az ι c_Keeper "forest" 1 (kN c_Keeper) (aa 0) ai) ai)))))))
theorem SO(C:ξ):∀ys ar K',↑ys=3->vi C ys ar K'->Cy C (ag ↑ar K') ⟨ys.map U++My 1 Z,ar.map U⟩:=by
 ext ys ar K'-⟨a,b,m,s,s',O,O',rfl,rfl,k⟩;unfold Cy;calc a_ λN hN=>?_;simp![af,aj,aD,toF,az,aB,aE,ak,aF,FV.v,ag,mJ,pP];calc⟨⟨a,0,_,Y,Y,Y⟩,[(0,kO C a b m s)],⟨Y,trivial⟩,?_⟩;simp![af,aj,aD,toF,az,aB,aE,ak,aF,FV.v,ag,mJ,pP];calc⟨a,b,m,s,O,Y,Y,λns ho=>?_⟩;simp![af,aj,aD,toF,az,aB,aE,ak,aF,FV.v,ag,mJ,pP];subst hN;calc a_ λN hN=>?_;simp![af,aj,aD,toF,az,aB,aE,ak,aF,FV.v,ag,mJ,pP];calc⟨a,0,_,⟨Y,Y,by show 3<1000;decide⟩,?_⟩;subst hN;calc a_ λN hN=>?_;simp![af,aj,aD,toF,az,aB,aE,ak,aF,FV.v,ag,mJ,pP];refine⟨a,0,_,⟨Y,Y,by show 3<1000;decide⟩,?_⟩
 subst hN;simp![af,aj,aD,toF,az,aB,aE,ak,aF,FV.v,ag,mJ,pP];calc⟨⟨a,0,_,Y,Y,Y⟩,[(0,kO C a b m s')],⟨Y,trivial⟩,?_⟩;simp![af,aj,aD,toF,az,aB,aE,ak,aF,FV.v,ag,mJ,pP];calc⟨a,b,m,s',O',Y,Y,λbO dq=>?_⟩;let⟨_,_,h3⟩:=qD O ho;let⟨_,_,h4⟩:=qD O' dq;simp![af,aj,aD,toF,az,aB,aE,ak,aF,FV.v,ag,mJ,pP];calc⟨bB m s ns,bB m s' bO,⋯,⋯,Y,Y,?_⟩;simp![af,aj,aD,toF,az,aB,aE,ak,aF,FV.v,ag,mJ,pP];calc kM (k ns bO ho dq)
inductive vj (C:O) (ys:-DV) (ar:-OV) (K:RK->-OV->-OV->Prop):Prop
 |mk (a b:O) (m:Int) (s s':Stt) (ps:-Stt) (_:bo m s) (_:bo m s') (_:↑ps<900) (_:ys=[.w a,.p (aN m s'.1),.p (bC s'.2)]) (_:ar=[kO C a b m s,pO b m ps]) (_:∀ns bO,aK (a8 s) ns->aK (a8 s') bO->K (.p (jR (bB m s ns) (bB m s' bO))) [kO C a b m s',pO b m (ps++[s])] [])
def Cz(c_Keeper:O):WS:=(aw (iR (ly (aj (af c_Keeper "past" (aa 0))) (aq (bz (aq (af c_Keeper "town" (aa 0)) (aq (af c_Keeper "shut" (aa 0)) ai))) ai))) (aR (az ι c_Keeper "set_to" 3 (vi c_Keeper) (aa 0) (aq (aa 1) (aq (aa 2) ai)))))
theorem SQ(C:ξ):∀ys ar K',↑ys=3->vj C ys ar K'->Cz C (ag ↑ar K') ⟨ys.map U++My 0 Z,ar.map U⟩:=by
 ext ys ar K'-⟨a,b,m,s,s',ps,O,O',hp,rfl,rfl,k⟩;unfold Cz;calc a_ λN hN=>?_;simp![af,aj,aD,toF,az,aB,aE,ak,aF,FV.v,ag,mJ,pP];calc⟨a,0,_,.w b,⟨Y,Y,Y⟩,b,1,pO b m ps,⟨Y,Y,Y⟩,?_⟩;simp![af,aj,aD,toF,az,aB,aE,ak,aF,FV.v,ag,mJ,pP,pO];calc⟨a,0,_,.p (aN m s.1),⟨Y,Y,Y⟩,a,0,_,.p (bC s.2),⟨Y,Y,Y⟩,?_⟩;simp![af,aj,aD,toF,az,aB,aE,ak,aF,FV.v,ag,mJ,pP];calc⟨⋯,?_⟩;subst hN;simp![af,aj,aD,toF,az,aB,aE,ak,aF,FV.v,ag,mJ,pP];calc⟨⟨a,0,_,Y,Y,Y⟩,[(0,kO C a b m s)],⟨Y,trivial⟩,?_⟩;simp![af,aj,aD,toF,az,aB,aE,ak,aF,FV.v,ag,mJ,pP];refine⟨a,b,m,s,s',O,O',Y,Y,λns bO ho dq=>?_⟩
 simp![af,aj,aD,toF,az,aB,aE,ak,aF,FV.v,ag,mJ,pP];calc⟨[kO C a b m s',pO b m (ps++[s])],[],[],?_,Y,k ns bO ho dq⟩;let e:(ps++[s]).map (dm m)=ps.map (dm m)++[dm m s]:=XY;unfold pO;rw[e];rfl
noncomputable def vk(ws:-(Int×Int×Int))(n:Int):Int×Int×Int:=ws.getD n.toNat (0,0,0)
noncomputable def bS(ws:-(Int×Int×Int))(n p:Int):-(Int×Int×Int):=ws.set n.toNat ((vk ws n).1,(vk ws n).2.1,p)
theorem Ir{m:Int}{ws:-(Int×Int×Int)}{n p:Int}(W:aV m ws)(hn:0<=n/\n<(↑ws:Int))(hp:0<=p/\p<=1000000000):aV m (bS ws n p):=by
 let ht:n.toNat<↑ws:=by symm
 let ea:vk ws n=ws[n.toNat]:=by unfold vk;rw[Fl,pQ ht];rfl
 refine⟨W.m1,W.kD,by unfold bS;rw[Yq];calc W.fR,λy hy=>?_,?_⟩
 .rcases q1s hy with h|h
  .exact W.ends y h
  .subst h
   let:=W.ends _ (getD_mem hn);exact⟨this.1,this.2.1,this.2.2.1,hp.1,hp.2⟩
 .let e:(bS ws n p).map (λy=>(y.1,y.2.1))=ws.map λy=>(y.1,y.2.1):=by
   unfold bS;let:=q2j (as:=ws.map λy=>(y.1,y.2.1)) (i:=n.toNat) (by rw[pR];calc ht);rw[Yr] at this;rw[q5k,ea];exact this
  rw[e];calc W.unlike
inductive CA (C:O) (ys:-DV) (ar:-OV) (K:RK->-OV->-OV->Prop):Prop
 |mk (a b:O) (m:Int) (s:Stt) (ps:-Stt) (n p:Int) (_:bo m s) (_:(0<=n/\n<(↑s.1:Int))) (_:(0<=p/\p<=1000000000)) (_:↑ps<900) (_:ys=[.w a,.p (.int n),.p (.int p)]) (_:ar=[kO C a b m s,pO b m ps]) (_:∀ns bO,aK (a8 s) ns->aK (a8 (bS s.1 n p,s.2)) bO->K (.p (jR (bB m s ns) (bB m (bS s.1 n p,s.2) bO))) [kO C a b m (bS s.1 n p,s.2),pO b m (ps++[s])] [])
def CB(c_Keeper:O):WS:=(aw (iR (az ι c_Keeper "need_way" 2 (vh c_Keeper) (aa 0) (aq (aa 1) ai))) (aw (bA (dJ (dT (aA 3 nH (aq (aa 2) (aq (dC (.int 0)) (aq (dC (.int 1000000000)) ai)))))) lV dz) (aR (az ι c_Keeper "changed" 3 (vj c_Keeper) (aa 0) (aq (aA 3 Cd (aq (af c_Keeper "town" (aa 0)) (aq (aa 1) (aq (aa 2) ai)))) (aq (af c_Keeper "shut" (aa 0)) ai))))))
theorem Iu{ws:-(Int×Int×Int)}{n p:Int}{us:-Int}(S:eQ ws us):eQ (bS ws n p) us:=⟨S.up,λx hx=>by let:=S.nums x hx;unfold bS;rwa [Yq]⟩
theorem SS(C:ξ):∀ys ar K',↑ys=3->CA C ys ar K'->CB C (ag ↑ar K') ⟨ys.map U++My 0 Z,ar.map U⟩:=by
 ext ys ar K'-⟨a,b,m,s,ps,n,p,O,hn,hp,hl,rfl,rfl,k⟩;unfold CB;calc a_ λN hN=>?_;simp![af,aj,aD,toF,az,aB,aE,ak,aF,FV.v,ag,mJ,pP];calc⟨⟨a,0,_,Y,Y,Y⟩,[(0,kO C a b m s)],⟨Y,trivial⟩,?_⟩;simp![af,aj,aD,toF,az,aB,aE,ak,aF,FV.v,ag,mJ,pP];calc⟨a,b,m,s,n,O,hn,Y,Y,?_⟩;simp![af,aj,aD,toF,az,aB,aE,ak,aF,FV.v,ag,mJ,pP];subst hN;calc a_ λN hN=>?_;simp![af,aj,aD,toF,az,aB,aE,ak,aF,FV.v,ag,mJ,pP];calc⟨.int p,0,1000000000,Y,Y,?_⟩;simp![af,aj,aD,toF,az,aB,aE,ak,aF,FV.v,ag,mJ,pP];rw[rM hp.1 hp.2];simp![af,aj,aD,toF,az,aB,aE,ak,aF,FV.v,ag,mJ,pP]
 subst hN;simp![af,aj,aD,toF,az,aB,aE,ak,aF,FV.v,ag,mJ,pP];calc⟨⟨a,0,_,Y,Y,Y⟩,a,0,_,.p (aN m s.1),⟨Y,Y,Y⟩,?_⟩;simp![af,aj,aD,toF,az,aB,aE,ak,aF,FV.v,ag,mJ,pP];calc⟨m,s.1,n,p,O.d7,hn,Y,Y,?_⟩;simp![af,aj,aD,toF,az,aB,aE,ak,aF,FV.v,ag,mJ,pP];calc⟨a,0,_,.p (bC s.2),⟨Y,Y,Y⟩,[(0,kO C a b m s),(1,pO b m ps)],⟨Y,Y,trivial⟩,?_⟩;simp![af,aj,aD,toF,az,aB,aE,ak,aF,FV.v,ag,mJ,pP];calc⟨a,b,m,s,(bS s.1 n p,s.2),ps,O,⟨Ir O.d7 hn hp,Iu O.sh⟩,hl,Y,Y,λns bO ho dq=>?_⟩;simp![af,aj,aD,toF,az,aB,aE,ak,aF,FV.v,ag,mJ,pP];calc kM (k ns bO ho dq)
theorem Iv{ws:-(Int×Int×Int)}{sh:-Int}{n:Int}(S:eQ ws sh)(hn:0<=n/\n<(↑ws:Int))(h:n∉sh):eQ ws (sortI (sh++[n])):=by
 let pm:=sortI_perm (sh++[n]);let nd:(sh++[n]).Nodup:=Y5.mpr ⟨S.nd,by simp,λx hx y hy e=>by rw[X1] at hy;subst hy;subst e;calc h hx⟩;refine⟨?_,λx hx=>?_⟩
 .refine ((Ar _).and (pm.nodup_iff.mpr nd)).imp λh=>?_
  let⟨h1,h2⟩:=h;symm
 .rcases Yc.mp (pm.mem_iff.mp hx) with h|h
  .exact S.nums x h
  .rw[X1] at h;subst h;calc hn
inductive CD (C:O) (ys:-DV) (ar:-OV) (K:RK->-OV->-OV->Prop):Prop
 |mk (a b:O) (m:Int) (s:Stt) (ps:-Stt) (n:Int) (_:bo m s) (_:(0<=n/\n<(↑s.1:Int))) (_:n∉s.2) (_:↑ps<900) (_:ys=[.w a,.p (.int n)]) (_:ar=[kO C a b m s,pO b m ps]) (_:∀ns bO,aK (a8 s) ns->aK (a8 (s.1,sortI (s.2++[n]))) bO->K (.p (jR (bB m s ns) (bB m (s.1,sortI (s.2++[n])) bO))) [kO C a b m (s.1,sortI (s.2++[n])),pO b m (ps++[s])] [])
def CF(c_Keeper:O):WS:=(aw (iR (az ι c_Keeper "need_way" 2 (vh c_Keeper) (aa 0) (aq (aa 1) ai))) (aw (bA (dT (d2 (aa 1) (af c_Keeper "shut" (aa 0)) (kI ι))) lV dz) (aR (az ι c_Keeper "changed" 3 (vj c_Keeper) (aa 0) (aq (af c_Keeper "town" (aa 0)) (aq (dN (aq (d2 (af c_Keeper "shut" (aa 0)) (cN (aq (aa 1) ai)) cS) ai) oS) ai))))))
theorem SU(C:ξ):∀ys ar K',↑ys=2->CD C ys ar K'->CF C (ag ↑ar K') ⟨ys.map U++My 0 Z,ar.map U⟩:=by
 ext ys ar K'-⟨a,b,m,s,ps,n,O,hn,hs,hl,rfl,rfl,k⟩;let Cq:=O.len;unfold CF;calc a_ λN hN=>?_;simp![af,aj,aD,toF,az,aB,aE,ak,aF,FV.v,ag,mJ,pP];calc⟨⟨a,0,_,Y,Y,Y⟩,[(0,kO C a b m s)],⟨Y,trivial⟩,?_⟩;simp![af,aj,aD,toF,az,aB,aE,ak,aF,FV.v,ag,mJ,pP];calc⟨a,b,m,s,n,O,hn,Y,Y,?_⟩;simp![af,aj,aD,toF,az,aB,aE,ak,aF,FV.v,ag,mJ,pP];subst hN;calc a_ λN hN=>?_;simp![af,aj,aD,toF,az,aB,aE,ak,aF,FV.v,ag,mJ,pP];calc⟨a,0,_,.p (bC s.2),⟨Y,Y,Y⟩,?_⟩;simp![af,aj,aD,toF,az,aB,aE,ak,aF,FV.v,ag,mJ,pP,bC,qz,XO hs];calc⟨kK s.2,?_⟩;subst hN;simp![af,aj,aD,toF,az,aB,aE,ak,aF,FV.v,ag,mJ,pP]
 calc⟨⟨a,0,_,Y,Y,Y⟩,a,0,_,.p (aN m s.1),⟨Y,Y,Y⟩,a,0,_,.p (bC s.2),⟨Y,Y,Y⟩,?_⟩;simp![af,aj,aD,toF,az,aB,aE,ak,aF,FV.v,ag,mJ,pP,bC];calc⟨⋯,?_⟩;rw[show s.2.map D.int++[D.int n]=(s.2++[n]).map D.int by rw[XY];rfl];erw[oS,rA];calc⟨by rw[Fs];simp;symm,[(0,kO C a b m s),(1,pO b m ps)],⟨Y,Y,trivial⟩,?_⟩;simp![af,aj,aD,toF,az,aB,aE,ak,aF,FV.v,ag,mJ,pP];calc⟨a,b,m,s,(s.1,sortI (s.2++[n])),ps,O,⟨O.d7,Iv O.sh hn hs⟩,hl,Y,Y,λns bO ho dq=>?_⟩;simp![af,aj,aD,toF,az,aB,aE,ak,aF,FV.v,ag,mJ,pP];calc kM (k ns bO ho dq)
noncomputable def iK(sh:-Int)(n:Int):-Int:=sh.filter λx=>l (x≠n)
theorem vB{ws:-(Int×Int×Int)}{sh:-Int}{n:Int}(S:eQ ws sh):eQ ws (iK sh n):=⟨S.up.filter _,λx hx=>S.nums x (YJ.mp hx).1⟩
inductive CG (C:O) (ys:-DV) (ar:-OV) (K:RK->-OV->-OV->Prop):Prop
 |mk (a b:O) (m:Int) (s:Stt) (ps:-Stt) (n:Int) (_:bo m s) (_:(0<=n/\n<(↑s.1:Int))) (_:n∈s.2) (_:↑ps<900) (_:ys=[.w a,.p (.int n)]) (_:ar=[kO C a b m s,pO b m ps]) (_:∀ns bO,aK (a8 s) ns->aK (a8 (s.1,iK s.2 n)) bO->K (.p (jR (bB m s ns) (bB m (s.1,iK s.2 n) bO))) [kO C a b m (s.1,iK s.2 n),pO b m (ps++[s])] [])
def CI(c_Keeper:O):WS:=(aw (iR (az ι c_Keeper "need_way" 2 (vh c_Keeper) (aa 0) (aq (aa 1) ai))) (aw (bA (dT (d2 (aa 1) (af c_Keeper "shut" (aa 0)) (kI θ))) lV dz) (aR (az ι c_Keeper "changed" 3 (vj c_Keeper) (aa 0) (aq (af c_Keeper "town" (aa 0)) (aq (fV (cA (af c_Keeper "shut" (aa 0))) [Z,U 1] (b7 0) (dT (d2 (aa 0) (aa 1) kH)) (aa 0)) ai))))))
theorem SV(C:ξ):∀ys ar K',↑ys=2->CG C ys ar K'->CI C (ag ↑ar K') ⟨ys.map U++My 0 Z,ar.map U⟩:=by
 ext ys ar K'-⟨a,b,m,s,ps,n,O,hn,hs,hl,rfl,rfl,k⟩;let Cq:=O.len;unfold CI;calc a_ λN hN=>?_;simp![af,aj,aD,toF,az,aB,aE,ak,aF,FV.v,ag,mJ,pP];calc⟨⟨a,0,_,Y,Y,Y⟩,[(0,kO C a b m s)],⟨Y,trivial⟩,?_⟩;simp![af,aj,aD,toF,az,aB,aE,ak,aF,FV.v,ag,mJ,pP];calc⟨a,b,m,s,n,O,hn,Y,Y,?_⟩;simp![af,aj,aD,toF,az,aB,aE,ak,aF,FV.v,ag,mJ,pP];subst hN;calc a_ λN hN=>?_;simp![af,aj,aD,toF,az,aB,aE,ak,aF,FV.v,ag,mJ,pP];calc⟨a,0,_,.p (bC s.2),⟨Y,Y,Y⟩,?_⟩;simp![af,aj,aD,toF,az,aB,aE,ak,aF,FV.v,ag,mJ,pP,bC,qz,X7 hs];calc⟨kK s.2,?_⟩;subst hN;simp![af,aj,aD,toF,az,aB,aE,ak,aF,FV.v,ag,mJ,pP]
 calc⟨⟨a,0,_,Y,Y,Y⟩,a,0,_,.p (aN m s.1),⟨Y,Y,Y⟩,a,0,_,.p (bC s.2),⟨Y,Y,Y⟩,?_⟩;simp![af,aj,aD,toF,az,aB,aE,ak,aF,FV.v,ag,mJ,pP,bC];refine nA (λd=>l (dI d≠n)) (λd=>d) (by rw[pR];symm) trivial ?_ ?_
 .ext d hd acc L ha h1 h2
  let⟨x,hx,rfl⟩:=XM.mp hd;simp![af,aj,aD,toF,az,aB,aE,ak,aF,FV.v,ag,mJ,pP,l9];erw[dI] at h1 h2
  by_cases c:x=n
  .rw[X7 c];exact h2 (XO (q0r c))
  .rw[XO c];exact⟨ha,h1 (X7 c)⟩
 .rw[rV λx=>l (x≠n)]
  calc⟨[(0,kO C a b m s),(1,pO b m ps)],⟨Y,Y,trivial⟩,?_⟩;simp![af,aj,aD,toF,az,aB,aE,ak,aF,FV.v,ag,mJ,pP];calc⟨a,b,m,s,(s.1,iK s.2 n),ps,O,⟨O.d7,vB O.sh⟩,hl,Y,Y,λns bO ho dq=>?_⟩;simp![af,aj,aD,toF,az,aB,aE,ak,aF,FV.v,ag,mJ,pP];calc kM (k ns bO ho dq)
inductive xH (C:O) (ys:-DV) (ar:-OV) (K:RK->-OV->-OV->Prop):Prop
 |mk (a b:O) (m:Int) (s s':Stt) (ps:-Stt) (_:bo m s) (_:bo m s') (_:↑ps<900) (_:ys=[.w a]) (_:ar=[kO C a b m s,pO b m (ps++[s'])]) (_:∀ns bO,aK (a8 s) ns->aK (a8 s') bO->K (.p (jR (bB m s ns) (bB m s' bO))) [kO C a b m s',pO b m ps] [])
def CJ(c_Keeper:O):WS:=(aw (bA (dT (d2 (dN (aq (aj (af c_Keeper "past" (aa 0))) ai) cm) (dC (.int 0)) oEq)) lV dz) (aw (aP 1 (ny (aj (af c_Keeper "past" (aa 0))))) (aR (az ι c_Keeper "set_to" 3 (vi c_Keeper) (aa 0) (aq (d2 (aa 1) (dC (.int 0)) a5) (aq (d2 (aa 1) (dC (.int 1)) a5) ai))))))
theorem SW(C:ξ):∀ys ar K',↑ys=1->xH C ys ar K'->CJ C (ag ↑ar K') ⟨ys.map U++My 1 Z,ar.map U⟩:=by
 ext ys ar K'-⟨a,b,m,s,s',ps,O,O',hl,rfl,rfl,k⟩;let e:(ps++[s']).map (dm m)=ps.map (dm m)++[dm m s']:=XY;unfold CJ;calc a_ λN hN=>?_;simp![af,aj,aD,toF,az,aB,aE,ak,aF,FV.v,ag,mJ,pP];calc⟨a,0,_,.w b,⟨Y,Y,Y⟩,b,1,_,⟨Y,Y,Y⟩,?_⟩;simp![af,aj,aD,toF,az,aB,aE,ak,aF,FV.v,ag,mJ,pP,pO,e];rw[l9,XO ⋯,WK (by decide)];subst hN;calc a_ λN hN=>?_;simp![af,aj,aD,toF,az,aB,aE,ak,aF,FV.v,ag,mJ,pP];calc⟨a,0,_,.w b,⟨Y,Y,Y⟩,b,1,_,⟨Y,Y,Y⟩,?_⟩;simp![af,aj,aD,toF,az,aB,aE,ak,aF,FV.v,ag,mJ,pP];rw[show ↑ps+1-1=↑(ps.map (dm m)) by rw[pR];symm,q0_]
 simp![af,aj,aD,toF,az,aB,aE,ak,aF,FV.v,ag,mJ,pP,List.dropLast_concat];subst hN;simp![af,aj,aD,toF,az,aB,aE,ak,aF,FV.v,ag,mJ,pP,dm,dj,c_];calc⟨⟨a,0,_,Y,Y,Y⟩,[(0,kO C a b m s)],⟨Y,trivial⟩,?_⟩;simp![af,aj,aD,toF,az,aB,aE,ak,aF,FV.v,ag,mJ,pP];calc⟨a,b,m,s,s',O,O',Y,Y,λns bO ho dq=>?_⟩;simp![af,aj,aD,toF,az,aB,aE,ak,aF,FV.v,ag,mJ,pP];calc⟨[kO C a b m s',pO b m ps],[],[],Y,Y,k ns bO ho dq⟩
def iU(U:Int->Prop)(f:Int->Wy)(n:Int):Prop:=U n/\¬ a7 (λv=>∃k,U k/\v=f k/\gc v (f n)) (f n).1 (f n).2.1
section
variable{U U':Int->Prop}{f f':Int->Wy}{e x y:Int}
theorem Iw(tx:iU (λk=>U k/\k≠e) f x)(ty:iU (λk=>U k/\k≠e) f y)(ox:¬ iU U f x)(oy:¬ iU U f y)(lt:gc (f x) (f y)):False:=by
 let cx:a7 (λv=>∃k,U k/\v=f k/\gc v (f x)) (f x).1 (f x).2.1:=Yn λz=>ox ⟨tx.1.1,z⟩;let cy:a7 (λv=>∃k,U k/\v=f k/\gc v (f y)) (f y).1 (f y).2.1:=Yn λz=>oy ⟨ty.1.1,z⟩
 by_cases h:U e/\gc (f e) (f x)
 .let up:∀v,(∃k,(U k/\k≠e)/\v=f k/\gc v (f x))->∃k,(U k/\k≠e)/\v=f k/\gc v (f y):=λv ⟨k,h1,h2,h3⟩↦⟨k,h1,h2,oV h3 lt⟩
  let one:a7 (λv=>∃k,(U k/\k≠e)/\v=f k/\gc v (f y)) (f x).1 (f x).2.1:=.one ⟨x,tx.1,Y,lt⟩
  let ka:∀v,(∃k,U k/\v=f k/\gc v (f x))↔(∃k,(U k/\k≠e)/\v=f k/\gc v (f x))\/v=f e:=λv=>by
   refine⟨λ⟨k,h1,h2,h3⟩=>?_,λz=>?_⟩
   .by_cases q:k=e
    .subst q;exact .inr h2
    .exact .inl ⟨k,⟨h1,q⟩,h2,h3⟩
   .rcases z with⟨k,h1,h2,h3⟩|rfl
    .exact⟨k,h1.1,h2,h3⟩
    .exact⟨e,h.1,Y,h.2⟩
  let ce:a7 (λv=>∃k,(U k/\k≠e)/\v=f k/\gc v (f y)) (f e).1 (f e).2.1:=by
   rcases(a7.add ka).mp cx with c|⟨c,d⟩|⟨c,d⟩
   .exact absurd c tx.2
   .exact ((c.mono up).symm.trans one).trans (d.mono up).symm
   .exact ((d.mono up).trans one.symm).trans (c.mono up)
  refine ty.2 (cy.bind ?_);ext v ⟨k,h1,h2,h3⟩
  by_cases q:k=e
  .rw[h2,q];exact ce
  .exact .one ⟨k,⟨h1,q⟩,h2,h3⟩
 .calc tx.2 (cx.mono λv ⟨k,h1,h2,h3⟩↦⟨k,⟨h1,λq=>h (by subst q;rw[h2] at h3;calc⟨h1,h3⟩)⟩,h2,h3⟩)
theorem Iy(ne:¬ iU U f e)(tx:iU (λk=>U k/\k≠e) f x):iU U f x:=by
 refine⟨tx.1.1,λc=>tx.2 (c.bind ?_)⟩;ext v ⟨k,h1,h2,h3⟩
 by_cases q:k=e
 .subst q
  let ce:a7 (λv=>∃j,U j/\v=f j/\gc v (f k)) (f k).1 (f k).2.1:=Yn λz=>ne ⟨h1,z⟩;rw[h2];calc ce.mono λv ⟨j,j1,j2,j3⟩=>⟨j,⟨j1,λq=>?_⟩,j2,oV j3 (h2▸h3)⟩;subst q;rw[j2] at j3;exact absurd j3 (by unfold gc;rw[qo];decide)
 .calc .one ⟨k,⟨h1,q⟩,h2,h3⟩
theorem CK(t:iU U f x)(ne:x≠e):iU (λk=>U k/\k≠e) f x:=⟨⟨t.1,ne⟩,λc=>t.2 (c.mono λv ⟨k,h1,h2,h3⟩↦⟨k,h1.1,h2,h3⟩)⟩
theorem CL(hU:∀k,k≠e->(U k↔U' k))(hf:∀k,k≠e->U k->f k=f' k)(t:iU (λk=>U k/\k≠e) f x):iU (λk=>U' k/\k≠e) f' x:=by
 let ex:=hf x t.1.2 t.1.1;calc⟨⟨(hU x t.1.2).mp t.1.1,t.1.2⟩,?_⟩;rw[<-ex];calcλc=>t.2 (c.mono λv ⟨k,h1,h2,h3⟩↦⟨k,⟨(hU k h1.2).mpr h1.1,h1.2⟩,by rw[hf k h1.2 ((hU k h1.2).mpr h1.1)];calc h2,h3⟩)
theorem SX(hU:∀k,k≠e->(U k↔U' k))(hf:∀k,k≠e->U k->f k=f' k)(SY:∀j k,U' j->U' k->gc (f' j) (f' k)\/j=k\/gc (f' k) (f' j))(ax:iU U f x)(bx:¬ iU U' f' x)(ay:iU U f y)(bY:¬ iU U' f' y):x=y:=by
 by_cases qx:x=e
 .by_cases qy:y=e
  .rw[qx,qy]
  .exact absurd (Iy (qx▸bx) (CL hU hf (CK ay qy))) bY
 .let tx:=CL hU hf (CK ax qx)
  by_cases qy:y=e
  .exact absurd (Iy (qy▸bY) tx) bx
  .let ty:=CL hU hf (CK ay qy)
   rcases SY x y tx.1.1 ty.1.1 with h|h|h
   .exact (Iw tx ty bx bY h).elim
   .exact h
   .calc (Iw ty tx bY bx h).elim
end
theorem nV{ws:-Wy}{us:-Int}{i:Int}(h:0<=i/\i<(↑us:Int)):aS (ft ws us) i=aS ws (h_ us i):=RL h
theorem Iz{us:-Int}{n:Int}(h:n∈us):∃i:Int,(0<=i/\i<(↑us:Int))/\h_ us i=n:=by
 let⟨i,hi⟩:=WM.mp h;let hl:=(qV.mp hi).1;calc⟨i,⟨⋯,⋯⟩,?_⟩;unfold h_;rw[XZ,Fl,hi];rfl
theorem vm{m:Int}{s:Stt}{ns:-Int}(O:bo m s)(ho:aK (a8 s) ns){n:Int}:n∈bB m s ns↔iU (λk=>k∈d6 s.1 s.2) (aS s.1) n:=by
 let S:=ju s.1 s.2;let W2:aV m (a8 s):=l_ O.d7 S
 let hm:∀v,v∈a8 s↔∃k,k∈d6 s.1 s.2/\v=aS s.1 k:=λv=>by
  unfold a8 ft;rw[XM];exact⟨λ⟨k,h1,h2⟩↦⟨k,h1,h2.symm⟩,λ⟨k,h1,h2⟩↦⟨k,h1,h2.symm⟩⟩
 unfold bB;rw[XM]
 constructor
 .ext ⟨i,hi,rfl⟩
  let⟨hr,ht⟩:=(B3 W2 ho).mp hi;rw[sub_len] at hr;rw[nV hr] at ht;exact⟨HK hr,λc=>ht.2 (c.mono λv ⟨k,h1,h2,h3⟩↦⟨(hm v).mpr ⟨k,h1,h2⟩,h3⟩)⟩
 .ext ⟨h1,h2⟩
  let⟨i,hr,rfl⟩:=Iz h1;calc⟨i,(B3 W2 ho).mpr ⟨by rw[sub_len];calc hr,?_⟩,Y⟩;rw[nV hr];calc⟨(hm _).mpr ⟨_,h1,Y⟩,λc=>h2 (c.mono λv ⟨hv,h3⟩↦by let⟨k,k1,k2⟩:=(hm v).mp hv;calc⟨k,k1,k2,h3⟩)⟩
theorem IA{m:Int}{s:Stt}{ns:-Int}(O:bo m s)(ho:aK (a8 s) ns):(bB m s ns).Pairwise (· < ·):=by
 let S:=ju s.1 s.2;let W2:aV m (a8 s):=l_ O.d7 S;unfold bB;rw[Zp];let h1:(iT m (a8 s) ns).Pairwise (· <= ·):=Ar _;calc(h1.and (HL (m:=m) ho)).imp_of_mem λ{a b} ha hb h=>?_;let r1:=ho.nums a (u5 ns a ha);let r2:=ho.nums b (u5 ns b hb);rw[sub_len] at r1 r2;let:=h.1;let:=h.2;calc S.lt r1.1 ⋯ r2.2
theorem S7{m:Int}{ws:-Wy}(W:aV m ws){us:-Int}(hu:Nums ws us):∀j k,j∈us->k∈us->gc (aS ws j) (aS ws k)\/j=k\/gc (aS ws k) (aS ws j):=λj k hj hk=>by
 cases q:HT.lexLt (ma (aS ws j)) (ma (aS ws k)) with
 |true=>exact .inl q
 |false =>
  cases q2:HT.lexLt (ma (aS ws k)) (ma (aS ws j)) with
  |true=>exact .inr (.inr q2)
  |false=>calc .inr (.inl (BJ W (hu j hj) (hu k hk) (rH q q2)))
structure kj(e:Int)(s s':Stt):Prop where
 op:∀k,k≠e->(k∈d6 s.1 s.2↔k∈d6 s'.1 s'.2)
 wy:∀k,k≠e->k∈d6 s.1 s.2->aS s.1 k=aS s'.1 k
theorem kj.symm{e:Int}{s s':Stt}(h:kj e s s'):kj e s' s:=⟨λk q=>(h.op k q).symm,λk q u=>(h.wy k q ((h.op k q).mpr u)).symm⟩
theorem kj.out{m e:Int}{s s':Stt}{ns bO:-Int}(h:kj e s s')(O:bo m s)(O':bo m s')(ho:aK (a8 s) ns)(dq:aK (a8 s') bO):∀x y,x∈bB m s ns->x∉bB m s' bO->y∈bB m s ns->y∉bB m s' bO->x=y:=λx y ax bx ay bY =>
 SX h.op h.wy (S7 O'.d7 (ju _ _).nums) ((vm O ho).mp ax) (λz=>bx ((vm O' dq).mpr z)) ((vm O ho).mp ay) (λz=>bY ((vm O' dq).mpr z))
theorem dB{ws:-Wy}{sh:-Int}{k:Int}:k∈d6 ws sh↔k∈br ↑ws/\k∉sh:=by unfold d6;rw[YJ,Y4]
theorem IB{s:Stt}{n p:Int}(hn:0<=n/\n<(↑s.1:Int)):kj n s (bS s.1 n p,s.2):=by
 calc⟨λk _=>by unfold bS d6;rw[Yq],λk q u=>?_⟩;let:=(ju _ _).nums k u;unfold aS bS;rw[Fl,Fl,Yp ⋯]
theorem IC{s:Stt}{n:Int}:kj n s (s.1,sortI (s.2++[n])) :=
 ⟨λk q=>by rw[dB,dB,(sortI_perm _).mem_iff,Yc,X1];simp[q],λ_ _ _=>Y⟩
theorem ID{s:Stt}{n:Int}:kj n s (s.1,iK s.2 n) :=
 ⟨λk q=>by unfold iK;rw[dB,dB,YJ,Y4];simp[q],λ_ _ _=>Y⟩
noncomputable def vn(ws:-Wy):-Int:=(br ↑ws).mergeSort λa b => !HT.lexLt (gH ws b) (gH ws a)
theorem km(ws:-Wy):aK ws (vn ws):=by
 calc⟨q2y _ _,?_⟩;rw[Zp];refine(q1M (λa b c h1 h2=>?_) (λa b=>?_) _).imp λh=>by simpa[kle] using h
 .let h1:kle (gH ws a) (gH ws b):=by simpa[kle] using h1
  let h2:kle (gH ws b) (gH ws c):=by simpa[kle] using h2
  let:=kle_trans h1 h2;unfold kle at this;rw[this];rfl
 .cases q:HT.lexLt (gH ws b) (gH ws a) with
  |false=>rfl
  |true =>
   cases q2:HT.lexLt (gH ws a) (gH ws b) with
   |false=>rfl
   |true=>let:=oV q q2;rw[qo] at this;cases this
noncomputable def kf(m:Int)(s:Stt):-Int:=bB m s (vn (a8 s))
theorem kf_eq{m:Int}{s:Stt}{ns:-Int}(O:bo m s)(h:aK (a8 s) ns):bB m s ns=kf m s:=by
 unfold kf;rw[aK.one (l_ O.d7 (ju _ _)) h (km _)]
structure Mv(A B:-Int):Prop where
 ua:A.Pairwise (· < ·)
 ub:B.Pairwise (· < ·)
 out:∀x y,x∈A->x∉B->y∈A->y∉B->x=y
 S8:∀x y,x∈B->x∉A->y∈B->y∉A->x=y
 la:↑A<=30
 lb:↑B<=30
theorem kj.mv{m e:Int}{s s':Stt}(h:kj e s s')(O:bo m s)(O':bo m s'):Mv (kf m s) (kf m s') :=
 ⟨IA O (km _),IA O' (km _),h.out O O' (km _) (km _),h.symm.out O' O (km _) (km _),(qD O (km _)).2.2,(qD O' (km _)).2.2⟩
theorem S9{A B:-Int}(M:Mv A B):sortI ((A.filter λn=>match gg A B with|.int g=>l (n≠g)|_=>θ)++(match gg B A with|.int k=>[k]|_=>[]))=B:=by
 let nb:B.Nodup:=M.ub.imp λh=>by symm
 let na:A.Nodup:=M.ua.imp λh=>by symm
 let key:∀C D:-Int,C.Nodup->(∀x∈C,x∈A)->(∀x∈A,x∈B↔x∈C)->D.Nodup->(∀x∈B,x∉A↔x∈D)->(∀x∈D,x∈B/\x∉A)->sortI (C++D)=B:=λC D nc c1 c2 nd d1 d2=>by
  refine(As ((q1q nb (Y5.mpr ⟨nc,nd,λa ha b hb e=>?_⟩)).mpr λx=>?_) (M.ub.imp λh=>by symm)).symm
  .subst e;exact(d2 a hb).2 (c1 a ha)
  .rw[Yc]
   constructor
   .ext h
    by_cases q:x∈A
    .exact .inl ((c2 x q).mp h)
    .exact .inr ((d1 x h).mp q)
   .ext (h|h)
    .exact (c2 x (c1 x h)).mpr h
    .exact (d2 x h).1
 let hf:∀(X Y:-Int),(gg X Y=.non/\∀x∈X,x∈Y)\/∃g,gg X Y=.int g/\g∈X/\g∉Y:=λX Y=>by
  unfold gg
  cases q:X.filter (λn=>l (n∉Y)) with
  |nil=>exact .inl ⟨rfl,λx hx=>Yn λz=>by let:=q17.mp q x hx;simp[z] at this⟩
  |cons g r =>
   let:g∈X.filter (λn=>l (n∉Y)):=by rw[q];exact NJ
   rw[YJ,Y4] at this;exact .inr ⟨g,rfl,this⟩
 refine key _ _ (na.filter _) (λx hx=>(YJ.mp hx).1) (λx hx=>?_) ?_ (λx hx=>?_) (λx hx=>?_)
 .rw[YJ]
  rcases hf A B with⟨e,h⟩|⟨g,e,h1,h2⟩<;>rw[e]<;>dsimp only
  .simp[hx,h x hx]
  .rw[Y4]
   exact⟨λz=>⟨hx,λy=>h2 (y▸z)⟩,λz=>Yn λy=>z.2 (M.out x g hx y h1 h2)⟩
 .rcases hf B A with⟨e,h⟩|⟨g,e,h1,h2⟩<;>rw[e]<;>simp
 .rcases hf B A with⟨e,h⟩|⟨g,e,h1,h2⟩<;>rw[e]<;>dsimp only
  .simp[h x hx]
  .rw[X1]
   exact⟨λz=>M.S8 x g hx z h1 h2,λz=>z▸h2⟩
 .rcases hf B A with⟨e,h⟩|⟨g,e,h1,h2⟩<;>rw[e] at hx<;>dsimp only at hx
  .exact absurd hx Yh
  .rw[X1] at hx;subst hx;calc⟨h1,h2⟩
theorem S_{m:Int}{s s':Stt}(h1:d6 s.1 s.2=d6 s'.1 s'.2)(h2:a8 s=a8 s'):kf m s=kf m s':=by unfold kf bB;rw[h1,h2]
theorem Ta{m:Int}{s:Stt}{n p:Int}(hn:0<=n/\n<(↑s.1:Int))(h:n∈s.2):kf m (bS s.1 n p,s.2)=kf m s:=by
 let e:d6 (bS s.1 n p) s.2=d6 s.1 s.2:=by unfold bS d6;rw[Yq]
 calc S_ e ?_;unfold a8 ft;show(d6 (bS s.1 n p) s.2).map _=_;rw[e];calc YB λk hk=>?_;let k0:=(ju _ _).nums k hk;unfold bS;rw[Fl,Fl,Yp];ext z;let:n=k:=by symm
 subst this;calc(dB.mp hk).2 h
theorem Tb{ws:-Wy}{n:Int}(hn:0<=n/\n<(↑ws:Int)):bS ws n (aS ws n).2.2=ws:=by
 let ht:n.toNat<↑ws:=by symm
 let ea:aS ws n=ws[n.toNat]:=by unfold aS;rw[Fl,pQ ht];rfl
 unfold bS;show ws.set n.toNat ((aS ws n).1,(aS ws n).2.1,(aS ws n).2.2)=ws;rw[ea];calc q2j ht
theorem Tc(A:-Int):gg A A=.non:=by
 unfold gg;rw[q17.mpr λx hx=>by simp[hx]]
theorem Td{m:Int}{ws:-Wy}(W:aV m ws){us vs:-Int}(hu:Nums ws us)(hv:Nums ws vs)(h:∀a b,a7 (nQ ws us) a b↔a7 (nQ ws vs) a b):fX m ws us=fX m ws vs:=by
 let M:=Ie W hu;let N:=Ie W hv
 let le:∀{us vs:-Int},bh m.toNat (fX m ws us) (nQ ws us)->Good (fX m ws us)->bh m.toNat (fX m ws vs) (nQ ws vs)->Good (fX m ws vs)->(∀a b,a7 (nQ ws us) a b->a7 (nQ ws vs) a b)->∀k:Nat,k<m.toNat->(fX m ws vs).getD k 0<=(fX m ws us).getD k 0:=λ{us vs} M GM N GN h k hk=>by
  let l:=GM.le k (by rw[M.1];calc hk);let o:=GM.own k (by rw[M.1];calc hk);let⟨r,er⟩:∃r:Nat,(fX m ws us).getD k 0=r:=⟨_,(q2z l.1).symm⟩;rw[er] at l o ⊢;rw[XZ] at o;let c:=(M.2 r k ⋯ hk).mp (by rw[o,er]);let c2:=(N.2 r k ⋯ hk).mpr (h _ _ c);let:=(GN.le r (by rw[N.1];symm)).2;symm
 let GM:=Ig W hu;let GN:=Ig W hv;calc q3G (M.1.trans N.1.symm) λk h1 h2=>?_;let hk:k<m.toNat:=by rw[<-M.1];exact h1
 let a:=le M GM N GN (λa b=>(h a b).mp) k hk;let b:=le N GN M GM (λa b=>(h a b).mpr) k hk;rw[getD_at h1,getD_at h2] at a b;symm
theorem Te{m:Int}{s:Stt}(O:bo m s):fX m s.1 (kf m s)=fX m s.1 (d6 s.1 s.2):=by
 let S:=ju s.1 s.2;let hm:=λn=>vm (n:=n) O (km (a8 s));refine Td O.d7 (qD O (km _)).1 S.nums λa b=>⟨λc=>c.mono λv hv=>?_,λc=>c.bind λv hv=>?_⟩
 .let⟨k,hk,rfl⟩:=hv
  exact⟨k,((hm k).mp hk).1,Y⟩
 .let⟨k,hk,rfl⟩:=hv
  let⟨i,hr,rfl⟩:=Iz hk;let mem:=B1 (ws:=a8 s) hr.1 (by rw[sub_len];calc hr.2);let W2:aV m (a8 s):=l_ O.d7 S;rw[<-nV hr];calc(HZ (xy (a8 s) _) _ mem (Fm _)).mono λu hu=>?_;let⟨j,hj,rfl⟩:=HX hu.1.1;let IE:=hj;rw[sub_len] at IE;calc⟨h_ (d6 s.1 s.2) j,XM.mpr ⟨j,(B3 W2 (km _)).mpr ⟨hj,hu.1⟩,Y⟩,nV IE⟩
end LJ
namespace LJT
open PySem L2 LJ
variable[aM]
end LJT
namespace LJ
open PySem L2
end LJ
namespace LJ
open PySem L2 PySem.Spec PySem.W PyProof.Rows
structure Ev where
 P:t
 w:X
 K:vS
 mg:J->Option L
 base:I
section
variable[aM]
structure Fx(V:Ev)(k:Nat)(x:J)(ps:-J)(n:Nat)(G:GD):Prop where
 ex:∃f fd,Fn V.P V.w V.K V.mg V.base k x ps (lW G n) f fd
def Dx(V:Ev)(x:J)(st:R):Prop:=∃f fd,V.mg x=U (.ref f)/\fF V.K x x st f fd
def xI(V:Ev)(x:J)(st:R)(T:O)(pos:y)(q:J):Prop:=∃f fd,(V.mg x=U (.ref f)/\fF V.K x x st f fd)/\gZ V.mg V.base fd T pos q
def Ct(V:Ev)(x:J)(i:Int):Prop:=∃u,V.mg x=U u/\RelV (.int i) u
section
variable{X:Cx}{x:J}{ps:-J}{G:GD}{e:M}{es:-M}{fa:WA}{p pos:y}{j k n:Nat}
theorem cq(F:Fx ⟨X.prog,X.w,X.K,X.mg,X.base⟩ j x ps n G)(hr:a6 k X.A)(ha:JA X (e::es) (b_ fa))(hj:‹q2u j k=θ›)(hg:‹Gl X x›)(cV: ~~~(bL x))(he:‹cj X e es›)(cw:‹cF X pos es›):
  JE X (.Call (.Name x p) (e::es) [] pos) (tD (aA n G fa)):=let⟨_,_,F⟩:=F.ex;O8 F.ok (hr.mono (Y8 hj)) hg F.t7 F.kp F.bd ha cV he cw
theorem Tf(F:Fx ⟨X.prog,X.w,X.K,X.mg,X.base⟩ j x ps n G)(hr:a6 k X.A)(ha:JA X (e::es) (b_ fa))(hj:‹q2u j k=θ›)(hg:‹Gl X x›)(cV: ~~~(bL x))(he:‹cj X e es›)(cw:‹cF X pos es›):
  JE X (.Call (.Name x p) (e::es) [] pos) (tD (uv n G fa)):=let⟨_,_,F⟩:=F.ex;O9 F.ok (hr.mono (Y8 hj)) hg F.t7 F.kp F.bd ha cV he cw
theorem IF{i:Int}(C:Ct ⟨X.prog,X.w,X.K,X.mg,X.base⟩ x i)(hg:‹Gl X x›)(hd: ~~~(bL x)):JE X (.Name x pos) (tD (dC (.int i))):=let⟨_,a,b⟩:=C;OQ hg a b hd
end
theorem _root_.L2.gZ.env{mg:J->Option ν}{base:I}{fd:FuncData}{T:O}{lp:y}{q:J}{a9:ν}(L:gZ mg base fd T lp q)(h:fd.code=a9):∃cc,a9=.ref cc/\CodeHd base cc T:=let⟨cc,e1,e2⟩:=L.code;⟨cc,h.symm.trans e1,e2⟩
noncomputable def Tg:NameKind->Bool
 |.local=>θ
 |.cell=>θ
 |_=>ι
noncomputable def Th:NameKind->Bool
 |.free=>ι
 |_=>θ
noncomputable def Ti:ScopeKind->Bool
 |.function=>θ
 |_=>ι
noncomputable def nW(N P:-J)(sc:o):Bool:=Ti sc.kind && !sc.isCoroutine && !sc.isGenerator&&l N.Nodup&&l (N.take ↑P=P)&&(P.all λx=>match sc.names.lookup x with
 |some k=>Tg k
 |none=>ι)&&sc.names.all λy=>Th y.2
theorem d8{N P:-J}{sc:o}(h:nW N P sc=θ):kW N P sc:=by
 unfold nW at h;erw[YY,q0N,Y4,Zf] at h;let⟨⟨⟨⟨⟨⟨h1,h2⟩,h3⟩,h4⟩,h5⟩,h6⟩,h7⟩:=h;refine⟨?_,h2,h3,h4,h5,λx hx=>?_,λy hy z=>?_⟩
 .cases q:sc.kind<;>rw[q] at h1<;>first|rfl|cases h1
 .let:=h6 x hx
  split at this
  .rename_i k e
   rw[e];cases k<;>first|exact .inl Y|exact .inr Y|cases this
  .cases this
 .let:=h7 y hy
  rw[z] at this;cases this
def kq(x:J)(st:R)(ps:-J):Prop:=∀(kV doc pm:L)(an:Option O)(a9 ct:L)(us:-L),↑us=↑ps->bindArgs (YA x x (i_ st) (fE st) (bW st) .none kV doc pm an a9 ct) ⟨us,[]⟩=pure (ps.zip us)
section
theorem CM{us:-L}(h:↑us=1):∃a,us=[a]:=q16.mp h
theorem CN{us:-L}(h:↑us=2):∃a b,us=[a,b]:=by
 cases us with
 |nil=>cases h
 |cons a r=>let⟨b,rfl⟩:=CM (Z3 h);calc⟨a,b,Y⟩
theorem IG{us:-L}(h:↑us=3):∃a b c,us=[a,b,c]:=by
 cases us with
 |nil=>cases h
 |cons a r=>let⟨b,c,rfl⟩:=CN (Z3 h);calc⟨a,b,c,Y⟩
theorem me{x:J}{st:R}{ps:-J}(h:‹∀(kV doc pm:L) (an:Option O) (a9 ct a:L),bindArgs (YA x x (i_ st) (fE st) (bW st) .none kV doc pm an a9 ct) ⟨[a],[]⟩=pure (ps.zip [a])›)(hl:‹↑ps=1›):kq x st ps:=λkV doc pm an a9 ct us hu=>by
 let⟨a,rfl⟩:=CM (hu.trans hl);calc h kV doc pm an a9 ct a
theorem jw{x:J}{st:R}{ps:-J}(h:‹∀(kV doc pm:L) (an:Option O) (a9 ct a b:L),bindArgs (YA x x (i_ st) (fE st) (bW st) .none kV doc pm an a9 ct) ⟨[a,b],[]⟩=pure (ps.zip [a,b])›)(hl:‹↑ps=2›):kq x st ps:=λkV doc pm an a9 ct us hu=>by
 let⟨a,b,rfl⟩:=CN (hu.trans hl);calc h kV doc pm an a9 ct a b
theorem pe{x:J}{st:R}{ps:-J}(h:‹∀(kV doc pm:L) (an:Option O) (a9 ct a b c:L),bindArgs (YA x x (i_ st) (fE st) (bW st) .none kV doc pm an a9 ct) ⟨[a,b,c],[]⟩=pure (ps.zip [a,b,c])›)(hl:‹↑ps=3›):kq x st ps:=λkV doc pm an a9 ct us hu=>by
 let⟨a,b,c,rfl⟩:=IG (hu.trans hl);calc h kV doc pm an a9 ct a b c
variable{V:Ev}{x:J}{st:R}{N ps:-J}{k:Nat}{G:GD}
theorem fu(D:Dx V x st)(bd:kq x st ps)(h:∀{a9:L} {A:q} {outer:-u} {s:ο} {H:Hp} {E:XK} {f:O},a6 k (A.deeper (envOfC x (bW st) ⇑s f a9))->N.Nodup->(A.deeper (envOfC x (bW st) ⇑s f a9)).units+64<cLine →
   ∃B:WS,c6 (b8 eV V.P V.w V.K V.mg V.base N x (bW st) f a9 A outer s H E).kz (fE st) (cY B)/\∀ys ar K',↑ys=↑ps->G ys ar K'->B (mZ ↑ar K') ⟨ys.map U++My (↑N-↑ps) Z,ar.map U⟩)(sc:autoParam (nW N ps (bW st)=θ) qz3._auto_1):Fx V (k+1) x ps ↑ps G :=
 let⟨f,fd,a,F⟩:=D
 ⟨f,fd,F.O3 (d8 sc) λa9 A outer s H E hr=>h hr (d8 sc).nd hr.units,a,F.kp,F.binds bd⟩
theorem Tj{T:O}{lp:y}{q:J}(D:xI V x st T lp q)(bd:kq x st ps)(h:∀{a9:L} {A:Β} {outer:-u} {s:ο} {H:Hp} {E:XK} {f:O} {fd:FuncData},gZ V.mg V.base fd T lp q->fd.code=a9->a6 k (A.deeper (envOfC x (bW st) ⇑s f a9))->N.Nodup->(A.deeper (envOfC x (bW st) ⇑s f a9)).units+64<cLine →
   ∃B:WS,c6 (b8 eV V.P V.w V.K V.mg V.base N x (bW st) f a9 A outer s H E).kz (fE st) (cY B)/\∀ys ar K',↑ys=↑ps->G ys ar K'->B (mZ ↑ar K') ⟨ys.map U++My (↑N-↑ps) Z,ar.map U⟩)(sc:autoParam (nW N ps (bW st)=θ) qz3._auto_1):Fx V (k+1) x ps ↑ps G :=
 let⟨f,fd,⟨a,F⟩,LD⟩:=D
 ⟨f,fd,F.By (d8 sc) λa9 A outer s H E hc hr=>h LD hc hr (d8 sc).nd hr.units,a,F.kp,F.binds bd⟩
end
end
section
variable{K:vS}{h:I}{mg:J->Option L}
def Dk(K:vS)(x:J)(st:R):Prop:=∃f fd,Zd K mainGlobals x=U (U (.ref f))/\fF K x x st f fd
inductive g5 (K:vS):-(J×R)->Prop
 |nil:g5 K []
 |cons {x st r}:Dk K x st->g5 K r->g5 K ((x,st)::r)
theorem CO{x:J}{st:R}{r:-(J×R)}{f:O}{od an:Option O}{sl:Array (Option L)}{oc kV dc pm cd ct:L}(a:Zd K mainGlobals x=U (U (.ref f)))(l:K.lookup f=U ⟨oc,od,.func (YA x x (i_ st) (fE st) (bW st) .none kV dc pm an cd ct),sl⟩)(q:q0i K cd x=θ)(k:Yt K (.ref f)=θ)(h:g5 K r):g5 K ((x,st)::r) :=
 .cons ⟨f,_,a,vT l q k⟩ h
theorem g5.at{ds:-(J×R)}(h:g5 K ds)(i:Nat){x:J}{st:R}(e:ds[i]?=U (x,st)):Dk K x st:=by
 induction h generalizing i with
 |nil=>cases e
 |cons d _ ih=>cases i with
  |zero=>cases e;exact d
  |succ i=>calc ih i e
def xJ(K:vS)(x:J)(st:R)(T:O):Prop:=∃f fd,(Zd K mainGlobals x=U (U (.ref f))/\fF K x x st f fd)/\∃cc,fd.code=.ref cc/\q3N K cc T=θ
inductive fw (K:vS):-(J×R×O)->Prop
 |nil:fw K []
 |cons {x st T r}:xJ K x st T->fw K r->fw K ((x,st,T)::r)
theorem vo{x:J}{st:R}{T:O}{r:-(J×R×O)}{f cc:O}{od an:Option O}{sl:Array (Option L)}{oc kV dc pm ct:L}(a:Zd K mainGlobals x=U (U (.ref f)))(l:K.lookup f=U ⟨oc,od,.func (YA x x (i_ st) (fE st) (bW st) .none kV dc pm an (.ref cc) ct),sl⟩)(q:q0i K (.ref cc) x=θ)(k:Yt K (.ref f)=θ)(c:q3N K cc T=θ)(h:fw K r):fw K ((x,st,T)::r) :=
 .cons ⟨f,_,⟨a,vT l q k⟩,cc,Y,c⟩ h
theorem fw.at{ds:-(J×R×O)}(h:fw K ds)(i:Nat){x:J}{st:R}{T:O}(e:ds[i]?=U (x,st,T)):xJ K x st T:=by
 induction h generalizing i with
 |nil=>cases e
 |cons d _ ih=>cases i with
  |zero=>cases e;exact d
  |succ i=>calc ih i e
theorem fw.code{ds:-(J×R×O)}(h:fw K ds){hp:I}(X:K.In hp):∀T∈ds.map (·.2.2),∃cc,q4s hp cc T:=by
 induction h with
 |nil=>ext T hT;exact nomatch hT
 |cons d _ ih =>
  ext T hT;rcases XJ.mp hT with rfl|hT
  .let⟨_,_,_,cc,_,e⟩:=d
   exact⟨cc,q2B X e⟩
  .calc ih T hT
theorem Tn{x:J}{r:-J}(a:Zd K mainGlobals x=U Z)(h:∀y∈r,Zd K mainGlobals y=U Z):∀y∈x::r,Zd K mainGlobals y=U Z:=λy hy=>by
 rcases XJ.mp hy with rfl|hy
 .exact a
 .calc h y hy
theorem To{ls:-ke}(nd:(ls.map (·.T)).Nodup):∀{a b:ke},a∈ls->b∈ls->a.T=b.T->a=b:=by
 induction ls with
 |nil=>ext a b ha;exact nomatch ha
 |cons c r ih =>
  ext a b ha hb e;rw[X0,Z4] at nd;rcases XJ.mp ha with rfl|ha'<;>rcases XJ.mp hb with rfl|hb'
  .rfl
  .exact absurd (XM.mpr ⟨b,hb',e.symm⟩) nd.1
  .exact absurd (XM.mpr ⟨a,ha',e⟩) nd.1
  .calc ih nd.2 ha' hb' e
theorem Dk.v{P:t}{w:ω}{base:I}{x:J}{st:R}(d:Dk K x st)(X:K.In h)(G:h.Ns mainGlobals mg):Dx ⟨P,w,K,mg,base⟩ x st :=
 let⟨f,fd,a,F⟩:=d
 ⟨f,fd,q0s X G a,F⟩
theorem xJ.v{P:ψ}{w:ω}{base:I}{x:J}{st:R}{ls:-ke}{C:CC}{T:O}{lp:y}{q:J}(d:xJ K x st T)(X:K.In h)(G:h.Ns mainGlobals mg)(KB:K.In base)(hB:∀t∈ls,base.BuiltinsAt mg t.T)(nd:(ls.map (·.T)).Nodup)(ng:∀t∈ls,mainGlobals≠t.T)(hl:⟨T,lp,q⟩∈ls):@xI (iI ls C) ⟨P,w,K,mg,base⟩ x st T lp q :=
 let⟨f,fd,⟨a,F⟩,cc,e1,e2⟩:=d
 letI:aM:=iI ls C
 ⟨f,fd,⟨q0s X G a,F⟩,⟨cc,e1,q2B KB e2⟩,ng _ hl,hB _ hl,Rl hl λa ha b hb e=>To nd ha hb e⟩
def Ck(K:vS)(x:J)(i:Int):Prop:=∃u,Zd K mainGlobals x=U (U u)/\RelV (.int i) u
theorem Ck.v{P:t}{w:ω}{base:I}{x:J}{i:Int}(d:Ck K x i)(X:K.In h)(G:h.Ns mainGlobals mg):Ct ⟨P,w,K,mg,base⟩ x i :=
 let⟨u,a,r⟩:=d
 ⟨u,q0s X G a,r⟩
noncomputable def CP:-J:=["len", "range", "list", "tuple", "set", "sorted", "min", "max", "sum", "all", "any", "enumerate", "zip", "isinstance", "int", "bool", "str", "repr"]
theorem Tp(X:K.In h)(G:h.Ns mainGlobals mg)(N:∀x∈CP,Zd K mainGlobals x=U Z):BT mg :=
 have n:∀i x,CP[i]?=U x->mg x=Z:=λi x e=>PySem.W.mg_none_of X G (N x (Yl e))
 ⟨n 0 _ Y,n 1 _ Y,n 2 _ Y,n 3 _ Y,n 4 _ Y,n 5 _ Y,n 6 _ Y,n 7 _ Y,n 8 _ Y,n 9 _ Y,n 10 _ Y,n 11 _ Y,n 12 _ Y,n 13 _ Y,n 14 _ Y,n 15 _ Y,n 16 _ Y,n 17 _ Y⟩
end
end LJ
namespace L2
open PySem PySem.Spec PyProof.Rows
variable[aM]
section
variable{F F' H H':Hp}{ad aG:-O}{δ δ':aJ}{σ σ':St}
end
section
variable{X:Cx}{a b e:M}{es:-M}{f:WE}{fa:WA}{t:WT}{pos:y}
end
end L2
namespace LJ
open PySem L2 PySem.Spec PySem.W PyProof.Rows
section
variable[aM]{X:Cx}{k j n:Nat}{x:J}{ps:-J}{p pos:y}{e:M}{es:-M}{fa:WA}{G:GD}
end
end LJ
namespace L2
open PySem PySem.Spec PyProof.Rows
variable[aM]{X:Cx}
end L2
namespace LJ
open PySem L2
variable[aM]
inductive CS (ys:-DV) (ar:-OV) (K:RV->-OV->Prop):Prop
 |mk (m:Int) (s:Stt) (n p:Int) (_:bo m s) (_:(0<=n/\n<(↑s.1:Int))) (_:ys=[.p (dm m s),.p (.int n),.p (.int p)]) (_:ar=[]) (_:K (.p (dm m (bS s.1 n p,s.2))) [])
def CT:WS:=(aw (j8 (d2 (aa 0) (dC (.int 0)) a5) (oN 2 (jI (b7 3) (jI (b7 4) mV)))) (aR (bz (aq (bz (aq (aa 3) (aq (d2 (d2 (gy (aa 4) gx (l5 (aa 1))) (bz (aq (d2 (gy (d2 (aa 4) (aa 1) a5) gx (l5 (dC (.int 2)))) (bz (aq (aa 2) ai)) cS) ai)) cS) (gy (aa 4) (l5 (d2 (aa 1) (dC (.int 1)) cS)) gx) cS) ai))) (aq (d2 (aa 0) (dC (.int 1)) a5) ai)))))
theorem Tq:Sem 3 2 CS CT:=by
 ext ys ar K'-⟨m,⟨ws,sh⟩,n,p,O,hn,rfl,rfl,k⟩;let W:=O.d7;let lB:=W.fR;dsimp only at W lB hn k;let⟨y,ey,hy,ea,_⟩:=kc W hn.1 hn.2;let⟨t,rfl⟩:=q0E hn.1;let ht:t<↑ws:=by symm
 let f1:=Ik (ds:=ws.map aX) (t:=t) (by rw[pR];symm);let f2:cutD (ws.map aX) (U ((t:Int)+1)) Z=(ws.map aX).drop (t+1):=Ij (ds:=ws.map aX) (t:=t+1) (by rw[pR];symm);let l1:↑((ws.map aX).take t)=t:=by rw[Yb,pR];symm
 let l2:↑((ws.map aX).drop (t+1))=↑ws-(t+1):=by rw[Zu,pR]
 let Tr:vk ws (t:Int)=y:=ey
 let e3:(ws.map aX).take t++[D.tup [.int y.1,.int y.2.1,.int p]]++(ws.map aX).drop (t+1)=(bS ws t p).map aX:=by
  unfold bS;rw[Tr,XZ,q0F,XI ht,XY,X0,q2O,q2P,ZE];rfl
 unfold dm aN at k;rw[<-e3] at k;unfold CT dm aN;generalize hA:(ws.map aX).take t=A at f1 l1 k;generalize hB:(ws.map aX).drop (t+1)=B at f2 l2 k;generalize hV:ws.map aX=V at ea f1 f2 ⊢;calc a_ λN hN=>?_;simp![dj];subst hN;unfold aR bz;calc jo λK2 ve=>?_;simp![ea,f1,f2,aX,B5];calc⟨⋯,⋯,?_⟩;subst ve;simp![c_];calc eM k
inductive Turn (m:Int):-Stt->Stt->-Stt->Stt->D->Prop
 |back (ps:-Stt) (s s':Stt):Turn m (ps++[s']) s ps s' (.tup [.str "back"])
 |price (ps:-Stt) (s:Stt) (n p:Int) (hn:0<=n/\n<(↑s.1:Int)) (hp:0<=p/\p<=1000000000):Turn m ps s (ps++[s]) (bS s.1 n p,s.2) (.tup [.str "price",.int n,.int p])
 |free (ps:-Stt) (s:Stt) (n:Int) (hn:0<=n/\n<(↑s.1:Int)) (h:n∈s.2):Turn m ps s (ps++[s]) (s.1,iK s.2 n) (.tup [.str "free",.int n])
 |close (ps:-Stt) (s:Stt) (n:Int) (hn:0<=n/\n<(↑s.1:Int)) (h:n∉s.2):Turn m ps s (ps++[s]) (s.1,sortI (s.2++[n])) (.tup [.str "close",.int n])
theorem Turn.ok{m:Int}{ps dS:-Stt}{s s':Stt}{d:D}(h:Turn m ps s dS s' d)(O:bo m s)(Os:∀t∈ps,bo m t):bo m s'/\(∀t∈dS,bo m t)/\↑dS<=↑ps+1:=by
 cases h with
 |back=>exact⟨Os _ (by simp),λt ht=>Os t (Yj _ ht),by simp;symm⟩
 |price _ _ n p hn hp=>exact⟨⟨Ir O.d7 hn hp,Iu O.sh⟩,λt ht=>(Yc.mp ht).elim (Os t) λe=>by rw[X1.mp e];calc O,by simp⟩
 |free _ _ n hn h=>exact⟨⟨O.d7,vB O.sh⟩,λt ht=>(Yc.mp ht).elim (Os t) λe=>by rw[X1.mp e];calc O,by simp⟩
 |close _ _ n hn h=>calc⟨⟨O.d7,Iv O.sh hn h⟩,λt ht=>(Yc.mp ht).elim (Os t) λe=>by rw[X1.mp e];calc O,by simp⟩
inductive CU (C:O) (ys:-DV) (ar:-OV) (K:RK->-OV->-OV->Prop):Prop
 |mk (a b:O) (m:Int) (s s':Stt) (ps dS:-Stt) (ch:D) (_:Turn m ps s dS s' ch) (_:bo m s) (_:(∀t∈ps,bo m t)) (_:↑ps<900) (_:ys=[.w a,.p ch]) (_:ar=[kO C a b m s,pO b m ps]) (_:∀ns bO,aK (a8 s) ns->aK (a8 s') bO->K (.p (jR (bB m s ns) (bB m s' bO))) [kO C a b m s',pO b m dS] [])
def CV(c_Keeper:O):WS:=(aw (bA (dT (d2 (d2 (aa 1) (dC (.int 0)) a5) (dC (.str "price")) oEq)) (aR (az ι c_Keeper "price" 3 (CA c_Keeper) (aa 0) (aq (d2 (aa 1) (dC (.int 1)) a5) (aq (d2 (aa 1) (dC (.int 2)) a5) ai)))) dz) (aw (bA (dT (d2 (d2 (aa 1) (dC (.int 0)) a5) (dC (.str "back")) oEq)) (aR (az ι c_Keeper "back" 1 (xH c_Keeper) (aa 0) ai)) dz) (aR (rh (dT (d2 (d2 (aa 1) (dC (.int 0)) a5) (dC (.str "close")) oEq)) (az ι c_Keeper "close" 2 (CD c_Keeper) (aa 0) (aq (d2 (aa 1) (dC (.int 1)) a5) ai)) (az ι c_Keeper "free" 2 (CG c_Keeper) (aa 0) (aq (d2 (aa 1) (dC (.int 1)) a5) ai))))))
theorem Tt(C:ξ):∀ys ar K',↑ys=2->CU C ys ar K'->CV C (ag ↑ar K') ⟨ys.map U++My 0 Z,ar.map U⟩:=by
 ext ys ar K'-⟨a,b,m,s,s',ps,dS,ch,T,O,Os,hl,rfl,rfl,k⟩;let e1:aQ (.str "price") (.str "price")=θ:=h8 _;let e2:aQ (.str "back") (.str "price")=ι:=Y;let e3:aQ (.str "back") (.str "back")=θ:=h8 _;let e4:aQ (.str "free") (.str "price")=ι:=Y;let e5:aQ (.str "free") (.str "back")=ι:=Y;let e6:aQ (.str "free") (.str "close")=ι:=Y;let e7:aQ (.str "close") (.str "price")=ι:=Y;let e8:aQ (.str "close") (.str "back")=ι:=Y;let e9:aQ (.str "close") (.str "close")=θ:=h8 _;unfold CV;refine a_ λN hN=>?_
 cases T with
 |price _ _ n p hn hp =>
  simp![af,aj,aD,toF,az,aB,aE,ak,aF,FV.v,ag,mJ,pP,dj,e1,c_,at2];calc⟨⟨a,0,_,Y,Y,Y⟩,[(0,kO C a b m s),(1,pO b m ps)],⟨Y,Y,trivial⟩,?_⟩;simp![af,aj,aD,toF,az,aB,aE,ak,aF,FV.v,ag,mJ,pP];calc⟨a,b,m,s,ps,n,p,O,hn,hp,hl,Y,Y,λns bO ho dq=>?_⟩;simp![af,aj,aD,toF,az,aB,aE,ak,aF,FV.v,ag,mJ,pP];exact kM (k ns bO ho dq)
 |back =>
  simp![af,aj,aD,toF,az,aB,aE,ak,aF,FV.v,ag,mJ,pP,dj,e2];subst hN;calc a_ λN hN=>?_;simp![af,aj,aD,toF,az,aB,aE,ak,aF,FV.v,ag,mJ,pP,dj,e3];calc⟨⟨a,0,_,Y,Y,Y⟩,[(0,kO C a b m s),(1,pO b m (dS++[s']))],⟨Y,Y,trivial⟩,?_⟩;simp![af,aj,aD,toF,az,aB,aE,ak,aF,FV.v,ag,mJ,pP];calc⟨a,b,m,s,s',dS,O,Os _ (by simp),by simp at hl;symm,Y,Y,λns bO ho dq=>?_⟩;simp![af,aj,aD,toF,az,aB,aE,ak,aF,FV.v,ag,mJ,pP];exact kM (k ns bO ho dq)
 |free _ _ n hn h =>
  simp![af,aj,aD,toF,az,aB,aE,ak,aF,FV.v,ag,mJ,pP,dj,e4];subst hN;calc a_ λN hN=>?_;simp![af,aj,aD,toF,az,aB,aE,ak,aF,FV.v,ag,mJ,pP,dj,e5];subst hN;simp![af,aj,aD,toF,az,aB,aE,ak,aF,FV.v,ag,mJ,pP,dj,e6,c_];calc⟨⟨a,0,_,Y,Y,Y⟩,[(0,kO C a b m s),(1,pO b m ps)],⟨Y,Y,trivial⟩,?_⟩;simp![af,aj,aD,toF,az,aB,aE,ak,aF,FV.v,ag,mJ,pP];calc⟨a,b,m,s,ps,n,O,hn,h,hl,Y,Y,λns bO ho dq=>?_⟩;simp![af,aj,aD,toF,az,aB,aE,ak,aF,FV.v,ag,mJ,pP];exact kM (k ns bO ho dq)
 |close _ _ n hn h =>
  simp![af,aj,aD,toF,az,aB,aE,ak,aF,FV.v,ag,mJ,pP,dj,e7];subst hN;calc a_ λN hN=>?_;simp![af,aj,aD,toF,az,aB,aE,ak,aF,FV.v,ag,mJ,pP,dj,e8];subst hN;simp![af,aj,aD,toF,az,aB,aE,ak,aF,FV.v,ag,mJ,pP,dj,e9,c_];calc⟨⟨a,0,_,Y,Y,Y⟩,[(0,kO C a b m s),(1,pO b m ps)],⟨Y,Y,trivial⟩,?_⟩;simp![af,aj,aD,toF,az,aB,aE,ak,aF,FV.v,ag,mJ,pP];calc⟨a,b,m,s,ps,n,O,hn,h,hl,Y,Y,λns bO ho dq=>?_⟩;simp![af,aj,aD,toF,az,aB,aE,ak,aF,FV.v,ag,mJ,pP];calc kM (k ns bO ho dq)
theorem CW{l:-D}{x:D}:eU (l++[x]) (-1)=U x:=by
 unfold eU jB;rw[WK (by decide),XI (by rw[Fs];simp;symm)];let:((-1:Int)+(↑(l++[x]):Nat)).toNat=↑l:=by rw[Fs];simp;symm
 rw[this];calc q0_
theorem IH{l:-D}{x:D}:cutD (l++[x]) Z (U (-1))=l:=by
 show((l++[x]).drop 0).take ((if(-1:Int)<0 then((-1:Int)+(↑(l++[x]):Nat)).toNat else min (-1:Int).toNat ↑(l++[x]))-0)=l;rw[XI (by decide)];let:((-1:Int)+(↑(l++[x]):Nat)).toNat=↑l:=by rw[Fs];simp;symm
 rw[this,q1n,q3p,List.take_left]
theorem CY:eC 10 9:=by unfold eC;decide
theorem Tu{a b c d e f k:Int}(h:0<=k/\k<6):∃p,eU [D.int a,D.int b,D.int c,D.int d,D.int e,D.int f] k=U (.int p)/\(p=a\/p=b\/p=c\/p=d\/p=e\/p=f):=by
 let⟨t,rfl⟩:=q0E h.1;let ht:t<6:=by symm
 match t,ht with
 |0,_=>exact⟨a,jC Y,by simp⟩
 |1,_=>exact⟨b,jC Y,by simp⟩
 |2,_=>exact⟨c,jC Y,by simp⟩
 |3,_=>exact⟨d,jC Y,by simp⟩
 |4,_=>exact⟨e,jC Y,by simp⟩
 |5,_=>calc⟨f,jC Y,by simp⟩
inductive Tv (ys:-DV) (ar:-OV) (K:RV->-OV->Prop):Prop
 |mk (n m:Int) (o:OV) (s:Stt) (ps:-Stt) (_:bo m s) (_:(∀t∈ps,bo m t)) (_:s.1≠[]) (_:↑ps<900) (_:ys=[.o 0,.p (.lst ((ps++[s]).map (dm m)))]) (_:ar=[o]) (_:bj n o) (_:n+20<2 ^ 30) (_:∀dS s' ch o',Turn m ps s dS s' ch->bj (n+10) o'->K (.p (.tup [.lst ((dS++[s']).map (dm m)),ch])) [o'])
def vp:WS:=(aw (aP 2 (aA 2 gz (aq (aa 0) (aq (dC (.int 8)) ai)))) (aw (aP 3 (aA 2 gz (aq (aa 0) (aq (dC (.int 6)) ai)))) (aw (j8 (d2 (aa 1) (d1 (dC (.int 1)) jm) a5) (oN 2 (jI (b7 4) (jI (b7 5) mV)))) (aw (bA (kG (jg (dT (d2 (aa 2) (dC (.int 0)) oEq)) (dT (d2 (dN (aq (aa 1) ai) cm) (dC (.int 1)) (oI λi j=>.bl (l (j<i)))))) (dT (d2 (d2 (aa 4) (dC (.int 1)) a5) (bz ai) oEq))) (aR (rh (dT (d2 (dN (aq (aa 1) ai) cm) (dC (.int 1)) (oI λi j=>.bl (l (j<i))))) (bz (aq (gy (aa 1) gx (l5 (d1 (dC (.int 1)) jm))) (aq (bz (aq (dC (.str "back")) ai)) ai))) (bz (aq (aa 1) (aq (dC .non) ai))))) dz) (aw (aP 6 (aA 2 gz (aq (aa 0) (aq (dN (aq (d2 (aa 4) (dC (.int 1)) a5) ai) cm) ai)))) (aw (aP 7 (d2 (d2 (d2 (aa 4) (dC (.int 1)) a5) (aA 2 gz (aq (aa 0) (aq (dN (aq (d2 (aa 4) (dC (.int 1)) a5) ai) cm) ai))) a5) (dC (.int 2)) a5)) (aw (aP 8 (d2 (cN (aq (aA 2 gz (aq (aa 0) (aq (dC (.int 3)) ai))) (aq (dC (.int 7)) (aq (aA 2 gz (aq (aa 0) (aq (d2 (d2 (dC (.int 10)) (dC (.int 9)) (d4 eC λi j=>.int (i ^ j.toNat))) (dC (.int 1)) cS) ai))) (aq (d2 (dC (.int 10)) (dC (.int 9)) (d4 eC λi j=>.int (i ^ j.toNat))) (aq (aa 7) (aq (dN (aq (d2 (dC (.int 10)) (dC (.int 9)) (d4 eC λi j=>.int (i ^ j.toNat))) (aq (d2 (aa 7) (dC (.int 1)) cS) ai)) rF) ai))))))) (aa 3) a5)) (aw (bA (dT (d2 (aa 2) (dC (.int 4)) oLt)) (aR (bz (aq (d2 (aa 1) (cN (aq (aA 3 CS (aq (d2 (aa 1) (d1 (dC (.int 1)) jm) a5) (aq (aa 6) (aq (aa 8) ai)))) ai)) cS) (aq (bz (aq (dC (.str "price")) (aq (aa 6) (aq (aa 8) ai)))) ai)))) dz) (aw (bA (dT (d2 (aa 6) (aa 5) (kI ι))) (aR (bz (aq (d2 (aa 1) (cN (aq (bz (aq (aa 4) (aq (fV (cA (aa 5)) [Z,U 6] (b7 0) (dT (d2 (aa 0) (aa 1) kH)) (aa 0)) ai))) ai)) cS) (aq (bz (aq (dC (.str "free")) (aq (aa 6) ai))) ai)))) dz) (aR (bz (aq (d2 (aa 1) (cN (aq (bz (aq (aa 4) (aq (dN (aq (d2 (aa 5) (cN (aq (aa 6) ai)) cS) ai) oS) ai))) ai)) cS) (aq (bz (aq (dC (.str "close")) (aq (aa 6) ai))) ai)))))))))))))
theorem Tw:Sem 2 7 Tv vp:=by
 ext ys ar K'-⟨n,m,o,s,ps,O,Os,ne,hl,rfl,rfl,P,hn,k⟩;let lB:=O.d7.fR;let s1:1<=↑s.1:=List.length_pos_iff.mpr ne;let em:(ps++[s]).map (dm m)=ps.map (dm m)++[dm m s]:=XY;unfold vp;calc a_ λN hN=>?_;simp!;calc⟨n,8,o,Y,Y,P,⋯,⋯,by decide,λkd o1 k0 k1 P1=>?_⟩;simp!;subst hN;calc a_ λN hN=>?_;simp!;calc⟨n+1,6,o1,Y,Y,P1,⋯,⋯,by decide,λpk o2 p0 p1 P2=>?_⟩;simp!;subst hN;calc a_ λN hN=>?_;simp![em,CW,dm];subst hN;refine a_ λN hN=>jM λAy Bn hA hB=>?_
 let Tx:aQ (.tup (s.1.map aX)) (.tup [])=ι:=by
  cases q:s.1 with
  |nil=>exact absurd q ne
  |cons y r=>simp[aQ,d3]
 let dw:dep (.tup (s.1.map aX))<=60:=by erw[dep];exact q3B (Yi (B6 s.1) (by decide))
 simp![aN,c_,l9,Tx];let hb:bG (s.1.map aX)<=59:=Yi (B6 s.1) (by decide)
 let go:Bn ⟨[U (.o 0),U (.p (.lst (ps.map (dm m)++[.tup [.tup [.int m,.tup (s.1.map aX)],bC s.2]]))),U (.p (.int kd)),U (.p (.int pk)),U (.p (.tup [.int m,.tup (s.1.map aX)])),U (.p (bC s.2)),Z,Z,Z],[U o2]⟩:=by
  subst hB;simp!;subst hN;calc a_ λN hN=>?_;simp![c_];calc⟨n+1+1,↑s.1,o2,Y,Y,P2,⋯,⋯,⋯,λnum o3 m0 m1 P3=>?_⟩;simp!;subst hN;calc a_ λN hN=>?_;simp![c_];calc⟨n+1+1+1,↑s.1,o3,Y,Y,P3,⋯,⋯,⋯,λnr o4 r0 r1 P4=>?_⟩;let⟨y,ey,hy,ea,_⟩:=kc O.d7 r0 r1;simp![ea,aX,at2];let yp:=(O.d7.ends y hy).2.2.2;subst hN;calc a_ λN hN=>?_;unfold aP;calc xF λK3 lA=>?_;unfold cN;calc jo λK4 iJ=>?_;simp!;refine⟨n+1+1+1+1,3,o4,Y,Y,P4,⋯,⋯,by decide,λq1 o5 Xe Xf P5=>?_⟩
  simp!;subst iJ;dsimp only;calc jo λK4 iJ=>?_;simp!;subst iJ;dsimp only;calc jo λK4 iJ=>?_;simp!;calc⟨CY,n+1+1+1+1+1,10 ^ q1O 9+1,o5,Y,Y,P5,⋯,by decide,by decide,λq2 o6 Xg Tz P6=>?_⟩;simp!;subst iJ;dsimp only;calc jo λK4 iJ=>?_;simp!;calc⟨CY,?_⟩;subst iJ;dsimp only;calc jo λK4 iJ=>?_;simp!;subst iJ;dsimp only;calc jo λK4 iJ=>?_;simp!;calc⟨CY,?_⟩;subst iJ;simp!;subst lA;let⟨p,ep,hp⟩:=Tu (a:=q1) (b:=7) (c:=q2) (d:=10 ^ q1O 9) (e:=y.2.2) (f:=min (10 ^ q1O 9) (y.2.2+1)) ⟨p0,p1⟩
  let t9:(10:Int) ^ q1O 9=1000000000:=by decide
  let TB:0<=p/\p<=1000000000:=by
   rw[t9] at hp Tz;rcases hp with rfl|rfl|rfl|rfl|rfl|rfl<;>symm
  simp![ep];subst hN;calc a_ λN hN=>jM λA2 B2 CZ C0=>?_;simp! at ⊢;let C1:∀s':Stt,((ps++[s])++[s']).map (dm m)=ps.map (dm m)++[.tup [.tup [.int m,.tup (s.1.map aX)],bC s.2]]++[dm m s']:=λs'=>by rw[XY,XY];rfl
  let P7:bj (n+10) o6:=P6.mono ⋯;let Cq:=O.len;split
  .subst CZ
   simp![CW];calc⟨m,s,num,p,O,⟨m0,m1⟩,Y,Y,?_⟩;let:=k _ _ _ o6 (Turn.price ps s num p ⟨m0,m1⟩ TB) P7;rw[C1] at this;simp!;exact⟨⋯,[o6],Y,Y,this⟩
  .subst C0
   simp!;subst hN;calc a_ λN hN=>jM λA2 B2 CZ C0=>?_;simp![bC,qz];refine⟨kK s.2,?_⟩
   by_cases c:num∈s.2
   .rw[X7 c,XI Y]
    subst CZ;unfold aR bz;calc jo λK4 iJ=>xF λK5 TC=>?_;simp!;subst TC;simp!;refine L2.nA (λd=>l (dI d≠num)) (λd=>d) (by rw[pR];symm) trivial ?_ ?_
    .ext d hd acc L ha h1 h2
     let⟨x,hx,rfl⟩:=XM.mp hd;simp![l9];erw[dI] at h1 h2
     by_cases c:x=num
     .rw[X7 c];exact h2 (XO (q0r c))
     .rw[XO c];exact⟨ha,h1 (X7 c)⟩
    .rw[rV λx=>l (x≠num)]
     simp!;calc⟨⋯,?_⟩;subst iJ;simp!;let:=k _ _ _ o6 (Turn.free ps s num ⟨m0,m1⟩ c) P7;rw[C1] at this;exact⟨[o6],Y,Y,this⟩
   .rw[XO c,WK (by decide)]
    subst C0;simp!;subst hN;simp! at ⊢;calc⟨⋯,?_⟩;rw[show s.2.map D.int++[D.int num]=(s.2++[num]).map D.int by rw[XY];rfl];erw[oS,rA];calc⟨by rw[Fs];simp;symm,?_⟩;let:=k _ _ _ o6 (Turn.close ps s num ⟨m0,m1⟩ c) P7;rw[C1] at this;exact⟨⋯,[o6],Y,Y,this⟩
 split
 .split
  .rename_i h1 h2
   let h2:=YQ h2;let⟨C2,s0,rfl⟩:∃C2 s0,ps=C2++[s0]:=⟨ps.dropLast,ps.getLast (λz=>by subst z;simp at h2),(q04 _).symm⟩;subst hA;let:=k _ _ _ o2 (Turn.back C2 s s0) (P2.mono ⋯);simp![IH];rw[XI (X7 ⋯)];exact⟨[o2],Y,Y,this⟩
  .exact⟨hb,go⟩
 .calc⟨hb,go⟩
theorem TF(L:-(-Int)):dep (xa L)<=60:=by
 let:=Ii L;unfold xa;erw[dep];symm
end LJ
namespace LJ
open PySem L2 PySem.Spec PySem.W PyProof.Rows
section
variable[aM]
structure Kx(K:vS)(C:O)(fs:-J):Prop where
 c:hX K C
 n:∀f∈fs,cG K C f
theorem Kx.at{K:vS}{C:O}{fs:-J}(h:Kx K C fs)(f:J)(e:‹fs.contains f=θ›):cG K C f:=h.n f (q2d.mp e)
structure Fk(V:Ev)(C:O)(k:Nat)(m:J)(ps:-J)(n:Nat)(G:GK):Prop where
 ex:∃f fd,Meth V.K C m f/\bN V.P V.w V.K V.mg V.base eV k f fd ps (kL G n)/\Binds V.K fd ps []
structure Fq(V:Ev)(k:Nat)(x:J)(ps:-J)(n:Nat)(G:GK):Prop where
 ex:∃f fd,Fn V.P V.w V.K V.mg V.base k x ps (kL G n) f fd
structure Fc(V:Ev)(C:O)(k:Nat)(x:J)(ps:-J)(n:Nat)(G:GK):Prop where
 ex:∃f fd,V.mg x=U (.ref C)/\Mk V.K C f/\bN V.P V.w V.K V.mg V.base eV k f fd ps (kL G n)/\Binds V.K fd ps []
def Dm(V:Ev)(C:O)(m q:J)(st:R):Prop:=∃f fd,Meth V.K C m f/\fF V.K m q st f fd
def Dc(V:Ev)(C:O)(x q:J)(st:R):Prop:=∃f fd,(V.mg x=U (.ref C)/\Mk V.K C f)/\fF V.K "__init__" q st f fd
section
variable{X:Cx}{C:O}{x m:J}{ps:-J}{G:GK}{e o:M}{es:-M}{fa:WA}{fo:WE}{p pos apos:y}{j k n:Nat}
theorem nX(r:Bool)(F:Fq ⟨X.prog,X.w,X.K,X.mg,X.base⟩ j x ps n G)(hr:a6 k X.A)(ha:JA X (e::es) (b_ fa))(hj:‹q2u j k=θ›)(hg:‹Gl X x›)(cV: ~~~(bL x))(he:‹cj X e es›)(cw:‹cF X pos es›):
  JE X (.Call (.Name x p) (e::es) [] pos) (tD (aB r n G fa)):=let⟨_,_,F⟩:=F.ex;Su r F.ok (hr.mono (Y8 hj)) hg F.t7 F.kp F.bd ha cV he cw
theorem C3(F:Fc ⟨X.prog,X.w,X.K,X.mg,X.base⟩ C j x ps n G)(hr:a6 k X.A)(ha:JA X (e::es) (b_ fa))(hj:‹q2u (j+1) k=θ›)(hg:‹Gl X x›)(cV: ~~~(bL x))(he:‹cj X e es›)(cw:‹cF X pos es›):
  JE X (.Call (.Name x p) (e::es) [] pos) (tD (aE C n G fa)):=let⟨_,_,a,M,F,B⟩:=F.ex;Sz M F (hr.mono (Y8 hj)) hg a B ha cV he cw
theorem fJ {pl:q4W Bool} (r:Bool) (c:hX X.K C) (F:Fk ⟨X.prog,X.w,X.K,X.mg,X.base⟩ C j m ps n G) (hr:a6 k X.A) (ho:JE X o (tD fo)) (ha:JA X (e :: es) (b_ fa)) (hj:‹q2u j k=θ›)
  (fU:‹cj X e es›) (cw:‹cF X pos es›)
  (ht:‹eval (.Call (.Attribute o m apos) (e :: es) [] pos) X.env=(do
   let ov <- eval o X.env
   standAt apos.atName
   let (f,first) <- holding [ov] (getMethod ov m pl)
   callWith pos f first (backTo pos (starEach (e :: es) X.env)) (backToKw pos (keywordEach [] X.env)))›) :
  JE X (.Call (.Attribute o m apos) (e :: es) [] pos) (tD (az r C m n G fo fa)):=let ⟨_,_,M,F,B⟩:=F.ex; Sw r c M F (hr.mono (Y8 hj)) B ho ha fU cw ht
theorem g6 {pl:q4W Bool} (r:Bool) (c:hX X.K C) (F:Fk ⟨X.prog,X.w,X.K,X.mg,X.base⟩ C j m ps n G) (hr:a6 k X.A) (ho:JE X o (tD fo)) (hj:‹q2u j k=θ›)
  (ht:‹eval (.Call (.Attribute o m apos) [] [] pos) X.env=(do
   let ov <- eval o X.env
   standAt apos.atName
   let (f,first) <- holding [ov] (getMethod ov m pl)
   callWith pos f first (backTo pos (starEach [] X.env)) (backToKw pos (keywordEach [] X.env)))›) :
  JE X (.Call (.Attribute o m apos) [] [] pos) (tD (az r C m n G fo ai)):=let ⟨_,_,M,F,B⟩:=F.ex; Sx r c M F (hr.mono (Y8 hj)) B ho ht
end
def kr(x q:J)(st:R)(ps:-J):Prop:=∀(kV doc pm:L)(an:Option O)(a9 ct:L)(us:-L),↑us=↑ps->bindArgs (YA x q (i_ st) (fE st) (bW st) .none kV doc pm an a9 ct) ⟨us,[]⟩=pure (ps.zip us)
theorem rW{x q:J}{st:R}{ps:-J}(h:‹∀(kV doc pm:L) (an:Option O) (a9 ct a:L),bindArgs (YA x q (i_ st) (fE st) (bW st) .none kV doc pm an a9 ct) ⟨[a],[]⟩=pure (ps.zip [a])›)(hl:‹↑ps=1›):kr x q st ps:=λkV doc pm an a9 ct us hu=>by
 let⟨a,rfl⟩:=CM (hu.trans hl);calc h kV doc pm an a9 ct a
theorem xK{x q:J}{st:R}{ps:-J}(h:‹∀(kV doc pm:L) (an:Option O) (a9 ct a b:L),bindArgs (YA x q (i_ st) (fE st) (bW st) .none kV doc pm an a9 ct) ⟨[a,b],[]⟩=pure (ps.zip [a,b])›)(hl:‹↑ps=2›):kr x q st ps:=λkV doc pm an a9 ct us hu=>by
 let⟨a,b,rfl⟩:=CN (hu.trans hl);calc h kV doc pm an a9 ct a b
theorem C4{x q:J}{st:R}{ps:-J}(h:‹∀(kV doc pm:L) (an:Option O) (a9 ct a b c:L),bindArgs (YA x q (i_ st) (fE st) (bW st) .none kV doc pm an a9 ct) ⟨[a,b,c],[]⟩=pure (ps.zip [a,b,c])›)(hl:‹↑ps=3›):kr x q st ps:=λkV doc pm an a9 ct us hu=>by
 let⟨a,b,c,rfl⟩:=IG (hu.trans hl);calc h kV doc pm an a9 ct a b c
section
variable{V:Ev}{C:O}{x m q:J}{st:R}{N ps:-J}{k:Nat}{G:GK}
abbrev C5(V:Ev)(N ps:-J)(q:J)(st:R)(k:Nat)(G:GK):Prop:=∀{a9:L}{A:Β}{outer:-u}{s:ο}{H:Hp}{E:XK}{f:O},a6 k (A.deeper (envOfC q (bW st) ⇑s f a9))->N.Nodup->(A.deeper (envOfC q (bW st) ⇑s f a9)).units+64<cLine →
   ∃B:WS,c6 (b8 eV V.P V.w V.K V.mg V.base N q (bW st) f a9 A outer s H E).kz (fE st) (cY B)/\∀ys ar K',↑ys=↑ps->G ys ar K'->B (ag ↑ar K') ⟨ys.map U++My (↑N-↑ps) Z,ar.map U⟩
theorem lG(D:Dm V C m q st)(bd:kr m q st ps)(h:C5 V N ps q st k G)(sc:autoParam (nW N ps (bW st)=θ) qz3._auto_1):Fk V C (k+1) m ps ↑ps G :=
 let⟨f,fd,a,F⟩:=D
 ⟨f,fd,a,F.B7 (d8 sc) λa9 A outer s H E hr=>h hr (d8 sc).nd hr.units,F.binds bd⟩
theorem TH(D:Dc V C x q st)(bd:kr "__init__" q st ps)(h:C5 V N ps q st k G)(sc:autoParam (nW N ps (bW st)=θ) qz3._auto_1):Fc V C (k+1) x ps ↑ps G :=
 let⟨f,fd,a,F⟩:=D
 ⟨f,fd,a.1,a.2,F.B7 (d8 sc) λa9 A outer s H E hr=>h hr (d8 sc).nd hr.units,F.binds bd⟩
theorem C6(D:Dx V x st)(bd:kq x st ps)(h:C5 V N ps x st k G)(sc:autoParam (nW N ps (bW st)=θ) qz3._auto_1):Fq V (k+1) x ps ↑ps G :=
 let⟨f,fd,a,F⟩:=D
 ⟨f,fd,F.B7 (d8 sc) λa9 A outer s H E hr=>h hr (d8 sc).nd hr.units,a,F.kp,F.binds bd⟩
end
end
inductive g7 (K:vS) (C:O):-(J×J×R)->Prop
 |nil:g7 K C []
 |cons {m q st r}:(∃f fd,Meth K C m f/\fF K m q st f fd)->g7 K C r->g7 K C ((m,q,st)::r)
theorem allM{K:vS}{C:O}{m q:J}{st:R}{r:-(J×J×R)}{f:O}{od an:Option O}{sl:Array (Option L)}{oc kV dc pm cd ct:L}(a:YW K (.ref C) m=U (U (.ref f)))(i:q1W K (.ref f)=θ)(l:K.lookup f=U ⟨oc,od,.func (YA m q (i_ st) (fE st) (bW st) .none kV dc pm an cd ct),sl⟩)(c:q0i K cd q=θ)(k:Yt K (.ref f)=θ)(h:g7 K C r):g7 K C ((m,q,st)::r) :=
 .cons ⟨f,_,⟨a,i,k⟩,vT l c k⟩ h
theorem g7.at{K:vS}{C:O}{ds:-(J×J×R)}(h:g7 K C ds)(i:Nat){m q:J}{st:R}(e:ds[i]?=U (m,q,st)):∃f fd,Meth K C m f/\fF K m q st f fd:=by
 induction h generalizing i with
 |nil=>cases e
 |cons d _ ih=>cases i with
  |zero=>cases e;exact d
  |succ i=>calc ih i e
end LJ
namespace L2
open PySem PySem.Spec PyProof.Rows
def lH(h:I)(a C:O)(dx T:Option O)(fl:L):Prop :=
 ∃vs sl,h.get? a=U ⟨.ref C,dx,.fields vs,sl⟩/\vs[1]?=U (T.elim Yk Yg)/\∀t,T=U t->t≠a/\∃oT ts,h.get? t=U oT/\oT.data=.fields ts/\ts[3]?=U fl
structure lI(fs:-O)(a:O)(T:Option O)(h h':I):Prop where
 keep:∀b o,b≠a->U b≠T->b∉fs->h.get? b=U o->h'.get? b=U o
 slot:∀b o,b≠a->U b≠T->h.get? b=U o->∃sl,h'.get? b=U {o with slots:=sl}
section
variable{M:Model}{A:q}{E:bc}{s:B}{env:u}{outer:-u}{base:I}{L a C:O}{dx T:Option O}{Q:Unit->B->Prop}
theorem II{head:ν}{hn:Bool}{vs:Array ν}{sl:Array (Option ν)}(kC:A.frames=U (env::outer))(hl:s.heap.FunFrames base (env::outer))(hf:env.frame=U L)
  (he:s.heap.get? a=U ⟨.ref C,dx,.fields vs,sl⟩) (hsz:1<vs.size)
  (h:∀h' T',lH h' a C dx (U T') (rawInt L)->s.heap.get? T'=Z->lI (e_ (env::outer)) a Z s.heap h'->Q () {s with heap:=h'}) :
  G M A (do let x <- frameOf env;let pl <- entryPlaceOf L hn;let b <- q2C head x .none (rawInt L) .none pl;setField (.ref a) 1 b) Q E s:=by
 let na:a∉(env::outer).filterMap (·.frame):=λhm=>by
  let⟨_,o,ho,nf⟩:=hl.mem hm;rw[he] at ho;cases ho;exact nf vs Y
 calc tH (wpAny_frameOf_fun kC hl hf λh1 e1=>?_);calc tH (wpAny_entryPlaceOf λpl cw=>?_);unfold q2C newFields;calc tH (Yu ?_ (cw.sizeOk5 _ _ _ _ _));let rS:=(e1.2.1 a na).trans he;calc q1o (zk _ rS) Y hsz ?_;let nT:h1.objs.size≠a:=ZZ (WJ rS)
 let keep:∀b o,b≠a->h1.get? b=U o->∀ob f,((h1.push ob).update a f).get? b=U o:=λb o n e ob f=>by
  rw[Zo _ _ (Zl n)];exact zk _ e
 refine h _ h1.objs.size ⟨_,_,Y6 _ (zk _ rS) Y,?_,λt e=>?_⟩ ?_ ⟨λb o n _ nf e=>?_,λb o n _ e=>?_⟩
 .show (vs.setIfInBounds 1 (Yg h1.objs.size))[1]?=_
  simp[hsz]
 .cases e
  refine⟨nT,_,_,(Zo _ _ (Zl nT)).trans (WL h1 Y),Y,?_⟩
  first|(simp;done)|(rcases cw with rfl|⟨_,_,_,_,_,_,_,rfl⟩<;>simp)
 .rw[q2o]
  rw[e1.1];exact Fm _
 .exact keep b o n ((e1.2.1 b nf).trans e) _ _
 .let⟨qL,e'⟩:=e1.2.2 b o e
  calc⟨qL,keep b _ n e' _ _⟩
theorem C7{t:O}{fl:ν}(f:lH s.heap a C dx (U t) fl)(h:∀h',lH h' a C dx (U t) .none->lI [] a (U t) s.heap h'->Q () {s with heap:=h'}):
  G M A (setFlight (.ref a) Z) Q E s:=by
 let⟨vs,sl,ea,e1,r⟩:=f;let⟨n,oT,ts,et,ed,e3⟩:=r t Y;let h3:=(YT.mp e3).1;let o:∀b,b≠t->(s.heap.update t (q4J (·.setIfInBounds 3 .none))).get? b=s.heap.get? b:=λb nb=>Zo _ _ (Zl nb);refine wpAny_setFlight_none ea Y e1 et ed h3 (h _ ⟨vs,sl,(o a (Zl n)).trans ea,e1,λt' e=>?_⟩ ⟨λb u _ nb _ e=>?_,λb u _ nb e=>⟨u.slots,?_⟩⟩)
 .cases e
  exact⟨n,_,_,Y6 _ et (q0R (Z2 ed _)),Z2 ed _,by simp[h3]⟩
 .exact (o b λz=>nb (by rw[z])).trans e
 .calc (o b λz=>nb (by rw[z])).trans e
theorem IJ(kC:A.frames=U (env::outer))(hl:s.heap.FunFrames base (env::outer))(hf:env.frame=U L)(f:lH s.heap a C dx T .none)
  (h:∀h' T',lH h' a C dx (U T') (rawInt L)->s.heap.get? T'=Z->lI (e_ (env::outer)) a T s.heap h'->Q () {s with heap:=h'}):G M A (noteFrame (.ref a) env) Q E s:=by
 let⟨vs,sl,ea,e1,r⟩:=f;let hz:=(YT.mp e1).1;unfold noteFrame;erw[hf];refine tH (ZA ea Y e1 ?_)
 cases T with
 |none =>
  rw[show(Z:Option O).elim Yk Yg=Yk from Y,WK (by decide)];exact II kC hl hf ea hz h
 |some t =>
  let⟨n,oT,ts,et,ed,e3⟩:=r t Y;let h3:=(YT.mp e3).1;rw[show(U t).elim Yk Yg=Yg t from Y,XI (show(Yg t != Yk)=θ from by simp)];calc tH (ZA et ed e3 ?_);rw[WK (show ¬ ((Yk==rawInt L)=θ) from by simp[rawInt])];calc tH (q1o et ed h3 ?_);let o:∀b,b≠t->(s.heap.update t (q4J (·.setIfInBounds 3 Yk))).get? b=s.heap.get? b:=λb nb=>Zo _ _ (Zl nb);refine II kC (hl.of_keeps λb u e nf=>⟨u,(o b λz=>?_).trans e,Y⟩) hf ((o a (Zl n)).trans ea) hz λh' T' x1 x2 x3=>h h' T' x1 ?_ ⟨λb u na nb nf e=>x3.keep b u na (by simp) nf ((o b λz=>nb (by rw[z])).trans e),λb u na nb e=>x3.slot b u na (by simp) ((o b λz=>nb (by rw[z])).trans e)⟩
  .rw[z,et] at e;cases e
   exact nf ts ed
  .by_cases z:T'=t
   .rw[z,Y6 _ et (q0R (Z2 ed _))] at x2;cases x2
   .calc (o T' z).symm.trans x2
theorem TJ(kC:A.frames=U (env::outer))(hl:s.heap.FunFrames base (env::outer))(hf:env.frame=U L)(f:lH s.heap a C dx T .none)
  (h:∀h' T',lH h' a C dx (U T') .none->s.heap.get? T'=Z->lI (e_ (env::outer)) a T s.heap h'->Q () {s with heap:=h'}):G M A (leaving env (.ref a)) Q E s:=by
 unfold leaving;refine tH (IJ kC hl hf f λh1 T' x1 x2 x3=>C7 x1 λh2 y1 y2=>h h2 T' y1 x2 ⟨λb o na nb nf e=>?_,λb o na nb e=>?_⟩)
 .exact y2.keep b o na (λz=>by cases z;rw[x2] at e;cases e) (by simp) (x3.keep b o na nb nf e)
 .let⟨sl,e'⟩:=x3.slot b o na nb e
  calc⟨sl,y2.keep b _ na (λz=>by cases z;rw[x2] at e;cases e) (by simp) e'⟩
end
def iL(P:t)(w:X):jW:=λouter H s E e s'=>∃(a C:O)(dx:Option O)(T:O)(H':Hp),e=.ref a/\s'.os=s.os/\AllBare s'.gens/\Un (e_ outer) [] H H' s.heap s'.heap/\c5 P w H' s'.heap ∧
 lH s'.heap a C dx (U T) .none/\H' a=Z/\H' T=Z/\s.heap.get? a=Z/\s.heap.get? T=Z/\E (.ref C) dx H'
section
variable{X:Cx}{P:t}{w:ω}{K:vS}{mg:J->Option L}{base:I}{N:-J}{qual:J}{scope:o}{f:O}{cd:L}{A:q}{outer:-u}{s:B}{H:Hp}{E:XK}
theorem Un.vq{fs:-O}{H H':Hp}{h g h':I}{a:O}{T:Option O}(u:Un fs [] H H' h g)(na:∀o,h.get? a=U o->H a=Z->False)(nT:∀t,T=U t->h.get? t=Z)(ea:∃o,h'.get? a=U o)(x:lI fs a T g h')(ha:H' a=Z)(fr:∀b∈fs,H' b=Z):Un fs [] H H' h h' where
 keep:=λb o e n nf nx=>x.keep b o (λz=>by subst z;calc na o e n) (λz=>by rw[nT b z.symm] at e;cases e) nf (u.keep b o e n nf nx)
 slot:=λb o e n nf nx=>by
  let⟨sl,e1⟩:=u.slot b o e n nf nx;let⟨qL,e2⟩:=x.slot b _ (λz=>by subst z;calc na o e n) (λz=>by rw[nT b z.symm] at e;cases e) e1;exact⟨qL,e2⟩
 free:=u.free
 there:=λb o e nx=>by
  let⟨o1,e1⟩:=u.there b o e nx
  by_cases c:b=a
  .rw[c];exact ea
  .let⟨sl,e2⟩:=x.slot b o1 c (λz=>by rw[nT b z.symm] at e;cases e) e1
   exact⟨_,e2⟩
 df:=u.df
 eY:=u.eY
 eZ:=u.eZ
 eu:=λb xs o q e nx=>x.keep b o (λz=>by subst z;rw[u.df b xs q] at ha;cases ha) (λz=>by rw[nT b z.symm] at e;cases e) (λz=>by let:=fr b z;rw[u.df b xs q] at this;cases this) (u.eu b xs o q e nx)
theorem c5.vq{H':Hp}{g h':I}{fs:-O}{a:O}{T:Option O}(k:c5 P w H' g)(ha:H' a=Z)(hT:∀t,T=U t->H' t=Z)(hf:∀b∈fs,H' b=Z)(x:lI fs a T g h'):c5 P w H' h':=λb o e=>by
 let ne:∀c,(c=b\/H' c=U (.own b))->H' c≠Z:=λc hc z=>by
  rcases hc with rfl|hc
  .rw[e] at z;cases z
  .rw[hc] at z;cases z
 calc(k b o e).eW (λc v hc z=>x.keep c v (λq=>ne c hc (by rw[q];calc ha)) (λq=>ne c hc (hT c q.symm)) (λq=>ne c hc (hf c q)) z) (λc z=>z) λc xs z=>z
theorem C8{h h' base:I}:∀{l:-u},(∀b∈e_ l,∀o,h.get? b=U o->∃sl,h'.get? b=U {o with slots:=sl})->h.FunFrames base l->h'.FunFrames base l
 |[],_,_=>trivial
 |env::r,k,⟨hk,⟨L,o,hf,hn,ho,hd⟩,hr⟩=>by
  let hL:L∈e_ (env::r):=by unfold e_;rw[ZH,hf];exact NJ
  let⟨sl,e⟩:=k L hL o ho;calc⟨hk,⟨L,_,hf,hn,e,hd⟩,C8 (λb hb=>k b (by unfold e_;rw[ZH,hf];calc WH _ hb)) hr⟩
theorem TK{pins:aH}{σ:St}{H1 H':Hp}{s1 s2:B}{a C:O}{dx T:Option O}(eX:X=b8 (iL P w) P w K mg base N qual scope f cd A outer s H E)(I:Inv X pins σ H1 s1)(os:s2.os=s1.os)(ba:AllBare s2.gens)(u:Un (e_ X.stack) [] H1 H' s1.heap s2.heap)(ok:c5 P w H' s2.heap)(F:lH s2.heap a C dx T .none)
  (ha:H' a=Z) (hT:∀t,T=U t->H' t=Z/\s1.heap.get? t=Z) (na:∀o,s1.heap.get? a=U o->H1 a=Z->False) (a0:s.heap.get? a=Z) (q:E (.ref C) dx H'):X.xe (.ref a) s2:=by
 subst eX
 let fr:∀b∈e_ (envOfC qual scope ⇑s f cd::outer),H' b=Z:=λb hb=>by
  let⟨_,o,ho,_⟩:=I.stack.mem hb;exact u.free b o ho (I.eA b hb) (by simp)
 let fk:s2.heap.FunFrames base (envOfC qual scope ⇑s f cd::outer):=C8 (λb hb o e=>u.any e (I.eA b hb) (by simp)) I.stack;calc TJ (base:=base) (outer:=outer) I.ok.frames fk Y F λh' T' x1 x2 x3=>?_;let u':=u.vq na (λt e=>(hT t e).2) (by let⟨vs,sl,e,_⟩:=x1;calc⟨_,e⟩) x3 ha fr;let TM:=ok.vq ha (λt e=>(hT t e).1) fr x3;let J:=I.kU (s':={s2 with heap:=h'}) os u' TM ba (λb z=>absurd z (by simp))
 let gone:∀b,s2.heap.get? b=Z->s.heap.get? b=Z:=λb e=>by
  cases q:s.heap.get? b with
  |none=>rfl
  |some o =>
   let⟨o1,e1⟩:=I.base.there b o q (by calc Yh);let⟨o2,e2⟩:=u.there b o1 e1 (by simp);rw[e] at e2;cases e2
 refine⟨a,C,dx,T',H',Y,J.os,J.bare,J.base,J.aY,x1,ha,?_,a0,gone T' x2,q⟩
 cases z:H' T' with
 |none=>rfl
 |some o =>
  let⟨ob,e⟩:=FK (ok T' o z);rw[x2] at e;cases e
noncomputable def iM(H:Hp)(a:O):Hp:=λb=>if b=a then Z else H b
theorem rX{H:Hp}{a b:O}(n:b≠a):iM H a b=H b:=WK n
theorem Un.del{fs:-O}{H:Hp}{h:I}{a C:O}{dx:Option O}(e:H a=U (gr a C dx)):Un fs [] H (iM H a) h h where
 keep:=λ_ _ e _ _ _=>e
 slot:=λ_ o e _ _ _=>⟨o.slots,e⟩
 free:=λb o _ n _=>by
  unfold iM;split
  .rfl
  .exact n
 there:=λb o e _=>⟨o,e⟩
 df:=λb xs q=>by rw[rX (vC q e (by unfold gr;ext z;cases z))];exact q
 eY:=λb o xs q=>by rw[rX (vC q e (by unfold gr;ext z;cases z))];exact q
 eZ:=λb ps q=>⟨#[],by rw[rX (vC q e (by unfold gr;ext z;cases z)),q];simp⟩
 eu:=λb _ o _ e _=>e
theorem c5.del{H:Hp}{h:I}{a C:O}{dx:Option O}(k:c5 P w H h)(e:H a=U (gr a C dx)):c5 P w (iM H a) h:=λb o q=>by
 let nb:b≠a:=λz=>by unfold iM at q;rw[XI z] at q;cases q
 rw[rX nb] at q;let own:∀c x,H c=U x->(∀φ,x≠.ext φ)->c≠a:=λc x z n y=>by rw[y,e] at z;cases z;exact n _ Y
 calc(k b o q).eW (λc v hc z=>z) (λc z=>by rw[rX (own c _ z (by ext φ y;cases y))];calc z) λc xs z=>by rw[rX (own c _ z (by ext φ y;cases y))];calc z
theorem cI.exc{l:-L}(x:cI K l):l.contains (.type "BaseException")=θ:=by
 induction x with
 |base=>decide
 |own _ _ _ ih=>rw[q25,ih,q5l]
theorem TN{M:Model}{A:Β}{env:u}{E:bc}{s:B}{x:Sem L}{Q:Flow->B->Prop}(hh:A.handled=Z)
  (h:G M A x (λv s1=>∃a C dx k8,v=.ref a/\tV K C k8/\K.In s1.heap/\lH s1.heap a C dx Z .none/\E (.ref a) s1) E s):G M A (raiseStmt env (U x) Z) Q E s:=by
 unfold raiseStmt;calc tH (Zm h (λv s1 h1=>?_) λ_ _ z=>z);let⟨a,C,dx,k8,rfl,m,k,⟨vs,sl,ea,e1,_⟩,hE⟩:=h1;let⟨nm,q,N,bs,bm,j4,sn,sub,ab,col,dd,k0,k1,k2,k3,k5,l,t,_⟩:=m.FJ;let hC:=k _ _ l;let hB:(Yg C::bm).contains (.type "BaseException")=θ:=by rw[q25,t.exc,q5l]
 let⟨hp,g,d,tk,os⟩:=s1
 repeat(first|with_reducible refine q3s ea ?_|with_reducible refine q3s hC ?_|(with_reducible calc wpAny_isSubtype_exc hC ?_;rw[hB])|wp_step)
 rw[e1];calc NH ?_;rw[WK (by decide)];calc NH (wpAny_raiseNew_none hh hE)
def TQ(K:vS)(H0:Hp)(te:TE)(E:XK):TS:=λ_ σ H=>te σ H λv H1=>∃(a C:O)(dx:Option O)(k8:Option L),v=.ref a/\H1 a=U (gr a C dx)/\tV K C k8/\H0 a=Z/\E (.ref C) dx (iM H1 a)
theorem TR{e:M}{te:TE}{pos:y}(eX:X=b8 (iL P w) P w K mg base N qual scope f cd A outer s H E)(he:JE X e te):JS X (.Raise (U e) Z pos) (TQ X.K X.H₀ te E):=by
 calc⟨?_⟩;ext pins s1 σ H1 D I h;show G _ _ (do standAt pos;raiseStmt X.env (U (do let v <- eval e X.env;standAt pos;pure v)) Z) _ _ _;let hc:X.calm=θ:=by rw[eX];rfl
 calc tH (Z9 (TN (K:=X.K) (I.ok.hd hc) (tH (bg (he pins s1 σ H1 _ I h) λu s2 ⟨v,H2,I2,r,a,C,dx,k8,ev,ea,m,h0,q⟩=>tH (Z9 (NH ?_))))));subst ev;obtain rfl:u=Yg a:=r;let⟨t,et⟩:=N8 (I2.aY a _ ea);let F:lH s2.heap a C dx Z .none:=⟨_,_,et,Y,λ_ z=>nomatch z⟩;calc⟨a,C,dx,k8,Y,m,I2.dY,F,?_⟩;let eP:X.prog=P:=by rw[eX];rfl
 let ew:X.w=w:=by rw[eX];rfl
 let ok:=I2.aY;rw[eP,ew] at ok;calc TK eX I2 Y I2.bare (Un.del ea) (ok.del ea) F (XI Y) (λ_ z=>nomatch z) (λo _ n=>by rw[ea] at n;cases n) ?_ q;let e0:X.s₀=s:=by rw[eX];rfl
 let ex:X.ex=[]:=by rw[eX];rfl
 cases z:s.heap.get? a with
 |none=>rfl
 |some o =>
  let:=I2.base.free a o (by rw[e0];calc z) h0 (by rw[ex];calc Yh);rw[ea] at this;cases this
end
theorem lI.more{fs:-O}{a t:O}{T:Option O}{h h1 h2:I}(x:lI fs a T h h1)(n:h.get? t=Z)(y:lI [] a (U t) h1 h2):lI fs a T h h2 where
 keep:=λb o na nb nf e=>y.keep b o na (λz=>by cases z;rw[n] at e;cases e) (by simp) (x.keep b o na nb nf e)
 slot:=λb o na nb e=>by
  let⟨sl,e'⟩:=x.slot b o na nb e;calc⟨sl,y.keep b _ na (λz=>by cases z;rw[n] at e;cases e) (by simp) e'⟩
section
variable{X:Cx}{pins cB:aH}{σ:St}{H:Hp}{s:B}{E:bc}
theorem Inv.vt(I:Inv X pins σ H s):Inv {X with pn:=X.pn++pins,xe:=E} [] σ H s :=
 ⟨⟨I.ok.mod,I.ok.kind,I.ok.glob,I.ok.blt,I.ok.above,I.ok.inj,I.ok.has,I.ok.mw,I.ok.hd,I.ok.frames,I.ok.pz,I.ok.sx,I.ok.bs,I.ok.kx,I.ok.gL,I.ok.iW,I.ok.dG,I.ok.kR⟩,I.os,I.bare,I.base,I.loc,I.cell,I.free,I.bU,λp hp=>I.pin p hp⁻¹,I.aY,I.len⟩
theorem Inv.iN(I:Inv {X with pn:=X.pn++pins,xe:=E} cB σ H s):Inv X pins σ H s :=
 ⟨⟨I.ok.mod,I.ok.kind,I.ok.glob,I.ok.blt,I.ok.above,I.ok.inj,I.ok.has,I.ok.mw,I.ok.hd,I.ok.frames,I.ok.pz,I.ok.sx,I.ok.bs,I.ok.kx,I.ok.gL,I.ok.iW,I.ok.dG,I.ok.kR⟩,I.os,I.bare,I.base,I.loc,I.cell,I.free,I.bU,λp hp=>I.pin p (Yj _ hp),I.aY,I.len⟩
theorem Inv.toSub{A:q}(I:Inv X pins σ H s)(e:A.frames=X.A.frames):Inv {X with A:=A,calm:=false,xe:=E} pins σ H s :=
 ⟨⟨I.ok.mod,I.ok.kind,I.ok.glob,I.ok.blt,I.ok.above,I.ok.inj,I.ok.has,I.ok.mw,(λz=>by cases z),e.trans I.ok.frames,I.ok.pz,I.ok.sx,I.ok.bs,I.ok.kx,I.ok.gL,I.ok.iW,I.ok.dG,I.ok.kR⟩,I.os,I.bare,I.base,I.loc,I.cell,I.free,I.bU,I.pin,I.aY,I.len⟩
theorem Inv.jS{A:q}(I:Inv {X with A:=A,calm:=false,xe:=E} pins σ H s)(k:X.Ok):Inv X pins σ H s :=
 ⟨k,I.os,I.bare,I.base,I.loc,I.cell,I.free,I.bU,I.pin,I.aY,I.len⟩
theorem Inv.blank(I:Inv X pins σ H s):Inv X pins (My ↑σ Z) H s :=
 ⟨I.ok,I.os,I.bare,I.base,let⟨m,hn,_⟩:=I.loc;⟨m,hn,λi x v _ e _=>by rw[ZC] at e;split at e<;>cases e⟩,I.cell,I.free,I.bU,I.pin,I.aY,by rw[Zt];calc I.len⟩
end
section
variable{X:Cx}{body dX:-R}{b0:R}{x n:J}{p1 p2 pos:y}{L:O}{i:Nat}{tb:XK->TS}{th:TS}
end
section
variable{X:Cx}{pins:aH}{σ:St}{H:Hp}{s:B}{e:M}{ta:TE}{pos:y}
end
theorem fF.TU{P:ψ}{w:X}{K:vS}{mg:J->Option L}{base:I}{x qual:J}{st:R}{f:O}{fd:FuncData}{N ps:-J}{k:Nat}{sp:Sp}(F:fF K x qual st f fd)(S:kW N ps (bW st))(len:∀vs H Q E,sp vs H Q E->↑vs=↑ps)
  (du:∀(a9:L)(A:Β)(outer:-u)(s:B)(H:Hp)(vs:-V)(Q:VK)(E:XK),a6 k (A.deeper (envOfC qual (bW st) ⇑s f a9))->sp vs H Q E →
   ∃t,c6 (b8 (iL P w) P w K mg base N qual (bW st) f a9 A outer s H E) (fE st) t/\t {nx:=λ_ H'=>Q .non H',rt:=Q} (start N vs) H):bN P w K mg base (iL P w) (k+1) f fd ps sp:=by
 let⟨oc,od,kV,doc,pm,an,a9,ct,lT,rfl,lk,fS⟩:=F.ex;calc yQ lk fS S len λA outer s H vs Q E hr h=>?_;let⟨t,g,q⟩:=du a9 A outer s H vs Q E hr h;calc⟨t,g,q⟩
variable[aM]
theorem TV{H:Hp}{a:O}{o:HO}(h:H a=Z):iM (upd H a o) a=H:=by
 funext b;unfold iM upd;split
 .rename_i e;rw[e];exact h.symm
 .rfl
end L2
namespace LJ
open PySem L2
section
variable{X:Cx}{a C:O}{dx:Option O}
end
end LJ
namespace LJ
open PySem L2 PySem.Spec PySem.W PyProof.Rows
def IK(c:Nat)(n:Int)(dx:Option O)(H:Hp):Prop:=(c<4/\∃d,dx=U d/\H d=U (.xd [("place",.int n)]))\/(4<=c/\dx=Z)
section
variable[aM]
section
variable{P:t}{w:X}{K:vS}{mg:J->Option L}{base:I}{N:-J}{qual:J}{scope:o}{f:O}{cd:L}{A:q}{outer:-u}{s:B}{H:Hp}{E:XK}{Cs:-O}{c:Nat}{C:O}{x:J}{e:M}{fe:WA}{p p2 pos:y}
section
variable{X:Cx}{j k n:Nat}{ps:-J}{G:IL->GD}{es:-M}{fa:WA}
end
end
def ET(V:Ev)(Cs:-O)(c:Nat)(x:J):Prop:=4<=c/\∃C,Cs[c]?=U C/\tV V.K C Z/\V.mg x=U (.ref C)
section
variable{V:Ev}{N:-J}{qual:J}{scope:o}{f:O}{cd:L}{A:q}{outer:-u}{s:B}{H:Hp}{E:XK}{Cs:-O}{x:J}{e:M}{fe:WA}{p p2 pos:y}{k:Nat}
end
end
abbrev fx:=Nat->Int->-OV->Prop
section
variable[aM]
abbrev TX(F:Hp)(ad:-O)(ar:-OV)(H:Hp)(ows:-OV)(F' H':Hp):Prop:=va F ad ar H (.p .non) ows [] .non F' ad H'
inductive qE (Cs:-O) (G:fx->GK) (n:Nat) (vs:-V) (H:Hp) (Q:VK) (E:XK):Prop
 |mk (ok:fx) (hl:↑vs=n) (F:Hp) (ad:-O) (ys:-DV) (ar:-OV) (K:RK->-OV->-OV->Prop) (S:SR F ad ⟨ys.map U,ar.map U⟩ (vs.map U) H) (g:G ok ys ar K) (k:∀r ows news,K r ows news->∀v F' aG H',va F ad ar H r ows news v F' aG H'->Q v H')
  (x:∀c p ows,ok c p ows->∀C dx F' H',Cs[c]?=U C->TX F ad ar H ows F' H'->IK c p dx H'->E (.ref C) dx H')
@[reducible] noncomputable def nY (F0:Hp) (TY:-O) (TZ:-(Option OV)) (H0:Hp):d_:=⟨λ_ _=>False,λF ad mu H=>Ext F0 TY TZ H0 F ad mu H,λE k=>k.trans E⟩
structure qF[d_](ok:fx)(n:Nat)(Cs:-O)(E:XK)(H0:Hp):Prop where
 go:∀{c p ows C dx F ad δ σ H'},ok c p ows->↑ows=n->δ.mu.take n=ows.map U->d_.kp F ad δ.mu H'->SR F ad δ σ H'->Cs[c]?=U C->IK c p dx H'->E (.ref C) dx H'
 fr:∀{F ad mu H' a},d_.kp F ad mu H'->aM.ok H'->H' a=Z->H0 a=Z
def C9(ok:fx)(n c:Nat):WS:=λ_ δ=>∃ows:-OV,(↑ows=n/\δ.mu.take n=ows.map U)/\ok c 0 ows
section
variable{V:Ev}{N:-J}{qual:J}{scope:o}{f:O}{cd:L}{A:q}{outer:-u}{s:B}{H:Hp}{E:XK}{Cs:-O}{x:J}{e:M}{fe:WA}{p p2 pos:y}{k n c:Nat}{ok:fx}
theorem T1[d_]{t:J}(XS:ET V Cs c x)(R:qF ok n Cs E H)(he:JA (b8 (iL V.P V.w) V.P V.w V.K V.mg V.base N qual scope f cd A outer s H E) [e] (iP (tC (.str t)) gP))
  (hg:‹Gl (b8 (iL V.P V.w) V.P V.w V.K V.mg V.base N qual scope f cd A outer s H E) x›) (cV: ~~~(bL x))
  (hs:‹starEach [e] (b8 (iL V.P V.w) V.P V.w V.K V.mg V.base N qual scope f cd A outer s H E).env=(ι,eval e (b8 (iL V.P V.w) V.P V.w V.K V.mg V.base N qual scope f cd A outer s H E).env)::starEach [] (b8 (iL V.P V.w) V.P V.w V.K V.mg V.base N qual scope f cd A outer s H E).env›) (cw:‹(backTo p2 (starEach [] (b8 (iL V.P V.w) V.P V.w V.K V.mg V.base N qual scope f cd A outer s H E).env)).any (·.1)=ι›) :
  JS (b8 (iL V.P V.w) V.P V.w V.K V.mg V.base N qual scope f cd A outer s H E) (.Raise (U (.Call (.Name x p) [e] [] p2)) Z pos) (cY (C9 ok n c)):=by
 let⟨h4,C,hC,M,hm⟩:=XS;calc JS.weak ⟨TR Y (N9 M hg hm he cV hs cw)⟩ ?_;ext D σ H1 ⟨F,ad,δ,K1,S,q,k⟩;let⟨ows,⟨o1,o2⟩,o⟩:=q;calc⟨by show 1<=sizeLine;decide,λa ha=>⟨a,C,Z,Z,Y,bK,M,R.fr k.kp S.tab ha,?_⟩⟩;rw[TV ha];calc R.go o o1 o2 k.kp S hC (.inr ⟨h4,Y⟩)
end
def okIn(ok:fx)(nn:Nat)(mu:-(Option OV))(bI:-(Nat×OV)):fx:=λc p ows=>∃os:-OV,(↑os=nn/\(cC mu bI ows).take nn=os.map U)/\ok c p os
def nZ(o:Bool)(n:Nat)(G:fx->GK)(ok:fx)(nn:Nat)(xs:-DV)(δ:aJ)(K:DV->aJ->Prop):Prop:=∃es,rR δ.mu es/\match passes δ.mu xs 0 with
 |some r=>(jk (r.2++es)=θ/\↑r.1=n)/\G (okIn ok nn δ.mu (r.2++es)) r.1 ((r.2++es).map (·.2)) (if o then aF δ (r.2++es) K else ak δ (r.2++es) K)
 |none=>False
section
variable{F F1 H H0 H1:Hp}{ad aW:-O}{δ δ1:aJ}{σ:L2.St}{K:DV->aJ->Prop}{Q:VK}{xs:-DV}{vs:-V}{n nn:Nat}{G:fx->GK}{E:XK}{o:Bool}{ok:fx}{Cs:-O}
theorem T2[d_](R:qF ok nn Cs E H0)(kp:d_.kp F ad δ.mu H)(kk:∀x δ',K x δ'->∀v F' aG H',Ext F ad δ.mu H F' aG δ'.mu H'->SR F' aG δ' σ H'->dF F' aG x v->Q v H')(h1:nZ o n G ok nn xs δ1 K)(E1:Ext F ad δ.mu H F1 aW δ1.mu H1)(S1:SR F1 aW δ1 σ H1)(V1:cM F1 aW xs vs):qE Cs G n vs H1 Q E:=by
 let⟨es,he,h1⟩:=h1;split at h1
 .rename_i r hp
  let⟨⟨nd,hn⟩,h1⟩:=h1;let⟨as,al,S',l⟩:=Im S1 V1 hp he nd;refine⟨_,by rw[↑V1,<-qc hp,hn],F1,as,_,_,_,S',h1,λres ows news hk v F2 bP H2 P=>?_,λc p ows hx C dx F2 H2 hC P pl=>?_⟩
  .let⟨E2,S2,cf⟩:=l res ows news v F2 bP H2 P
   cases o with
   |false =>
    cases res with
    |p d=>exact kk _ _ hk _ _ _ _ (E1.trans E2) S2 cf
    |w a=>exact kk _ _ hk _ _ _ _ (E1.trans E2) S2 cf
    |u t fs=>exact kk _ _ hk _ _ _ _ (E1.trans E2) S2 cf
    |n ds =>
     let⟨a,us,rfl,n1,n2,n3,n4,n5⟩:=cf;calc kk _ _ hk _ _ _ _ (E1.trans (E2.adopt (o:=.lst us) n1 n3)) (S2.adopt n3 n2 n5) ?_;show Is _ (.lst ds) _;exact⟨a,us,Y,bK,n4.same (cL n3)⟩
   |true =>
    cases res with
    |p d=>exact hk.elim
    |w a=>exact hk.elim
    |u t fs=>exact hk.elim
    |n ds =>
     let⟨a,us,rfl,n1,n2,n3,n4,n5⟩:=cf;let oi:eJ F2 a (.lst ds) (.lst us):=⟨us,Y,n4⟩;calc kk _ _ hk _ _ _ _ (E1.trans (E2.cb (ov:=.lst ds) n1 S2.bX)) (S2.cb n3 n2 n5 oi) ⟨a,?_,Y⟩;let:=S2.bX;rw[<-show↑(aW++bP.drop ↑(r.2++es))=↑(cC δ1.mu (r.2++es) ows++news.map U) from this,NK (Fm _),Yv];rfl
  .let⟨os,⟨o1,o2⟩,o⟩:=hx
   let⟨E2,S2,_⟩:=l _ ows [] _ F2 as H2 P;rw[<-al,List.drop_length,mJ,Zy,mJ] at E2 S2;exact R.go o o1 o2 (d_.st E2 (d_.st E1 kp)) S2 hC pl
 .calc h1.elim
end
def C_(o:Bool)(C:O)(m:J)(n:Nat)(G:fx->GK)(ok:fx)(nn:Nat)(fo:WE)(fa:WA):WE:=fun δ K=>fo δ λx δ1=>(∃(a:O)(k:Nat)(fs:-(J×FV)),x=.w a/\δ1.mu[k]?=U (U (.ins a C fs))/\fs.lookup m=Z)/\fa δ1 λxs δ2=>nZ o n G ok nn (x::xs) δ2 K
structure De(V:Ev)(Cs:-O)(C:O)(k:Nat)(m:J)(ps:-J)(n:Nat)(G:fx->GK):Prop where
 ex:∃f fd,Meth V.K C m f/\bN V.P V.w V.K V.mg V.base (iL V.P V.w) k f fd ps (qE Cs G n)/\Binds V.K fd ps []
inductive IM [d_] (f:WE) (σ:L2.St) (H:Hp) (Q:VK):Prop
 |mk (F:Hp) (ad:-O) (δ:aJ) (K:DV->aJ->Prop) (S:SR F ad δ σ H) (q:f δ K) (kp:d_.kp F ad δ.mu H) (k:∀x δ',K x δ'->∀v F' aG H',Ext F ad δ.mu H F' aG δ'.mu H'->SR F' aG δ' σ H'->dF F' aG x v->Q v H')
section
variable{X:Cx}{C:O}{x m:J}{ps:-J}{G:fx->GK}{e o c a b:M}{es:-M}{fa:WA}{fo f g:WE}{t:WT}{p pos apos:y}{j k n nn:Nat}{ok:fx}{Cs:-O}{E:XK}{H0:Hp}
theorem T3 [d_] {pl:q4W Bool} (r:Bool) (R:qF ok nn Cs E H0) (hp:lS (iL X.prog X.w) X E) (c:hX X.K C) (F:De ⟨X.prog,X.w,X.K,X.mg,X.base⟩ Cs C j m ps n G) (hr:a6 k X.A) (ho:JE X o (tD fo)) (hj:‹q2u j k=θ›)
  (ht:‹eval (.Call (.Attribute o m apos) [] [] pos) X.env=(do
   let ov <- eval o X.env
   standAt apos.atName
   let (f,first) <- holding [ov] (getMethod ov m pl)
   callWith pos f first (backTo pos (starEach [] X.env)) (backToKw pos (keywordEach [] X.env)))›) :
  JE X (.Call (.Attribute o m apos) [] [] pos) (IM (C_ r C m n G ok nn fo ai)) :=
 let ⟨_,_,M,Fn,B⟩:=F.ex
 (EL ho c M Fn (hr.mono (Y8 hj)) B .nil hp ht).weak fun σ H Q ⟨F,ad,δ,K,S,q,kp,kk⟩↦⟨F,ad,δ,_,S,q,λy δ1 h1 u F1 aW H1 E1 S1 V1=>by
  let⟨⟨a,i,fs,rfl,hi,hl⟩,h2⟩:=h1;let⟨dx,ws,e1,e2,e3⟩:=vb S1 hi;rcases e3.look (x:=m) with⟨_,z⟩ | ⟨f,w',z1,z2,z3⟩
  .exact⟨a,dx,ws,V1,e2,z,T2 (xs:=[.w a]) (vs:=[u]) R kp kk (show nZ r n G ok nn [.w a] δ1 K from h2) E1 S1 ⟨_,_,Y,V1,Y⟩⟩
  .rw[z1] at hl;cases hl⟩
theorem T5[d_](h:JE X e (IM f))(hw:‹swapsWith e Z pos.line X.env=pure ι›):JS X (.Expr e pos) (cY (iR f)) :=
 (yr h hw).weak λD σ H1 ⟨F,ad,δ,K1,S,q,k⟩↦⟨F,ad,δ,_,S,q,k.kp,λx δ1 h1 v F1 aW H1 E1 S1 V1=>k.nx _ h1 _ _ _ _ E1 S1⟩
end
theorem IP{ad bP:-O}{n:Nat}(hn:↑ad=n)(h:∀(k:Nat) (a:O),ad[k]?=U a->bP[k]?=U a):bP.take n=ad:=by
 subst hn;apply Z_;ext i
 by_cases c:i<↑ad
 .rw[Yd c,h i _ (pQ c),pQ c]
 .rw[Yy (by rw[Yb];symm),Yy ⋯]
abbrev IQ(V:Ev)(Cs:-O)(N ps:-J)(q:J)(st:R)(k:Nat)(G:fx->GK):Prop:=∀{a9:L}{A:Β}{outer:-u}{s:ο}{H:Hp}{E:XK}{f:O}{ok:fx}{nn:Nat}[d_],qF ok nn Cs E H->a6 k (A.deeper (envOfC q (bW st) ⇑s f a9))->N.Nodup->(A.deeper (envOfC q (bW st) ⇑s f a9)).units+64<cLine →
   ∃B:WS,c6 (b8 (iL V.P V.w) V.P V.w V.K V.mg V.base N q (bW st) f a9 A outer s H E) (fE st) (cY B)/\∀ys ar K',↑ys=↑ps->↑ar=nn->G ok ys ar K'->B (ag nn K') ⟨ys.map U++My (↑N-↑ps) Z,ar.map U⟩
theorem Df{P:t}{w:X}{K:vS}{mg:J->Option L}{base:I}{x q:J}{st:χ}{f:O}{fd:FuncData}{N ps:-J}{k:Nat}{G:fx->GK}{Cs:-O}(F:fF K x q st f fd)(h:IQ ⟨P,w,K,mg,base⟩ Cs N ps q st k G)(sc:nW N ps (bW st)=θ):
  bN P w K mg base (iL P w) (k+1) f fd ps (qE Cs G ↑ps) :=
 F.TU (d8 sc) (λvs H Q E h=>let⟨_,hl,_,_,_,_,_,_,_,_,_⟩:=h;hl) λa9 A outer s H vs Q E hr hh=>by
  let⟨ok,hl,Fz,ad,ys,ar,K',S0,g,kk,hx⟩:=hh;let al:↑ad=↑ar:=by let:=S0.bX;rwa [pR] at this
  letI:d_:=nY Fz ad (ar.map U) H
  let R:qF ok ↑ar Cs E H:=⟨λ{c p ows C dx F bP δ σ H'} o o1 o2 kp S hC pl=>by
   let kp:Ext Fz ad (ar.map U) H F bP δ.mu H':=kp;let ta:bP.take ↑ar=ad:=IP al kp.pre;let E2:=kp.cut (m:=ar.length) (by rw[al];calc Fm _);let S2:=S.cut ↑ar;rw[o2,ta] at E2 S2
   calc hx c p ows o C dx F H' hC ⟨by rw[mJ];calc E2,by rw[mJ];calc S2,o1,Y⟩ pl,λ{F bP mu H' a} kp _ e=>by
   let kp:Ext Fz ad (ar.map U) H F bP mu H':=kp
   cases q:H a with
   |none=>rfl
   |some o =>
    let⟨o',z⟩:=kp.gu a o q
    rw[e] at z;cases z⟩
  let⟨B,jb,hb⟩:=h R hr (d8 sc).nd hr.units
  let hy:↑ys=↑ps:=by
   let:=S0.len;rw[pR] at this;rw[<-hl,this];rw[pR]
  refine⟨_,jb,Fz,ad,⟨ys.map U++My (↑N-↑ps) Z,ar.map U⟩,ag ↑ar K',by rw[<-hl];calc S0.start,hb ys ar K' hy Y g,⟨fun δ' h F' aG σ' H' E' S'=>?_,fun δ' h=>h.elim,fun δ' h=>h.elim,λy δ' h v F' aG σ' H' E' S' V=>?_,Ext.refl⟩⟩
  .exact xB (σ':=σ') S0 E' S' (x:=.p .non) (v:=.non) Y h kk
  .calc xB (σ':=σ') S0 E' S' V h kk
section
variable{V:Ev}{Cs:-O}{C:O}{x m q:J}{st:R}{N ps:-J}{k:Nat}{G:fx->GK}
theorem Dg(D:Dm V C m q st)(bd:kr m q st ps)(h:IQ V Cs N ps q st k G)(sc:autoParam (nW N ps (bW st)=θ) qz3._auto_1):De V Cs C (k+1) m ps ↑ps G :=
 let⟨f,fd,a,F⟩:=D
 ⟨f,fd,a,Df F h sc,F.binds bd⟩
end
end
end LJ
namespace L2
open PySem PySem.Spec PyProof.Rows
section
variable{X:Cx}{body dX:-R}{b0:R}{x:J}{p1 p2 pos:y}{L:O}{tb:XK->TS}{th:TS}
def T6(K:vS)(L:O)(k:Nat)(th:TS)(D:Ends):XK:=λC dx H'=>∃c,C=.ref c/\q1r K C (.ref L)=U θ/\th D (My k Z) H'
def T7(K:vS)(L:O)(tb:XK->TS)(th:TS):TS:=λD σ H=>tb (T6 K L ↑σ th D) D σ H
theorem T8(fU:X.stack=X.env::X.outer)(kC:X.env.frame=U X.env.locals)(hg:Gl X x)(hm:X.mg x=U (.ref L))(cV:bL x)
  (hb:∀pn xe E,lS (iL X.prog X.w) {X with pn:=pn,xe:=xe} E->c6 {X with pn:=pn,xe:=xe} body (tb E)) (hs:∀A xe,c6 {X with A:=A,calm:=false,xe:=xe} (b0::dX) th) :
  JS X (.Try body [.ExceptHandler (U (.Name x p1)) Z (b0::dX) p2] [] [] pos) (T7 X.K L tb th):=by
 calc⟨?_⟩;ext pins s σ H D I h;calc wpAny_Try_except ?_;refine Zm (hb (X.pn++pins) (λe s1=>G (S X.prog X.w) X.A (noteFrame e X.env) (λ_ s2=>G (S X.prog X.w) X.A (setFlight e Z) (λ_ s3=>G (S X.prog X.w) X.A (handleBy e X.env [.ExceptHandler (U (.Name x p1)) Z (b0::dX) p2]) (SP X pins D) X.xe s3) X.xe s2) X.xe s1) _ ?_ [] s σ H D I.vt h) (λf s1 hq=>?_) (λe s1 z=>z)
 .ext cB σ' H1 s1 e s' I1 hx
  let⟨a,C,dx,T,H',rfl,os,ba,u,ok,F,ha,hT,a0,t0,c,ec,em,q⟩:=hx;cases ec
  let hA:X.A.frames=U (X.env::X.outer):=by rw[<-fU];exact I.ok.frames
  let lO:s1.heap.FunFrames X.base (X.env::X.outer):=by rw[<-fU];exact I1.stack
  let IS:∀b∈e_ (X.env::X.outer),H1 b=Z:=by rw[<-fU];exact I1.eA
  let u:Un (e_ (X.env::X.outer)) [] H1 H' s1.heap s'.heap:=by rw[<-fU];exact u
  let fk:s'.heap.FunFrames X.base (X.env::X.outer):=C8 (λb hb o e=>u.any e (IS b hb) (by simp)) lO
  let fr:∀b∈e_ (X.env::X.outer),H' b=Z:=λb hb=>by
   let⟨_,o,ho,_⟩:=lO.mem hb;exact u.free b o ho (IS b hb) (by simp)
  let na:∀o,s1.heap.get? a=U o->H1 a=Z->False:=λo e _=>by rw[a0] at e;cases e
  let inv:∀h,lI (e_ (X.env::X.outer)) a (U T) s'.heap h->(∃o,h.get? a=U o)->Inv X pins σ' H' {s' with heap:=h}:=λh x e =>
   Inv.iN (I1.kU (s':={s' with heap:=h}) os (by show Un (e_ X.stack) _ _ _ _ _;rw[fU];calc u.vq na (λt e=>by cases e;calc t0) e x ha fr) (ok.vq ha (λt e=>by cases e;calc hT) fr x) ba (λb z=>absurd z (by simp)))
  calc IJ hA fk kC F λh4 T4 x1 x2 x3=>?_;calc C7 x1 λh5 y1 y2=>?_;let e5:=x3.more x2 y2;let⟨Xh,Xi,IT,_⟩:=id y1;let J5:=inv h5 e5 ⟨_,IT⟩;calc wpAny_handleBy_cons (codeAny_handlers_test (sA (X:={X with A:=X.A.mark (U (.ref a)),calm:=false,xe:=λ_ _=>False}) (J5.toSub Y) hg hm ?_ cV)) (by ext q;cases q);let LT:PySem.W.Looks (S X.prog X.w) h5 (typeOf (.ref a)) (.ref C):=(PySem.W.Looks.ld IT).andThen .now;calc q2V (PySem.W.exm_one J5.dY LT em) ?_;show codeAny _ _ _ _ _;calc codeAny_handlers_suite ?_;calc C7 y1 λh6 z1 z2=>?_;let e6:=e5.more x2 z2;let⟨Xj,Xk,T9,_⟩:=id z1
  let J6:Inv X pins (My ↑σ Z) H' {s' with heap:=h6}:=by
   let:=Inv.blank (inv h6 e6 ⟨_,T9⟩)
   rwa [show ↑σ'=↑σ from I1.len.trans I.len.symm] at this
  refine Zm (hs (X.A.mark (U (.ref a))) _ pins _ _ _ _ (J6.toSub Y) q) (λf s8 hf=>?_) (λe s8 z=>z)
  cases f with
  |next=>let⟨σ9,H9,I9,q9⟩:=hf;exact⟨_,_,I9.jS I.ok,q9⟩
  |brk=>let⟨σ9,H9,I9,q9⟩:=hf;exact⟨_,_,I9.jS I.ok,q9⟩
  |cont=>let⟨σ9,H9,I9,q9⟩:=hf;exact⟨_,_,I9.jS I.ok,q9⟩
  |ret v=>let⟨w9,σ9,H9,I9,r9,q9⟩:=hf;exact⟨_,_,_,I9.jS I.ok,r9,q9⟩
 .cases f with
  |next =>
   let⟨σ',H',I',q⟩:=hq;exact q01 ⟨σ',H',I'.iN,q⟩
  |brk=>let⟨σ',H',I',q⟩:=hq;exact⟨σ',H',I'.iN,q⟩
  |cont=>let⟨σ',H',I',q⟩:=hq;exact⟨σ',H',I'.iN,q⟩
  |ret u=>let⟨v,σ',H',I',r,q⟩:=hq;calc⟨v,σ',H',I'.iN,r,q⟩
end
end L2
namespace LJ
open PySem L2 PySem.Spec PySem.W
variable[aM]
def Dh(cx:Nat)(B:fx->Nat->WS)(T:WS):WS:=λK δ=>∃ar:-OV,δ.mu=ar.map U/\B (λc _ ows=>c=cx/\T K ⟨My ↑δ.sl Z,ows.map U⟩) ↑ar K δ
section
variable{X:Cx}{body dX:-R}{b0:R}{x:J}{p1 p2 pos:y}{L:O}{cx:Nat}{B:fx->Nat->WS}{T:WS}{Cs:-O}
theorem T_(fU:X.stack=X.env::X.outer)(kC:X.env.frame=U X.env.locals)(hg:Gl X x)(XT:ET ⟨X.prog,X.w,X.K,X.mg,X.base⟩ Cs cx x)(hx:∀C,Cs[cx]?=U C->q1r X.K (.ref C) (.ref C)=U θ)
  (hb:∀{pn xe E H0 ok nn}[d_],lS (iL X.prog X.w) {X with pn:=pn,xe:=xe} E->qF ok nn Cs E H0->c6 {X with pn:=pn,xe:=xe} body (cY (B ok nn))) (hs:∀A xe,c6 {X with A:=A,calm:=false,xe:=xe} (b0::dX) (cY T)) (cV: ~~~(bL x)) :
  JS X (.Try body [.ExceptHandler (U (.Name x p1)) Z (b0::dX) p2] [] [] pos) (cY (Dh cx B T)):=by
 let⟨_,L,hL,_,hm⟩:=XT;refine(T8 (tb:=λE D σ H=>∃(ex:d_)(ok:fx)(nn:Nat),@qF _ ex ok nn Cs E H/\@cY _ ex (B ok nn) D σ H) fU kC hg hm cV (λpn xe E hp=>⟨λpins s σ H D I h=>?_⟩) hs).weak λD σ H ⟨F,ad,δ,K,S,⟨ar,Ua,q⟩,k⟩=>?_
 .let⟨ex,ok,nn,R,h⟩:=h
  exact(hb hp R) pins s σ H D I h
 .let⟨k1,k2,k3,k4,_⟩:=id k
  let al:↑ad=↑ar:=by let:=S.bX;rw[Ua] at this;rwa [pR] at this
  let fin:∀(F2 H':Hp)(ows:-OV),Ext F ad δ.mu H F2 ad (ows.map U) H'->SR F2 ad ⟨[],ows.map U⟩ [] H'->T K ⟨My ↑δ.sl Z,ows.map U⟩->cY T D (My ↑σ Z) H':=λF2 H' ows E2 S3 o=>by
   calc⟨F2,ad,⟨My ↑δ.sl Z,ows.map U⟩,K,⟨S3.sub,S3.off,S3.bX,S3.inj,S3.mu,λi y e=>?_,by show↑(My _ _)=↑(My _ _);rw[Zt,Zt,S.len],S3.tab,S3.nt⟩,o,k.ext E2⟩;let e:(My ↑δ.sl Z)[i]?=U (U y):=e;rw[ZC] at e;split at e<;>cases e
  refine⟨nY F ad δ.mu H,(λc _ ows=>c=cx/\T K ⟨My ↑δ.sl Z,ows.map U⟩),↑ar,?_,?_⟩
  .letI:d_:=nY F ad δ.mu H
   refine⟨λ{c p ows C dx F2 bP δ2 σ2 H'} o o1 o2 kp S2 hC pl=>?_,λ{F2 bP mu H' a} kp _ e=>?_⟩
   .let⟨rfl,o⟩:=o
    let kp:Ext F ad δ.mu H F2 bP δ2.mu H':=kp;let ta:bP.take ↑ar=ad:=IP al kp.pre;let E2:=kp.cut (m:=ar.length) (by rw[al];calc Fm _);let S3:=S2.cut ↑ar;rw[o2,ta] at E2 S3;rw[hL] at hC;cases hC;exact⟨L,Y,hx L hL,fin F2 H' _ E2 S3 o⟩
   .let kp:Ext F ad δ.mu H F2 bP mu H':=kp
    cases q:H a with
    |none=>rfl
    |some o =>
     let⟨o',z⟩:=kp.gu a o q;rw[e] at z;cases z
  .letI:d_:=nY F ad δ.mu H
   calc⟨F,ad,δ,K,S,q,k1,k2,k3,k4,Ext.refl⟩
end
end LJ
namespace LJ
open PySem L2
variable[aM]
inductive Di (C:O) (ok:fx) (ys:-DV) (ar:-OV) (K:RK->-OV->-OV->Prop):Prop
 |mk (a b:O) (m:Int) (s:Stt) (_:ys=[.w a]) (_:ar=[kO C a b m s,pO b m []]) (_:ok 9 0 [kO C a b m s,pO b m []])
def Dj(c_Keeper:O)(ok:fx)(nn:Nat):WS:=(aw (bA (dT (d2 (dN (aq (aj (af c_Keeper "past" (aa 0))) ai) cm) (dC (.int 0)) oEq)) (C9 ok nn 9) dz) (aw (aP 1 (ny (aj (af c_Keeper "past" (aa 0))))) (aR (az ι c_Keeper "set_to" 3 (vi c_Keeper) (aa 0) (aq (d2 (aa 1) (dC (.int 0)) a5) (aq (d2 (aa 1) (dC (.int 1)) a5) ai))))))
theorem Ub(C:O)(ok:fx)(nn:Nat):∀ys ar K',↑ys=1->↑ar=nn->Di C ok ys ar K'->Dj C ok nn (ag nn K') ⟨ys.map U++My 1 Z,ar.map U⟩:=by
 ext ys ar K'-hn ⟨a,b,m,s,rfl,rfl,o⟩;subst hn;unfold Dj;calc a_ λN hN=>?_;simp![af,aj,aD,toF,az,aB,aE,ak,aF,FV.v,ag,mJ,pP];calc⟨a,0,_,.w b,⟨Y,Y,Y⟩,b,1,_,⟨Y,Y,Y⟩,?_⟩;simp![af,aj,aD,toF,az,aB,aE,ak,aF,FV.v,ag,mJ,pP,pO];rw[l9,X7 (by rfl),XI (by decide)];simp![af,aj,aD,toF,az,aB,aE,ak,aF,FV.v,ag,mJ,pP,C9];calc⟨[kO C a b m s,pO b m []],⟨Y,Y⟩,o⟩
inductive xM (C:O) (ys:-DV) (ar:-OV) (K:RK->-OV->-OV->Prop):Prop
 |mk (a b:O) (m:Int) (s:Stt) (_:ys=[.w a]) (_:ar=[kO C a b m s,pO b m []]) (_:K (.p (.bl θ)) [kO C a b m s,pO b m []] [])
def Dl(c_Keeper:O):WS:=(aw (Dh 9 (λok nn=>(iR (C_ ι c_Keeper "back" 1 (Di c_Keeper) ok nn (aa 0) ai))) (aR (dC (.bl θ)))) (aR (dC (.bl ι))))
theorem Uc(C:O):∀ys ar K',↑ys=1->xM C ys ar K'->Dl C (ag ↑ar K') ⟨ys.map U++My 0 Z,ar.map U⟩:=by
 ext ys ar K'-⟨a,b,m,s,rfl,rfl,k⟩;unfold Dl;calc a_ λN hN=>?_;unfold Dh;calc⟨[kO C a b m s,pO b m []],Y,?_⟩;simp![af,aj,aD,toF,az,aB,aE,ak,aF,FV.v,ag,mJ,pP,C_,nZ];calc⟨⟨a,0,_,Y,Y,Y⟩,[(0,kO C a b m s),(1,pO b m [])],⟨Y,Y,trivial⟩,?_⟩;simp![af,aj,aD,toF,az,aB,aE,ak,aF,FV.v,ag,mJ,pP];calc⟨a,b,m,s,Y,Y,[kO C a b m s,pO b m []],⟨Y,Y⟩,Y,?_⟩;simp![af,aj,aD,toF,az,aB,aE,ak,aF,FV.v,ag,mJ,pP];calc⟨[kO C a b m s,pO b m []],[],[],Y,Y,k⟩
inductive xN (ys:-DV) (ar:-OV) (K:RV->-OV->Prop):Prop
 |mk (A B:-Int) (_:Mv A B) (_:ys=[.p (bC A),.p (bC B),.p (jR A B)]) (_:ar=[]) (_:K (.p (.bl θ)) [])
def Dp:WS:=(aw (aP 3 (fV (cA (aa 0)) [Z,U 2] (b7 0) (dT (d2 (aa 0) (d2 (aa 1) (dC (.int 0)) a5) kH)) (aa 0))) (aR (d2 (dN (aq (d2 (aa 3) (fV (cA (cN (aq (d2 (aa 2) (dC (.int 1)) a5) ai))) [Z] (b7 0) (dT (d2 (aa 0) (dC .non) nB)) (aa 0)) cS) ai) oS) (aa 1) oEq)))
theorem Ud:Sem 3 1 xN Dp:=by
 ext ys ar K'-⟨A,B,M,rfl,rfl,k⟩;let la:=M.la;let lb:=M.lb;let e:=S9 M;let t1:gg A B=.non\/∃g,gg A B=.int g:=by unfold gg;split<;>simp
 let t2:gg B A=.non\/∃g,gg B A=.int g:=by unfold gg;split<;>simp
 unfold Dp jR;calc a_ λN hN=>?_;simp![bC]
 refine nA (λd=>match gg A B with|.int g=>l (dI d≠g)|_=>θ) (λd=>d) (by rw[pR];symm) trivial ?_ ?_
 .ext d hd acc L ha h1 h2
  let⟨n,hn,rfl⟩:=XM.mp hd;simp![dj];rcases t1 with q|⟨g,q⟩<;>rw[q] at h1 h2 ⊢ <;> dsimp only [dI] at h1 h2
  .exact⟨ha,h1 Y⟩
  .rw[l9]
   by_cases c:n=g
   .rw[X7 c];exact h2 (XO (q0r c))
   .rw[XO c];exact⟨ha,h1 (X7 c)⟩
 .subst hN
  rw[rV λn=>match gg A B with|.int g=>l (n≠g)|_=>θ]
  let lf:=q2i (λn=>match gg A B with|.int g=>l (n≠g)|_=>θ) A;simp![c_];generalize A.filter (λn=>match gg A B with|.int g=>l (n≠g)|_=>θ)=F at e lf ⊢
  refine nA (λd=>match d with|.non=>ι|_=>θ) (λd=>d) (by show 1<=1000;decide) trivial ?_ ?_
  .ext d hd acc L ha h1 h2
   rw[X1] at hd;rcases t2 with q|⟨g,q⟩<;>rw[q] at hd<;>subst hd
   .simp![nB,qh,iF]
    exact h2 Y
   .simp![nB,qh,iF]
    exact⟨ha,h1 Y⟩
  .let⟨G,hG,hl,eG⟩:∃G:-Int,([gg B A].filter λd=>match d with|.non=>ι|_=>θ).map (λd=>d)=G.map D.int/\↑G<=1/\sortI (F++G)=B:=by
    rcases t2 with q|⟨g,q⟩<;>rw[q] at e ⊢
    .exact⟨[],Y,YD _,e⟩
    .exact⟨[g],Y,Fm _,e⟩
   rw[hG];calc⟨by rw[pR];symm,?_⟩;rw[<-XY];erw[oS,rA];calc⟨by rw[Fs];symm,?_⟩;rw[eG,h8];calc⟨by let:=kK B;erw[dep];symm,eM k⟩
inductive Dq (ys:-DV) (ar:-OV) (K:RV->-OV->Prop):Prop
 |mk (n m:Int) (o:OV) (s:Stt) (ps:-Stt) (_:bo m s) (_:(∀t∈ps,bo m t)) (_:(s.1=[]->ps=[])) (_:↑ps<900) (_:ys=[.o 0,.p (.lst ((ps++[s]).map (dm m)))]) (_:ar=[o]) (_:bj n o) (_:n+20<2 ^ 30) (_:(∀dS s' ch o',Turn m ps s dS s' ch->bj (n+10) o'->K (.p (.tup [.lst ((dS++[s']).map (dm m)),ch])) [o'])) (_:(s.1=[]->∀o',bj (n+10) o'->K (.p (.tup [.lst ((ps++[s]).map (dm m)),.non])) [o']))
theorem Ue:Sem 2 7 Dq vp:=by
 ext ys ar K' hy ⟨n,m,o,s,ps,O,Os,hp,hl,rfl,rfl,P,hn,k,k2⟩
 by_cases ne:s.1=[]
 .obtain rfl:=hp ne
  let k2:=k2 ne;unfold vp;calc a_ λN hN=>?_;simp!;calc⟨n,8,o,Y,Y,P,⋯,⋯,by decide,λkd o1 k0 k1 P1=>?_⟩;simp!;subst hN;calc a_ λN hN=>?_;simp!;calc⟨n+1,6,o1,Y,Y,P1,⋯,⋯,by decide,λpk o2 p0 p1 P2=>?_⟩;simp!;subst hN;calc a_ λN hN=>?_;let la:eU [D.tup [aN m s.1,bC s.2]] (-1)=U (.tup [aN m s.1,bC s.2]):=CW (l:=[]);simp![Zr,X0,Zy,la,dm];subst hN;calc a_ λN hN=>jM λAy Bn hA hB=>?_;let we:aQ (.tup (s.1.map aX)) (.tup [])=θ:=by rw[ne];rfl
  let dw:bG (s.1.map aX)=0:=by rw[ne];rfl
  simp![aN,c_,l9,we,dw];rw[ite_self,ite_self];subst hA;simp!;let:=k2 o2 (P2.mono ⋯);erw[Zr,X0,Zy,dm,aN] at this;exact⟨[o2],Y,Y,this⟩
 .calc Tw _ _ _ hy ⟨n,m,o,s,ps,O,Os,ne,hl,Y,Y,P,hn,k⟩
inductive Dr (C:O) (ys:-DV) (ar:-OV) (K:RK->-OV->-OV->Prop):Prop
 |mk (a b:O) (m:Int) (s:Stt) (_:bo m s) (_:ys=[.w a]) (_:ar=[kO C a b m s]) (_:K (.p (.bl θ)) [kO C a b m s] [])
def Ds(c_Keeper:O):WS:=(aw (aP 1 (az ι c_Keeper "weight" 1 (Cu c_Keeper) (aa 0) ai)) (aw (aP 2 (az ι c_Keeper "web" 1 (vf c_Keeper) (aa 0) ai)) (aw (aP 3 (fV (l3 (aq (dN (aq (d2 (aa 2) (dC (.int 1)) a5) ai) cm) ai)) [Z,U 0] (b7 0) (dT (d2 (aa 0) (az ι c_Keeper "closed" 1 (vg c_Keeper) (aa 1) ai) (kI θ))) (aa 0))) (aw (aP 4 (bz (aq (d2 (aa 2) (dC (.int 0)) a5) (aq (dN (aq (fV (cA (aa 3)) [Z,U 2] (b7 0) fh (d2 (d2 (aa 1) (dC (.int 1)) a5) (aa 0) a5)) ai) rD) ai)))) (aw (aP 5 (az ι c_Keeper "forest" 1 (kN c_Keeper) (aa 0) ai)) (aw (bA (kG (dT (d2 (aa 5) (fV (cA (aA 1 xp (aq (aa 4) ai))) [Z,U 3] (b7 0) fh (d2 (aa 1) (aa 0) a5)) kH)) (dT (d2 (aa 1) (aA 2 xA (aq (aa 2) (aq (dN (aq (aa 5) ai) uE) ai))) kH))) (aR (dC (.bl ι))) dz) (aR (d2 (aA 2 BR (aq (aa 2) (aq (dN (aq (aa 5) ai) uE) ai))) (aA 2 BR (aq (aa 2) (aq (aa 3) ai))) oEq))))))))
theorem Ug(C:ξ):∀ys ar K',↑ys=1->Dr C ys ar K'->Ds C (ag ↑ar K') ⟨ys.map U++My 5 Z,ar.map U⟩:=by
 ext ys ar K'-⟨a,b,m,s,O,rfl,rfl,k⟩;let lB:=O.d7.fR;let kn:Nums s.1 (kf m s)/\(kf m s).Nodup/\↑(kf m s)<=30:=qD O (km (a8 s));unfold Ds;calc a_ λN hN=>?_;simp![af,aj,aD,toF,az,aB,aE,ak,aF,FV.v,ag,mJ,pP];calc⟨⟨a,0,_,Y,Y,Y⟩,[(0,kO C a b m s)],⟨Y,trivial⟩,?_⟩;simp![af,aj,aD,toF,az,aB,aE,ak,aF,FV.v,ag,mJ,pP];calc⟨a,b,m,s,O,Y,Y,λns ho=>?_⟩;rw[kf_eq O ho];simp![af,aj,aD,toF,az,aB,aE,ak,aF,FV.v,ag,mJ,pP];subst hN;calc a_ λN hN=>?_;simp![af,aj,aD,toF,az,aB,aE,ak,aF,FV.v,ag,mJ,pP];refine⟨⟨a,0,_,Y,Y,Y⟩,[(0,kO C a b m s)],⟨Y,trivial⟩,?_⟩
 simp![af,aj,aD,toF,az,aB,aE,ak,aF,FV.v,ag,mJ,pP];calc⟨a,b,m,s,Y,Y,?_⟩;simp![af,aj,aD,toF,az,aB,aE,ak,aF,FV.v,ag,mJ,pP];subst hN;calc a_ λN hN=>?_;simp![af,aj,aD,toF,az,aB,aE,ak,aF,FV.v,ag,mJ,pP,aN,c_];calc⟨⋯,?_⟩;rw[XZ,qi];refine nA (λd=>l (dI d∉s.2)) (λd=>d) (by rw[pR];unfold br;simp;symm) trivial ?_ ?_
 .ext d hd acc L ha h1 h2
  let⟨n,hn,rfl⟩:=XM.mp hd;simp![af,aj,aD,toF,az,aB,aE,ak,aF,FV.v,ag,mJ,pP];calc⟨⟨a,0,_,Y,Y,Y⟩,[(0,kO C a b m s)],⟨Y,trivial⟩,?_⟩;simp![af,aj,aD,toF,az,aB,aE,ak,aF,FV.v,ag,mJ,pP];calc⟨a,b,m,s,O,Y,Y,?_⟩;simp![af,aj,aD,toF,az,aB,aE,ak,aF,FV.v,ag,mJ,pP,qz];calc⟨kK s.2,?_⟩;erw[dI] at h1 h2
  by_cases c:n∈s.2
  .simp![af,aj,aD,toF,az,aB,aE,ak,aF,FV.v,ag,mJ,pP,X7 c]
   exact h2 (XO (q0r c))
  .simp![af,aj,aD,toF,az,aB,aE,ak,aF,FV.v,ag,mJ,pP,XO c]
   exact⟨ha,h1 (X7 c)⟩
 rw[rV λn=>l (n∉s.2),show(br ↑s.1).filter (λn=>l (n∉s.2))=d6 s.1 s.2 from Y];subst hN;refine a_ λN hN=>?_
 let Xl:↑(d6 s.1 s.2)<=30:=by
  let:=(l_ O.d7 (ju s.1 s.2)).fR
  rwa [sub_len] at this
 simp![af,aj,aD,toF,az,aB,aE,ak,aF,FV.v,ag,mJ,pP,dj];refine l6 (λd=>aX (s.1.getD (dI d).toNat (0,0,0))) (by rw[pR];symm) trivial ?_ ?_
 .ext d hd acc L ha h
  let⟨n,hn,rfl⟩:=XM.mp hd;let⟨n0,n1⟩:=(ju s.1 s.2).nums n hn;let⟨y,ey,hy,ea,_⟩:=kc O.d7 n0 n1;simp![af,aj,aD,toF,az,aB,aE,ak,aF,FV.v,ag,mJ,pP,c_,aN,ea];erw[dI,ey] at h;exact⟨ha,h⟩
 rw[X8];simp![af,aj,aD,toF,az,aB,aE,ak,aF,FV.v,ag,mJ,pP];subst hN
 let Uh:D.tup (q4r ((λd=>aX (s.1.getD (dI d).toNat (0,0,0)))∘D.int) (d6 s.1 s.2))=.tup ((a8 s).map aX):=by
  unfold a8 ft;rw[X8];rfl
 rw[Uh];calc a_ λN hN=>?_;simp![af,aj,aD,toF,az,aB,aE,ak,aF,FV.v,ag,mJ,pP];calc⟨⟨a,0,_,Y,Y,Y⟩,[(0,kO C a b m s)],⟨Y,trivial⟩,?_⟩;simp![af,aj,aD,toF,az,aB,aE,ak,aF,FV.v,ag,mJ,pP];calc⟨a,b,m,s,O,Y,Y,λXm hW=>?_⟩;rw[kf_eq O hW];simp![af,aj,aD,toF,az,aB,aE,ak,aF,FV.v,ag,mJ,pP];subst hN;let W2:aV m (a8 s):=l_ O.d7 (ju s.1 s.2);calc a_ λN hN=>jM λAy Bn hA hB=>?_;simp![af,aj,aD,toF,az,aB,aE,ak,aF,FV.v,ag,mJ,pP];refine⟨m,a8 s,W2,Y,Y,λxO Dt=>?_⟩
 let fl:↑(iT m (a8 s) xO)<=30:=by
  let:=BN (m:=m) (ws:=a8 s) xO;let:=Dt.len;let:=W2.fR;symm
 simp![af,aj,aD,toF,az,aB,aE,ak,aF,FV.v,ag,mJ,pP];refine l6 (λd=>.int (h_ (d6 s.1 s.2) (dI d))) (by rw[pR];symm) trivial ?_ ?_
 .ext d hd acc L ha h
  let⟨n,hn,rfl⟩:=XM.mp hd;let hr:=Dt.nums n (u5 xO n hn);rw[sub_len] at hr;simp![af,aj,aD,toF,az,aB,aE,ak,aF,FV.v,ag,mJ,pP,bC];rw[HM hr];exact⟨ha,h⟩
 let e4:(q4r D.int (iT m (a8 s) xO)).map (λd=>D.int (h_ (d6 s.1 s.2) (dI d)))=(kf m s).map D.int:=by
  rw[<-kf_eq O Dt];unfold bB;rw[X8,X8];rfl
 rw[e4];let dk:=kK (kf m s);simp![af,aj,aD,toF,az,aB,aE,ak,aF,FV.v,ag,mJ,pP,h8];calc⟨⋯,?_⟩;calc⟨m,s.1,kf m s,O.d7,kn.1,kn.2.1,⋯,Y,Y,?_⟩;simp![af,aj,aD,toF,az,aB,aE,ak,aF,FV.v,ag,mJ,pP];rw[show((kf m s).map λn=>(s.1.getD n.toNat (0,0,0)).2.2).sum=wsum s.1 (kf m s) from Y,h8];simp![af,aj,aD,toF,az,aB,aE,ak,aF,FV.v,ag,mJ,pP];subst hB;simp![af,aj,aD,toF,az,aB,aE,ak,aF,FV.v,ag,mJ,pP];subst hN;simp![af,aj,aD,toF,az,aB,aE,ak,aF,FV.v,ag,mJ,pP];calc⟨m,s.1,kf m s,O.d7,kn.1,kn.2.1,⋯,Y,Y,?_⟩;simp![af,aj,aD,toF,az,aB,aE,ak,aF,FV.v,ag,mJ,pP]
 calc⟨m,s.1,d6 s.1 s.2,O.d7,(ju s.1 s.2).nums,(ju s.1 s.2).nd,⋯,Y,Y,?_⟩;simp![af,aj,aD,toF,az,aB,aE,ak,aF,FV.v,ag,mJ,pP];rw[Te O,h8];calc⟨TF _,kM k⟩
noncomputable abbrev KL:KS:=⟨λ_=>False,λx _=>x=.p (.bl θ),λ_=>False,λ_=>False⟩
def Du(c_Keeper:O):WS:=(aw (fH (l3 (aq (dC (.int 2)) ai)) (b7 2) (aw (aP 3 (aA 3 AX (aq (aA 1 AO (aq (aa 1) ai)) (aq (d2 (cN (aq (dC (.int 10)) (aq (dC (.int 5)) ai))) (aa 2) a5) (aq (d2 (cN (aq (dC (.int 20)) (aq (dC (.int 8)) ai))) (aa 2) a5) ai))))) (aw (aP 4 (aE c_Keeper 2 (Cj c_Keeper) (aq (aa 3) ai))) (aw (aP 5 (cN (aq (bz (aq (aa 3) (aq (cN ai) ai))) ai))) (aw (aP 6 (az ι c_Keeper "forest" 1 (kN c_Keeper) (aa 4) ai)) (aw (fH (l3 (aq (d2 (d2 (cN (aq (dC (.int 12)) (aq (dC (.int 30)) ai))) (aa 2) a5) (aA 2 gz (aq (aa 1) (aq (dC (.int 11)) ai))) cS) ai)) (b7 7) (aw (aP 8 (az ι c_Keeper "forest" 1 (kN c_Keeper) (aa 4) ai)) (aw (j8 (aA 2 Dq (aq (aa 1) (aq (aa 5) ai))) (oN 2 (jI (b7 5) (jI (b7 9) mV)))) (bA (dT (d2 (aa 9) (dC .non) nB)) (aw (aP 10 (az ι c_Keeper "web" 1 (vf c_Keeper) (aa 4) ai)) (aw (aP 11 (az ι c_Keeper "closed" 1 (vg c_Keeper) (aa 4) ai)) (aw (aP 12 (aB ι 2 (CU c_Keeper) (aq (aa 4) (aq (aa 9) ai)))) (aw (bA (kG (dJ (dT (aB ι 1 (Dr c_Keeper) (aq (aa 4) ai)))) (dJ (dT (aA 3 xN (aq (aa 8) (aq (az ι c_Keeper "forest" 1 (kN c_Keeper) (aa 4) ai) (aq (aa 12) ai))))))) (aR (dC (.bl ι))) dz) (aw (aP 13 (mS (d2 (d2 (aa 9) (dC (.int 0)) a5) (dC (.str "price")) oEq) (p8 (d2 (d2 (aa 9) (dC (.int 1)) a5) (aa 11) (kI ι)) (d2 (d2 (d2 (d2 (aa 10) (dC (.int 1)) a5) (d2 (aa 9) (dC (.int 1)) a5) a5) (dC (.int 2)) a5) (d2 (aa 9) (dC (.int 2)) a5) oEq)))) (bA (jg (dT (aa 13)) (dT (d2 (aa 12) (bz (aq (dC .non) (aq (dC .non) ai))) kH))) (aR (dC (.bl ι))) dz)))))) dz)))) (aw (fH (cA (d1 (gy (aa 5) gx (l5 (d1 (dC (.int 1)) jm))) wW)) (b7 14) (aw (aP 8 (az ι c_Keeper "forest" 1 (kN c_Keeper) (aa 4) ai)) (aw (aP 12 (az ι c_Keeper "back" 1 (xH c_Keeper) (aa 4) ai)) (bA (kG (dJ (dT (aA 3 xN (aq (aa 8) (aq (az ι c_Keeper "forest" 1 (kN c_Keeper) (aa 4) ai) (aq (aa 12) ai)))))) (kG (dT (d2 (az ι c_Keeper "web" 1 (vf c_Keeper) (aa 4) ai) (d2 (aa 14) (dC (.int 0)) a5) kH)) (dT (d2 (az ι c_Keeper "closed" 1 (vg c_Keeper) (aa 4) ai) (d2 (aa 14) (dC (.int 1)) a5) kH)))) (aR (dC (.bl ι))) dz)))) (bA (kG (dT (d2 (az ι c_Keeper "forest" 1 (kN c_Keeper) (aa 4) ai) (aa 6) kH)) (kG (dJ (dT (aB ι 1 (xM c_Keeper) (aq (aa 4) ai)))) (dJ (dT (aB ι 1 (xM c_Keeper) (aq (aa 4) ai)))))) (aR (dC (.bl ι))) dz)))))))) (aR (dC (.bl θ))))
theorem Dv{a b:Int}{j:Nat}(h:j<2):∃p,eU [D.int a,D.int b] (0+(j:Int))=U (.int p)/\(p=a\/p=b):=by
 rw[q12]
 match j,h with
 |0,_=>exact⟨a,dj,.inl Y⟩
 |1,_=>calc⟨b,c_,.inr Y⟩
theorem Ui(m:Int)(ws:-(Int×Int×Int)):dep (aN m ws)<=60:=by
 let:=B6 ws;erw[aN,dep,bG];symm
inductive Ch (s0:Stt):-Stt->Stt->Prop
 |nil:Ch s0 [] s0
 |one (ps:-Stt) (s s':Stt) (e:Int) (h:Ch s0 ps s) (a:kj e s s'):Ch s0 (ps++[s]) s'
theorem Ch.inv{s0 s t:Stt}{l ps:-Stt}(h:Ch s0 l s)(q:l=ps++[t]):Ch s0 ps t/\∃e,kj e t s:=by
 cases h with
 |nil=>exact absurd q (by simp)
 |one dS s' _ e h a =>
  let⟨rfl,e2⟩:=q1P q Y;cases e2
  calc⟨h,e,a⟩
theorem Ch.end{s0 s:Stt}{l:-Stt}(h:Ch s0 l s)(q:l=[]):s=s0:=by
 cases h with
 |nil=>rfl
 |one=>simp at q
theorem Turn.ch{m:Int}{ps dS:-Stt}{s s' s0:Stt}{d:D}(h:Turn m ps s dS s' d)(c:Ch s0 ps s):Ch s0 dS s'/\∃e,kj e s s':=by
 cases h with
 |back=>let⟨c',e,a⟩:=c.inv Y;exact⟨c',e,a.symm⟩
 |price _ _ n p hn hp=>exact⟨.one _ _ _ n c (IB hn),n,IB hn⟩
 |free _ _ n hn h=>exact⟨.one _ _ _ n c ID,n,ID⟩
 |close _ _ n hn h=>calc⟨.one _ _ _ n c IC,n,IC⟩
theorem Turn.len{m:Int}{ps dS:-Stt}{s s':Stt}{d:D}{k:Nat}(h:Turn m ps s dS s' d)(hs:↑s.1=k)(hp:∀t∈ps,↑t.1=k):↑s'.1=k/\(∀t∈dS,↑t.1=k)/\(k=0->ps=[]->False):=by
 cases h with
 |back=>exact⟨hp _ (by simp),λt ht=>hp t (Yj _ ht),λ_ q=>by simp at q⟩
 |price _ _ n p hn hq=>exact⟨by show↑(bS s.1 n p)=k;unfold bS;rw[Yq];calc hs,λt ht=>(Yc.mp ht).elim (hp t) λe=>by rw[X1.mp e];calc hs,λ_ _=>by symm⟩
 |free _ _ n hn h=>exact⟨hs,λt ht=>(Yc.mp ht).elim (hp t) λe=>by rw[X1.mp e];calc hs,λ_ _=>by symm⟩
 |close _ _ n hn h=>calc⟨hs,λt ht=>(Yc.mp ht).elim (hp t) λe=>by rw[X1.mp e];calc hs,λ_ _=>by symm⟩
theorem Turn.tup{m:Int}{ps dS:-Stt}{s s':Stt}{d:D}(h:Turn m ps s dS s' d):∃ds,d=.tup ds:=by cases h<;>calc⟨_,Y⟩
theorem Uj(C:ξ)(ns:-Int)(hn:ns.length<=63):Du C KL ⟨Z::U (.o 0)::My 13 Z,[U (jq ns 0 0)]⟩:=by
 unfold Du;calc a_ λN hN=>?_;simp![af,aj,aD,toF,az,aB,aE,ak,aF,FV.v,ag,mJ,pP];calc⟨by decide,?_⟩;refine oX (λi δ=>∃o,bj (10000*i) o/\δ=⟨Z::U (.o 0)::My 13 Z,[U o]⟩) ⟨jq ns 0 0,⟨ns,0,0,Y,hn,⋯,⋯⟩,Y⟩ ?_ ?_
 .ext j d δ L hj ⟨o,P,rfl⟩ hL
  let⟨vv,rfl⟩:=ni hj;let vv:j<2:=vv;calc⟨trivial,?_⟩;erw[b7,YM,q2A,YU,YV];let⟨h1,Uk,N4⟩:=Dv (a:=10) (b:=5) vv;let⟨h2,Ul,Xn⟩:=Dv (a:=20) (b:=8) vv;let⟨h3,Um,Xo⟩:=Dv (a:=12) (b:=30) vv;calc a_ λN2 cD=>?_;simp![af,aj,aD,toF,az,aB,aE,ak,aF,FV.v,ag,mJ,pP];calc⟨10000*j,o,Y,Y,P,λo1 P1=>?_⟩;simp![af,aj,aD,toF,az,aB,aE,ak,aF,FV.v,ag,mJ,pP,Uk,Ul];calc⟨10000*j,h1,h2,o1,Y,Y,P1,⋯,⋯,⋯,⋯,⋯,λm ws o2 W _ _ P2=>?_⟩;simp![af,aj,aD,toF,az,aB,aE,ak,aF,FV.v,ag,mJ,pP];subst cD;calc a_ λN2 cD=>?_;simp![af,aj,aD,toF,az,aB,aE,ak,aF,FV.v,ag,mJ,pP]
  ext a;calc⟨[(1,.ins a C [])],⟨Y,trivial⟩,?_⟩;simp![af,aj,aD,toF,az,aB,aE,ak,aF,FV.v,ag,mJ,pP];calc⟨a,m,ws,W,Y,Y,λb=>?_⟩;simp![af,aj,aD,toF,az,aB,aE,ak,aF,FV.v,ag,mJ,pP];subst cD;calc a_ λN2 cD=>?_;simp![af,aj,aD,toF,az,aB,aE,ak,aF,FV.v,ag,mJ,pP];subst cD;let O0:bo m (ws,[]):=⟨W,q3k,λn hn=>absurd hn Yh⟩;calc a_ λN2 cD=>?_;simp![af,aj,aD,toF,az,aB,aE,ak,aF,FV.v,ag,mJ,pP];calc⟨⟨a,1,_,Y,Y,Y⟩,[(1,kO C a b m (ws,[]))],⟨Y,trivial⟩,?_⟩;simp![af,aj,aD,toF,az,aB,aE,ak,aF,FV.v,ag,mJ,pP];refine⟨a,b,m,(ws,[]),O0,Y,Y,λn0 Uo=>?_⟩
  rw[kf_eq O0 Uo];simp![af,aj,aD,toF,az,aB,aE,ak,aF,FV.v,ag,mJ,pP];subst cD;calc a_ λN2 cD=>uK λg' b' K2 hg hb' hK=>?_;simp![af,aj,aD,toF,az,aB,aE,ak,aF,FV.v,ag,mJ,pP,Um];calc⟨10000*j+300,11,o2,Y,Y,P2,⋯,⋯,by decide,λq o4 q0 q1 P4=>?_⟩;simp![af,aj,aD,toF,az,aB,aE,ak,aF,FV.v,ag,mJ,pP];calc⟨⋯,?_⟩;subst hg hb' hK;refine oX (λi δ=>∃o ps s,bj (10000*j+400+30*i) o/\bo m s/\(∀t∈ps,bo m t)/\↑s.1=↑ws/\(∀t∈ps,↑t.1=↑ws)/\(ws=[]->ps=[])/\↑ps<=i/\Ch (ws,[]) ps s/\δ=⟨[Z,U (.o 0),U (.p (.int (0+(j:Int)))),U (.p (aN m ws)),U (.w a),U (.p (.lst ((ps++[s]).map (dm m)))),U (.p (.lst ((kf m (ws,[])).map D.int))),Z,Z,Z,Z,Z,Z,Z,Z],[U o,U (kO C a b m s),U (pO b m ps)]⟩) ⟨o4,[],(ws,[]),P4.mono ⋯,O0,λt ht=>absurd ht Yh,Y,λt ht=>absurd ht Yh,λ_=>Y,Fm _,.nil,Y⟩ ?_ ?_
  .ext i d δ L2 hi ⟨o5,ps,s,P5,O,Os,ls,Dw,xP,oY,CH,rfl⟩ xQ
   let⟨Xp,rfl⟩:=ni hi;let Xq:(i:Int)<h3+q:=by symm
   calc⟨trivial,?_⟩;erw[b7,YU,YV];calc a_ λN2 cD=>?_;simp![af,aj,aD,toF,az,aB,aE,ak,aF,FV.v,ag,mJ,pP];calc⟨⟨a,1,_,Y,Y,Y⟩,[(1,kO C a b m s)],⟨Y,trivial⟩,?_⟩;simp![af,aj,aD,toF,az,aB,aE,ak,aF,FV.v,ag,mJ,pP];calc⟨a,b,m,s,O,Y,Y,λn1 ku=>?_⟩;rw[kf_eq O ku];simp![af,aj,aD,toF,az,aB,aE,ak,aF,FV.v,ag,mJ,pP];subst cD;calc a_ λN2 cD=>?_;simp![af,aj,aD,toF,az,aB,aE,ak,aF,FV.v,ag,mJ,pP];let sn:s.1=[]->ws=[]:=λz=>ZW.mp (by rw[<-ls,z];rfl);refine⟨10000*j+400+30*i,m,o5,s,ps,O,Os,λz=>xP (sn z),⋯,Y,Y,P5,⋯,λdS s' ch o6 T P6=>?_,λz o6 P6=>?_⟩
   .let⟨O',Uq,jj⟩:=T.ok O Os
    let⟨Ur,Dy,nz⟩:=T.len ls Dw;let⟨Us,e,AP⟩:=T.ch CH;let⟨cd,Ut⟩:=T.tup;simp![af,aj,aD,toF,az,aB,aE,ak,aF,FV.v,ag,mJ,pP];subst cD;subst Ut;calc jM λAy Bn hA hB=>?_;simp![af,aj,aD,toF,az,aB,aE,ak,aF,FV.v,ag,mJ,pP,nB,qh,iF];subst hA;calc a_ λN2 cD=>?_;simp![af,aj,aD,toF,az,aB,aE,ak,aF,FV.v,ag,mJ,pP];calc⟨⟨a,1,_,Y,Y,Y⟩,[(1,kO C a b m s)],⟨Y,trivial⟩,?_⟩;simp![af,aj,aD,toF,az,aB,aE,ak,aF,FV.v,ag,mJ,pP];calc⟨a,b,m,s,Y,Y,?_⟩;simp![af,aj,aD,toF,az,aB,aE,ak,aF,FV.v,ag,mJ,pP];subst cD;calc a_ λN2 cD=>?_;simp![af,aj,aD,toF,az,aB,aE,ak,aF,FV.v,ag,mJ,pP]
    calc⟨⟨a,1,_,Y,Y,Y⟩,[(1,kO C a b m s)],⟨Y,trivial⟩,?_⟩;simp![af,aj,aD,toF,az,aB,aE,ak,aF,FV.v,ag,mJ,pP];calc⟨a,b,m,s,O,Y,Y,?_⟩;simp![af,aj,aD,toF,az,aB,aE,ak,aF,FV.v,ag,mJ,pP];subst cD;calc a_ λN2 cD=>?_;simp![af,aj,aD,toF,az,aB,aE,ak,aF,FV.v,ag,mJ,pP];calc⟨[(1,kO C a b m s),(2,pO b m ps)],⟨Y,Y,trivial⟩,?_⟩;simp![af,aj,aD,toF,az,aB,aE,ak,aF,FV.v,ag,mJ,pP];calc⟨a,b,m,s,s',ps,dS,.tup cd,T,O,Os,⋯,Y,Y,λn3 n4 h3 h4=>?_⟩;rw[kf_eq O h3,kf_eq O' h4];simp![af,aj,aD,toF,az,aB,aE,ak,aF,FV.v,ag,mJ,pP];subst cD;refine a_ λN2 cD=>jM λAy Bn hA hB=>?_
    simp![af,aj,aD,toF,az,aB,aE,ak,aF,FV.v,ag,mJ,pP];calc⟨[(1,kO C a b m s')],⟨Y,trivial⟩,?_⟩;simp![af,aj,aD,toF,az,aB,aE,ak,aF,FV.v,ag,mJ,pP];calc⟨a,b,m,s',O',Y,Y,?_⟩;simp![af,aj,aD,toF,az,aB,aE,ak,aF,FV.v,ag,mJ,pP];calc⟨⟨a,1,_,Y,Y,Y⟩,[(1,kO C a b m s')],⟨Y,trivial⟩,?_⟩;simp![af,aj,aD,toF,az,aB,aE,ak,aF,FV.v,ag,mJ,pP];calc⟨a,b,m,s',O',Y,Y,λn5 h5=>?_⟩;rw[kf_eq O' h5];simp![af,aj,aD,toF,az,aB,aE,ak,aF,FV.v,ag,mJ,pP];calc⟨kf m s,kf m s',AP.mv O O',Y,Y,?_⟩;simp![af,aj,aD,toF,az,aB,aE,ak,aF,FV.v,ag,mJ,pP];subst hB;simp![af,aj,aD,toF,az,aB,aE,ak,aF,FV.v,ag,mJ,pP]
    subst cD;refine a_ λN2 cD=>?_
    let fin:∀(x9 Dz DA:Option DV)(v:Bool),(v=θ->kf m s'=kf m s)->N2 ⟨[Z,U (.o 0),U (.p (.int (0+(j:Int)))),U (.p (aN m ws)),U (.w a),U (.p (.lst ((dS++[s']).map (dm m)))),U (.p (.lst ((kf m (ws,[])).map D.int))),U (.p (.int (0+(i:Int)))),U (.p (.lst ((kf m s).map D.int))),x9,Dz,DA,U (.p (jR (kf m s) (kf m s'))),U (.p (.bl v)),Z],[U o6,U (kO C a b m s'),U (pO b m dS)]⟩:=λx9 Dz DA v hv=>by
     subst cD;refine jM λAy Bn hA hB=>?_
     let fin:Bn ⟨[Z,U (.o 0),U (.p (.int (0+(j:Int)))),U (.p (aN m ws)),U (.w a),U (.p (.lst ((dS++[s']).map (dm m)))),U (.p (.lst ((kf m (ws,[])).map D.int))),U (.p (.int (0+(i:Int)))),U (.p (.lst ((kf m s).map D.int))),x9,Dz,DA,U (.p (jR (kf m s) (kf m s'))),U (.p (.bl v)),Z],[U o6,U (kO C a b m s'),U (pO b m dS)]⟩:=by
      subst hB;exact xQ _ ⟨o6,dS,s',P6.mono ⋯,O',Uq,Ur,Dy,λz=>(nz (by rw[z];rfl) (xP z)).elim,⋯,Us,Y⟩
     cases v with
     |false=>simp![af,aj,aD,toF,az,aB,aE,ak,aF,FV.v,ag,mJ,pP];exact fin
     |true =>
      let e:jR (kf m s) (kf m s')=.tup [.non,.non]:=by rw[hv Y];unfold jR;rw[Tc]
      rw[e] at fin ⊢;simp![af,aj,aD,toF,az,aB,aE,ak,aF,FV.v,ag,mJ,pP,h8];exact fin
    simp![af,aj,aD,toF,az,aB,aE,ak,aF,FV.v,ag,mJ,pP];let e1:aQ (.str "price") (.str "price")=θ:=h8 _;let e2:aQ (.str "back") (.str "price")=ι:=Y;let e4:aQ (.str "free") (.str "price")=ι:=Y;let e7:aQ (.str "close") (.str "price")=ι:=Y
    cases T with
    |price _ _ n p hn hp =>
     let⟨y,ey,hy,ea,_⟩:=kc O.d7 hn.1 hn.2;simp![af,aj,aD,toF,az,aB,aE,ak,aF,FV.v,ag,mJ,pP,dj,c_,at2,e1,qz];refine⟨kK _,?_⟩
     by_cases c:n∈s.2
     .rw[X7 c,XI Y]
      exact fin _ _ _ θ λ_=>Ta hn c
     .rw[XO c,WK Ya]
      simp![af,aj,aD,toF,az,aB,aE,ak,aF,FV.v,ag,mJ,pP,aN,c_,ea,aX,at2,l9];calc fin _ _ _ (l (y.2.2=p)) λz=>?_;let z:=YQ z;let:bS s.1 n p=s.1:=by rw[<-z,<-ey];exact Tb hn
      rw[this]
    |back=>simp![af,aj,aD,toF,az,aB,aE,ak,aF,FV.v,ag,mJ,pP,dj,e2];exact fin _ _ _ ι λz=>nomatch z
    |free _ _ n hn h=>simp![af,aj,aD,toF,az,aB,aE,ak,aF,FV.v,ag,mJ,pP,dj,e4];exact fin _ _ _ ι λz=>nomatch z
    |close _ _ n hn h=>simp![af,aj,aD,toF,az,aB,aE,ak,aF,FV.v,ag,mJ,pP,dj,e7];exact fin _ _ _ ι λz=>nomatch z
   .simp![af,aj,aD,toF,az,aB,aE,ak,aF,FV.v,ag,mJ,pP]
    subst cD;simp![af,aj,aD,toF,az,aB,aE,ak,aF,FV.v,ag,mJ,pP,nB,qh,iF];exact xQ _ ⟨o6,ps,s,P6.mono ⋯,O,Os,ls,Dw,xP,⋯,CH,Y⟩
  .ext δ ⟨o5,ps,s,P5,O,Os,ls,Dw,xP,oY,CH,rfl⟩
   calc⟨trivial,?_⟩;show N2 _;subst cD;calc a_ λN2 cD=>uK λg' b' K2 hg hb' hK=>?_;simp![af,aj,aD,toF,az,aB,aE,ak,aF,FV.v,ag,mJ,pP]
   let ei:(cutD ((ps++[s]).map (dm m)) Z (U (-1))).reverse=(ps.map (dm m)).reverse:=by
    rw[XY];exact congrArg _ IH
   rw[ei];let rl:↑(cP 0 (h3+q).toNat)=(h3+q).toNat:=by rw[qi,pR];unfold br;simp
   rw[rl] at P5 oY;subst hg hb' hK;refine oX (λk δ=>∃qs rs s',ps=qs++rs/\↑rs=k/\bo m s'/\(∀t∈qs,bo m t)/\Ch (ws,[]) qs s'/\δ=⟨[Z,U (.o 0),U (.p (.int (0+(j:Int)))),U (.p (aN m ws)),U (.w a),U (.p (.lst ((ps++[s]).map (dm m)))),U (.p (.lst ((kf m (ws,[])).map D.int))),Z,Z,Z,Z,Z,Z,Z,Z],[U o5,U (kO C a b m s'),U (pO b m qs)]⟩) ⟨ps,[],s,(mJ ps).symm,Y,O,Os,CH,Y⟩ ?_ ?_
   .ext k d δ L2 hk ⟨qs,rs,s',eq,lr,O',Oq,CQ,rfl⟩ xQ
    let IU:=(qV.mp hk).1;rw[Y1,pR,eq,Fs] at IU;let⟨rY,t,rfl⟩:∃rY t,qs=rY++[t]:=⟨qs.dropLast,qs.getLast (λz=>by subst z;simp at IU;symm),(q04 _).symm⟩
    let ed:d=dm m t:=by
     rw[eq,XY,XY,q2D,q2D,NK (by rw[Y1,pR];symm),Y1,pR,lr,Yv] at hk;simpa using hk.symm
    subst ed;let⟨Uu,e,AP⟩:=CQ.inv Y;let Ot:bo m t:=Oq t (by simp);let hq:↑rY<900:=by rw[eq] at oY;erw[Fs] at oY;symm
    calc⟨trivial,?_⟩;erw[b7,YU,YV];calc a_ λN2 cD=>?_;simp![af,aj,aD,toF,az,aB,aE,ak,aF,FV.v,ag,mJ,pP];calc⟨⟨a,1,_,Y,Y,Y⟩,[(1,kO C a b m s')],⟨Y,trivial⟩,?_⟩;simp![af,aj,aD,toF,az,aB,aE,ak,aF,FV.v,ag,mJ,pP];calc⟨a,b,m,s',O',Y,Y,λn1 ku=>?_⟩;rw[kf_eq O' ku];simp![af,aj,aD,toF,az,aB,aE,ak,aF,FV.v,ag,mJ,pP];subst cD;calc a_ λN2 cD=>?_;simp![af,aj,aD,toF,az,aB,aE,ak,aF,FV.v,ag,mJ,pP];calc⟨⟨a,1,_,Y,Y,Y⟩,[(1,kO C a b m s'),(2,pO b m (rY++[t]))],⟨Y,Y,trivial⟩,?_⟩;simp![af,aj,aD,toF,az,aB,aE,ak,aF,FV.v,ag,mJ,pP];refine⟨a,b,m,s',t,rY,O',Ot,hq,Y,Y,λn3 n4 h3 h4=>?_⟩
    rw[kf_eq O' h3,kf_eq Ot h4];simp![af,aj,aD,toF,az,aB,aE,ak,aF,FV.v,ag,mJ,pP];subst cD;calc jM λAy Bn hA hB=>?_;simp![af,aj,aD,toF,az,aB,aE,ak,aF,FV.v,ag,mJ,pP];calc⟨⟨a,1,_,Y,Y,Y⟩,[(1,kO C a b m t)],⟨Y,trivial⟩,?_⟩;simp![af,aj,aD,toF,az,aB,aE,ak,aF,FV.v,ag,mJ,pP];calc⟨a,b,m,t,Ot,Y,Y,λn5 h5=>?_⟩;rw[kf_eq Ot h5];simp![af,aj,aD,toF,az,aB,aE,ak,aF,FV.v,ag,mJ,pP];calc⟨kf m s',kf m t,AP.symm.mv O' Ot,Y,Y,?_⟩;simp![af,aj,aD,toF,az,aB,aE,ak,aF,FV.v,ag,mJ,pP];calc⟨⟨a,1,_,Y,Y,Y⟩,[(1,kO C a b m t)],⟨Y,trivial⟩,?_⟩;simp![af,aj,aD,toF,az,aB,aE,ak,aF,FV.v,ag,mJ,pP]
    calc⟨a,b,m,t,Y,Y,?_⟩;simp![af,aj,aD,toF,az,aB,aE,ak,aF,FV.v,ag,mJ,pP,dm,dj,c_,h8];calc⟨Ui _ _,⟨a,1,_,Y,Y,Y⟩,[(1,kO C a b m t)],⟨Y,trivial⟩,?_⟩;simp![af,aj,aD,toF,az,aB,aE,ak,aF,FV.v,ag,mJ,pP];calc⟨a,b,m,t,Ot,Y,Y,?_⟩;simp![af,aj,aD,toF,az,aB,aE,ak,aF,FV.v,ag,mJ,pP,bC,c_,h8];calc⟨Yi (kK _) (by decide),?_⟩;subst hB;exact xQ _ ⟨rY,t::rs,t,by rw[eq,ZE];rfl,by rw[NG,lr],Ot,λx hx=>Oq x (Yj _ hx),Uu,Y⟩
   .ext δ ⟨qs,rs,s',eq,lr,O',Oq,CQ,rfl⟩
    refine⟨trivial,?_⟩
    let q0:qs=[]:=by
     rw[Y1,pR,eq,Fs] at lr;exact ZW.mp ⋯
    subst q0;obtain rfl:=CQ.end Y;show N2 _;subst cD;calc jM λAy Bn hA hB=>?_;simp![af,aj,aD,toF,az,aB,aE,ak,aF,FV.v,ag,mJ,pP];calc⟨⟨a,1,_,Y,Y,Y⟩,[(1,kO C a b m (ws,[]))],⟨Y,trivial⟩,?_⟩;simp![af,aj,aD,toF,az,aB,aE,ak,aF,FV.v,ag,mJ,pP];calc⟨a,b,m,(ws,[]),O0,Y,Y,λn5 h5=>?_⟩;rw[kf_eq O0 h5];simp![af,aj,aD,toF,az,aB,aE,ak,aF,FV.v,ag,mJ,pP,h8];calc⟨Yi (kK _) (by decide),?_⟩;calc⟨[(1,kO C a b m (ws,[])),(2,pO b m [])],⟨Y,Y,trivial⟩,?_⟩;simp![af,aj,aD,toF,az,aB,aE,ak,aF,FV.v,ag,mJ,pP];calc⟨a,b,m,(ws,[]),Y,Y,?_⟩;simp![af,aj,aD,toF,az,aB,aE,ak,aF,FV.v,ag,mJ,pP]
    calc⟨[(1,kO C a b m (ws,[])),(2,pO b m [])],⟨Y,Y,trivial⟩,?_⟩;simp![af,aj,aD,toF,az,aB,aE,ak,aF,FV.v,ag,mJ,pP];calc⟨a,b,m,(ws,[]),Y,Y,?_⟩;simp![af,aj,aD,toF,az,aB,aE,ak,aF,FV.v,ag,mJ,pP];subst hB;let oY:↑ps<=60:=by symm
    exact hL _ ⟨o5,P5.mono ⋯,Y⟩
 .ext δ ⟨o,P,rfl⟩
  calc⟨trivial,?_⟩;show N _;subst hN;simp![af,aj,aD,toF,az,aB,aE,ak,aF,FV.v,ag,mJ,pP]
end LJ
namespace L2
open PySem PySem.Spec PyProof.Rows
variable[aM]
section
variable{X:Cx}{body:-R}{h0:ExceptHandler}{hs:-ExceptHandler}{pos:y}
end
section
variable{F H:Hp}{ad:-O}{δ:aJ}{σ:St}
variable{X:Cx}{o i e v:M}{fo fi fv f:WE}{pos apos:y}{x:J}
end
abbrev Xr:=-FV->aJ->(aJ->Prop)->Prop
section
variable{F H:Hp}{ad:-O}{δ:aJ}{σ:St}
variable{X:Cx}{a b e:M}{es:-M}{f g:WE}{fa:WA}{pos:y}
end
section
variable{F H:Hp}{ad:-O}{δ:aJ}{σ:St}
variable{X:Cx}{a b e i o:M}{es:-M}{body:-R}{f g:WE}{fa:WA}{w:WI}{wg:WG}{bs:WS}{pos:y}
end
end L2
namespace LJ
open PySem L2 PySem.Spec PySem.W PyProof.Rows
variable[aM]
end LJ
namespace L2
open PySem PySem.Spec PyProof.Rows
variable[aM]
section
variable{F H:Hp}{ad:-O}{δ:aJ}{σ:St}
variable{X:Cx}{tg iter elt o i l:M}{w:WI}{ww:Xs}{g:WG}{pos:y}{ifs:-M}{t:WT}{f fo fi:WE}{fa:WA}{es:-M}{scope:Δ}
end
end L2
namespace HT
open PySem PySem.Spec PyProof.Rows
section
open PySem.SeqAt
open PySem.AutoSeq1 (wpAny_loadPart')
open PySem.MeetsSeq PySem.MeetsSeq2 PySem.MeetsSeq3
end
section
variable{prog:t}{w:X}{A:q}{E:bc}{s:B}
end
end HT
namespace L2
open PySem PySem.Spec PyProof.Rows PySem.W
section
variable{X:Cx}{pins:aH}{σ:St}{H:Hp}{s:B}{E:bc}{l q I S:O}{P:-V->Hp->Prop}{xs:-V}{d:L}{R:Result->B->Prop}
end
variable[aM]
section
variable{X:Cx}{params:Arguments}{body:M}{scope:o}{fI:y}{x:J}{Nb:-J}{cp:-(Option Nat)}{fb:WE}{T:O}
variable{e:M}{f:WE}{p1 q1 i8 Uv:y}
end
end L2
namespace L2
open PySem PySem.Spec PyProof.Rows
noncomputable def Uw:M->-J
 |.Name x _=>[x]
 |.Tuple es _ _=>es.filterMap fun
  |.Name x _=>U x
  |_=>Z
 |_=>[]
noncomputable def dh(N:-J)(cp:-(Option Nat))(tg:M):-J:=Uw tg++cp.filterMap λc=>c.bind λi=>N[i]?
variable[aM]
section
variable{X:Cx}{tg iter elt:M}{ifs:-M}{scope:o}{pos:y}{w:WI}{g:WG}{t:WT}{f:WE}{cp:-(Option Nat)}
theorem Ux(hi:JI X tg iter (j9 w))(hg:∀d,(dh X.N cp tg).Nodup->JG (cK X scope (dh X.N cp tg) d) tg (jH g))(hf:∀d,JF (cK X scope (dh X.N cp tg) d) ifs (di t))(he:∀d,JE (cK X scope (dh X.N cp tg) d) elt (tD f))(hc:‹X.calm=θ›)(hn:autoParam (l (dh X.N cp tg).Nodup=θ) qz0._auto_1)
  (hk:‹scope.kind=.function›) (ho:autoParam (k6 X.N X.env.scope scope (dh X.N cp tg) cp=θ) qz0._auto_1) (hs:‹∀x,foldedSetIterable iter X.env x=pure x›) :
  JE X (.ListComp elt [⟨tg,iter,ifs,0⟩] scope pos) (tD (fV w cp g t f)):=uo cp _ hc hi (λd=>hg d (YQ hn)) hf he hk ho hs
theorem Uy(hi:JI X tg iter (j9 w))(hg:∀d,(dh X.N cp tg).Nodup->JG (cK X scope (dh X.N cp tg) d) tg (jH g))(hf:∀d,JF (cK X scope (dh X.N cp tg) d) ifs (di t))(he:∀d,JE (cK X scope (dh X.N cp tg) d) elt (tD f))(hc:‹X.calm=θ›)(hn:autoParam (l (dh X.N cp tg).Nodup=θ) qz0._auto_1)
  (hk:‹scope.kind=.function›) (ho:autoParam (k6 X.N X.env.scope scope (dh X.N cp tg) cp=θ) qz0._auto_1) (hs:‹∀x,foldedSetIterable iter X.env x=pure x›) :
  JE X (.ListComp elt [⟨tg,iter,ifs,0⟩] scope pos) (tD (mW w cp g t f)):=Gx cp _ hc hi (λd=>hg d (YQ hn)) hf he hk ho hs
theorem Uz[d_]{i:Nat}{x:J}{pos' iz:y}(hN:X.N.Nodup)(hit:JI X tg iter (j9 w))(hg:∀d,(dh X.N cp tg).Nodup->JG (cK X scope (dh X.N cp tg) d) tg (jH g))(hf:∀d,JF (cK X scope (dh X.N cp tg) d) ifs (di t))(he:∀d,JE (cK X scope (dh X.N cp tg) d) elt (tD f))(hi:‹X.N[i]?=U x›)(hx:autoParam (Loc X.env.scope x) qz8._auto_1)(hc:‹X.calm=θ›)(hn:autoParam (l (dh X.N cp tg).Nodup=θ) qz0._auto_1)
  (hk:‹scope.kind=.function›) (ho:autoParam (k6 X.N X.env.scope scope (dh X.N cp tg) cp=θ) qz0._auto_1) (hs:‹∀x,foldedSetIterable iter X.env x=pure x›)
  (tQ:‹swapsWith (.ListComp elt [⟨tg,iter,ifs,0⟩] scope pos) (U (.Name x pos')) iz.line X.env=pure θ›)
  (lR:autoParam (gK X x) qz1._auto_1) :
  JS X (.Assign [.Name x pos'] (.ListComp elt [⟨tg,iter,ifs,0⟩] scope pos) iz) (cY (aP i (fV w cp g t f))):=OZ cp _ hN hi hx hc hit (λd=>hg d (YQ hn)) hf he hk ho hs tQ lR
end
end L2
namespace LJ
open PySem L2 PySem.Spec PySem.W PyProof.Rows
variable[aM]{X:Cx}{Z:Ev}{x:J}{ps:-J}{G:GD}{e:M}{es:-M}{fa:WA}{p pos:y}{j k n:Nat}
end LJ
namespace LJ
open PySem L2 PySem.Spec PySem.W PyProof.Rows
variable[aM]
end LJ
namespace LJ
open PySem L2 PySem.Spec PySem.W
variable[aM]
section
variable{X:Cx}{body dX:-R}{b0 st:R}{x n:J}{p1 p2 pos:y}{L:O}{ic ie:Nat}{B:IL->WS}{f1:WE}{tup:Bool}{Cs:-O}
end
section
variable{X:Cx}{body dX:-R}{b0 st:R}{x n:J}{p1 p2 pos:y}{L:O}{ic ie:Nat}{B:fx->Nat->WS}{f1:WE}{tup:Bool}{Cs:-O}
end
section
variable{X:Cx}{body dX:-R}{b0 st:R}{x n w:J}{p1 p2 pos:y}{L:O}{ic ie:Nat}{B:IL->WS}{Cs:-O}
end
end LJ
namespace LJ
open PySem L2
noncomputable def top(i:Nat):R:=PySem.Challenge.pw_lotjoin_k63_whole_kept_as_made_anew.main.body.getD i (.Pass ⟨0,0,0,0⟩)
section
variable[aM]{Z:Ev}
set_option hygiene false
local macro_rules | `(tactic| ac_rfl) => `(tactic| repeat' first|(show JE _ (.Name _ _) _;(first|exact dv _|exact IF (by assumption)))|(show JE _ (.Constant _ _ _) _;(first|exact cX|exact mO|exact wa|exact uf))|(show JA _ _ _;(first|exact bH|refine bp ?_ ?_|refine fg ?_ ?_|refine eK ?_ ?_|refine dZ ?_ ?_|refine pY ?_ ?_|refine gT ?_ ?_))|(show JE _ (.Call _ _ _ _) _;(first|refine cq (by assumption) hr ?_|refine Tf (by assumption) hr ?_|refine kF rG (by rfl) B.len ZX ?_|refine kF (Pz rfl) (by rfl) B.sum PW ?_|refine kF (PA rfl) (by rfl) B.all OF ?_|refine kF (PB rfl) (by rfl) B.min PY ?_|refine kF (PC rfl) (by rfl) B.max PX ?_|refine kF G7 (by rfl) B.sorted wQ ?_|refine PZ P9 (by rfl) B.sorted wQ ?_|refine wd G6 (by rfl) B.tuple zI ?_|refine wL PH (by rfl) B.isinstance (by rfl) B.int OD ?_|refine wL PJ (by rfl) B.isinstance (by rfl) B.bool OC ?_|refine wL PK (by rfl) B.isinstance (by rfl) B.tuple zI ?_|refine wL PL (by rfl) B.isinstance (by rfl) B.list qY ?_|refine PD rfl (by rfl) B.list qY (by rfl) B.range Hj ?_|refine QH rfl hu (by rfl) B.len ZX (by rfl) B.set OE ?_|refine(qS YS q0t q0u vR ?_ ?_).weak G8|refine(qS YS PySem.F.slot_list_extend PySem.F.type_list_extend NA ?_ ?_).weak PM|refine(qS YS q0S q0T NB ?_ ?_).weak PN))|(show JE _ (.Subscript _ _ _) _;(first|refine dH dQ ?_ ?_ λ_ _=>rfl|refine Hm ?_ ?_ ?_))|(show JE _ (.BinOp _ _ _ _) _;(first|refine mP (op:=.Add) AI ?_ ?_|refine mP (op:=.Sub) GP ?_ ?_|refine mP (op:=.Mult) Po ?_ ?_|refine mP (op:=.Mod) Pp ?_ ?_|refine mP (op:=.FloorDiv) Qp ?_ ?_|refine mP (op:=.Pow) Pq ?_ ?_|refine P_ ?_ ?_))|(show JE _ (.Compare _ _ _ _) _;(first|refine mQ (op:=.Eq) (l4 hu) ?_ ?_ (by rfl)|refine mQ (op:=.NotEq) (nk hu) ?_ ?_ (by rfl)|refine mQ (op:=.Lt) (GQ hu) ?_ ?_ (by rfl)|refine mQ (op:=.Gt) GS ?_ ?_ (by rfl)|refine mQ (op:=.IsNot) AK ?_ ?_ (by rfl)|refine Pw GR GR ?_ ?_ ?_))|(show JE _ _ _;(first|refine oH ?_|refine Gk ?_|refine uh ?_|refine Gn ?_ ?_|refine zU ?_|refine OU ?_|refine GZ ?_|refine Gp ?_ ?_ ?_|exact RN|refine Ux ?_ (λd nd=>?_) (λd=>?_) λd=>?_|refine Uy ?_ (λd nd=>?_) (λd=>?_) λd=>?_))|(show JS _ _ _;(first|refine fG ?_|refine ji ?_ ?_ ?_|refine Uz nd ?_ (λd nd=>?_) (λd=>?_) λd=>?_|refine gb nd rfl (by trivial) ?_|refine oM ?_|refine RR hu ?_ ?_ ?_|refine(yy ?_ (EA ?_ ?_ set_list)).weak PR|refine Gs ?_ ?_|refine wq Z7 rfl ?_ ?_ ?_|exact rL))|(show c6 _ _ _;(first|refine c7 ?_|refine cv ?_ ?_|exact jh))|(show JT _ _ _;(first|refine fP (op:=.Eq) (l4 hu) ?_ ?_ (by rfl)|refine fP (op:=.NotEq) (nk hu) ?_ ?_ (by rfl)|refine fP (op:=.Lt) (GQ hu) ?_ ?_ (by rfl)|refine fP (op:=.Gt) GS ?_ ?_ (by rfl)|refine fP (op:=.GtE) Pr ?_ ?_ (by rfl)|refine fP (op:=.In) (Ao hu) ?_ ?_ (by rfl)|refine fP (op:=.NotIn) (Ap hu) ?_ ?_ (by rfl)|refine fP (op:=.IsNot) AK ?_ ?_ (by rfl)|refine RQ hu ?_ ?_|refine oJ ?_|refine JW.jt (oK ?_ ?_)|refine JW.jt (zT ?_ ?_)|refine mT ?_))|(show JW _ _ _;(first|refine oK ?_ ?_|refine ui ?_|refine zT ?_ ?_|refine Gm ?_))|exact GX|refine GY ?_|refine wD (by rfl) B.range ?_|refine Pm (by rfl) B.range ?_|refine Pl (by rfl) B.enumerate ?_|refine rz ?_|exact lq nd rfl (by trivial)|refine Gr rfl ?_|exact Gq|refine zV ?_ ?_|exact wu|refine zY ?_)
noncomputable abbrev IV:R:=top 12
abbrev IW(Z:Ev):Prop:=Fx Z 1 "is_whole" ["thing"] 1 AZ
theorem UA(D:Dx Z "is_whole" IV)(B:BT Z.mg):IW Z:=fu (N:=["thing"]) D me λhr nd hu=>⟨A0,(by ac_rfl),QE⟩
noncomputable abbrev IX:R:=top 13
abbrev qG(Z:Ev):Prop:=Fx Z 2 "is_within" ["thing", "least", "most"] 3 nH
theorem UB(D:Dx Z "is_within" IX)(B:BT Z.mg)(Xt:IW Z):qG Z:=fu (N:=["thing", "least", "most"]) D pe λhr nd hu=>⟨A1,(by ac_rfl),QF⟩
noncomputable abbrev IY:R:=top 14
abbrev DB(Z:Ev):Prop:=Fx Z 1 "is_tuple_of" ["thing", "size"] 2 w5
theorem UC(D:Dx Z "is_tuple_of" IY)(B:BT Z.mg):DB Z:=fu (N:=["thing", "size"]) D jw λhr nd hu=>⟨A3,(by ac_rfl),QG⟩
noncomputable abbrev IZ:R:=top 15
abbrev I0(Z:Ev):Prop:=Fx Z 3 "are_ends" ["many", "one", "other"] 3 A4
theorem UD(D:Dx Z "are_ends" IZ)(B:BT Z.mg)(qH:qG Z):I0 Z:=fu (N:=["many", "one", "other"]) D pe λhr nd hu=>⟨A5,(by ac_rfl),QI⟩
noncomputable abbrev I_:R:=top 16
abbrev Ja(Z:Ev):Prop:=Fx Z 4 "is_way" ["many", "thing"] 2 A6
theorem UE(D:Dx Z "is_way" I_)(B:BT Z.mg)(Jb:Ct Z "MOST_PRICE" 1000000000)(UG:DB Z)(Xu:I0 Z)(qH:qG Z):Ja Z:=fu (N:=["many", "thing"]) D jw λhr nd hu=>⟨A7,(by ac_rfl),QJ⟩
noncomputable abbrev Jc:R:=top 17
abbrev Jd(Z:Ev):Prop:=Fx Z 5 "are_ways" ["many", "thing"] 2 A8
theorem UH(D:Dx Z "are_ways" Jc)(B:BT Z.mg)(Xv:Ct Z "MOST_WAYS" 30)(Xw:Ja Z):Jd Z:=fu (N:=["many", "thing"]) D jw λhr nd hu=>⟨A9,(by ac_rfl),QK⟩
noncomputable abbrev Je:R:=top 18
abbrev Jf(Z:Ev):Prop:=Fx Z 6 "is_web" ["thing"] 1 A_
theorem UI(D:Dx Z "is_web" Je)(B:BT Z.mg)(Xx:Ct Z "MOST_HOUSES" 12)(UG:DB Z)(qH:qG Z)(Xy:Jd Z):Jf Z:=fu (N:=["thing"]) D me λhr nd hu=>⟨Ba,(by ac_rfl),QL⟩
noncomputable abbrev Jg:R:=top 19
abbrev xR(Z:Ev):Prop:=Fx Z 7 "need_web" ["web"] 1 uZ
theorem UJ(D:Dx Z "need_web" Jg)(B:BT Z.mg)(Xz:Jf Z):xR Z:=fu (N:=["web"]) D me λhr nd hu=>⟨BG,(by ac_rfl),RB⟩
noncomputable abbrev Jh:R:=top 20
abbrev Ji(Z:Ev):Prop:=Fx Z 1 "rank_of" ["way"] 1 BH
theorem UK(D:Dx Z "rank_of" Jh)(B:BT Z.mg):Ji Z:=fu (N:=["way"]) D me λhr nd hu=>⟨BI,(by ac_rfl),RC⟩
noncomputable abbrev Jj:R:=top 21
abbrev Jk(Z:Ev):Prop:=Fx Z 11 "order_of" ["web"] 1 BK
theorem UL{T:O}(D:xI Z "order_of" Jj T ⟨52,40,52,76⟩ ((("order_of" : J)++".<locals>.")++"<lambda>"))(B:BT Z.mg)(xS:xR Z)(UM:Ji Z):Jk Z:=Tj (N:=["web", "ways"]) D me λLD hc hr nd hu=>⟨BL,(cv (oM (cq xS hr (bp (dv 0) bH))) (cv (gb (i:=1) nd Y (by trivial) (dH dQ (dv 0) cX (λ_ _=>Y))) (c7 (fG (Rx (jQ.mk (x:="number") (Nb:=["ways"]) (cp:=[U 1]) ⟨LD.env hc,LD.ng,LD.blt⟩ LD.tbl Y Y (by first|rfl|kernel_rfl) Y Y (λ_ _ _ _ _=>Y) ⟨1,hr.mono (by decide),λd hr=>(cq UM hr (dZ (dH dQ (dv 1) (dv 0) (λ_ _=>Y)) bH))⟩) Y (by rfl) B.sorted wQ (by rfl) B.range Hj (eK (kF rG (by rfl) B.len ZX (bp (dv 1) bH)) bH)))))),RE⟩
noncomputable abbrev Jl:R:=top 23
abbrev DC(Z:Ev):Prop:=Fx Z 8 "need_ways" ["web", "ways"] 2 xq
theorem UN(D:Dx Z "need_ways" Jl)(B:BT Z.mg)(xS:xR Z)(qH:qG Z):DC Z:=fu (N:=["web", "ways", "last", "seen", "place", "number"]) D jw λhr nd hu=>⟨BQ,(by ac_rfl),RU⟩
noncomputable abbrev Jm:R:=top 24
abbrev DD(Z:Ev):Prop:=Fx Z 1 "joined" ["firsts", "one", "other"] 3 uN
theorem UO(D:Dx Z "joined" Jm)(B:BT Z.mg):DD Z:=fu (N:=["firsts", "one", "other", "gone", "kept"]) D pe λhr nd hu=>⟨Bb,(by ac_rfl),QM⟩
noncomputable abbrev Jn:R:=top 25
abbrev DE(Z:Ev):Prop:=Fx Z 2 "firsts_of" ["web", "ways"] 2 w6
theorem UP(D:Dx Z "firsts_of" Jn)(B:BT Z.mg)(UQ:DD Z):DE Z:=fu (N:=["web", "ways", "firsts", "number", "way"]) D jw λhr nd hu=>⟨w_,(by ac_rfl),QN⟩
noncomputable abbrev Jo:R:=top 27
abbrev DF(Z:Ev):Prop:=Fx Z 9 "weight_of" ["web", "ways"] 2 xA
theorem UR(D:Dx Z "weight_of" Jo)(B:BT Z.mg)(XA:DC Z):DF Z:=fu (N:=["web", "ways"]) D jw λhr nd hu=>⟨B4,(by ac_rfl),Sn⟩
noncomputable abbrev Jp:R:=top 29
abbrev DG(Z:Ev):Prop:=Fx Z 12 "forest_of" ["web"] 1 xp
theorem US(D:Dx Z "forest_of" Jp)(B:BT Z.mg)(XB:Jk Z)(XC:DE Z)(UQ:DD Z):DG Z:=fu (N:=["web", "order", "forest", "firsts", "number", "way"]) D me λhr nd hu=>⟨BM,(by ac_rfl),RJ⟩
noncomputable abbrev Jq:R:=top 31
abbrev Jr(Z:Ev):Prop:=Fx Z 1 "ways_but" ["web", "closed"] 2 B_
theorem UT(D:Dx Z "ways_but" Jq)(B:BT Z.mg):Jr Z:=fu (N:=["web", "closed"]) D jw λhr nd hu=>⟨Ca,(by ac_rfl),SA⟩
noncomputable abbrev Js:R:=top 32
abbrev Jt(Z:Ev):Prop:=Fx Z 1 "web_of" ["web", "numbers"] 2 Cb
theorem UU(D:Dx Z "web_of" Js)(B:BT Z.mg):Jt Z:=fu (N:=["web", "numbers"]) D jw λhr nd hu=>⟨Cc,(by ac_rfl),SD⟩
noncomputable abbrev Ju:R:=top 33
abbrev Jv(Z:Ev):Prop:=Fx Z 1 "priced" ["web", "number", "price"] 3 Cd
theorem UW(D:Dx Z "priced" Ju)(B:BT Z.mg):Jv Z:=fu (N:=["web", "number", "price", "way"]) D pe λhr nd hu=>⟨Ce,(by ac_rfl),SE⟩
noncomputable abbrev Jw:R:=top 34
abbrev Jx(Z:Ev):Prop:=Fx Z 1 "first_missing" ["numbers", "others"] 2 xG
theorem UX(D:Dx Z "first_missing" Jw)(B:BT Z.mg):Jx Z:=fu (N:=["numbers", "others", "missing"]) D jw λhr nd hu=>⟨Cf,(by ac_rfl),SF⟩
noncomputable abbrev Jy:R:=top 35
abbrev Jz(Z:Ev):Prop:=Fx Z 2 "exchange_of" ["ahead", "behind"] 2 Cg
theorem UY(D:Dx Z "exchange_of" Jy)(B:BT Z.mg)(XD:Jx Z):Jz Z:=fu (N:=["ahead", "behind"]) D jw λhr nd hu=>⟨Ci,(by ac_rfl),SG⟩
noncomputable abbrev JB:R:=inClass (top 36) 0
abbrev JD(Z:Ev)(c_Keeper:O):Prop:=Fc Z c_Keeper 8 "Keeper" ["self", "web"] 2 (Cj c_Keeper)
theorem UZ{c_Keeper:O}(D:Dc Z c_Keeper "Keeper" "Keeper.__init__" JB)(B:BT Z.mg)(ae:Kx Z.K c_Keeper ["town", "shut", "past"])(xS:xR Z):JD Z c_Keeper:=TH (N:=["self", "web"]) D xK λhr nd hu=>⟨Cm c_Keeper,(cv (oM (cq xS hr (bp (dv 1) bH))) (cv (vd ae.c (ae.at "town") (dv 0) (dv 1)) (cv (vd ae.c (ae.at "shut") (dv 0) (oH bH)) (c7 (vd ae.c (ae.at "past") (dv 0) (Gk bH)))))),SH c_Keeper⟩
noncomputable abbrev JH:R:=inClass (top 36) 1
abbrev DH(Z:Ev)(c_Keeper:O):Prop:=Fk Z c_Keeper 1 "web" ["self"] 1 (vf c_Keeper)
theorem U0{c_Keeper:O}(D:Dm Z c_Keeper "web" "Keeper.web" JH)(B:BT Z.mg)(ae:Kx Z.K c_Keeper ["town", "shut", "past"]):DH Z c_Keeper:=lG (N:=["self"]) D rW λhr nd hu=>⟨Co c_Keeper,(c7 (fG (gf ae.c (ae.at "town") (dv 0)))),SI c_Keeper⟩
noncomputable abbrev JJ:R:=inClass (top 36) 2
abbrev DI(Z:Ev)(c_Keeper:O):Prop:=Fk Z c_Keeper 1 "closed" ["self"] 1 (vg c_Keeper)
theorem U1{c_Keeper:O}(D:Dm Z c_Keeper "closed" "Keeper.closed" JJ)(B:BT Z.mg)(ae:Kx Z.K c_Keeper ["town", "shut", "past"]):DI Z c_Keeper:=lG (N:=["self"]) D rW λhr nd hu=>⟨Cp c_Keeper,(c7 (fG (P0 P8 (by rfl) B.list qY (gT (gf ae.c (ae.at "shut") (dv 0)) bH)))),SJ c_Keeper⟩
noncomputable abbrev JK:R:=inClass (top 36) 3
abbrev vw(Z:Ev)(c_Keeper:O):Prop:=Fk Z c_Keeper 13 "forest" ["self"] 1 (kN c_Keeper)
theorem U2{c_Keeper:O}(D:Dm Z c_Keeper "forest" "Keeper.forest" JK)(B:BT Z.mg)(ae:Kx Z.K c_Keeper ["town", "shut", "past"])(U3:Jr Z)(DJ:DG Z)(U4:Jt Z):vw Z c_Keeper:=lG (N:=["self", "numbers"]) D rW λhr nd hu=>⟨Cr c_Keeper,(cv (gb (i:=1) nd Y (by trivial) (cq U3 hr (gT (gf ae.c (ae.at "town") (dv 0)) (gT (gf ae.c (ae.at "shut") (dv 0)) bH)))) (c7 (fG (Gx [η,U 1] ["place", "numbers"] Y (rz (cq DJ hr (eK (cq U4 hr (gT (gf ae.c (ae.at "town") (dv 0)) (bp (dv 1) bH))) bH))) (λd=>(lq (i:=0) (show(["place", "numbers"]:-J).Nodup by decide +kernel) Y (by trivial))) (λd=>wu) (λd=>(dH dQ (dv 1) (dv 0) (λ_ _=>Y))))))),SK c_Keeper⟩
noncomputable abbrev JL:R:=inClass (top 36) 4
abbrev JM(Z:Ev)(c_Keeper:O):Prop:=Fk Z c_Keeper 14 "weight" ["self"] 1 (Cu c_Keeper)
theorem U5{c_Keeper:O}(D:Dm Z c_Keeper "weight" "Keeper.weight" JL)(B:BT Z.mg)(ae:Kx Z.K c_Keeper ["town", "shut", "past"])(DK:DF Z)(aI:vw Z c_Keeper):JM Z c_Keeper:=lG (N:=["self"]) D rW λhr nd hu=>⟨Cv c_Keeper,(c7 (fG (cq DK hr (gT (gf ae.c (ae.at "town") (dv 0)) (eK (g6 ι ae.c aI hr (dv 0)) bH))))),SM c_Keeper⟩
noncomputable abbrev JN:R:=inClass (top 36) 9
abbrev xT(Z:Ev)(c_Keeper:O):Prop:=Fk Z c_Keeper 3 "need_way" ["self", "number"] 2 (vh c_Keeper)
theorem U6{c_Keeper:O}(D:Dm Z c_Keeper "need_way" "Keeper.need_way" JN)(B:BT Z.mg)(ae:Kx Z.K c_Keeper ["town", "shut", "past"])(qH:qG Z):xT Z c_Keeper:=lG (N:=["self", "number"]) D xK λhr nd hu=>⟨Cw c_Keeper,(c7 (ji (oJ (mT (cq qH hr (bp (dv 1) (fg cX (gT (mP GP (kF rG (by rfl) B.len ZX (dZ (dH dQ (gf ae.c (ae.at "town") (dv 0)) cX (λ_ _=>Y)) bH)) cX) bH)))))) (c7 rL) jh)),SN c_Keeper⟩
noncomputable abbrev JO:R:=inClass (top 36) 11
abbrev xU(Z:Ev)(c_Keeper:O):Prop:=Fk Z c_Keeper 14 "set_to" ["self", "web", "shut"] 3 (vi c_Keeper)
theorem U7{c_Keeper:O}(D:Dm Z c_Keeper "set_to" "Keeper.set_to" JO)(B:BT Z.mg)(ae:Kx Z.K c_Keeper ["town", "shut", "past"])(aI:vw Z c_Keeper)(U8:Jz Z):xU Z c_Keeper:=lG (N:=["self", "web", "shut", "ahead"]) D C4 λhr nd hu=>⟨Cy c_Keeper,(cv (gb (i:=3) nd Y (by trivial) (g6 ι ae.c aI hr (dv 0))) (cv (vd ae.c (ae.at "town") (dv 0) (dv 1)) (cv (vd ae.c (ae.at "shut") (dv 0) (dv 2)) (c7 (fG (cq U8 hr (bp (dv 3) (eK (g6 ι ae.c aI hr (dv 0)) bH)))))))),SO c_Keeper⟩
noncomputable abbrev JP:R:=inClass (top 36) 10
abbrev xV(Z:Ev)(c_Keeper:O):Prop:=Fk Z c_Keeper 15 "changed" ["self", "web", "shut"] 3 (vj c_Keeper)
theorem U9{c_Keeper:O}(D:Dm Z c_Keeper "changed" "Keeper.changed" JP)(B:BT Z.mg)(ae:Kx Z.K c_Keeper ["town", "shut", "past"])(bu:xU Z c_Keeper):xV Z c_Keeper:=lG (N:=["self", "web", "shut"]) D C4 λhr nd hu=>⟨Cz c_Keeper,(cv (oM ((qS YS q0t q0u vR (vc (gf ae.c (ae.at "past") (dv 0))) (pY (uh (gT (gf ae.c (ae.at "town") (dv 0)) (gT (gf ae.c (ae.at "shut") (dv 0)) bH))) bH)).weak G8)) (c7 (fG (fJ ι ae.c bu hr (dv 0) (bp (dv 1) (bp (dv 2) bH)))))),SQ c_Keeper⟩
noncomputable abbrev JQ:R:=inClass (top 36) 5
abbrev JR(Z:Ev)(c_Keeper:O):Prop:=Fk Z c_Keeper 16 "price" ["self", "number", "price"] 3 (CA c_Keeper)
theorem U_{c_Keeper:O}(D:Dm Z c_Keeper "price" "Keeper.price" JQ)(B:BT Z.mg)(Jb:Ct Z "MOST_PRICE" 1000000000)(ae:Kx Z.K c_Keeper ["town", "shut", "past"])(bf:xT Z c_Keeper)(qH:qG Z)(bq:xV Z c_Keeper)(Va:Jv Z):JR Z c_Keeper:=lG (N:=["self", "number", "price"]) D C4 λhr nd hu=>⟨CB c_Keeper,(cv (oM (fJ ι ae.c bf hr (dv 0) (bp (dv 1) bH))) (cv (ji (oJ (mT (cq qH hr (bp (dv 2) (fg cX (bp (IF Jb) bH)))))) (c7 rL) jh) (c7 (fG (fJ ι ae.c bq hr (dv 0) (eK (cq Va hr (gT (gf ae.c (ae.at "town") (dv 0)) (bp (dv 1) (bp (dv 2) bH)))) (gT (gf ae.c (ae.at "shut") (dv 0)) bH))))))),SS c_Keeper⟩
noncomputable abbrev JU:R:=inClass (top 36) 6
abbrev JV(Z:Ev)(c_Keeper:O):Prop:=Fk Z c_Keeper 16 "close" ["self", "number"] 2 (CD c_Keeper)
theorem Vb{c_Keeper:O}(D:Dm Z c_Keeper "close" "Keeper.close" JU)(B:BT Z.mg)(ae:Kx Z.K c_Keeper ["town", "shut", "past"])(bf:xT Z c_Keeper)(bq:xV Z c_Keeper):JV Z c_Keeper:=lG (N:=["self", "number"]) D xK λhr nd hu=>⟨CF c_Keeper,(cv (oM (fJ ι ae.c bf hr (dv 0) (bp (dv 1) bH))) (cv (ji (fP (Ao hu) (dv 1) (gf ae.c (ae.at "shut") (dv 0)) (by rfl)) (c7 rL) jh) (c7 (fG (fJ ι ae.c bq hr (dv 0) (gT (gf ae.c (ae.at "town") (dv 0)) (eK (kF G7 (by rfl) B.sorted wQ (gT (mP AI (gf ae.c (ae.at "shut") (dv 0)) (oH (bp (dv 1) bH))) bH)) bH))))))),SU c_Keeper⟩
noncomputable abbrev JX:R:=inClass (top 36) 7
abbrev JY(Z:Ev)(c_Keeper:O):Prop:=Fk Z c_Keeper 16 "free" ["self", "number"] 2 (CG c_Keeper)
theorem Vc{c_Keeper:O}(D:Dm Z c_Keeper "free" "Keeper.free" JX)(B:BT Z.mg)(ae:Kx Z.K c_Keeper ["town", "shut", "past"])(bf:xT Z c_Keeper)(bq:xV Z c_Keeper):JY Z c_Keeper:=lG (N:=["self", "number"]) D xK λhr nd hu=>⟨CI c_Keeper,(cv (oM (fJ ι ae.c bf hr (dv 0) (bp (dv 1) bH))) (cv (ji (fP (Ap hu) (dv 1) (gf ae.c (ae.at "shut") (dv 0)) (by rfl)) (c7 rL) jh) (c7 (fG (fJ ι ae.c bq hr (dv 0) (gT (gf ae.c (ae.at "town") (dv 0)) (gT (uo [η,U 1] ["way", "number"] Y (rz (gf ae.c (ae.at "shut") (dv 0))) (λd=>(lq (i:=0) (show(["way", "number"]:-J).Nodup by decide +kernel) Y (by trivial))) (λd=>(zY (fP (nk hu) (dv 0) (dv 1) (by rfl)))) (λd=>(dv 0))) bH))))))),SV c_Keeper⟩
noncomputable abbrev DL:R:=inClass (top 36) 8
abbrev DM(Z:Ev)(c_Keeper:O):Prop:=Fk Z c_Keeper 15 "back" ["self"] 1 (xH c_Keeper)
theorem Vd{c_Keeper:O}(D:Dm Z c_Keeper "back" "Keeper.back" DL)(B:BT Z.mg)(ae:Kx Z.K c_Keeper ["town", "shut", "past"])(bu:xU Z c_Keeper):DM Z c_Keeper:=lG (N:=["self", "last"]) D rW λhr nd hu=>⟨CJ c_Keeper,(cv (ji (fP (l4 hu) (kF rG (by rfl) B.len ZX (gT (vc (gf ae.c (ae.at "past") (dv 0))) bH)) cX (by rfl)) (c7 rL) jh) (cv (gb (i:=1) nd Y (by trivial) ((y_ YS q0S q0T Fg (vc (gf ae.c (ae.at "past") (dv 0)))).weak G_)) (c7 (fG (fJ ι ae.c bu hr (dv 0) (dZ (dH dQ (dv 1) cX (λ_ _=>Y)) (dZ (dH dQ (dv 1) cX (λ_ _=>Y)) bH))))))),SW c_Keeper⟩
noncomputable abbrev JZ:R:=top 38
abbrev J0(Z:Ev):Prop:=Fx Z 1 "_law_spread" ["cell", "at"] 2 AM
theorem Ve(D:Dx Z "_law_spread" JZ)(B:BT Z.mg):J0 Z:=fu (N:=["cell", "at", "primes", "one", "two", "three"]) D jw λhr nd hu=>⟨AN,(by ac_rfl),Qr⟩
noncomputable abbrev J7:R:=top 40
abbrev J8(Z:Ev):Prop:=Fx Z 1 "_law_anew" ["pen"] 1 AO
theorem Vf(D:Dx Z "_law_anew" J7)(B:BT Z.mg):J8 Z:=fu (N:=["pen"]) D me λhr nd hu=>⟨AQ,(by ac_rfl),Qs⟩
noncomputable abbrev J9:R:=top 41
abbrev vx(Z:Ev):Prop:=Fx Z 2 "_law_take" ["pen", "many"] 2 gz
theorem Vg(D:Dx Z "_law_take" J9)(B:BT Z.mg)(XE:J0 Z):vx Z:=fu (N:=["pen", "many", "at", "cell", "found"]) D jw λhr nd hu=>⟨AR,(by ac_rfl),Qt⟩
noncomputable abbrev J_:R:=top 42
abbrev Ka(Z:Ev):Prop:=Fx Z 3 "_law_pairs_of" ["pen", "kind", "many"] 3 AS
theorem Vh(D:Dx Z "_law_pairs_of" J_)(B:BT Z.mg)(xW:vx Z):Ka Z:=fu (N:=["pen", "kind", "many", "every", "other", "ring", "half"]) D pe λhr nd hu=>⟨AU,(by ac_rfl),Qw⟩
noncomputable abbrev Kb:R:=top 43
abbrev Kc(Z:Ev):Prop:=Fx Z 4 "_law_web" ["pen", "houses", "most"] 3 AX
theorem Vi(D:Dx Z "_law_web" Kb)(B:BT Z.mg)(xW:vx Z)(XF:Ka Z):Kc Z:=fu (N:=["pen", "houses", "most", "kind", "prices", "many", "pairs", "ways", "k", "one", "other", "price"]) D pe λhr nd hu=>⟨AY,(by ac_rfl),Qx⟩
noncomputable abbrev Kd:R:=top 44
abbrev Ke(Z:Ev):Prop:=Fx Z 1 "_law_priced" ["state", "number", "price"] 3 CS
theorem Vj(D:Dx Z "_law_priced" Kd)(B:BT Z.mg):Ke Z:=fu (N:=["state", "number", "price", "many", "ways"]) D pe λhr nd hu=>⟨CT,(by ac_rfl),Tq⟩
noncomputable abbrev Kg:R:=top 45
abbrev Kh(Z:Ev):Prop:=Fx Z 3 "_law_turn" ["pen", "states"] 2 Dq
theorem Vk(D:Dx Z "_law_turn" Kg)(B:BT Z.mg)(xW:vx Z)(XG:Ke Z):Kh Z:=fu (N:=["pen", "states", "kind", "pick", "web", "shut", "number", "near", "price"]) D jw λhr nd hu=>⟨vp,(by ac_rfl),Ue⟩
noncomputable abbrev Ki:R:=top 46
abbrev Kj(Z:Ev)(c_Keeper:O):Prop:=Fq Z 17 "_law_turned" ["keeper", "change"] 2 (CU c_Keeper)
theorem Vl{c_Keeper:O}(D:Dx Z "_law_turned" Ki)(B:BT Z.mg)(ae:Kx Z.K c_Keeper ["town", "shut", "past"])(f6:JR Z c_Keeper)(cJ:DM Z c_Keeper)(f7:JV Z c_Keeper)(gA:JY Z c_Keeper):Kj Z c_Keeper:=C6 (N:=["keeper", "change"]) D jw λhr nd hu=>⟨CV c_Keeper,(cv (ji (fP (l4 hu) (dH dQ (dv 1) cX (λ_ _=>Y)) uf (by rfl)) (c7 (fG (fJ ι ae.c f6 hr (dv 0) (dZ (dH dQ (dv 1) cX (λ_ _=>Y)) (dZ (dH dQ (dv 1) cX (λ_ _=>Y)) bH))))) jh) (cv (ji (fP (l4 hu) (dH dQ (dv 1) cX (λ_ _=>Y)) uf (by rfl)) (c7 (fG (g6 ι ae.c cJ hr (dv 0)))) jh) (c7 (fG (Gp (fP (l4 hu) (dH dQ (dv 1) cX (λ_ _=>Y)) uf (by rfl)) (fJ ι ae.c f7 hr (dv 0) (dZ (dH dQ (dv 1) cX (λ_ _=>Y)) bH)) (fJ ι ae.c gA hr (dv 0) (dZ (dH dQ (dv 1) cX (λ_ _=>Y)) bH))))))),Tt c_Keeper⟩
noncomputable abbrev Kk:R:=top 48
abbrev Kl(Z:Ev):Prop:=Fx Z 1 "_law_moved" ["ahead", "behind", "told"] 3 xN
theorem Vm(D:Dx Z "_law_moved" Kk)(B:BT Z.mg):Kl Z:=fu (N:=["ahead", "behind", "told", "found"]) D pe λhr nd hu=>⟨Dp,(by ac_rfl),Ud⟩
noncomputable abbrev DN:R:=top 26
abbrev Km(Z:Ev):Prop:=Fx Z 9 "lots_of" ["web", "ways"] 2 BR
theorem Vn(D:Dx Z "lots_of" DN)(B:BT Z.mg)(Vo:DC Z)(Vp:DE Z):Km Z:=by
 let⟨f,fd,a,F⟩:=D;let⟨_,_,GF⟩:=Vp.ex;let sc:kW ["web", "ways", "lots", "house", "first"] ["web", "ways"] (bW DN):=d8 (by decide +kernel);calc⟨f,fd,F.tK sc (λvs H Q E h=>h.1) (λa9 A outer s H vs Q E hr h=>?_),a,F.kp,F.binds jw⟩;let⟨hl,F0,ad,ys,ar,K',S0,⟨m,ws,ns,W,hn,hd,BS,rfl,rfl,hK⟩,kk⟩:=h;let nd:=sc.nd;let hu:=hr.units
 refine⟨_,pB (oM (cq Vo hr (bp (dv 0) (bp (dv 1) bH))))
  (pB (vG (i:=2) nd Y (q1a Y) iB)
  (pB (yC Z7 Y (FI (by rfl) B.enumerate (j5 (sV GF.ok (hr.mono (by decide)) (by rfl) GF.t7 GF.kp GF.bd .nil oA (jc (jv 0) (jc (jv 1) bF))) bF)) (yx Y (sI (sG (i:=3) nd Y (q1a Y)) (sI (sG (i:=4) nd Y (q1a Y)) gN)))
   (sD (yr (qS YS q0t q0u vR (qS q1R q02 PySem.F.type_dict_setdefault OM (jv 2) (jc (jv 4) (tZ (vM bF) bF))) (jc (jv 3) bF)))))
  (sD (yt (oq (OO Y) (by rfl) B.list qY (j5 (y_ q1R q1G PySem.F.type_dict_values ON (jv 2)) bF)))))),?_⟩
 calc R_ (Kf:=Z.K) hl W hn hd BS hK S0 (λr ows h v F' H' P _=>kk r ows h v F' H' P) λ_ _ h=>h
abbrev Kn(Z:Ev)(Cs:-O)(c_Keeper:O):Prop:=De Z Cs c_Keeper 15 "back" ["self"] 1 (Di c_Keeper)
theorem Vq{Cs:-O}{c_Keeper:O}(D:Dm Z c_Keeper "back" "Keeper.back" DL)(B:BT Z.mg)(fy:ET Z Cs 9 "Nothing")(ae:Kx Z.K c_Keeper ["town", "shut", "past"])(bu:xU Z c_Keeper):Kn Z Cs c_Keeper:=Dg (N:=["self", "last"]) D rW @λ_ _ _ _ _ _ _ ok nn _ R hr nd hu=>⟨Dj c_Keeper ok nn,(cv (ji (fP (l4 hu) (kF rG (by rfl) B.len ZX (gT (vc (gf ae.c (ae.at "past") (dv 0))) bH)) cX (by rfl)) (c7 (T1 fy R (tY Ex bF))) jh) (cv (gb (i:=1) nd Y (by trivial) ((y_ YS q0S q0T Fg (vc (gf ae.c (ae.at "past") (dv 0)))).weak G_)) (c7 (fG (fJ ι ae.c bu hr (dv 0) (dZ (dH dQ (dv 1) cX (λ_ _=>Y)) (dZ (dH dQ (dv 1) cX (λ_ _=>Y)) bH))))))),Ub c_Keeper ok nn⟩
noncomputable abbrev Ko:R:=top 47
abbrev Kp(Z:Ev)(c_Keeper:O):Prop:=Fq Z 15 "_law_right" ["keeper"] 1 (Dr c_Keeper)
theorem Vr{c_Keeper:O}(D:Dx Z "_law_right" Ko)(B:BT Z.mg)(ae:Kx Z.K c_Keeper ["town", "shut", "past"])(fK:JM Z c_Keeper)(cg:DH Z c_Keeper)(bJ:DI Z c_Keeper)(aI:vw Z c_Keeper)(DJ:DG Z)(DK:DF Z)(Kq:Km Z):Kp Z c_Keeper:=C6 (N:=["keeper", "weight", "web", "numbers", "inner", "forest"]) D me λhr nd hu=>⟨Ds c_Keeper,(cv (gb (i:=1) nd Y (by trivial) (g6 ι ae.c fK hr (dv 0))) (cv (gb (i:=2) nd Y (by trivial) (g6 ι ae.c cg hr (dv 0))) (cv (gb (i:=3) nd Y (by trivial) (uo [η,U 0] ["number", "keeper"] Y (wD (by rfl) B.range (eK (kF rG (by rfl) B.len ZX (dZ (dH dQ (dv 2) cX (λ_ _=>Y)) bH)) bH)) (λd=>(lq (i:=0) (show(["number", "keeper"]:-J).Nodup by decide +kernel) Y (by trivial))) (λd=>(zY (fP (Ap hu) (dv 0) (g6 ι ae.c bJ hr (dv 1)) (by rfl)))) (λd=>(dv 0)))) (cv (gb (i:=4) nd Y (by trivial) (uh (dZ (dH dQ (dv 2) cX (λ_ _=>Y)) (eK (wd G6 (by rfl) B.tuple zI (gT (uo [η,U 2] ["number", "web"] Y (rz (dv 3)) (λd=>(lq (i:=0) (show(["number", "web"]:-J).Nodup by decide +kernel) Y (by trivial))) (λd=>wu) (λd=>(dH dQ (dH dQ (dv 1) cX (λ_ _=>Y)) (dv 0) (λ_ _=>Y)))) bH)) bH)))) (cv (gb (i:=5) nd Y (by trivial) (g6 ι ae.c aI hr (dv 0))) (cv (ji (JW.jt (oK (fP (nk hu) (dv 5) (uo [η,U 3] ["at", "numbers"] Y (rz (cq DJ hr (bp (dv 4) bH))) (λd=>(lq (i:=0) (show(["at", "numbers"]:-J).Nodup by decide +kernel) Y (by trivial))) (λd=>wu) (λd=>(dH dQ (dv 1) (dv 0) (λ_ _=>Y)))) (by rfl)) (ui (fP (nk hu) (dv 1) (cq DK hr (bp (dv 2) (eK (wd G5 (by rfl) B.list qY (bp (dv 5) bH)) bH))) (by rfl))))) (c7 (fG mO)) jh) (c7 (fG (mQ (l4 hu) (cq Kq hr (bp (dv 2) (eK (wd G5 (by rfl) B.list qY (bp (dv 5) bH)) bH))) (cq Kq hr (bp (dv 2) (bp (dv 3) bH))) (by rfl)))))))))),Ug c_Keeper⟩
noncomputable abbrev Kr:R:=top 49
abbrev Ks(Z:Ev)(c_Keeper:O):Prop:=Fq Z 16 "_law_ends_there" ["keeper"] 1 (xM c_Keeper)
theorem Vs{Cs:-O}{c_Keeper:O}(D:Dx Z "_law_ends_there" Kr)(B:BT Z.mg)(ae:Kx Z.K c_Keeper ["town", "shut", "past"])(fy:ET Z Cs 9 "Nothing")(hN:∀C,Cs[9]?=U C->q1r Z.K (.ref C) (.ref C)=U θ)(gB:Kn Z Cs c_Keeper):Ks Z c_Keeper:=C6 (N:=["keeper"]) D me λhr nd hu=>⟨Dl c_Keeper,(cv (T_ Y Y (by rfl) fy hN (λhp R=>(c7 (T5 (T3 ι R hp ae.c gB hr (dv 0))))) (λA xe=>(c7 (fG mO)))) (c7 (fG mO))),Uc c_Keeper⟩
noncomputable abbrev xX:R:=top 39
theorem lJ:kW ["script", "cells", "k", "cell"] ["script"] (bW xX):=d8 (by decide +kernel)
theorem Vt{f:O}{fd:FuncData}(F:fF Z.K "_law_open" "_law_open" xX f fd)(h1:Z.mg "list" = η)(h2:Z.mg "enumerate" = η):bN Z.P Z.w Z.K Z.mg Z.base eV 1 f fd ["script"] (Hx Z.K):=by
 refine F.tK lJ (λvs H Q E h=>?_) (λa9 A outer s H vs Q E hr h=>?_)
 .let⟨a,ns,rfl,_⟩:=h
  rfl
 .let⟨a,ns,rfl,hS,hlen,fin⟩:=h
  let nd:=lJ.nd
  refine⟨_,pB (vG (i:=1) nd Y (q1a Y) (oq tG (by rfl) h1 PyProof.Rows.boot_list (jV (yV gQ (jv 0) EX (vQ mx)) bF)))
   (pB (yC Z7 Y (FI (by rfl) h2 (jV (yV gQ (jv 0) (vQ mx) (vQ mx)) bF)) (yx Y (sI (sG (i:=2) nd Y (q1a Y)) (sI (sG (i:=3) nd Y (q1a Y)) gN)))
    (sD (yy (sR EF (E6 E7 (jv 1) (sR yG (jv 2) mx) (λ_ _=>Y)) (jv 3)) (EA (jv 1) (sR yG (jv 2) mx) set_list))))
   (sD (yt (vM (jV (jv 1) (jV mx (jV mx bF))))))),?_⟩
  calc⟨_,Y,_,Y,a,_,Y,hS,λl1 n1=>⟨l1,_,Y,.inl (bE.of bK),λc nc=>?_⟩⟩;let s1:aO H (upd (upd H l1 (.lst (dy (ns.map V.int) η (U 12)))) c (.lst (dy (ns.map V.int) η (U 12)))):=(l7 n1).trans (l7 nc);calc⟨_,Y,_,Y,_,Y,a,_,Y,s1.seq hS,λl2 n2=>⟨l2,Y,⟨_,bE.of bK⟩,?_⟩⟩;let Vu:H c=η:=(l7 n1).free nc;let Vv:=n2
  let hcc:∃ms:-Int,↑ms=min 12 ns.length/\dy (ns.map V.int) η (U 12)=ms.map V.int:=by
   calc⟨_,?_,Be ns η (U 12)⟩;rw[Yb,Zu];let e1:HT.bt ns.length 0 η=0:=HT.yU _ _;let e2:HT.bt ns.length ns.length (U 12)=min 12 ns.length:=HT.tj ns.length ns.length 12;rw[e1,e2];symm
  let oE:↑(dy (ns.map V.int) (U 12) (U 63))=ns.length-12:=by
   rw[Be,pR,Yb,Zu];let e1:HT.bt ns.length 0 (U 12)=min 12 ns.length:=HT.tj ns.length 0 12;let e2:HT.bt ns.length ns.length (U 63)=min 63 ns.length:=HT.tj ns.length ns.length 63;rw[e1,e2,Nat.min_eq_right hlen,q3o];symm
  let Kt:∀i x,(dy (ns.map V.int) (U 12) (U 63))[i]?=U x->∃n:Int,x=V.int n:=λi x e=>by
   rw[Be,WD] at e
   cases q:((ns.drop (HT.bt ns.length 0 (U 12))).take (HT.bt ns.length ns.length (U 63)-HT.bt ns.length 0 (U 12)))[i]? with
   |none=>rw[q] at e;cases e
   |some n=>rw[q] at e;exact⟨n,(Yf e).symm⟩
  generalize dy (ns.map V.int) (U 12) (U 63)=rest at oE Kt n2 ⊢;let⟨ms,Vw,Vx⟩:=hcc
  refine FL (K:=Z.K) (a:=l2) (xs:=rest) (λi σ H2=>∃(ks:-Int)(v1 v2:Option V),σ=[U (.ref a),U (.ref c),v1,v2]/\H2 c=U (.lst (ks.map V.int))/\↑ks=min 12 ns.length/\H2 l2=U (.lst rest)/\aO H H2)
   ⟨ms,η,η,Y,?_,Vw,bK,?_⟩ (λi σ H2 _ ⟨_,_,_,_,_,_,q,_⟩↦bE.of q) ?_ ?_
  .rw[aZ (cR bK n2),bK,Vx]
  .exact s1.trans (l7 n2)
  .ext i x T σ H2 hi ⟨ks,v1,v2,rfl,hc,hk,tI,sm⟩ hT
   let⟨n,rfl⟩:=Kt i x hi;let lX:i<↑rest:=(qV.mp hi).1;let Vy:↑ks=12:=by symm
   let cT:c≠T:=cR hc hT;let ky:upd H2 T (.tup [.int i,.int n]) c=U (.lst (ks.map V.int)):=by rw[aZ cT];exact hc
   let j0:0<=((i:Int))%12:=Za _ (by decide);let j1:((i:Int))%12<12:=YG _ (by decide);let⟨m,em⟩:=QP (ns:=ks) j0 ⋯
   let ix:jB ↑(ks.map V.int) ((i:Int)%12)=U ((i:Int)%12).toNat:=by
    unfold jB;rw[XI j0,XI (by rw[pR];symm)]
   calc⟨T,_,Y,bV.of bK,Y,_,_,Y,_,_,Y,Y,?_⟩;calc⟨_,Y,_,Y,_,_,Y,Y,(show(0:Int)<12 by decide),_,_,_,_,Y,Y,bE.of ky,em,_,Y,_,_,Y,Y,_,Y,_,Y,_,_,Y,Y,(show(0:Int)<12 by decide),_,_,_,_,Y,Y,ky,ix,?_⟩;refine⟨ks.set ((i:Int)%12).toNat (m+n),_,_,Y,?_,by rw[Yq];calc hk,?_,?_⟩
   .rw[bK,q5k]
   .let Vz:l2≠c:=by
     ext z;subst z;exact absurd Vv (by rw[bK];ext y;cases y)
    rw[aZ Vz,aZ (cR tI hT)];exact tI
   .ext b o e
    rw[aZ (cR e Vu)];exact l7 hT b o (sm b o e)
  .ext σ H2 ⟨ks,v1,v2,rfl,hc,hk,tI,sm⟩
   calc⟨_,Y,(by show 3<=sizeLine;decide),λp np=>?_⟩;let VA:H p=η:=sm.free np;calc fin p c _ (sm.trans (l7 np)) VA ⟨bK,⟨ks,by rw[aZ (cR hc np)];calc hc,⋯⟩,Int.le_refl 0⟩
noncomputable abbrev rZ:R:=top 50
theorem VB{c_Keeper:O}{f qI:O}{fd n6:FuncData}(F:fF Z.K "law" "law" rZ f fd)(B:BT Z.mg)(GO:Fn Z.P Z.w Z.K Z.mg Z.base 1 "_law_open" ["script"] (Hx Z.K) qI n6)(ae:Kx Z.K c_Keeper ["town", "shut", "past"])(VC:Kc Z)(VD:J8 Z)(gC:JD Z c_Keeper)(aI:vw Z c_Keeper)(xW:vx Z)(VE:Kh Z)(cg:DH Z c_Keeper)(bJ:DI Z c_Keeper)(VF:Kj Z c_Keeper)(VG:Kp Z c_Keeper)(Ku:Kl Z)(cJ:DM Z c_Keeper)(Kv:Ks Z c_Keeper):bN Z.P Z.w Z.K Z.mg Z.base eV 19 f fd ["script"] (uO Z.K):=by
 let sc:kW ["script", "pen", "turn", "web", "keeper", "states", "first", "step", "ahead", "change", "was", "shut", "told", "still", "state"] ["script"] (bW rZ):=d8 (by decide +kernel);refine F.tK (k:=18) sc (λvs H Q E h=>?_) (λa9 A outer s H vs Q E hr h=>?_)
 .let⟨a,ns,rfl,_⟩:=h
  rfl
 let⟨a,ns,rfl,hS,hlen,hT,fin⟩:=h;let nd:=sc.nd;let hu:=hr.units;let rest:c6 (b8 eV Z.P Z.w Z.K Z.mg Z.base ["script", "pen", "turn", "web", "keeper", "states", "first", "step", "ahead", "change", "was", "shut", "told", "still", "state"] "law" (bW rZ) f a9 A outer s H E).kz ((fE rZ).drop 1) (cY (Du c_Keeper)):=(cv (wq Z7 Y (wD (by rfl) B.range (fg cX bH)) (lq (i:=2) nd Y (by trivial)) (cv (gb (i:=3) nd Y (by trivial) (cq VC hr (eK (cq VD hr (bp (dv 1) bH)) (dZ (dH dQ (oH (fg cX (fg cX bH))) (dv 2) (λ_ _=>Y)) (dZ (dH dQ (oH (fg cX (fg cX bH))) (dv 2) (λ_ _=>Y)) bH))))) (cv (gb (i:=4) nd Y (by trivial) (C3 gC hr (bp (dv 3) bH))) (cv (gb (i:=5) nd Y (by trivial) (oH (pY (uh (bp (dv 3) (zR (oH bH) bH))) bH))) (cv (gb (i:=6) nd Y (by trivial) (g6 ι ae.c aI hr (dv 4))) (cv (wq Z7 Y (wD (by rfl) B.range (gT (mP AI (dH dQ (oH (fg cX (fg cX bH))) (dv 2) (λ_ _=>Y)) (cq xW hr (bp (dv 1) (fg cX bH)))) bH)) (lq (i:=7) nd Y (by trivial)) (cv (gb (i:=8) nd Y (by trivial) (g6 ι ae.c aI hr (dv 4))) (cv (Gs (cq VE hr (bp (dv 1) (bp (dv 5) bH))) (Gr Y (zV (lq (i:=5) nd Y (by trivial)) (zV (lq (i:=9) nd Y (by trivial)) Gq)))) (c7 (ji (fP AK (dv 9) wa (by rfl)) (cv (gb (i:=10) nd Y (by trivial) (g6 ι ae.c cg hr (dv 4))) (cv (gb (i:=11) nd Y (by trivial) (g6 ι ae.c bJ hr (dv 4))) (cv (gb (i:=12) nd Y (by trivial) (nX ι VF hr (bp (dv 4) (bp (dv 9) bH)))) (cv (ji (JW.jt (oK (oJ (mT (nX ι VG hr (bp (dv 4) bH)))) (ui (oJ (mT (cq Ku hr (bp (dv 8) (eK (g6 ι ae.c aI hr (dv 4)) (bp (dv 12) bH))))))))) (c7 (fG mO)) jh) (cv (gb (i:=13) nd Y (by trivial) (Gn (mQ (l4 hu) (dH dQ (dv 9) cX (λ_ _=>Y)) uf (by rfl)) (zU (OT (mQ (Ao hu) (dH dQ (dv 9) cX (λ_ _=>Y)) (dv 11) (by rfl)) (zU (mQ (l4 hu) (dH dQ (dH dQ (dH dQ (dv 10) cX (λ_ _=>Y)) (dH dQ (dv 9) cX (λ_ _=>Y)) (λ_ _=>Y)) cX (λ_ _=>Y)) (dH dQ (dv 9) cX (λ_ _=>Y)) (by rfl))))))) (c7 (ji (JW.jt (zT (mT (dv 13)) (Gm (fP (nk hu) (dv 12) (uh (fg wa (fg wa bH))) (by rfl))))) (c7 (fG mO)) jh))))))) jh))))) (cv (wq Z7 Y (rz (Qo (Hm (dv 5) GX (GY (GZ cX))))) (lq (i:=14) nd Y (by trivial)) (cv (gb (i:=8) nd Y (by trivial) (g6 ι ae.c aI hr (dv 4))) (cv (gb (i:=12) nd Y (by trivial) (g6 ι ae.c cJ hr (dv 4))) (c7 (ji (JW.jt (oK (oJ (mT (cq Ku hr (bp (dv 8) (eK (g6 ι ae.c aI hr (dv 4)) (bp (dv 12) bH)))))) (oK (fP (nk hu) (g6 ι ae.c cg hr (dv 4)) (dH dQ (dv 14) cX (λ_ _=>Y)) (by rfl)) (ui (fP (nk hu) (g6 ι ae.c bJ hr (dv 4)) (dH dQ (dv 14) cX (λ_ _=>Y)) (by rfl)))))) (c7 (fG mO)) jh))))) (c7 (ji (JW.jt (oK (fP (nk hu) (g6 ι ae.c aI hr (dv 4)) (dv 6) (by rfl)) (oK (oJ (mT (nX ι Kv hr (bp (dv 4) bH)))) (ui (oJ (mT (nX ι Kv hr (bp (dv 4) bH)))))))) (c7 (fG mO)) jh))))))))) (c7 (fG mO)))
 calc⟨_,pB (vG (i:=1) nd Y (by trivial) (sV GO.ok (hr.mono (by decide)) (by rfl) GO.t7 GO.kp GO.bd .nil oA (jc (jv 0) bF))) rest,?_⟩;calc⟨_,Y,a,ns,Y,hS,hlen,λp c H1 sm hp N1=>?_⟩;let⟨F',ms,hm,S⟩:=QQ (a:=a) (n:=13) (aM.same hT sm) N1;calc QR S (Uj c_Keeper ms hm) fin
end
noncomputable def d9:-ke:=[⟨169,⟨52,40,52,76⟩,(("order_of" : J)++".<locals>.")++"<lambda>"⟩]
noncomputable def DO:-(J×R×O):=[("order_of",Jj,169)]
noncomputable abbrev dp(x:J)(s:R):J×R:=(x,s)
noncomputable def Kw:-(J×R):=[dp "is_whole" IV,dp "is_within" IX,dp "is_tuple_of" IY,dp "are_ends" IZ,dp "is_way" I_,dp "are_ways" Jc,dp "is_web" Je,dp "need_web" Jg,dp "rank_of" Jh,dp "need_ways" Jl,dp "joined" Jm,dp "firsts_of" Jn,dp "weight_of" Jo,dp "forest_of" Jp,dp "ways_but" Jq,dp "web_of" Js,dp "priced" Ju,dp "first_missing" Jw,dp "exchange_of" Jy,dp "lots_of" DN,dp "_law_spread" JZ,dp "_law_open" xX,dp "_law_anew" J7,dp "_law_take" J9,dp "_law_pairs_of" J_,dp "_law_web" Kb,dp "_law_priced" Kd,dp "_law_turn" Kg,dp "_law_turned" Ki,dp "_law_moved" Kk,dp "_law_right" Ko,dp "_law_ends_there" Kr,dp "law" rZ]
noncomputable def VH:-(J×J×R):=[("web", "Keeper.web",JH),("closed", "Keeper.closed",JJ),("forest", "Keeper.forest",JK),("weight", "Keeper.weight",JL),("need_way", "Keeper.need_way",JN),("set_to", "Keeper.set_to",JO),("changed", "Keeper.changed",JP),("price", "Keeper.price",JQ),("close", "Keeper.close",JU),("free", "Keeper.free",JX),("back", "Keeper.back",DL)]
noncomputable def nsOk(K:vS)(N:O)(name:J)(r:Option L):Bool:=match ZM N K with
 |some ⟨_,_,.dict es _,_⟩=>(es.all λe=>match e.key with|.str _ _=>θ|_=>ι)&&(nsFind es name==r)
 |_=>ι
theorem Ky{K:vS}{N:O}{name:J}{r:Option L}(h:nsOk K N name r=θ):tU K N name r:=by
 unfold nsOk at h;split at h
 .rename_i oc od es ep sl e
  erw[YY] at h;exact⟨oc,od,es,ep,sl,e,h.1,Zg h.2⟩
 .cases h
theorem VI{K:vS}{L C N:O}{nm q:J}{bs:-ν}{j4:Bool}{sn:-J}{sub:-ν}{ab:Bool}{col:Option Bool}{dd:Option O}{k0 k1 k2 k3 k5:Option ν}{k8:Option ν}(T:cI K (.ref L::pT))
  (l:K.lookup C=U (excClassObj nm q C N bs (.ref L::pT) j4 sn sub ab col dd k0 k1 k2 k3 k5 "ValueError.__new__")) (n:nsOk K N "__init__" k8=θ) (kp:Yt K (.ref C)=θ):tV K C k8 :=
 ⟨⟨_,_,N,_,_,_,_,_,_,_,_,_,_,_,_,_,l,T,Ky n⟩,kp⟩
theorem VJ{c_Keeper f9:O}{gI:FuncData}{L N0:O}{c9:O}{VL VM:J}{VN:-ν}{VO:Bool}{VP:-J}{DP:-ν}{VQ:Bool}{DQ:Option Bool}{VR:Option O}{VS VT VU VV VW:Option ν}{M9:O}{DR DT:J}{DU:-ν}{DW:Bool}{DX:-J}{vy:-ν}{DY:Bool}{vz:Option Bool}{DZ:Option O}{D0 D1 D2 D3 D4:Option ν}{l:q34}{w:ω}{K:vS}{h:I}{mg:J->Option ν}{fa:O}(X:K.In h)(G:h.Ns mainGlobals mg)(VX:mg "law" = U (.ref fa))(DS:g5 K Kw)(LS:fw K DO)(N:∀x∈CP,Zd K mainGlobals x=U η)(lK:Zd K mainGlobals "Keeper" = U (U (.ref c_Keeper)))(ae:Kx K c_Keeper ["town", "shut", "past"])(bw:g7 K c_Keeper VH)(lM:Mk K c_Keeper f9)(lN:fF K "__init__" "Keeper.__init__" JB f9 gI)(g8:Ck K "MOST_HOUSES" 12)(jx:Ck K "MOST_WAYS" 30)(fA:Ck K "MOST_PRICE" 1000000000)(aL:Zd K mainGlobals "LotError" = U (U (.ref L)))(lL:K.lookup L=U (excClassObj VL VM L N0 VN (pT) VO VP DP VQ DQ VR VS VT VU VV VW "ValueError.__new__"))(nL:nsOk K N0 "__init__" η=θ)(aC9:Zd K mainGlobals "Nothing" = U (U (.ref c9)))(xm9:q1r K (.ref c9) (.ref c9)=U θ)(lC9:K.lookup c9=U (excClassObj DR DT c9 M9 DU (.ref L::pT) DW DX vy DY vz DZ D0 D1 D2 D3 D4 "ValueError.__new__"))(nC9:nsOk K M9 "__init__" η=θ)(kC9:Yt K (.ref c9)=θ)
  : ∃fd:FuncData,(∀(s:ο)(v:ν),BindsTo s fd ⟨[v],[]⟩ [("script",v)])/\∀base:I,K.In base->base.Ns mainGlobals mg->(∀t∈d9,base.BuiltinsAt mg t.T)->bN l.prog w K mg base eV 19 fa fd ["script"] (@uO (Bs d9) K):=by
 let⟨f,fd,a,F⟩:=DS.at (x:="law") (st:=rZ) 32 Y;cases VX.symm.trans (q0s X G a)
 letI:aM:=Bs d9;let B:=Tp X G N;calc⟨fd,λs v=>by let⟨_,_,_,_,_,_,_,_,_,rfl,_⟩:=F.ex;calc .of_eq Y,λbase KB _ hB=>?_⟩;let D:∀(i:Nat){x:J}{st:R},Kw[i]?=U (x,st)->Dx ⟨l.prog,w,K,mg,base⟩ x st:=λi _ _ e=>(DS.at i e).v X G;let M:∀(i:Nat){x:J}{st:R}{T:O}{lp:y}{q:J},DO[i]?=U (x,st,T)->d9[i]?=U ⟨T,lp,q⟩->xI ⟨l.prog,w,K,mg,base⟩ x st T lp q:=λi _ _ _ _ _ e e2=>(LS.at i e).v X G KB hB (by decide) (by decide) (Yl e2);let TL:cI K (.ref L::pT):=.own lL (Ky nL) .base;let iO:ET ⟨l.prog,w,K,mg,base⟩ [0,0,0,0,0,0,0,0,0,c9,0,0,0] 9 "Nothing" := ⟨by decide,c9,Y,VI TL lC9 nC9 kC9,q0s X G aC9⟩
 let VY:=UA (D 0 Y) B;let r6:=UB (D 1 Y) B VY;let Kz:=UC (D 2 Y) B;let VZ:=UD (D 3 Y) B r6;let V0:=UE (D 4 Y) B (fA.v X G) Kz VZ r6;let V6:=UH (D 5 Y) B (jx.v X G) V0;let V7:=UI (D 6 Y) B (g8.v X G) Kz r6 V6;let D5:=UJ (D 7 Y) B V7;let V8:=UK (D 8 Y) B;let V9:=UL (M 0 Y Y) B D5 V8;let KC:=UN (D 9 Y) B D5 r6;let KD:=UO (D 10 Y) B;let KG:=UP (D 11 Y) B KD;let KH:=UR (D 12 Y) B KC;let KI:=US (D 13 Y) B V9 KG KD;let V_:=UT (D 14 Y) B;let Wa:=UU (D 15 Y) B;let Wb:=UW (D 16 Y) B;let Wc:=UX (D 17 Y) B;let Wd:=UY (D 18 Y) B Wc;let We:=Vn (D 19 Y) B KC KG
 let g9:=UZ (Z:=⟨l.prog,w,K,mg,base⟩) ⟨f9,gI,⟨q0s X G lK,lM⟩,lN⟩ B ae D5;let fB:=U0 (Z:=⟨l.prog,w,K,mg,base⟩) (bw.at 0 Y) B ae;let dE:=U1 (Z:=⟨l.prog,w,K,mg,base⟩) (bw.at 1 Y) B ae;let bR:=U2 (Z:=⟨l.prog,w,K,mg,base⟩) (bw.at 2 Y) B ae V_ KI Wa;let f_:=U5 (Z:=⟨l.prog,w,K,mg,base⟩) (bw.at 3 Y) B ae KH bR;let bT:=U6 (Z:=⟨l.prog,w,K,mg,base⟩) (bw.at 4 Y) B ae r6;let cu:=U7 (Z:=⟨l.prog,w,K,mg,base⟩) (bw.at 5 Y) B ae bR Wd;let bZ:=U9 (Z:=⟨l.prog,w,K,mg,base⟩) (bw.at 6 Y) B ae cu;let gD:=U_ (Z:=⟨l.prog,w,K,mg,base⟩) (bw.at 7 Y) B (fA.v X G) ae bT r6 bZ Wb;let gE:=Vb (Z:=⟨l.prog,w,K,mg,base⟩) (bw.at 8 Y) B ae bT bZ
 let g_:=Vc (Z:=⟨l.prog,w,K,mg,base⟩) (bw.at 9 Y) B ae bT bZ;let hJ:=Vq (Z:=⟨l.prog,w,K,mg,base⟩) (Cs:=[0,0,0,0,0,0,0,0,0,c9,0,0,0]) (bw.at 10 Y) B iO ae cu;let eS:=Vd (Z:=⟨l.prog,w,K,mg,base⟩) (bw.at 10 Y) B ae cu;let Wf:=Ve (D 20 Y) B;let Wg:=Vf (D 22 Y) B;let xY:=Vg (D 23 Y) B Wf;let Wh:=Vh (D 24 Y) B xY;let Wi:=Vi (D 25 Y) B xY Wh;let Wj:=Vj (D 26 Y) B;let Wk:=Vk (D 27 Y) B xY Wj;let Wl:=Vl (c_Keeper:=c_Keeper) (D 28 Y) B ae gD eS gE g_;let Wm:=Vm (D 29 Y) B;let Wn:=Vr (c_Keeper:=c_Keeper) (D 30 Y) B ae f_ fB dE bR KI KH We;let Wo:=Vs (c_Keeper:=c_Keeper) (D 31 Y) B ae iO (λC e=>by cases e;calc xm9) hJ
 let⟨fo,XH,ao,Fo⟩:=D 21 (x:="_law_open") (st:=xX) Y;calc VB (Z:=⟨l.prog,w,K,mg,base⟩) F B ⟨Vt Fo B.list B.enumerate,ao,Fo.kp,Fo.binds me⟩ ae Wi Wg g9 bR xY Wk fB dE Wl Wn Wm eS Wo
theorem Wq{K:vS}{h:I}(X:K.In h)(LS:fw K DO):∀t∈d9,∃cc,q4s h cc t.T:=λt ht=>LS.code X t.T (show t.T∈d9.map (·.T) from Y2 ht)
end LJ
open PySem PySem.W PyProof.Rows
end
open LJ L2
inductive PySem.W.Fast:Prop|tw6006437165923231423|tw14840434734559227300|tw8066433796925937360|tw17286401528129523897|tw271879594050250633|tw5721201667357916787|tw11892845037680946968|tw2237019624067764478|tw15822626059757049740|tw13919445866477332148|tw9369690886334290542|tw4150044346033046683|tw17242362035915843218|tw1893304397793499785|tw14282391217497819351|tw5558535567403101566|tw5398964857927398125|tw7204533301167295097|tw1607557364469458378|tw14878102049715422356|tw11502398649441143518|tw174348356055346639|tw6505930871569357947|tw10716595406268181504|tw4858239919421797156|tw9457366263727239343|tw3448768125152728684|tw16079008837600565757|tw6400240287220287432|tw5738458043364460437|tw8547489871249058343|tw12134504968976234175|tw10522175433750259096|tw7795377533996709721|tw1336368774193819326|tw2925687448588886252|tw11241632601434433941|tw17077754532888094021|tw12982851326768702737|tw11594906627117252211|tw6473869322951614533|tw7393257995432270406|tw8810169076080986110|tw1045754934201475323|tw13288308530842573974|tw14833036079551641375|tw16353127038315268450|tw18280324328895744|tw1456348717190666881|tw12533661478089737509|tw15366327108026959680|tw9685111613746440571|tw9143253909513671404|tw11819630422994333273|tw8129854696968775295|tw9174463239194986690|tw14437748330837575290|tw6647659749825188806|tw6526175558949798113|tw4057533364758861890|tw8070875586596712939|tw16734725515159794699|tw5805589876870236532|tw7143044173629501658|tw14196608124524461636|tw6237088213522741726|tw14248064388045919795|tw520430725265350427|tw5197579784146940841|tw2467658833707654130|tw18297049201675637755|tw9151161256607814242|tw12565807995643992314|tw9446061864631791887|tw2405830256364269190|tw13793378705523966771|tw8329004461474517479|tw6948059840085313330|tw2139644036392806618|tw8552189117031226457|tw9328973603886372440|tw14336204880543768848|tw15660112229054981027|tw16805023606014283216|tw11680228568957325797|tw5182603751278671224|tw15743709831777752565|tw16336818247804766079|tw4066885135444270410|tw6740800013598752384|tw8327912798876010244|tw7188796675600433366|tw15715458541849581561|tw17196665820038010871|tw2251776845388411588|tw17783864501118076712|tw18422236538291365576|tw5467482686803204097|tw9441925616180406656|tw17236390109186864963|tw3979594963277994045|tw13281529277287139487|tw18372618692573597848|tw13539618501605747866|tw9482205981007198562|tw3399901172251434983|tw16445411524245596627|tw2244580747083178231|tw4418169046804030862|tw15989297075171402016|tw12648971698834875318|tw5104723384945706056|tw3075179405316234373|tw11284317855291038350|tw11946847176154051036|tw15066540634975640099|tw4067770125365047330|tw9651445095936783390|tw6234518507656033618|tw15534372993955472420|tw9461541361054764527|tw13228249187257808006|tw12876103761659817656|tw1462570881241187346|tw101365308807212660|tw9617001065310289844|tw4957807260841079457|tw8858138744894610943|tw10914626044885461897|tw9901828171684028624|tw11320598315260647855|tw13631552347905816958|tw13259875399644004308|tw12055398427329577400|tw8465236689067679705|tw8429911896025442758|tw14043627220381446681|tw2997177571253169540|tw5167819608964011473|tw8733667576453473612|tw9863005963875025441|tw9998968442135835511|tw12439043028866771597|tw8454299074151956004|tw12514848812159332520|tw17169020002704037410|tw7925580845838867084|tw9657786541575994727|tw11344271956640788816|tw7097124450122659498|tw4710430096908392313|tw7668526022612223574|tw108833646083698153|tw6364659736631797296|tw9156090964281966218|tw2156772164260888655|tw12317450898787711856|tw14474648359172537203|tw3341969279952252606|tw14234056198282451411|tw16266030929662564580|tw3994391688643631589|tw18362104720472286401|tw2540319955097730157|tw13531640477116450025|tw769264983260311345|tw16359137063326234205|tw17634192283928587545|tw15714505905824564690|tw10073067599075085823|tw5447842898941993704|tw12402573397954265099|tw3246500291848068189|tw6831560139612404638|tw12624730992707559439|tw14375058134709784505|tw12911370437979810256|tw4346345917408952496|tw14340701710016977829|tw13187942853195992594|tw740597211631537852|tw16710244202363822094|tw15056090420981963557|tw2990308464148673627|tw5323654653560067483|tw2164805239713413242|tw4701133182185762950|tw3475331409953227668|tw5087991898951717286|tw10691374332416305918|tw1187801391958020153|tw4238629609060495357|tw13374986249329111361|tw11303028577002182729|tw5696290260910803570|tw6968791024561138089|tw6227931468211525649|tw9945830832887326138|tw12067438977990945061|tw9084343283516333591|tw5787481308722707019|tw9804445820087156697|tw3988463835134896813|tw13535094638593411943|tw9567689476692024943|tw3813660936691783993|tw414220151969058449|tw12017100512445940127|tw15923900758742731350|tw3132044446020547396|tw7010546782219029497|tw7233917090214572814|tw15849794330567274507|tw8991228773854937032|tw5463985902482335167|tw14496179110381744855|tw4618113927746395356|tw7536565176942161627|tw11909702999825552571|tw10257638365714405814|tw3647331214304320219|tw2587598837640165777|tw10800557961529218913|tw8993221373963477380|tw7700654047212733896|tw14831983056178703211|tw18094541459896018262|tw13350917836188629788|tw3324079416516241343|tw15997249579994132678|tw12842207810684643685|tw13304574939969580538|tw17832450427466788123|tw2141019111818883132|tw16806438754328561201|tw2450099301952374535|tw17338441961903304032|tw9601749261783096615|tw12957379387379925844|tw13671450106510116013|tw18187539223006454410|tw16181928064613900423|tw12193805874866633855|tw776867080497720353|tw18299962201147783354|tw11622853307119947636|tw860233248382409407|tw2356468181446184886|tw6232300579883766353|tw8668253610423845347|tw12489893352616473082|tw4667627159788684353|tw13591313787412034332|tw6297923445437351656|tw9725106475039178389|tw7268548207145832036|tw18273163703785824734|tw8994999482241105584|tw4933818324312876371|tw15386759140828018596|tw337578410425196334
set_option maxRecDepth 100000 in
set_option maxHeartbeats 0 in
theorem PySem.Challenge.cw_lotjoin_k63_whole_kept_as_made_anew_holds : PySem.Challenge.rw_lotjoin_k63_whole_kept_as_made_anew.Holds := by
 w_on;o_law;k_head;(case hw=>w_witness2)
 k_fill
 refine LJ.RA (l:=PySem.Challenge.rw_lotjoin_k63_whole_kept_as_made_anew) (kk:=19) LJ.d9 rfl rfl rfl ⟨rfl,by decide,by decide,rfl⟩ ?C (λP=>by kernel_rfl) ?F
 case C =>
  intro w h KX;refine LJ.Wq KX ?_
  repeat' first|exact LJ.fw.nil|refine LJ.vo (by k_is) (by k_is) (by k_is) (by k_is) (by kernel_rfl) ?_
 case F =>
  intro w mg fa h KX G mI;refine' LJ.VJ KX G mI ?dD ?dL ?dN ?aKeeper ?kKeeper ?mKeeper ?iKeeper ?fKeeper ⟨_,by k_is,_,rfl⟩ ⟨_,by k_is,_,rfl⟩ ⟨_,by k_is,_,rfl⟩ ?aL ?lL ?nL ?aC9 ?xm9 ?lC9 ?nC9 ?kC9
  (case dD=>repeat' first|exact LJ.g5.nil|refine LJ.CO (by k_is) (by k_is) (by k_is) (by k_is) ?_)
  (case dL=>repeat' first|exact LJ.fw.nil|refine LJ.vo (by k_is) (by k_is) (by k_is) (by k_is) (by kernel_rfl) ?_)
  (case dN=>repeat' first|exact q2E _|refine LJ.Tn (by k_is) ?_)
  (case aKeeper=>k_is)
  (case kKeeper=>exact⟨⟨by k_is,by k_is,by k_is,by k_is⟩,by repeat' first|exact q2E _|refine List.forall_mem_cons.mpr ⟨(by k_is:YW _ _ _=_),?_⟩⟩)
  (case mKeeper=>repeat' first|exact LJ.g7.nil|refine LJ.allM (by k_is) (by k_is) (by k_is) (by k_is) (by k_is) ?_)
  (case iKeeper=>exact⟨by k_is,by k_is,by k_is,by k_is⟩)
  (case fKeeper=>exact L2.vT (by k_is) (by k_is) (by k_is))
  (case aL=>k_is)
  (case aC9=>k_is)
  (case lL=>k_is)
  (case nL=>kernel_rfl)
  (case xm9=>kernel_rfl)
  (case lC9=>k_is)
  (case nC9=>kernel_rfl)
  (case kC9=>k_is)
