import PyProof.Rows.All
import Wide.All
import OpenK.AllK
import Wide.FinOn
import Lean
import PyProof.Rows.SetFrom
import PyProof.TupleKey
import PyProof.SetRoads
import PySem.SetOps
import PyProof.EqAt
import PyProof.EqKinds
import PyProof.TupleCall
import KE.KDictList
import KE.KDictLaws
import PyProof.NeKinds
import PyProof.Draws
import KE.KSortTup
import KE.KLam
import PyProof.ListRange
import PyProof.TupleOfSeq
import KE.KNestM
import PyProof.MinMaxWalk
import PyProof.ReprRoads
import PyProof.CallFns
import PyProof.FitsInt
import PyProof.Conv_int_bool
import KE.KMinKey
import PySem.Challenge.RW_lotjoin_k60_what_a_keeper_tells
set_option bootstrap.genMatcherCode false
open List renaming append_nil->mE,getElem?_eq_getElem->pM,length_map->pN,getElem?_eq_some_iff->sG,size_toArray->yA,length_cons->Em,getD_eq_getElem?_getD->En,getElem?_map->My,length_append->MJ,getElem?_append_left->ML,mem_cons->MN,getElem?_append_right->Vs,mem_cons_of_mem->Vu,replicate->Vv,mem_cons_self->Wo,mem_map->Wq,mem_iff_getElem?->Wt,map_cons->Wx,lookup_cons->Wz,mem_append_right->WB,map_map->WC,not_mem_nil->WD,map_append->WK,range->WL,length_take->WM,mem_of_getElem?->WR,getElem?_take_of_lt->WV,mem_singleton->WW,toArray->WX,length_range->W6,mem_append->W7,take_of_length_le->Xa,getElem?_eq_none->Xd,mem_range->Xf,getElem?_set_ne->Xh,set_cons_zero->Xk,set_cons_succ->Xl,getElem?_set_self->Xm,length_set->Xq,replicate_succ->Xs,map_congr_left->XC,length_singleton->XI,foldl_cons->XO,all_eq_true->XS,mem_append_left->XU,getElem_map->XX,pairwise_map->X1,getElem?_range->X7,mem_filter->X8,length_drop->Ya,getElem_mem->Yb,any_eq_false->Yh,append_assoc->Yj,mem_map_of_mem->Yn,map_nil->Yp,pairwise_cons->Ys,pairwise_iff_getElem->Yv,flatten_cons->Yy,any_cons->YC,lookup->YL,zip_cons_cons->YQ,nodup_cons->YS,length_nil->YT,nil_append->YU,find?_cons->YV,getElem?_toArray->Y1,ext_getElem?->Y2,mem_of_mem_take->Y5,take_succ->Y9,drop_eq_getElem_cons->Zd,filter_sublist->Ze,mem_filterMap->Zm,getElem?_replicate->Zp,length_eq_zero_iff->Zr,getElem?_cons_succ->Zs,set_eq_take_append_cons_drop->Zt,zip_nil_left->Zy,nodup_append->ZA,take_zero->ZC,length_filterMap_eq_countP->ZE,eraseIdxIfInBounds_toArray->ZF,length_replicate->ZH,nodup_range->ZI,countP_cons->ZJ,getElem_inj->ZK,mem_of_mem_drop->ZQ,filterMap_cons->ZV,getElem?_concat_length->Z0,drop_zero->q0b,perm_ext_iff_of_nodup->q0c,mem_or_eq_of_mem_set->q0e,map_id->q0i,foldl_append->q0j,eq_of_mem_replicate->q0m,cons_append->q0w,getElem?_cons_zero->q0x,drop_of_length_le->q0K,find?_some->q0M,of_mem_zip->q0R,forIn_cons->q0S,contains_iff_mem->q0W,countP_eq_length->q0X,dropLast_eq_take->q00,forIn_nil->q07,take_succ_cons->q1e,replicate_zero->q1f,forall_mem_nil->q1h,map_take->q1q,map_drop->q1r,find?_eq_none->q1u,zip_nil_right->q1B,filter_append->q1H,getElem?_drop->q1I,Pairwise.nil->q11,Sublist.refl->q17,take_length->q2o,any_eq_true->q2r,zipIdx_cons->q2s,filter_map->q2G,Perm.of_eq->q2K,zipIdx_nil->q2L,foldl->q2T,cons.inj->q3o,map_set->q36,filter->q5a,Perm->q6x,map->q6K
open Nat renaming reduceBEq->pL,le_refl->Ek,lt_of_lt_of_le->Wr,ne_of_lt->Wv,le_trans->WU,zero_le->W8,zero_add->Xi,sub_self->Xn,lt_succ_of_lt->XD,lt_irrefl->XY,le_of_lt->X0,le_of_ble_eq_true->X_,ne_of_gt->Yo,lt_succ_self->YG,le_add_right->YH,le_of_lt_succ->Zu,le_succ->ZR,le_of_eq->ZY,lt_of_le_of_lt->Z4,succ_ne_self->q0v,add_sub_cancel_left->q0z,le_of_succ_le->q12,lt_of_succ_le->q13,min_self->q15,sub_zero->q16,ble->q2d,succ_le_succ->q2k,min_eq_left->q2M,succ_add->q3E,succ_pos->q3F,mul_comm->q3G,lt_trans->q3H,succ.inj->q37,log2_lt->q5b,not_lt->q50
open PySem renaming wpAny_bind->qL,Heap.get?_push_of_some->u6,W.Frag->El,wpAny_pure->MK,Heap.lt_size->MM,Heap.get?_push_size->Vt,Spec->WH,Value.none->WN,Obj.mapSeq->WY,Value.ref->W5,wpAny_holding->W9,Heap.SameBut.update->W_,W.fnOf->Xe,sizeLine_eq->Xg,Heap.size_push->Xo,W.kitOne->Xp,mem_of_lookup->Xr,F.plainAttrs_list->Xw,W.findIn->Xx,W.keepIn->Xy,W.kia_one->Xz,Str.ofString->XA,Builtin.SmallTypes.nextOf->XB,W.emptyDict->XF,wpAny_field->XG,NameKind.cell->XJ,Builtin.SmallTypes.ownedTupleIsFree->XM,wpAny_loadPart'->XQ,wpAny_callSpecial?_slot->XW,NameKind.free->XZ,Around.in1_handled->Yc,W.nsIn->Yd,wpAny_seqItems->Ye,wpAny_truthy_bool->Yg,wpAny_newObj_type->Yi,wpAny_pyIter_enum->Yk,W.instObj->Yl,wpAny_mono->Ym,wpAny_call_entry->Yq,F.slot_tuple_iterator_next->Yr,wpAny_setField_rec->Yt,Builtin.Slice.slicePlaces->Yu,wpAny_pyIter_list->Yx,Builtin.Tuple.tupleExact->YA,Builtin.List.listTooLong->YB,F.slot_list_append->YD,F.type_list_append->YE,Builtin.Range.rangeSize->YI,boot_len->YK,F.called_set->YM,wpAny_Call_Name_kw->YO,wpAny_pyIter_tuple->YR,PyData.shownAll->YW,PassesOwn.never->YX,Value.int->YY,Heap.get?_update_self->Y0,SetTable->Y3,Around.under_plainId->Y6,Value.bool->Y7,W.codeIn->Y8,Heap.SameBut->Za,Builtin.Slice.sliceAdjust->Zc,Builtin.SmallTypes.ownedTupleHandOut->Zf,SetTable.layClean.free->Zg,F.args_tuple_add_2->Zh,codeAny_builtin->Zj,wpAny_passesOwn->Zk,F.entry_tuple_add->Zq,wpAny_setState_of->Zv,codeAny_mono->Zw,W.cellsFrom_some->Zx,F.slot_tuple_add->Zz,W.plainGet->ZL,wpAny_standAt->ZM,W.mg_of->ZO,SetTable.probe.go->ZP,wpAny_updateSeq_pair->ZS,F.args_tuple_iterator_next_1->ZT,F.slot_zip_next->ZU,W.plainGet_of->ZW,F.entry_tuple_iterator_next->ZZ,Value.type->Z3,Calls.Name_function_global->Z5,W.lookIn->Z6,W.callWith_K->Z7,Builtin.Slice.sliceApplied->Z8,Builtin.Tuple.tupleItemsOf->Z9,call_meets->Z_,wpAny_letOwnedTupleGo_enum->q0a,W.methodObj->q0g,W.hasDictIn->q0h,Str.length_append->q0k,wpAny_newList->q0p,wpAny_onRaise->q0q,wpAny_eqBool_int->q0t,noFill_tuple_add->q0u,Obj.putSet->q0C,SeqAt.EqAt->q0D,W.isFn->q0E,Heap.get?_update_other->q0H,Calls.callWith_builtin->q0I,wpAny_rule->q0L,wpAny_execs_nil->q0P,W.takerIn->q0Q,SeqAt.EqAt.same->q0T,PyData.depthAll->q0V,wpAny_isTrue_Compare1->q0Y,W.methodCall_KW->q0Z,F.slot_list_pop->q01,F.type_list_pop->q02,Around.frames_deeper->q06,wpAny_newTuple->q09,wpAny_letGo->q0_,Value.str->q1b,call_enumerate_list->q1d,W.codeHd_of_K->q1g,SetTable.fill->q1j,Paired.length->q1k,rangeSize_one->q1l,seq_tuple_add->q1m,wpAny_attempt->q1s,wpAny_call->q1w,Walks.list->q1x,SeqAt.EqAt.int_str->q1y,SeqAt.EqAt.str_int->q1z,SeqAt.EqAt.int_int->q1A,tupleKind_room_in1->q1E,Obj.data_mapFields->q1F,SeqAt.EqAt.of_refs->q1G,PyData.showableAll->q1J,wpAny_storeSet_of->q1M,Value.isInt_shape->q1N,Within->q1O,wpAny_assign_Name->q1P,W.plainOver->q1Q,W.kitx_list->q1R,W.kitx_dict->q1S,Around.under->q1T,Code.isFrame->q1U,concat_meets->q1V,wpAny_sequenceKey->q1W,wpAny_typeOf->q1X,seqIndex_neg->q1Y,slot_list_getitem->q1Z,F.plain_list_iadd->q1_,wpAny_collect_seq->q2a,F.args_zip_next_1->q2b,PyData.hasDictAll->q2c,wpAny_forIn_list->q2g,wpAny_execs_cons->q2h,W.handedIn->q2i,F.entry_list_pop->q2l,F.entry_zip_next->q2t,wpAny_pyIter_zip->q2u,W.codeHdIn->q2v,Value.float->q2w,seqIndex_of->q2x,Shared.heap->q2y,wpAny_specialOf->q2z,W.makesIn->q2B,F.slot_int_rmul->q2D,pushCells_keeps->q2E,W.OpenLaw->q2H,SetTable.grown->q2O,wpAny_runValue->q2P,wpAny_Name->q2Q,typeIs_int->q2S,fitsIndex_both->q2V,call->q2X,intKind_is->q2Y,wpAny_setField->q2Z,SeqAt.RcAt->q20,PyData.hasDict->q27,repr_of_reads'->q28,W.CodeHd->q29,SetTable.fits->q3b,plainId_quiet->q3c,Value.isStrOf->q3d,intBits_le_64->q3e,evalPart_none->q3h,call_list_seq->q3j,putSet_of->q3s,small_one->q3t,Fin->q3C,preSum->q3O
open Array renaming length_toList->Vx,getElem?_toList->W0,getD_eq_getD_getElem?->Xu,getElem?_eq_getElem->X9,getElem?_eq_some_iff->Y4,perm_iff_toList_perm->Y_,toList_setIfInBounds->Z1,forIn_toList->Z2,getElem_mem_toList->q0l,toList_replicate->q0A,toList_filterMap->q0B,size_push->q0O,Perm.refl->q0U,size_map->q03,size_extract->q1v,size_append->q1L,getD->q22,toList->q3J
open Option renaming map_eq_some_iff->Ws,some.inj->WJ,isSome_iff_exists->q0o,getD_none->q0r,map_some->q0N,isSome->q1i,isSome_some->q1D,isSome_map->q14,getD_some->q2q,none->q4H
open Int renaming toNat_natCast->Ww,emod_lt_of_pos->Xj,emod_nonneg->XN,eq_ofNat_of_zero_le->YJ,cast_ofNat_Int->Zn,toNat->q0y,zero_add->q0J,mul_one->q05,ofNat.inj->q1n,ofNat->q2n,le_of_lt->q32,le_refl->q5d
open Bool renaming false_ne_true->WQ,and_eq_true->WZ,false_eq_true->Xb,not_eq_true'->ZD,not_true->q0n,false_and->q04,and_true->q1o,not_eq_true->q2p,and_false->q2U,false_bne->q26,or_false->q3i,false_or->q3k,and_self->q3n,true_or->q3N
open PyProof renaming Rows.slot_tuple_getitem->Xc,Rows.callWith_type1->Xv,Rows.listUpdate_at->Zi,Rows.get?_update_seq->Zl,Rows.F.plain_set_update_loop->Zo,Rows.lt_int->ZX,Rows.F.entry_set_update_loop->q0s,Rows.subscriptTail_builtinR->q0G,Rows.seqEpoch_at->q08,Rows.entry_tuple_getitem->q1c,Rows.args_tuple_getitem->q1C,Rows.listItems_at->q18
open False renaming elim->Xt
open ForInStep renaming yield->XR
open LawfulBEq renaming eq_of_beq->XT
open True renaming intro->Yz
open Ne renaming symm->YN
open Classical renaming byContradiction->Zb
open Sum renaming inl->q0f,inr->q1a,inl.inj->q4A
open Function renaming comp->q1p
open Or renaming inl->q1t,inr->q2f,comm->q35
open StateT renaming run_pure->q2I
open Prod renaming fst->q4J
set_option Elab.async false
set_option linter.all false
set_option maxRecDepth 100000
abbrev bg:=PySem.Value->PySem.Shared->Prop
local macro_rules | `(tactic| trivial) => `(tactic| first|exact q1t rfl|exact q2f rfl)
abbrev Vw:=@if_neg
abbrev Wm:=@if_pos
abbrev Wn:=@decide_eq_false
abbrev Wu:=@decide_eq_true
abbrev XE:=@of_decide_eq_true
abbrev XH:=@decide_eq_true_eq
abbrev Yf:=@or_false
abbrev Yw:=@if_false
abbrev YF:=@beq_eq_false_iff_ne
abbrev YZ:=@not_not_intro
abbrev ZN:=@if_true
abbrev q0F:=@beq_iff_eq
theorem el7{α β γ ε:Type}{A B C:α→β→γ→ε→Prop}{R:Prop}(h:∃F ad δ K, A F ad δ K∧B F ad δ K∧C F ad δ K)(k:∀F ad δ K, A F ad δ K→B F ad δ K→C F ad δ K→R): R:=h.elim λF h=>h.elim λa h=>h.elim λd h=>h.elim λK h=>k F a d K h.1 h.2.1 h.2.2
theorem el5{α β:Type}{A B C:α→β→Prop}{R:Prop}(h:∃F ad, A F ad∧B F ad∧C F ad)(k:∀F ad, A F ad→B F ad→C F ad→R): R:=h.elim λF h=>h.elim λa h=>k F a h.1 h.2.1 h.2.2
theorem el3{α:Type}{A B:α→Prop}{R:Prop}(h:∃F, A F∧B F)(k:∀F, A F→B F→R): R:=h.elim λF h=>k F h.1 h.2
set_option compiler.extract_closed false
local macro_rules | `(tactic| symm) => `(tactic| first|lia|omega (config:={}))
local macro_rules | `(⋯) => `(by symm)
abbrev nr:=PySem.Value->PySem.Shared->Prop
open Option renaming some->U,some->ζ,none->Z,none->η
open Bool renaming true->θ,false->ι
open Decidable renaming decide->S,decide->μ
open PySem renaming Value->O,Value->ν,Addr->M,Addr->ξ,Shared->B,Shared->ο,Str->R,Str->π,wpAny->L,wpAny->ρ,model->G,model->ς,Expr->J,Expr->υ,Stmt->o,Stmt->χ,Program->l,Program->ψ,World->g,World->ω,Heap->I,Heap->Α,Around->q,Around->Β,Obj->Q,Obj->Γ,Scope->a,Scope->Δ,Pos->y,Pos->Ε,Env->t,Env->Ζ
theorem Y{α:Sort u}{a:α}:a=a:=rfl
theorem qzr (_:True:=by first|rfl|(intros;rfl)):True:=trivial
theorem qzd (_:True:=by decide):True:=trivial
theorem qz0 (_:True:=by kernel_rfl):True:=trivial
theorem qz1 (_:True:=by first|exact .inl Y|exact .inr Y|assumption):True:=trivial
theorem qz2 (_:True:=by first|rfl|kernel_rfl):True:=trivial
theorem qz3 (_:True:=by decide +kernel):True:=trivial
theorem qz6 (_:True:=by with_unfolding_all rfl):True:=trivial
theorem qz8 (_:True:=by trivial):True:=trivial
section
open Lean in
local macro_rules
 |`(‹$x›)=>if x.raw.isOfKind `Lean.Parser.Term.hole then Macro.throwUnsupported else `(autoParam $x qzr._auto_1)
 |`(~~~$x)=>`(autoParam $x qzd._auto_1)
open Lean in
def qzp(s:Syntax):Syntax:=
 let n:=λs a=>mkNode (`Lean.Parser.Tactic++s) a
 s.rewriteBottomUp λs=>if s.isIdent then n `rcasesPat.one #[s] else if s.isOfKind `Lean.Parser.Term.hole then n `rcasesPat.ignore #[mkAtom "_"] else if s.isOfKind `Lean.Parser.Term.anonymousCtor then n `rcasesPat.tuple #[mkAtom "⟨",mkNullNode (s[1].getArgs.map λx=>if x.isAtom then x else n `rcasesPatLo #[n `rcasesPatMed #[mkNullNode #[x]],mkNullNode]),mkAtom "⟩"] else s
open Lean in
local macro_rules
 |`(tactic|let $d:letDecl)=>do
  let d:=d.raw[0]
  pure (if d.isOfKind `Lean.Parser.Term.letPatDecl then mkNode `Lean.Parser.Tactic.obtain #[mkAtom "obtain",mkNullNode #[mkNode `Lean.Parser.Tactic.rcasesPatMed #[mkNullNode #[qzp d[0]]]],mkNullNode (if d[2].getNumArgs==0 then #[] else #[mkAtom ":",d[2][0][1]]),mkNullNode #[mkAtom ":=",mkNullNode #[d[4]]]] else mkNode `Lean.Parser.Tactic.tacticHave__ #[mkAtom "have",mkNode `Lean.Parser.Term.letConfig #[mkNullNode],mkNode `Lean.Parser.Term.letDecl #[d]])
open Lean in
local macro_rules
 |`(fun $bs* => $e)=>do
  if (← getRef)[1][2].getAtomVal != "↦" then Macro.throwUnsupported
  let p:=bs.map λs=>⟨mkNode `Lean.Parser.Tactic.rintroPat.one #[qzp s]⟩
  `(by rintro $p*;exact $e)
local macro_rules |`(tactic|calc $e:term)=>`(tactic|refine $e)
local macro_rules |`(tactic|ext $p*)=>`(tactic|rintro $p*)
local macro_rules |`(↑$x)=>`(($x).length)
local macro_rules |`(⇑$x)=>`(($x).heap.objs.size)
local macro_rules |`($x⁻¹)=>`(by simpa using $x)
open Lean in
local macro_rules
 |`(-$x)=>if x.raw.getKind==`Lean.Parser.Term.typeAscription||x.raw.isOfKind `num||(x.raw.isOfKind `Lean.Parser.Term.paren&&!x.raw[1].isOfKind `Lean.Parser.Term.app&&!x.raw[1].isOfKind `«term-_»&&!x.raw[1].isOfKind `«term_×_»&&!x.raw[1].isOfKind `Lean.Parser.Term.arrow) then Macro.throwUnsupported else `(List $x)
open Lean in
local macro_rules
 |`(tactic|erw[$ls,*] $[$l:location]?)=>do
  let a←ls.getElems.mapM fun r=>do
   let t:Term:=⟨r.raw[1]⟩
   if r.raw[0].getNumArgs==0 then `(Parser.Tactic.simpLemma|$t:term) else `(Parser.Tactic.simpLemma|←$t:term)
  `(tactic|simp only[$a,*] $[$l]?)
namespace LJS
open PySem PySem.SetTable
noncomputable def nx(m i:Nat):Nat:=(i*5+1)%(m+1)
noncomputable def l5(m:Nat):Nat->Nat->Nat
 |0,i=>i
 |n+1,i=>l5 m n (nx m i)
theorem uK(m:Nat):∀a b i,l5 m (a+b) i=l5 m b (l5 m a i)
 |0,b,i=>by rw[Xi];rfl
 |a+1,b,i=>by rw[q3E];calc uK m a b (nx m i)
noncomputable def xa(m:Nat):Nat->Nat->-Nat
 |0,_=>[]
 |n+1,i=>i::xa m n (nx m i)
theorem C6(m:Nat):∀{n i e:Nat},e∈xa m n i->∃k,k<n/\l5 m k i=e
 |0,_,_,h=>nomatch h
 |n+1,i,e,h=>by
  rcases MN.mp h with rfl|h
  .exact⟨0,q3F _,Y⟩
  .let⟨k,hk,e⟩:=C6 m h
   calc⟨k+1,Nat.succ_lt_succ hk,e⟩
def Mk(m:Nat):Prop:=m=7\/m=31\/m=127
noncomputable def rL(m:Nat):Bool:=(WL (m+1)).all λe=>(xa m (m+1) 0).contains e
theorem C7(h:Mk m):rL m=θ/\l5 m (m+1) 0=0:=by
 rcases h with rfl|rfl|rfl<;>calc⟨by decide +kernel,by decide +kernel⟩
theorem og(h:Mk m)(he:e<=m):∃k,k<=m/\l5 m k 0=e:=by
 let:=XS.mp (C7 h).1 e (Xf.mpr (Nat.lt_succ_of_le he));let⟨k,hk,q⟩:=C6 m (q0W.mp this);calc⟨k,Zu hk,q⟩
theorem Jt(h:Mk m)(hi:i<=m)(he:e<=m):∃n,n<=m/\l5 m n i=e:=by
 let⟨a,ha,rfl⟩:=og h hi;let⟨b,hb,rfl⟩:=og h he
 by_cases Ju:a<=b
 .refine⟨b-a,⋯,?_⟩
  rw[<-uK];congr 1;symm
 .refine⟨m+1-a+b,⋯,?_⟩
  rw[<-uK,show a+(m+1-a+b)=(m+1)+b by symm,uK,(C7 h).2]
noncomputable def lp(m:Nat):Nat->Nat->Nat->Nat×Nat
 |0,i,p=>(i,p)
 |n+1,i,p=>lp m n (leap m i p).1 (leap m i p).2
theorem xb(m:Nat):∀a b i p,lp m (a+b) i p=lp m b (lp m a i p).1 (lp m a i p).2
 |0,b,i,p=>by rw[Xi];rfl
 |a+1,b,i,p=>by rw[q3E];calc xb m a b _ _
theorem C8(m:Nat):∀n i,lp m n i 0=(l5 m n i,0)
 |0,i=>Y
 |n+1,i=>by
  show lp m n (leap m i 0).1 (leap m i 0).2=_;let e:leap m i 0=(nx m i,0):=by unfold leap nx;simp
  rw[e];calc C8 m n _
theorem Jv(m i p:Nat):(leap m i p).1<=m:=Zu (Nat.mod_lt _ (q3F _))
theorem C9(m:Nat):∀n i p,(lp m n i p).2=p / 32 ^ n
 |0,i,p=>by simp[lp]
 |n+1,i,p=>by
  show(lp m n (leap m i p).1 (leap m i p).2).2=_;rw[C9 m n];show p / 32 / 32 ^ n=_;rw[Nat.div_div_eq_div_mul,Nat.pow_succ,q3G]
theorem reach(h:Mk m)(hp:p<2 ^ 64)(he:e<=m):∃n,n<=13+m/\(lp m n i p).1=e:=by
 let z:(lp m 13 i p).2=0:=by
  rw[C9];exact Nat.div_eq_of_lt (q3H hp (by decide))
 let q:(lp m 13 i p).1<=m:=by
  rw[xb m 12 1];exact Jv _ _ _
 let⟨n,hn,en⟩:=Jt h q he;calc⟨13+n,⋯,?_⟩;rw[xb,z,C8];calc en
theorem C_(j:Nat):has #[] j=ι:=by unfold has;simp
theorem xc{t:SetTable}(hd:t.dummies = #[])(j:Nat):t.slot j=.empty\/∃i,t.slot j=.live i/\i<t.place.size/\j∈t.place.toList:=by
 unfold slot;rw[hd,C_];dsimp only
 by_cases c:(t.place[below t.place j]?==U j)=θ
 .right
  rw[Wm c];let e:=XT c;let⟨hl,ev⟩:=Y4.mp e;exact⟨_,Y,hl,by rw[<-ev];calc q0l hl⟩
 .left
  rw[Vw c];rfl
theorem Jw{t:SetTable}(hd:t.dummies = #[])(hj:j∉t.place.toList):t.slot j=.empty:=by
 rcases xc hd j with h|⟨_,_,_,h⟩
 .exact h
 .calc absurd h hj
theorem Dd:∀{l l':-Nat},l.Nodup->(∀x∈l,x∈l')->↑l<=↑l'
 |[],_,_,_=>W8 _
 |a::l,l',hn,hs=>by
  let ha:a∈l':=hs a (Wo ..);let jo:=YS.mp hn;let ih:=Dd (l:=l) (l':=l'.erase a) jo.2 λx hx=>(List.mem_erase_of_ne (λz=>jo.1 (by rw[<-z];calc hx))).mpr (hs x (Vu _ hx));rw[List.length_erase_of_mem ha] at ih;let:=List.length_pos_of_mem ha;rw[Em];symm
theorem uL{l:-Nat}(h:↑l<=m):∃e,e<=m/\e∉l:=by
 calc Zb λno=>?_;let all:∀e,e∈WL (m+1)->e∈l:=λe he=>Zb λz=>no ⟨e,Zu (Xf.mp he),z⟩;let:↑(WL (m+1))<=↑l:=Dd ZI all;rw[W6] at this;symm
noncomputable def stateOf(t:SetTable)(i p:Nat):Probe:=⟨i,runEnd t.mask i-i,i,p,Z⟩
theorem Jx(m i:Nat):runEnd m i-i<=9:=by unfold runEnd;split<;>symm
section
variable{t:SetTable}{f:Nat->Int}{h:Int}
theorem xf(F:Nat)(p:Probe):ZP t f h (F+1) p=(match t.slot p.j with
  |.empty=>U (.empty p.j p.dummy)
  |.dummy=>ZP t f h F (t.advance {p with dummy:=U p.j})
  |.live i=>if f i==h then U (.candidate p.j i (t.advance p)) else ZP t f h F (t.advance p)):=rfl
theorem De(hd:t.dummies = #[])(hf:∀i,i<t.place.size->f i≠h):∀(k F:Nat)(p:Probe),p.more=k->p.dummy=Z →
  (∃j,ZP t f h (F+k+1) p=U (.empty j Z))\/ZP t f h (F+k+1) p=ZP t f h F (stateOf t (leap t.mask p.i p.perturb).1 (leap t.mask p.i p.perturb).2)
 |0,F,p,hm,rM=>by
  show(∃j,ZP t f h (F+1) p=_)\/ZP t f h (F+1) p=_;rw[xf];rcases xc hd p.j with e|⟨i,e,hi,_⟩
  .left;rw[e];exact⟨p.j,by rw[rM]⟩
  .right
   rw[e];show(if(f i==h)=θ then _ else _)=_;rw[Vw (by ext z;calc hf i hi (XT z))];unfold advance;rw[hm,Vw ⋯,rM];rfl
 |k+1,F,p,hm,rM=>by
  let ih:=De hd hf k F {p with j:=p.j+1,more:=p.more-1} (by show p.more-1=k;symm) rM;rw[show F+(k+1)+1=(F+k+1)+1 by symm,xf];rcases xc hd p.j with e|⟨i,e,hi,_⟩
  .left;rw[e];exact⟨p.j,by rw[rM]⟩
  .rw[e]
   show(∃j,(if(f i==h)=θ then _ else _)=_)\/(if(f i==h)=θ then _ else _)=_;rw[Vw (by ext z;calc hf i hi (XT z))];let ea:t.advance p={p with j:=p.j+1,more:=p.more-1}:=by unfold advance;rw[Wm ⋯]
   rw[ea];calc ih
theorem Df(hd:t.dummies = #[])(hf:∀i,i<t.place.size->f i≠h):∀(n F i p:Nat),10*(n+1)<=F->t.slot (lp t.mask n i p).1=.empty->∃j,ZP t f h F (stateOf t i p)=U (.empty j Z)
 |0,F,i,p,hF,hs=>by
  let⟨G,rfl⟩:∃G,F=G+1:=⟨F-1,⋯⟩;rw[xf];let e:t.slot (stateOf t i p).j=.empty:=hs;rw[e];exact⟨i,Y⟩
 |n+1,F,i,p,hF,hs=>by
  let hr:=Jx t.mask i;let⟨G,hG⟩:∃G,F=G+(runEnd t.mask i-i)+1:=⟨F-(runEnd t.mask i-i)-1,⋯⟩;let:=De (f:=f) (h:=h) hd hf (runEnd t.mask i-i) G (stateOf t i p) Y Y;rw[<-hG] at this;rcases this with h1|h1
  .exact h1
  .rw[h1]
   calc Df hd hf n G _ _ ⋯ hs
theorem Dg(h:Int):bits h<2 ^ 64:=by
 unfold bits;let:=Xj h (show(0:Int)<2 ^ 64 by decide);let:=XN h (show(2 ^ 64:Int)≠0 by decide);symm
theorem Jy(hd:t.dummies = #[])(hm:Mk t.mask)(hz:t.place.size<=t.mask)(hf:∀i,i<t.place.size->f i≠h):∃j,t.probe f h (t.probeStart h)=U (.empty j Z):=by
 let⟨e,he,ne⟩:=uL (l:=t.place.toList) (m:=t.mask) (by rw[Vx];calc hz);let⟨n,hn,en⟩:=reach hm (i:=bits h%(t.mask+1)) (Dg h) he;calc Df hd hf n _ _ _ (by unfold turns;symm) (by rw[en];calc Jw hd ne)
end
section
variable{m:Nat}{owner:Array (Option Nat)}
theorem Dh(F i p:Nat):Zg m owner (F+1) i p=(match(WL (runEnd m i+1-i)).find? λk=>(owner.getD (i+k) (U 0)).isNone with
   |some k=>U (i+k)
   |none=>Zg m owner F (leap m i p).1 (leap m i p).2):=rfl
theorem Di:∀(n F i p:Nat),n+1<=F->(owner.getD (lp m n i p).1 (U 0)).isNone=θ->∃j,Zg m owner F i p=U j/\(owner.getD j (U 0)).isNone=θ
 |0,F,i,p,hF,hs=>by
  let⟨G,rfl⟩:∃G,F=G+1:=⟨F-1,⋯⟩;rw[Dh]
  cases hc:(WL (runEnd m i+1-i)).find? λk=>(owner.getD (i+k) (U 0)).isNone with
  |some k =>
   let:=q0M hc;exact⟨i+k,Y,this⟩
  |none =>
   let:=q1u.mp hc 0 (Xf.mpr (by unfold runEnd;split<;>symm));exact absurd hs this
 |n+1,F,i,p,hF,hs=>by
  let⟨G,rfl⟩:∃G,F=G+1:=⟨F-1,⋯⟩;rw[Dh]
  cases hc:(WL (runEnd m i+1-i)).find? λk=>(owner.getD (i+k) (U 0)).isNone with
  |some k =>
   let:=q0M hc;exact⟨i+k,Y,this⟩
  |none=>calc Di n G _ _ ⋯ hs
end
structure Ow(m:Nat)(owner:Array (Option Nat))(k:Nat):Prop where
 size:owner.size=m+1
 cnt:owner.toList.countP q1i=k
 lt:∀x,U x∈owner.toList->x<k
theorem Dj:∀{l:-(Option Nat)}{j k:Nat},l[j]?=U Z->(l.set j (U k)).countP q1i=l.countP q1i+1
 |[],j,k,h=>by simp at h
 |x::l,0,k,h=>by
  simp at h;subst h;rw[Xk,ZJ,ZJ];rfl
 |x::l,j+1,k,h=>by
  simp at h;rw[Xl,ZJ,ZJ,Dj h];symm
theorem getD_none{owner:Array (Option Nat)}(h:(owner.getD j (U 0)).isNone=θ):owner.toList[j]?=U Z:=by
 rw[Xu] at h;rw[W0]
 cases e:owner[j]? with
 |none=>rw[e] at h;cases h
 |some x =>
  rw[e] at h
  cases x with
  |none=>rfl
  |some y=>cases h
theorem Jz{owner:Array (Option Nat)}(O:Ow m owner k)(hk:k<=m):∃e,e<=m/\(owner.getD e (U 0)).isNone=θ:=by
 refine Zb λno=>?_
 let all:∀x∈owner.toList,x.isSome=θ:=by
  ext x hx;let⟨e,he⟩:=Wt.mp hx
  cases x with
  |some y=>rfl
  |none =>
   let hl:=(sG.mp he).1;rw[Vx,O.size] at hl;calc absurd ⟨e,Zu hl,?_⟩ no;rw[Xu,<-W0,he];rfl
 let:=q0X.mpr all;rw[O.cnt,Vx,O.size] at this;symm
theorem JB{owner:Array (Option Nat)}(hm:Mk m)(O:Ow m owner k)(hk:k<=m)(h:Int):∃j,Zg m owner (turns m) (bits h%(m+1)) (bits h)=U j/\Ow m (owner.setIfInBounds j (U k)) (k+1):=by
 let⟨e,he,hn⟩:=Jz O hk;let⟨n,jo,en⟩:=reach hm (i:=bits h%(m+1)) (Dg h) he;let⟨j,ej,hj⟩:=Di (m:=m) (owner:=owner) n (turns m) (bits h%(m+1)) (bits h) (by unfold turns;symm) (by rw[en];calc hn);refine⟨j,ej,by rw[Array.size_setIfInBounds];calc O.size,?_,λx hx=>?_⟩
 .rw[Z1,Dj (getD_none hj),O.cnt]
 .rw[Z1] at hx
  rcases q0e hx with h|h
  .exact XD (O.lt x h)
  .cases h;calc YG _
theorem Dl(hm:Mk m):∀(hs:-Int)(owner:Array (Option Nat))(k:Nat),Ow m owner k->k+↑hs<=m+1 →
  ∃kx,(hs.foldl (init:=U (owner,k)) λacc h=>do
   let(owner,k) <- acc
   let j <- Zg m owner (turns m) (bits h%(m+1)) (bits h)
   pure (owner.setIfInBounds j (U k),k+1))=U (kx,k+↑hs)/\Ow m kx (k+↑hs)
 |[],owner,k,O,_=>⟨owner,Y,O⟩
 |h::hs,owner,k,O,hl=>by
  rw[Em] at hl ⊢;let⟨j,ej,O'⟩:=JB hm O ⋯ h;let⟨o2,e2,O2⟩:=Dl hm hs _ (k+1) O' ⋯;calc⟨o2,?_,by rw[show k+(↑hs+1)=k+1+↑hs by symm];calc O2⟩;rw[XO,show k+(↑hs+1)=k+1+↑hs by symm,<-e2];congr 1;show(do let j <- Zg m owner (turns m) (bits h%(m+1)) (bits h);pure (owner.setIfInBounds j (U k),k+1))=_;rw[ej];rfl
theorem JD(m:Nat):Ow m (Array.replicate (m+1) Z) 0:=by
 refine⟨by simp,?_,λx hx=>?_⟩
 .rw[q0A]
  exact List.countP_eq_zero.mpr λx hx=>by rw[q0m hx];decide
 .rw[q0A] at hx
  cases q0m hx
theorem JH(hm:Mk m)(hs:Array Int)(hz:hs.size<=m+1):∃owner,layClean m hs=U owner/\Ow m owner hs.size:=by
 let⟨o,e,O⟩:=Dl hm hs.toList _ 0 (JD m) (by rw[Vx];symm);rw[Xi,Vx] at O;calc⟨o,?_,O⟩;unfold layClean;rw[<-Array.foldl_toList,e];rfl
noncomputable def qD(m:Nat)(owner:Array (Option Nat)):-(Nat×Nat):=(WL (m+1)).filterMap λj=>(owner.getD j Z).map (j,·)
theorem Dp(O:Ow m owner k):↑(qD m owner)=k:=by
 unfold qD;rw[ZE,<-O.cnt]
 let e:owner.toList=(WL (m+1)).map λj=>owner.getD j Z:=by
  calc Y2 λi=>?_;rw[W0,My]
  by_cases hi:i<m+1
  .rw[X7 hi,q0N,X9 (by rw[O.size];calc hi),Xu,X9 (by rw[O.size];calc hi)];rfl
  .rw[Array.getElem?_eq_none (by rw[O.size];symm),Xd (by rw[W6];symm)];rfl
 rw[e,List.countP_map];calc List.countP_congr λj _=>?_;simp
theorem JJ(O:Ow m owner k)(hz:z∈qD m owner):z.2<k:=by
 unfold qD at hz;let⟨j,hj,e⟩:=Zm.mp hz;let⟨x,ex,rfl⟩:=Ws.mp e;calc O.lt x ?_;rw[Xu] at ex
 cases q:owner[j]? with
 |none=>rw[q] at ex;cases ex
 |some y =>
  rw[q] at ex;cases(show y=U x from ex)
  calc Wt.mpr ⟨j,by rw[W0];calc q⟩
theorem JK(hm:Mk m)(t:SetTable)(hs:Array Int)(wanted:Nat)(hw:sizeAbove wanted-1=m)(hz:hs.size<=m+1):
  ∃t' order,t.relaid hs wanted=U (t',order)/\t'.mask=m/\t'.dummies = #[]/\t'.place.size=hs.size/\t'.led=t.led/\t'.plain=t.plain/\order.size=hs.size/\∀k∈order.toList,k<hs.size:=by
 let⟨owner,e,O⟩:=JH hm hs hz;refine⟨{mask:=m,place:=((qD m owner).map (·.1)).toArray,dummies := #[],finger:=t.finger,led:=t.led,moves:=t.movedTo m,plain:=t.plain},((qD m owner).map (·.2)).toArray,?_,Y,Y,?_,Y,Y,?_,λk hk=>?_⟩
 .unfold relaid laid
  rw[hw,e];rfl
 .rw[yA,pN,Dp O]
 .rw[yA,pN,Dp O]
 .let⟨z,hz,rfl⟩:=Wq.mp hk
  calc JJ O hz
theorem JL{α:Type}{es:Array α}{order:Array Nat}(h:∀k∈order.toList,k<es.size):(order.filterMap (es[·]?)).size=order.size/\∀e∈(order.filterMap (es[·]?)).toList,e∈es.toList:=by
 constructor
 .rw[<-Vx,q0B,ZE,q0X.mpr λk hk=>?_,Vx]
  rw[X9 (h k hk)];rfl
 .ext e he
  rw[q0B] at he;let⟨k,_,q⟩:=Zm.mp he;calc Wt.mpr ⟨k,by rw[W0];calc q⟩
theorem JM(t:SetTable)(hd:t.dummies = #[])(j:Nat):(t.put j).1.dummies = #[]/\(t.put j).1.mask=t.mask/\(t.put j).1.place.size=t.place.size+1/\(t.put j).1.led=t.led/\(t.put j).1.plain=t.plain/\(t.put j).1.moves=t.moves/\(t.put j).1.finger=t.finger:=by
 unfold put;dsimp only;rw[hd,C_];calc⟨Y,Y,?_,Y,Y,Y,Y⟩;unfold insertAt;erw[q1L,q0O,q1v];symm
theorem JN{α:Type}{xs:Array α}{p:Nat}{x e:α}(h:e∈(insertAt xs p x).toList):e=x\/e∈xs.toList:=by
 unfold insertAt at h;erw[Array.toList_append,Array.toList_push,W7,WW,Array.toList_extract] at h;erw[List.extract_eq_take_drop] at h;rcases h with(h|h)|h
 .right;exact ZQ (Y5 h)
 .exact .inl h
 .right;calc ZQ (Y5 h)
theorem JO{α:Type}(xs:Array α)(p:Nat)(x:α):(insertAt xs p x).size=xs.size+1:=by
 unfold insertAt;erw[q1L,q0O,q1v];symm
end LJS
namespace LJS
open PySem PySem.SetTable PyProof.Rows
structure fW(t:SetTable)(es:Array (Int×O))(hs:-Int):Prop where
 xg:t.dummies = #[]
 rN:Mk t.mask
 rO:t.place.size=es.size
 num:es.size=↑hs
 jq:t.tooFull=ι
 ins:∀e∈es.toList,e.1∈hs
def fA(h:I)(S:M)(hs:-Int):Prop:=∃o es ep t,h.get? S=U o/\o.ExactSet/\o.data=.set es ep t/\fW t es hs
section
variable{t:SetTable}{es:Array (Int×O)}{hs:-Int}
theorem fW.fill(T:fW t es hs):t.fill=es.size:=by
 unfold q1j;rw[T.rO,T.xg];rfl
theorem fW.lt(T:fW t es hs):es.size*5<t.mask*3:=by
 let:=T.jq;unfold tooFull at this;rw[T.fill] at this;let:=of_decide_eq_false this;symm
theorem fW.fits(T:fW t es hs):t.fits es.size=θ:=by
 let:=T.lt;unfold q3b;rw[T.fill,T.rO];simp;symm
theorem fW.xh(T:fW t es hs):t.gaveWay=ι:=by
 unfold SetTable.gaveWay;rcases T.rN with h|h|h<;>rw[h]<;>rfl
end
theorem JP:sizeAbove (grown 5)-1=31:=by decide +kernel
theorem JQ:sizeAbove (grown 19)-1=127:=by decide +kernel
section
variable{prog:l}{w:g}{A:q}{E:bg}{s:B}
theorem JR{S:M}{x:O}{h:Int}{hs:-Int}{o:Γ}{es:Array (Int×O)}{ep:Nat}{t:SetTable}{Q:SetFound->B->Prop}(ho:s.heap.get? S=U o)(hd:o.data=.set es ep t)(T:fW t es hs)(hn:h∉hs)
  (k:∀j,Q (.free j ι) s):L (G prog w) A (setSearch S x h θ) Q E s:=by
 show L _ _ (setSearchFrom S x h θ (99999+1) Z) _ _ _;calc qL (Zv ho hd T.fits ?_);dsimp only;rw[T.xh];let hz:t.place.size<=t.mask:=by let:=T.lt;rw[T.rO];symm
 let⟨j,ej⟩:=Jy (t:=t) (f:=λi=>(es[i]?.map (·.1)).getD 0) (h:=h) T.xg T.rN hz (λi hi z=>by
  rw[T.rO] at hi;rw[X9 hi] at z
  calc hn (by rw[<-show es[i].1=h from z];calc T.ins _ (q0l hi)))
 erw[q0r];generalize hP:t.probe _ h (t.probeStart h)=P;let eP:P=U (.empty j Z):=hP.symm.trans ej;rw[eP];calc MK (k j)
theorem JU{S:M}{x:O}{h:Int}{hs:-Int}{Q:Bool->B->Prop}(hx:x.scannable=ι)(hS:fA s.heap S hs)(hn:h∉hs)(hl:↑hs<60)
  (hv:∀Q':Bool->B->Prop,(∀b,Q' b s)->L (G prog w) A (hashByValue 8 x) Q' E s)
  (k:∀h',Za S s.heap h'->fA h' S (hs++[h])->Q θ {s with heap:=h'}):L (G prog w) A (setAddHashed S x h) Q E s:=by
 let⟨o,es,ep,t,ho,hex,hd,T⟩:=hS;calc W9 ?_;calc qL (Zv ho hd T.fits ?_);let hb:byScan x es=ι:=by unfold byScan;rw[hx];rfl
 dsimp only;rw[hb];calc qL (JR ho hd T hn λj=>?_);calc qL (Zv ho hd T.fits ?_);let⟨p1,p2,p3,p4,p5,p6,p7⟩:=JM t T.xg j
 let fin:∀b:Bool,L (G prog w) A (do
   storeSet S (SetTable.insertAt es (t.put j).2 (h,x)) (if b=θ then(t.put j).1 else{(t.put j).1 with plain:=false})
   if(!ι&&(if b=θ then(t.put j).1 else{(t.put j).1 with plain:=false}:SetTable).tooFull)=θ then do
       setRelay S (q2O (es.size+1))
       pure θ
    else pure θ) Q E s:=by
  ext b;generalize l6:(if b=θ then(t.put j).1 else{(t.put j).1 with plain:=false}:SetTable)=t2;let q1:t2.dummies = #[]:=by rw[<-l6];cases b<;>exact p1
  let q2:t2.mask=t.mask:=by rw[<-l6];cases b<;>exact p2
  let q3:t2.place.size=es.size+1:=by rw[<-l6,<-T.rO];cases b<;>exact p3
  let oh:=JO es (t.put j).2 (h,x)
  let o9:∀e∈(insertAt es (t.put j).2 (h,x)).toList,e.1∈hs++[h]:=λe he=>by
   rcases JN he with rfl|he
   .exact WB _ (WW.mpr Y)
   .exact XU _ (T.ins e he)
  generalize insertAt es (t.put j).2 (h,x)=iB at oh o9;let Vj:es.size<60:=by rw[T.num];exact hl
  refine qL (q1M ho hd ?_ (by rw[oh,Xg];symm))
  let iC:(s.heap.update S (q0C iB t2)).get? S=U {o with data:=.set iB (ep+1) t2}:=by
   let:=Y0 (q0C iB t2) ho (by rw[q3s iB t2 hd];rfl);rw[q3s iB t2 hd] at this;exact this
  let fl:t2.fill=es.size+1:=by unfold q1j;rw[q1,q3];rfl
  let lt:=T.lt
  let rP:t2.fits iB.size=θ:=by
   unfold q3b;rw[fl,q3,oh,q2];simp;rcases T.rN with e|e|e<;>rw[e] at lt ⊢ <;> symm
  by_cases tf:t2.tooFull=θ
  .rw[Wm (by rw[tf];rfl)]
   let Dq:t.mask*3<=(es.size+1)*5:=by
    unfold tooFull at tf;let:=XE tf;symm
   let⟨m,hm,hw,hsz⟩:∃m,Mk m/\sizeAbove (grown (es.size+1))-1=m/\(es.size+1)*5<m*3:=by
    rcases T.rN with e|e|e
    .rw[e] at lt Dq
     let:es.size+1=5:=by symm
     rw[this];exact⟨31,.inr (.inl Y),JP,⋯⟩
    .rw[e] at lt Dq
     let:es.size+1=19:=by symm
     rw[this];exact⟨127,.inr (.inr Y),JQ,⋯⟩
    symm
   calc qL ?_;calc qL (Zv iC Y rP ?_);dsimp only
   let JV:¬ SetTable.sizeAbove (q2O (es.size+1))>sizeLine:=by
    rw[Xg];rcases hm with e|e|e<;>symm
   rw[Vw JV];let⟨t3,order,er,r1,r2,r3,_,_,r4,r5⟩:=JK hm t2 (iB.map (·.1)) (grown (es.size+1)) hw (by rw[q03,oh];symm);rw[er];rw[q03,oh] at r3 r4;rw[q03] at r5;let⟨o1,o2⟩:=JL (es:=iB) (order:=order) r5;refine qL ?_
   show L _ _ (do
    if(order.filterMap (iB[·]?)).size != iB.size then
     unsupported "internal:set-table-lost-an-element"
    pure (order.filterMap (iB[·]?),t3)) _ _ _
   rw[Vw (by rw[o1,r4,oh];simp)];calc MK ?_;refine q1M iC Y ?_ (by rw[o1,r4,Xg];symm)
   let eG:((s.heap.update S (q0C iB t2)).update S (q0C (order.filterMap (iB[·]?)) t3)).get? S=U {o with data:=.set (order.filterMap (iB[·]?)) (ep+1+1) t3}:=by
    let:=Y0 (q0C (order.filterMap (iB[·]?)) t3) iC (by rw[q3s _ t3 Y];rfl);exact this
   refine MK (k _ ?_ ⟨_,_,_,_,eG,hex,Y,r2,by rw[r1];calc hm,by rw[r3,o1,r4],by rw[o1,r4,T.num,MJ];rfl,?_,λe he=>o9 e (o2 e he)⟩)
   .exact (W_ ..).trans (W_ ..)
   .unfold tooFull q1j
    rw[r2,r3,r1];simp;symm
  .let Dr:t2.tooFull=ι:=by cases q:t2.tooFull<;>simp_all
   rw[Vw (by rw[Dr];decide)];refine MK (k _ (W_ ..) ⟨_,_,_,_,iC,hex,Y,q1,by rw[q2];calc T.rN,by rw[q3,oh],by rw[oh,T.num,MJ];rfl,Dr,o9⟩)
 by_cases hp:(t.put j).1.plain=θ
 .rw[Wm hp]
  calc qL (hv _ λb=>?_);exact fin b
 .rw[Vw hp]
  calc fin θ
end
end LJS
namespace LJS
open PySem PySem.SetTable
end LJS
namespace LJS
open PySem PySem.SetTable PyProof.Rows
section
variable{t:SetTable}{es:Array (Int×O)}{led:Bool}{ks:-Int}
end
section
variable{prog:l}{w:g}{A:q}{E:bg}{s:B}
theorem JX{ks:-Int}:∀{vs:-O},ItemsAre (intKind prog w) ks vs->∀v∈vs,∃i t,v=.int i t:=by
 induction ks with
 |nil=>ext vs h v hv;cases h;cases hv
 |cons k ks ih =>
  ext vs h v hv
  cases h with
  |cons h1 h2 =>
   rcases MN.mp hv with rfl|hv
   .let⟨t,e⟩:=q1N (k:=k) (v:=v) (by first|exact h1|simpa[intKind] using h1)
    exact⟨_,_,e⟩
   .calc ih h2 v hv
theorem JY{ks:-Int}{a:M}{Q:Bool->B->Prop}(hk:IsTupleKey (intKind prog w) s.heap ks a)(h:∀b,Q b s):L (G prog w) A (hashByValue 8 (.ref a)) Q E s:=by
 let hT:=hk.typeIs;let⟨o,au,n,ho,_,hd,hi⟩:=hk;show L _ _ (hashByValue (7+1) (.ref a)) _ _ _;unfold hashByValue;calc qL (q2z hT F.slot_tuple_hash.lookup ?_);show L _ _ (seqItems? (.ref a) >>= _) _ _ s;calc qL (Ye ho hd ?_);calc qL ?_;show L _ _ (forIn au _ _) _ _ s;rw[<-Z2];refine q2g _ (λrest _ s'=>s'=s/\∀v∈rest,∃i t,v=YY i t) _ ?_ ?_ _ _ ⟨Y,JX hi⟩
 .ext v rest r s' ⟨rfl,l7⟩
  let⟨i,t,rfl⟩:=l7 v Wo;let e:hashByValue 7 (.int i t)=pure θ:=by unfold hashByValue;rfl
  rw[e];calc qL (MK ?_);erw[q0n,Xb,Yw];exact MK ⟨Y,λu hu=>l7 u (Vu _ hu)⟩
 .ext ⟨r1,r2⟩ s' ⟨rfl,_⟩
  cases r1 with
  |none=>exact MK (h _)
  |some b=>calc MK (h _)
theorem xi{h h':I}{ks:-Int}{a:M}(x:IsTupleKey (intKind prog w) h ks a)(k:∀o,h.get? a=U o->h'.get? a=U o):IsTupleKey (intKind prog w) h' ks a:=by
 let⟨o,au,n,ho,r⟩:=x;calc⟨o,au,n,k o ho,r⟩
noncomputable abbrev hT(prog:l)(w:g)(ks:-Int):Int:=tupleKeyHash (intKind prog w) ks
theorem xj{h h':I}{S:M}{hs:-Int}(x:fA h S hs)(k:∀o,h.get? S=U o->h'.get? S=U o):fA h' S hs:=by
 let⟨o,es,ep,t,ho,r⟩:=x;calc⟨o,es,ep,t,k o ho,r⟩
end
section
variable{prog:l}{w:g}{A:q}{R:Result->B->Prop}{I S:M}{fp wr:-M}{G:Array GenState->Array GenState->Prop}{n:Nat}{P:Nat->O->Prop}{St:Nat->B->Prop}
theorem JZ(W:WalksS prog w A.in1 I fp wr G n P St)(out:S∉fp)(ad:Nat->M)(ks:Nat->-Int)(o_:∀i v,P i v->v=.ref (ad i))(apart:∀i,i<n->ad i∉S::wr)(room:A.in1.units<cLine)
  (unlike:∀i j,i<n->j<i->hT prog w (ks j)≠hT prog w (ks i)) (d4:n<=30) :
  ∀(left i:Nat)(s:B),i+left=n->St i s->(∀j,j<n->IsTupleKey (intKind prog w) s.heap (ks j) (ad j))->fA s.heap S ((WL i).map λj=>hT prog w (ks j)) →
   (∀s',Moved (S::wr) G s s'->fA s'.heap S ((WL n).map λj=>hT prog w (ks j))->R (.ok (.ret .none)) s') →
   codeAny (ς prog w) A (.builtin "set.update.loop" ⟨[.ref S,.ref I],[]⟩) R s:=by
 let rQ:S∉wr:=λz=>out (W.sub _ z);let more:∀b,b∈wr->b∈S::wr:=λb hb=>Vu _ hb;ext left
 induction left with
 |zero =>
  ext i s hi st tk se fin;obtain rfl:i=n:=by symm
  calc Zj q0s ?_;rw[Y6 Zo _];show L _ A.in1 (pyNext (.ref I) >>= _) _ _ s;calc qL (W.done s _ _ st λs' mv=>?_);show L _ A.in1 (ret WN) _ _ s';exact MK (fin s' (mv.mono more) (xj se λo e=>mv.heap S o rQ e))
 |succ left ih =>
  ext i s hi st tk se fin;let fX:i<n:=by symm
  calc Zj q0s ?_;rw[Y6 Zo _];show L _ A.in1 (pyNext (.ref I) >>= _) _ _ s;calc qL (W.item i s _ _ fX st λv s1 hP lK mv=>?_);obtain rfl:=o_ i v hP;let oj:∀j,j<n->IsTupleKey (intKind prog w) s1.heap (ks j) (ad j):=λj hj=>xi (tk j hj) λo e=>mv.heap _ o (λz=>apart j hj (more _ z)) e;show L _ A.in1 (holding [W5 (ad i)] (setAdd S (.ref (ad i))) >>= _) _ _ s1;calc qL (W9 ?_);unfold setAdd;calc W9 (qL (wpAny_pyHash_tuple room (oj i fX) ?_));refine JU (s:={s1 with toks:=s1.toks+(↑(ks i)+1)}) (hs:=(WL i).map λj=>hT prog w (ks j)) Y (xj se λo e=>mv.heap S o rQ e) (λz=>?_) (by rw[pN,W6];symm) (λQ' q=>JY (oj i fX) q) λh2 sb J0=>?_
  .let⟨j,hj,e⟩:=Wq.mp z
   exact unlike i j fX (Xf.mp hj) e
  .let nS:∀b,b∈fp->b≠S:=λb hb z=>out (by rw[<-z];calc hb)
   refine MK ⟨q3c Zo _,ih (i+1) _ ⋯ (W.frame _ s1 _ _ lK (YH _ _) λb hb o e=>by rw[sb.2 b (nS b hb)];calc e) (λj hj=>xi (oj j hj) λo e=>?_) (by rw[List.range_succ,WK];calc J0) λs3 J5 J6=>?_⟩
   .rw[sb.2 _ (λz=>apart j hj (by rw[z];calc Wo))];exact e
   .refine fin s3 (Moved.trans W.gtrans ((mv.mono more).then_heap (YH _ _) λb o hb e=>?_) J5) J6
    rw[sb.2 b (λz=>hb (by rw[z];calc Wo))];calc e
end
noncomputable abbrev gz(led:Bool):Q:={cls:=.type "set",dict:=none,data:=.set #[] 0 (.fresh 0 0 led)}
theorem J7{h:I}{S:M}{led:Bool}(e:h.get? S=U (gz led)):fA h S [] :=
 ⟨_,#[],0,_,e,⟨Y,Y,Y⟩,Y,Y,.inl Y,Y,Y,by cases led<;>decide,λ_ h=>nomatch h⟩
section
variable{prog:l}{w:g}{A:q}{E:bg}{s:B}
set_option maxHeartbeats 3200000 in
theorem J8 {l:M} {items:Array O} {Q:bg} (ad:Nat->M) (ks:Nat->-Int) (hh:A.handled=Z) (room:A.units+8<cLine) (J9:s.heap.IsList l items) (o_:∀(i:Nat)(v:O),items[i]?=U v->v=.ref (ad i))
  (tk:∀i,i<items.size->IsTupleKey (intKind prog w) s.heap (ks i) (ad i)) (unlike:∀i j,i<items.size->j<i->hT prog w (ks j)≠hT prog w (ks i)) (d4:items.size<=30)
  (fin:∀(h':I)(tk:Nat),fA h' ⇑s ((WL items.size).map λj=>hT prog w (ks j))->(∀b o,b<⇑s->s.heap.get? b=U o->h'.get? b=U o)->Q (.ref ⇑s) {s with heap:=h',toks:=tk}) :
  L (G prog w) A (call (.type "set") [.ref l]) Q E s:=by
 let⟨c,tl,J_⟩:=YM.mro;let m1:=YM.made;let m2:=YM.sub;let m3:=YM.notType;let m4:=YM.canCreate;let m5:=F.typeCall_set_1 (.ref l);calc q1w (codeAny_of_tree ?_);show L _ _ (callAny (.type "set") _) _ _ _;calc MK ⟨Code.quiet_builtin _ (by decide +kernel),Zj F.entry_type_call ?_⟩;rw[Around.under_plain (weight_type_call_type "set" [.ref l] []) Y]
 repeat(any_goals (first|assumption|wp_step))
 refine Zw (code_set_new_1 (.ref l) (E:=E) (Q₁:=λr s1=>∃led:Bool,r=.ref ⇑s/\s1={s with heap:=s.heap.push (gz led)}) λled=>⟨led,Y,Y⟩) λr s1 hr=>?_
 cases r with
 |error e=>exact hr
 |ok fl =>
  cases fl with
  |ret obj =>
   let⟨led,rfl,rfl⟩:=hr;let gS:(s.heap.push (gz led)).get? ⇑s=U (gz led):=Vt _ Y;let tS:Shared.TypeIs {s with heap:=s.heap.push (gz led)} (.ref ⇑s) "set" := ⟨_,gS,Y⟩;let m6:=YM.init.lookup;let m7:=YM.init.bind (.ref ⇑s)
   repeat(any_goals (first|assumption|wp_step))
   refine Zw (codeAny_call_builtin (R:=wants (λr s2=>r=.none/\∃h' tk,s2={s with heap:=h',toks:=tk}/\fA h' ⇑s ((WL items.size).map λj=>hT prog w (ks j)) ∧
     ∀b o,b<⇑s->s.heap.get? b=U o->h'.get? b=U o) E) YM.init.plain F.entry_set_init (check_set_init_1 tS ?_)) λr2 s2 pb=>?_
   .let⟨ol,gl,cl,nl,dl⟩:=J9
    let⟨c0,d0,Vk,Ka⟩:=ol;simp only at cl dl;subst cl;subst dl;let Kb:(s.heap.push (gz led)).get? l=U {cls:=.type "list",dict:=d0,data:=.seq items nl,slots:=Ka}:=u6 _ gl;let x1:=F.sub_list_set;let x2:=F.sub_list_frozenset;let x3:(Z3 "list" == Z3 "dict")=ι:=by decide
    let rR:(s.heap.push (gz led)).IsList l items:=⟨_,Kb,Y,nl,Y⟩;let ll:l<⇑s:=MM gl;unfold Builtin.«set.__init__» noKeywords Builtin.Frozenset.updateFrom;generalize Kc:pyIter=PI
    wp_walk
    subst Kc;calc Yx rR (qL (q2P ?_));let h3:A.in1.in1.in1.handled=Z:=by simp[hh]
    let ez:(s.heap.push (gz led)).objs.size=⇑s+1:=Xo ..;let nI:l≠(s.heap.push (gz led)).objs.size:=by rw[ez];exact Wv (XD ll)
    let lt:∀i,i<items.size->ad i<⇑s:=λi hi=>by
     let⟨o,_,_,e,_⟩:=tk i hi;exact MM e
    refine JZ ((q1x h3 _ l nI items).toS) (S:=s.heap.objs.size) ?out ad ks (λi v hv=>o_ i v hv) ?apart ?room unlike d4 items.size 0 _ (Xi _)
     ⟨⟨_,Vt _ Y,Y,Y⟩,rR.push _⟩ ?tk ?fresh ?fin
    case out =>
     erw[MN,WD,Yf,not_or,ez];exact⟨Wv (YG _),Yo ll⟩
    case apart =>
     ext i hi;let:=lt i hi;erw[MN,WD,Yf,not_or,ez];exact⟨Wv this,Wv (XD this)⟩
    case room =>
     show A.units+1+1+1<cLine;exact Z4 (Nat.add_le_add_left (by decide:3<=8) _) room
    case tk =>
     ext j hj;exact xi (tk j hj) λo e=>u6 _ (u6 _ e)
    case fresh =>
     exact J7 (led:=led) (u6 _ gS)
    case fin =>
     ext s' mv se;let⟨h',g',d',Ds,xk⟩:=s';obtain rfl:g'=s.gens:=mv.gens;obtain rfl:d'=s.drawn:=mv.drawn;obtain rfl:xk=s.os:=mv.os;show L _ _ _ _ _ _;calc MK ?_;show L _ _ (ret WN) _ _ _;calc MK ⟨Y,h',Ds,Y,se,λb o hb e=>?_⟩;calc mv.heap b o ?_ (u6 _ (u6 _ e));erw[MN,WD,Yf,not_or,ez];exact⟨Wv hb,Wv (XD hb)⟩
   .cases r2 with
    |error e=>exact pb
    |ok Kd =>
     cases Kd with
     |ret r =>
      let⟨rfl,h',Ds,rfl,se,kp⟩:=pb
      repeat(any_goals (first|assumption|wp_step))
      exact fin _ _ se kp
     |next=>exact pb
     |brk=>exact pb
     |cont=>exact pb
  |next=>exact hr
  |brk=>exact hr
  |cont=>calc hr
end
section
variable{prog:l}{w:g}{A:q}{I S:M}{o:Q}{es:Array (Int×O)}{ep:Nat}{t:SetTable}{ks:-Int}
end
section
variable{prog:l}{w:g}{A:q}{S:M}{o:Q}{es:Array (Int×O)}{ep:Nat}{t:SetTable}{ks:-Int}
end
end LJS
namespace L2
open PySem PySem.Spec PyProof.Rows
abbrev Key:=Sum Int R
noncomputable def qE:Key->O->Bool
 |.inl k,v=>Value.isInt k v
 |.inr x,v=>q3d x v
noncomputable def xm(w:g):Key->Int
 |.inl k=>hashInt k
 |.inr x=>hashStr w x
theorem l8:∀{k:Key}{v:O},qE k v=θ->(∃i t,k=q0f i/\v=YY i t)\/(∃x t,k=q1a x/\v=q1b x t)
 |.inl i,v,h=>by
  let⟨t,e⟩:=q1N (k:=i) (v:=v) h;exact .inl ⟨i,t,Y,e⟩
 |.inr x,v,h=>by
  let⟨t,e⟩:=Value.isStrOf_shape (x:=x) (v:=v) h;calc .inr ⟨x,t,Y,e⟩
theorem Ke(i:Int)(t:Tok):qE (.inl i) (.int i t)=θ:=by simp[qE,Value.isInt]
theorem Kf(x:R)(t:Tok):qE (.inr x) (.str x t)=θ:=by simp[qE,q3d]
theorem Kg(a b:Int):S ((q0f a:Key)=q0f b)=(a==b):=by
 by_cases e:a=b
 .subst e;simp
 .let h:¬ (q0f a:Key)=q0f b:=λq=>e (q4A q)
  rw[Wn h];calc(YF.mpr e).symm
theorem Kh(a b:R):S ((q1a a:Key)=q1a b)=S (a=b):=by
 by_cases e:a=b
 .subst e;simp
 .let h:¬ (q1a a:Key)=q1a b:=λq=>e (Sum.inr.inj q)
  rw[Wn h,Wn e]
theorem Ki(a:Int)(b:R):S ((q0f a:Key)=q1a b)=ι:=Wn (λq=>nomatch q)
theorem Kj(a:R)(b:Int):S ((q1a a:Key)=q0f b)=ι:=Wn (λq=>nomatch q)
noncomputable def jr(prog:l)(w:g):PySem.KeyKind prog w Key where
 is:=qE
 hash:=xm w
 inj:=λv a b ha hb=>by
  rcases l8 ha with⟨i,t,rfl,rfl⟩|⟨x,t,rfl,rfl⟩
  .rcases l8 hb with⟨j,u,rfl,e⟩|⟨y,u,rfl,e⟩
   .injection e with e1 _;rw[e1]
   .exact nomatch e
  .rcases l8 hb with⟨j,u,rfl,e⟩|⟨y,u,rfl,e⟩
   .exact nomatch e
   .injection e with e1 _;rw[e1]
 byValue:=λk v h=>by
  rcases l8 h with⟨i,t,rfl,rfl⟩|⟨x,t,rfl,rfl⟩<;>rfl
 pyHash:=λhv h=>by
  rcases l8 hv with⟨i,t,rfl,rfl⟩|⟨x,t,rfl,rfl⟩
  .exact wpAny_pyHash_int h
  .exact wpAny_pyHash_str h
 eqBool:=λhu hv h=>by
  rcases l8 hu with⟨i,t,rfl,rfl⟩|⟨x,t,rfl,rfl⟩
  .rcases l8 hv with⟨j,u,rfl,rfl⟩|⟨y,u,rfl,rfl⟩
   .rw[Kg] at h;exact q0t h
   .rw[Ki] at h;exact q1y i t y u _ _ _ _ h
  .rcases l8 hv with⟨j,u,rfl,rfl⟩|⟨y,u,rfl,rfl⟩
   .rw[Kj] at h;exact q1z x t j u _ _ _ _ h
   .rw[Kh] at h;exact wpAny_eqBool_str h
 «strs» := λk x t v h=>by
  rcases l8 h with⟨i,u,rfl,e⟩|⟨y,u,rfl,e⟩
  .exact nomatch e
  .injection e with e1 _
   subst e1;cases v<;>rfl
theorem Kk(prog:l)(w:g)(i:Int)(t:Tok):(jr prog w).is (.inl i) (.int i t)=θ:=Ke i t
theorem Kl(prog:l)(w:g)(x:R)(t:Tok):(jr prog w).is (.inr x) (.str x t)=θ:=Kf x t
inductive V where
 |non|bl (b:Bool)|int (i:Int)|str (x:R)|byt (b:Array UInt8)|flt (b:UInt64)|ref (a:M)|ty (n:String)
 deriving DecidableEq
def RelV:V->O->Prop
 |.non,u=>u=WN
 |.bl b,u=>u=Y7 b
 |.int i,u=>∃t,u=YY i t
 |.str x,u=>∃t,u=q1b x t
 |.byt b,u=>∃t,u=Value.bytes b t
 |.flt b,u=>∃t,u=q2w b t
 |.ref a,u=>u=W5 a
 |.ty n,u=>u=Z3 n
abbrev Vals:-V->-O->Prop:=Paired RelV
theorem Vals.length{xs:-V}{us:-O}(r:Vals xs us):↑xs=↑us:=q1k r
theorem Vals.get:∀{xs:-V}{us:-O}{i:Nat}{x:V},Vals xs us->xs[i]?=U x->∃u,us[i]?=U u/\RelV x u
 |_,_,_,_,.nil,e=>by simp at e
 |_,_,0,_,.cons r _,e=>by simp at e;subst e;exact⟨_,Y,r⟩
 |_,_,i+1,x,.cons _ t,e=>by
  let⟨u,h1,h2⟩:=Vals.get (i:=i) (x:=x) t e⁻¹;calc⟨u,by simpa using h1,h2⟩
theorem Vals.set{x:V}{u:O}(r:RelV x u):∀{xs:-V}{us:-O}(i:Nat),Vals xs us->Vals (xs.set i x) (us.set i u)
 |_,_,_,.nil=>.nil
 |_,_,0,.cons _ t=>.cons r t
 |_,_,i+1,.cons q t=>.cons q (Vals.set r i t)
theorem Vals.append:∀{xs ys:-V}{us ws:-O},Vals xs us->Vals ys ws->Vals (xs++ys) (us++ws)
 |_,_,_,_,.nil,s=>s
 |_,_,_,_,.cons r t,s=>.cons r (Vals.append t s)
theorem Vals.take:∀{xs:-V}{us:-O}(n:Nat),Vals xs us->Vals (xs.take n) (us.take n)
 |_,_,0,_=>.nil
 |_,_,_+1,.nil=>.nil
 |_,_,n+1,.cons r t=>.cons r (Vals.take n t)
theorem Vals.drop:∀{xs:-V}{us:-O}(n:Nat),Vals xs us->Vals (xs.drop n) (us.drop n)
 |_,_,0,r=>r
 |_,_,_+1,.nil=>.nil
 |_,_,n+1,.cons _ t=>Vals.drop n t
def d5:Option V->Option O->Prop
 |some v,some u=>RelV v u
 |none,none=>True
 |_,_=>False
def KV{κ:Type}:-(κ×V)->-(κ×O)->Prop:=Paired λ(p:κ×V) (q:κ×Value)=>p.1=q.1/\RelV p.2 q.2
noncomputable def kV:Key->V
 |.inl i=>.int i
 |.inr x=>.str x
inductive HO where
 |lst (xs:-V)
 |tup (xs:-V)
 |dK (kvs:-(Key×V))|dT (kvs:-(-Key×V))
 |set (S:Int->Bool) (n:Nat)
 |ins (C dx:M) (fs:-(R×V))
 |own (x:M)
 |xd (fs:-(R×V))
 |met (f x:M)
 |rng (lo hi:Int)
 |frz (o:Q) (u:HO)
 |tbl (ps:Array O)
 |ext (φ:I->Prop)
abbrev Hp:=M->Option HO
noncomputable def upd(H:Hp)(a:M)(o:HO):Hp:=λb=>if b=a then U o else H b
theorem b_{H:Hp}{a:M}{o:HO}:upd H a o a=U o:=by unfold upd;rw[Wm Y]
theorem aZ{H:Hp}{a b:M}{o:HO}(h:b≠a):upd H a o b=H b:=by unfold upd;rw[Vw h]
theorem Km{H:Hp}{a b:M}{o u:HO}(h:H a=U o)(h':H b=U u)(d:o≠u):a≠b:=by
 ext e;subst e;rw[h] at h';calc d (WJ h')
theorem dJ{H:Hp}{a b:M}{o:HO}(h:H a=U o)(h':H b=Z):a≠b:=by
 ext e;subst e;rw[h] at h';cases h'
section
variable(P:l)(w:g)
def aU(H:Hp)(h:I)(a:M):HO->Prop
 |.lst xs=>↑xs<=sizeLine/\∃(au:-O)(n:Nat),Vals xs au/\h.get? a=U {cls:=.type "list",data:=.seq au.toArray n}
 |.tup xs=>↑xs<=sizeLine/\∃au:-O,Vals xs au/\IsTup h a au.toArray
 |.dK kvs=>↑kvs<=sizeLine/\(a==sysModules)=ι/\∃vs,KV kvs vs/\h.DictOf (jr P w) a vs
 |.dT kvs=>↑kvs<=sizeLine/\(a==sysModules)=ι/\∃xs:-(-Key×M×O),
   Paired (λ(p:-Key×V) (q:-Key×Addr×Value)=>p.1=q.1/\H q.2.1=U (.tup (p.1.map kV))/\RelV p.2 q.2.2) kvs xs ∧
   ∃o es ep,h.get? a=U o/\o.ExactDict/\o.data=.dict es ep/\es.toList=xs.map (entryOfKey (tupleKind (jr P w)))/\(xs.map (·.1)).Nodup
 |.set S n=>h.SetOf (intKind P w) a S n
 |.ins C dx fs=>H dx=U (.own a)/\fs.length<=1000/\dx≠a/\h.get? a=U (Yl C dx) ∧
   ∃mA,h.Ns1 dx mA/\(∀f,d5 (fs.lookup f) (mA f))/\q1O mA (fs.map (·.1))
 |.own _=>∃o,h.get? a=U o
 |.xd fs=>∃mA,h.Ns1 a mA/\∀f,d5 (fs.lookup f) (mA f)
 |.rng lo hi=>∃t u v,h.get? a=U {cls:=.type "range",data:=.fields #[.int lo t,.int hi u,.int 1 v]}
 |.frz o u=>h.get? a=U o/\aU H h a u
 |.tbl ps=>h.get? a=U {cls:=.none,data:=.fields ps}
 |.met f x=>h.get? a=U (q0g (.ref f) (.ref x))
 |.ext φ=>φ h/\(∃o,h.get? a=U o)/\∀h1 h2:I,φ h1->(∀o,h1.get? a=U o->h2.get? a=U o)->φ h2
def dW(H:Hp)(h:I):Prop:=∀a o,H a=U o->aU P w H h a o
end
section
variable{P:l}{w:g}{H H':Hp}{h h':I}{a:M}{o:HO}
theorem aU.lt(x:aU P w H h a o):a<h.objs.size:=by
 cases o with
 |lst xs=>let⟨_,_,_,_,e⟩:=x;exact MM e
 |tup xs=>let⟨_,_,_,p⟩:=x;exact p.lt
 |dK kvs=>let⟨_,_,_,_,o,_,_,e,_⟩:=x;exact MM e
 |dT kvs=>let⟨_,_,_,_,o,_,_,e,_⟩:=x;exact MM e
 |set S n=>let⟨o,_,_,_,e,_⟩:=x;exact MM e
 |ins C dx fs=>let⟨_,_,_,e,_⟩:=x;exact MM e
 |own y=>let⟨_,e⟩:=x;exact MM e
 |xd fs=>let⟨_,⟨_,_,_,e,_⟩,_⟩:=x;exact MM e
 |rng lo hi=>let⟨_,_,_,e⟩:=x;exact MM e
 |frz ob u=>let⟨e,_⟩:=x;exact MM e
 |tbl ps=>exact MM (show h.get? a=U _ from x)
 |met f y=>exact MM (show h.get? a=U _ from x)
 |ext φ=>let⟨_,⟨_,e⟩,_⟩:=x;calc MM e
theorem Paired.pd{α β:Type}{F G:α->β->Prop}:∀{l₁:-α}{l₂:-β},Paired F l₁ l₂->(∀a b,F a b->G a b)->Paired G l₁ l₂
 |_,_,.nil,_=>.nil
 |_,_,.cons r t,f=>.cons (f _ _ r) (Paired.pd t f)
theorem aU.gA(x:aU P w H h a o)(k:∀b u,(b=a\/H b=U (.own a))->h.get? b=U u->h'.get? b=U u)
  (ho:∀b,H b=U (.own a)->H' b=U (.own a)) (ht:∀b xs,H b=U (.tup xs)->H' b=U (.tup xs)):aU P w H' h' a o:=by
 induction o with
 |lst xs=>let⟨z,au,n,r,e⟩:=x;exact⟨z,au,n,r,k _ _ (.inl Y) e⟩
 |tup xs=>let⟨z,au,r,ob,e,c⟩:=x;exact⟨z,au,r,ob,k _ _ (.inl Y) e,c⟩
 |dK kvs=>let⟨z,y,vs,r,ob,es,ep,e,c⟩:=x;exact⟨z,y,vs,r,ob,es,ep,k _ _ (.inl Y) e,c⟩
 |dT kvs =>
  let⟨z,y,xs,r,ob,es,ep,e,c⟩:=x;exact⟨z,y,xs,Paired.pd r λp q z=>⟨z.1,ht _ _ z.2.1,z.2.2⟩,ob,es,ep,k _ _ (.inl Y) e,c⟩
 |set S n=>let⟨ob,es,ep,t,e,c⟩:=x;exact⟨ob,es,ep,t,k _ _ (.inl Y) e,c⟩
 |ins C dx fs =>
  let⟨d,z,ne,e,mA,⟨od,es,ep,e2,c⟩,r⟩:=x;exact⟨ho _ d,z,ne,k _ _ (.inl Y) e,mA,⟨od,es,ep,k _ _ (.inr d) e2,c⟩,r⟩
 |own y=>let⟨ob,e⟩:=x;exact⟨ob,k _ _ (.inl Y) e⟩
 |xd fs=>let⟨mA,⟨od,es,ep,e,c⟩,r⟩:=x;exact⟨mA,⟨od,es,ep,k _ _ (.inl Y) e,c⟩,r⟩
 |rng lo hi=>let⟨t,u,v,e⟩:=x;exact⟨t,u,v,k _ _ (.inl Y) e⟩
 |frz ob u ih=>let⟨e,q⟩:=x;exact⟨k _ _ (.inl Y) e,ih q⟩
 |tbl ps =>
  let e:h.get? a=U {cls:=.none,data:=.fields ps}:=x;show h'.get? a=U {cls:=.none,data:=.fields ps};exact k a _ (.inl Y) e
 |met f y =>
  let e:h.get? a=U (q0g (.ref f) (.ref y)):=x;show h'.get? a=U (q0g (.ref f) (.ref y));exact k a _ (.inl Y) e
 |ext φ=>let⟨p,⟨o,e⟩,st⟩:=x;calc⟨st _ _ p λo q=>k _ _ (.inl Y) q,⟨o,k _ _ (.inl Y) e⟩,st⟩
theorem dW.lt(x:dW P w H h)(e:H a=U o):a<h.objs.size:=(x a o e).lt
theorem dW.fresh(x:dW P w H h)(e:h.objs.size<=a):H a=Z:=by
 cases q:H a with
 |none=>rfl
 |some u=>calc absurd (Wr (x.lt q) e) (XY _)
theorem dW.kept(x:dW P w H h)(k:∀b u,h.get? b=U u->h'.get? b=U u):dW P w H h':=λa o e =>
 (x a o e).gA (λb u _ q=>k b u q) (λ_ q=>q) λ_ _ q=>q
theorem dW.laid(x:dW P w H h)(k:∀b u,h.get? b=U u->h'.get? b=U u)(hp:h.objs.size<=a)(new:aU P w (upd H a o) h' a o):dW P w (upd H a o) h':=λb u e=>by
 let hn:=x.fresh hp
 by_cases hb:b=a
 .subst hb;rw[b_] at e;cases e;exact new
 .rw[aZ hb] at e
  calc(x b u e).gA (λc v _ q=>k c v q) (λc q=>by rw[aZ (dJ q hn)];calc q) λc xs q=>by rw[aZ (dJ q hn)];calc q
end
def Rd(H:Hp)(a:M)(u:HO):Prop:=H a=U u\/∃o,H a=U (.frz o u)
theorem Rd.ok{P:l}{w:g}{H:Hp}{h:I}{a:M}{u:HO}(r:Rd H a u)(x:dW P w H h):aU P w H h a u:=by
 rcases r with r|⟨o,r⟩
 .exact x a u r
 .let⟨_,q⟩:=x a _ r
  calc q
def rS:Option HO->Prop
 |some (.lst _)=>True
 |some (.dK _)=>True
 |some (.dT _)=>True
 |some (.set _ _)=>True
 |some (.ins _ _ _)=>True
 |some (.ext _)=>True
 |_=>False
section
variable{P:l}{w:g}{H:Hp}{h h':I}{x e:M}{o':HO}
theorem dW.write(ok:dW P w H h)(mu:rS (H x))(he:e=x\/H e=U (.own x))(k:∀b u,b≠e->h.get? b=U u->h'.get? b=U u)(lL:∃u,h'.get? e=U u)
  (new:aU P w (upd H x o') h' x o'):dW P w (upd H x o') h':=λb u q=>by
 let rT:∀c y,H c=U (.own y)->c≠x:=λc y r z=>by subst z;rw[r] at mu;exact mu
 let xn:∀c xs,H c=U (.tup xs)->c≠x:=λc xs r z=>by subst z;rw[r] at mu;exact mu
 by_cases hb:b=x
 .subst hb;rw[b_] at q;cases q;exact new
 .rw[aZ hb] at q
  by_cases pe:b=e
  .let q':H b=U (.own x):=by
    rcases he with z|z
    .exact absurd (pe.trans z) hb
    .rw[pe];exact z
   rw[q] at q';cases q';let⟨v,hv⟩:=lL;exact⟨v,by rw[pe];calc hv⟩
  .refine (ok b u q).gA (λc v hc r=>k c v ?_ r) (λc r=>by rw[aZ (rT c b r)];calc r) λc xs r=>by rw[aZ (xn c xs r)];exact r
   rcases hc with rfl|hc
   .exact pe
   .ext rfl
    rcases he with z|z
    .exact rT c b hc z
    .rw[hc] at z;cases z;calc hb Y
end
structure Un(fs ex:-M)(H H':Hp)(h h':I):Prop where
 keep:∀b o,h.get? b=U o->H b=Z->b∉fs->b∉ex->h'.get? b=U o
 slot:∀b o,h.get? b=U o->H b=Z->b∈fs->b∉ex->∃sl,h'.get? b=U {o with slots:=sl}
 free:∀b o,h.get? b=U o->H b=Z->b∉ex->H' b=Z
 there:∀b o,h.get? b=U o->b∉ex->∃o',h'.get? b=U o'
 fB:∀b xs,H b=U (.tup xs)->H' b=U (.tup xs)
 fY:∀b o u,H b=U (.frz o u)->H' b=U (.frz o u)
 fZ:∀b ps,H b=U (.tbl ps)->∃more,H' b=U (.tbl (ps++more))
section
variable{fs Kn ex Vl:-M}{H H1 H2:Hp}{h h1 h2 h':I}{a x e:M}{o:HO}
theorem Un.any(u:Un fs ex H H1 h h1){b:M}{ob:Q}(q:h.get? b=U ob)(n:H b=Z)(hx:b∉ex):∃sl,h1.get? b=U {ob with slots:=sl}:=by
 by_cases hb:b∈fs
 .exact u.slot b ob q n hb hx
 .calc⟨ob.slots,u.keep b ob q n hb hx⟩
theorem Un.kept(k:∀b u,h.get? b=U u->h'.get? b=U u):Un fs ex H H h h' :=
 ⟨λb ob q _ _ _=>k b ob q,λb ob q _ _ _=>⟨ob.slots,k b ob q⟩,λ_ _ _ n _=>n,λb ob q _=>⟨ob,k b ob q⟩,λ_ _ q=>q,λ_ _ _ q=>q,λ_ ps q=>⟨#[],by rw[q];simp⟩⟩
theorem Un.refl:Un fs ex H H h h:=Un.kept λ_ _ q=>q
theorem Un.laid(k:∀b u,h.get? b=U u->h'.get? b=U u)(hp:h.objs.size<=a)(hn:H a=Z):Un fs ex H (upd H a o) h h' where
 keep:=λb u q _ _ _=>k b u q
 slot:=λb u q _ _ _=>⟨u.slots,k b u q⟩
 free:=λb u q n _=>by rw[aZ (Wv (Wr (MM q) hp))];exact n
 there:=λb u q _=>⟨u,k b u q⟩
 fB:=λb xs q=>by rw[aZ (dJ q hn)];exact q
 fY:=λb u xs q=>by rw[aZ (dJ q hn)];exact q
 fZ:=λb ps q=>⟨#[],by rw[aZ (dJ q hn),q];simp⟩
theorem Un.write(mu:rS (H x))(he:e=x\/H e=U (.own x))(k:∀b u,b≠e->h.get? b=U u->h'.get? b=U u)(lL:∃u,h'.get? e=U u):Un fs ex H (upd H x o) h h':=by
 let hx:∀b,H b=Z->b≠x:=λb n z=>by subst z;rw[n] at mu;exact mu
 let hb:∀b,H b=Z->b≠e:=λb n z=>by
  subst z;rcases he with r|r
  .exact hx b n r
  .rw[n] at r;cases r
 let hm:∀b u,H b=U u->¬ rS (U u)->b≠x:=λb u q nm z=>by subst z;rw[q] at mu;exact nm mu
 refine⟨λb u q n _ _=>k b u (hb b n) q,λb u q n _ _=>⟨u.slots,k b u (hb b n) q⟩,λb u q n _=>by rw[aZ (hx b n)];calc n,λb u q _=>?_,
  λb xs q=>by rw[aZ (hm b _ q λz=>z)];calc q,λb u xs q=>by rw[aZ (hm b _ q λz=>z)];calc q,λb ps q=>⟨#[],by rw[aZ (hm b _ q λz=>z),q];simp⟩⟩
 by_cases pe:b=e
 .subst pe;exact lL
 .calc⟨u,k b u pe q⟩
end
noncomputable def uM(h:I)(H:Hp):-M:=(WL h.objs.size).filter λa=>(H a).isSome
noncomputable def f6(h:I)(H:Hp):I:=PySem.W.hideAll h (uM h H)
theorem Ko(h:I)(H:Hp):(f6 h H).objs.size=h.objs.size:=PySem.W.hideAll_size _ _
theorem Kp{h:I}{H:Hp}{b:M}{o:Q}(e:h.get? b=U o)(n:H b=Z):(f6 h H).get? b=U o :=
 PySem.W.hideAll_get _ e λhm=>by
  let q:(H b).isSome=θ:=(X8.mp hm).2;rw[n] at q;simp at q
theorem Kq{h:I}{H:Hp}{b:M}{o:Q}(e:(f6 h H).get? b=U o):h.get? b=U o/\H b=Z:=by
 let e':h.get? b=U o:=PySem.W.of_hideAll (uM h H) e;refine⟨e',?_⟩
 cases q:H b with
 |none=>rfl
 |some x =>
  let hm:b∈uM h H:=X8.mpr ⟨Xf.mpr (MM e'),by simp[q]⟩;let z:(f6 h H).get? b=Z:=PySem.W.hideAll_none (uM h H) hm;rw[z] at e;cases e
structure Mod(K:El)(mg:R->Option O)(base:I):Prop where
 ju:K.In base
 glob:base.Ns mainGlobals mg
 blt:∃mb,base.Ns builtinsNs mb/\∀x:R,x≠"__name__" -> mb x=bootBuiltins x
 nolimit:base.NoLimit
structure Cx where
 prog:l
 w:g
 K:El
 mg:R->Option O
 base:I
 A:q
 N:-R
 s₀:B
 H₀:Hp
 env:t
 outer:-t
 stack:-t
 ex:-M
 fn:R->Bool
 calm:Bool
 pn:-(M×Q)
 xe:O->B->Prop
noncomputable def jW(l:-t):-M:=l.filterMap (·.frame)
noncomputable abbrev Cx.fs(X:Cx):-M:=jW X.outer
def rV(sc:a)(x:R):Prop:=sc.names.lookup x=U .local\/sc.names.lookup x=U .cell\/sc.names.lookup x=U .free
def Loc(sc:a)(x:R):Prop:=sc.names.lookup x=U .local\/sc.names.lookup x=U .cell
abbrev bV(x:R):Prop:=(x==("__debug__" : R))=ι
abbrev gB(X:Cx)(x:R):Prop:=X.fn x=θ\/X.env.scope.names.lookup x=U .local
abbrev cj(X:Cx)(e:J)(es:-J):Prop:=starEach (e::es) X.env=(ι,eval e X.env)::starEach es X.env
abbrev cD(X:Cx)(p:y)(es:-J):Prop:=(backTo p (starEach es X.env)).any (·.1)=ι
abbrev aC:=-(M×Q)
def Look(env:t)(h:I)(m:R->Option O)(x:R)(u:O):Prop :=
 (env.kindOf x=U .local/\m x=U u)\/((env.kindOf x=U .cell\/env.kindOf x=U .free)/\∃c,env.cells.lookup x=U c/\h.IsCell c (U u))
structure Cx.Ok(X:Cx):Prop where
 mod:Mod X.K X.mg X.base
 kind:X.env.scope.kind=.function
 glob:X.env.globals=mainGlobals
 blt:X.env.builtins=builtinsNs
 above:⇑X.s₀<=X.env.locals
 inj:∀x y c,X.env.cells.lookup x=U c->X.env.cells.lookup y=U c->x=y
 has:∀x,(X.env.kindOf x=U .cell\/X.env.kindOf x=U .free)->∃c,X.env.cells.lookup x=U c
 rW:∀x c,X.fn x=θ->X.env.cells.lookup x=U c->⇑X.s₀<=c
 hd:X.calm=θ->X.A.handled=Z
 frames:X.A.frames=U X.stack
 uN:X.stack=X.outer\/(X.stack=X.env::X.outer/\X.env.frame=U X.env.locals)
 Dt:∀b∈X.ex,b≠X.env.locals/\∀x c,X.env.cells.lookup x=U c->c≠b
 bs:∀b o,X.base.get? b=U o->X.s₀.heap.get? b=U o/\X.H₀ b=Z
 l9:X.base.objs.size<=⇑X.s₀
 ky:∀b o,X.base.get? b=U o->b∉X.ex
 l_:∀b∈X.ex,b∉X.fs
 eI:X.s₀.heap.FunFrames X.base X.outer
 om:∀b∈X.fs,X.H₀ b=Z
structure Inv(X:Cx)(pins:aC)(σ:-(Option V))(H:Hp)(s:B):Prop where
 ok:X.Ok
 os:s.os=X.s₀.os
 bare:AllBare s.gens
 base:Un X.fs X.ex X.H₀ H X.s₀.heap s.heap
 loc:∃m,s.heap.Ns X.env.locals m/\∀(i:Nat)(x:R)(v:V),X.N[i]?=U x->σ[i]?=U (U v)->rV X.env.scope x->∃u,RelV v u/\Look X.env s.heap m x u
 cell:∀x c,X.env.cells.lookup x=U c->∃v,s.heap.IsCell c v
 free:H X.env.locals=Z
 cQ:∀x c,X.env.cells.lookup x=U c->H c=Z
 pin:∀p∈X.pn++pins,s.heap.get? p.1=U p.2/\H p.1=Z/\p.1≠X.env.locals/\p.1∉X.fs/\∀v,p.2.data≠.cell v
 aX:dW X.prog X.w H s.heap
 len:↑σ=↑X.N
section
variable{X:Cx}{pins:aC}{σ:-(Option V)}{H H':Hp}{s:B}{h':I}
theorem Cx.Ok.xo(ok:X.Ok){b:M}{o:Q}(e:X.base.get? b=U o):b∉X.fs:=λhb=>by
 let:=(ok.eI.mem hb).1;rw[e] at this;cases this
theorem Inv.bs(I:Inv X pins σ H s):∀b o,X.base.get? b=U o->s.heap.get? b=U o/\H b=Z:=λb o e =>
 ⟨I.base.keep b o (I.ok.bs b o e).1 (I.ok.bs b o e).2 (I.ok.xo e) (I.ok.ky b o e),I.base.free b o (I.ok.bs b o e).1 (I.ok.bs b o e).2 (I.ok.ky b o e)⟩
theorem Inv.bk(I:Inv X pins σ H s):∀b o,X.base.get? b=U o->s.heap.get? b=U o:=λb o e=>(I.bs b o e).1
theorem Inv.mod(I:Inv X pins σ H s):Mod X.K X.mg X.base:=I.ok.mod
theorem Inv.eX(I:Inv X pins σ H s):X.K.In s.heap:=I.ok.mod.ju.keeps I.bk
theorem Inv.nolimit(I:Inv X pins σ H s):s.heap.NoLimit:=I.ok.mod.nolimit.keeps I.bk
theorem Inv.lt(I:Inv X pins σ H s):X.env.locals<⇑s:=let⟨_,hn,_⟩:=I.loc;hn.lt
theorem Inv.sz(I:Inv X pins σ H s):⇑X.s₀<=⇑s:=WU I.ok.above (X0 I.lt)
theorem Inv.xp(I:Inv X pins σ H s){a:M}(h:⇑s<=a):a∉X.fs:=λhb=>by
 let⟨_,o,ho,_⟩:=I.ok.eI.mem hb;calc absurd (Wr (MM ho) (WU I.sz h)) (XY _)
theorem Inv.pf(I:Inv X pins σ H s):∀x c,X.env.cells.lookup x=U c->c≠X.env.locals:=λx c e z=>by
 let⟨v,o,ho,hd⟩:=I.cell x c e;let⟨m,⟨o',es,ep,c_,ph,_⟩,_⟩:=I.loc;rw[z,c_] at ho;cases ho;rw[ph] at hd;cases hd
theorem Inv.eI(I:Inv X pins σ H s):s.heap.FunFrames X.base X.outer:=by
 let all:∀(l:-t),(∀b∈jW l,b∈X.fs)->X.s₀.heap.FunFrames X.base l->s.heap.FunFrames X.base l:=by
  ext l
  induction l with
  |nil=>ext _ _;trivial
  |cons env r ih =>
   ext hs hl;let⟨hk,⟨L,o,hf,hn,ho,hd⟩,hr⟩:=hl;let hL:L∈X.fs:=hs L (by unfold jW;rw[ZV,hf];calc Wo);let⟨sl,e⟩:=I.base.slot L o ho (I.ok.om L hL) hL λz=>I.ok.l_ L z hL;exact⟨hk,⟨L,_,hf,hn,e,hd⟩,ih (λb hb=>hs b (by unfold jW;rw[ZV,hf];calc Vu _ hb)) hr⟩
 calc all X.outer (λ_ hb=>hb) I.ok.eI
theorem Inv.stack(I:Inv X pins σ H s):s.heap.FunFrames X.base X.stack:=by
 rcases I.ok.uN with e|⟨e,hf⟩
 .rw[e];exact I.eI
 .rw[e]
  let⟨m,hn,_⟩:=I.loc;calc .cons (by rw[I.ok.kind];decide) hf hn ?_ I.eI;calc Heap.get?_none_of_le (WU I.ok.l9 I.ok.above)
theorem Inv.gC(I:Inv X pins σ H s):∀b∈jW X.stack,b∈X.env.locals::X.fs:=λb hb=>by
 rcases I.ok.uN with e|⟨e,hf⟩
 .rw[e] at hb;exact Vu _ hb
 .rw[e] at hb
  unfold jW at hb;rw[ZV,hf] at hb;calc hb
theorem Inv.i8(I:Inv X pins σ H s):∀b∈jW X.stack,H b=Z:=λb hb=>by
 rcases MN.mp (I.gC b hb) with e|hb
 .rw[e];exact I.free
 .let⟨_,o,ho,_⟩:=I.ok.eI.mem hb
  calc I.base.free b o ho (I.ok.om b hb) λz=>I.ok.l_ b z hb
theorem Inv.step{g':Array GenState}{t':Nat}{d':Drawn}{ch:-M}(I:Inv X pins σ H s)
  (lM:∀b∈ch,(b∈X.ex\/⇑X.s₀<=b)/\b≠X.env.locals/\(∀x c,X.env.cells.lookup x=U c->c≠b)/\∀p∈X.pn++pins,p.1≠b)
  (keep:∀b o,b≠X.env.locals->b∉X.fs->b∉ch->s.heap.get? b=U o->H b=Z->h'.get? b=U o)
  (slot:∀b o,b≠X.env.locals->b∈X.fs->b∉ch->s.heap.get? b=U o->H b=Z->∃sl,h'.get? b=U {o with slots:=sl}) (free:∀b o,b∉ch->s.heap.get? b=U o->H b=Z->H' b=Z)
  (there:∀b o,b∉ch->s.heap.get? b=U o->∃o',h'.get? b=U o')
  (fB:∀b xs,H b=U (.tup xs)->H' b=U (.tup xs)) (fY:∀b o u,H b=U (.frz o u)->H' b=U (.frz o u)) (fZ:∀b ps,H b=U (.tbl ps)->∃more,H' b=U (.tbl (ps++more)))
  (ns:∀m,s.heap.Ns X.env.locals m->h'.Ns X.env.locals m) (aX:dW X.prog X.w H' h') (hg:AllBare g') :
  Inv X pins σ H' {s with heap:=h',gens:=g',drawn:=d',toks:=t'}:=by
 let Du:∀b o,X.s₀.heap.get? b=U o->b≠X.env.locals:=λb o e=>Wv (Wr (MM e) I.ok.above)
 let uO:∀b o,X.s₀.heap.get? b=U o->b∉X.ex->b∉ch:=λb o e hx hb=>by
  rcases(lM b hb).1 with z|z
  .exact hx z
  .exact absurd (Wr (MM e) z) (XY _)
 let cellK:∀x c,X.env.cells.lookup x=U c->∀v,s.heap.IsCell c v->h'.IsCell c v:=λx c e v ⟨o,ho,hd⟩↦by
  let kz:c∉ch:=λz=>(lM c z).2.2.1 x c e Y
  by_cases hc:c∈X.fs
  .let⟨sl,q⟩:=slot c o (I.pf x c e) hc kz ho (I.cQ x c e)
   exact⟨_,q,hd⟩
  .exact⟨o,keep c o (I.pf x c e) hc kz ho (I.cQ x c e),hd⟩
 refine⟨I.ok,I.os,hg,⟨λb o e n hb hx=>?_,λb o e n hb hx=>?_,λb o e n hx=>?_,λb o e hx=>?_,λb xs e=>fB b xs (I.base.fB b xs e),λb o xs e=>fY b o xs (I.base.fY b o xs e),λb ps e=>?_⟩,?_,λx c e=>?_,?_,λx c e=>?_,λp hp=>?_,aX,I.len⟩
 .exact keep b o (Du b o e) hb (uO b o e hx) (I.base.keep b o e n hb hx) (I.base.free b o e n hx)
 .let⟨sl,e1⟩:=I.base.slot b o e n hb hx
  let⟨Dv,e2⟩:=slot b _ (Du b o e) hb (uO b o e hx) e1 (I.base.free b o e n hx);exact⟨Dv,e2⟩
 .let⟨o',e1⟩:=I.base.there b o e hx
  exact free b o' (uO b o e hx) e1 (I.base.free b o e n hx)
 .let⟨o',e1⟩:=I.base.there b o e hx
  exact there b o' (uO b o e hx) e1
 .let⟨m1,e1⟩:=I.base.fZ b ps e
  let⟨m2,e2⟩:=fZ b _ e1;exact⟨m1++m2,by rw[e2,Array.append_assoc]⟩
 .let⟨m,hn,hl⟩:=I.loc
  calc⟨m,ns m hn,λi x v e1 e2 e3=>?_⟩;let⟨u,r,l⟩:=hl i x v e1 e2 e3;calc⟨u,r,?_⟩;rcases l with l|⟨k,c,e,z⟩
  .exact .inl l
  .exact .inr ⟨k,c,e,cellK x c e _ z⟩
 .let⟨v,z⟩:=I.cell x c e
  exact⟨v,cellK x c e v z⟩
 .let⟨m,⟨o,_,_,ho,_⟩,_⟩:=I.loc
  exact free _ o (λz=>(lM _ z).2.1 Y) ho I.free
 .let⟨v,o,ho,hd⟩:=I.cell x c e
  exact free c o (λz=>(lM c z).2.2.1 x c e Y) ho (I.cQ x c e)
 .let⟨e,n,ne,nf,d⟩:=I.pin p hp
  let kz:p.1∉ch:=λz=>(lM p.1 z).2.2.2 p hp Y;calc⟨keep p.1 p.2 ne nf kz e n,free p.1 p.2 kz e n,ne,nf,d⟩
theorem Inv.un{t':Nat}(I:Inv X pins σ H s)(u:Un X.fs [] H H' s.heap h')(aX:dW X.prog X.w H' h'):Inv X pins σ H' {s with heap:=h',toks:=t'}:=by
 let⟨m,⟨o,es,ep,ho,r⟩,_⟩:=id I.loc;let⟨sl,hL⟩:=u.any ho I.free (by simp)
 exact I.step (g':=s.gens) (d':=s.drawn) (ch:=[]) (λ_ z=>nomatch z) (λb o _ hb _ e n=>u.keep b o e n hb (by simp)) (λb o _ hb _ e n=>u.slot b o e n hb (by simp)) (λb o _ e n=>u.free b o e n (by simp)) (λb o _ e=>u.there b o e (by simp)) u.fB u.fY u.fZ (λm' hm=>by
  let⟨o',xq,xr,c_,r'⟩:=hm;rw[ho] at c_;cases c_
  calc⟨_,xq,xr,hL,r'⟩) aX I.bare
theorem Inv.call{g':Array GenState}{t':Nat}{d':Drawn}{ch:-M}(I:Inv X pins σ H s)(u:Un (jW X.stack) ch H H' s.heap h')(aX:dW X.prog X.w H' h')(hg:AllBare g')
  (lM:∀b∈ch,(b∈X.ex\/⇑X.s₀<=b)/\b≠X.env.locals/\(∀x c,X.env.cells.lookup x=U c->c≠b)/\∀p∈X.pn++pins,p.1≠b) :
  Inv X pins σ H' {s with heap:=h',gens:=g',drawn:=d',toks:=t'}:=by
 let⟨m,⟨o,es,ep,ho,r⟩,_⟩:=id I.loc;let⟨sl,hL⟩:=u.any ho I.free λz=>(lM _ z).2.1 Y
 exact I.step (ch:=ch) lM (λb o hL hb hc e n=>u.keep b o e n (λz=>(MN.mp (I.gC b z)).elim hL hb) hc) (λb o _ _ hc e n=>u.any e n hc) (λb o hc e n=>u.free b o e n hc) (λb o hc e=>u.there b o e hc) u.fB u.fY u.fZ (λm' hm=>by
  let⟨o',xq,xr,c_,r'⟩:=hm;rw[ho] at c_;cases c_
  calc⟨_,xq,xr,hL,r'⟩) aX hg
theorem Inv.turned{t':Nat}{it:M}(I:Inv X pins σ H s)(k:∀b o,b≠it->s.heap.get? b=U o->h'.get? b=U o)(hn:H it=Z)(hL:it≠X.env.locals)
  (h1:it∈X.ex\/⇑X.s₀<=it) (h2:∀x c,X.env.cells.lookup x=U c->c≠it) (h3:∀p∈X.pn++pins,p.1≠it):Inv X pins σ H {s with heap:=h',toks:=t'}:=by
 let Dw:∀b u,H b=U u->b≠it:=λb u e z=>by rw[z,hn] at e;cases e
 refine I.step (g':=s.gens) (d':=s.drawn) (ch:=[it]) (λb hb=>?_) (λb o _ _ hc e _=>k b o (λz=>hc (by simp[z])) e) (λb o _ _ hc e _=>⟨o.slots,k b o (λz=>hc (by simp[z])) e⟩) (λ_ _ _ _ n=>n)
  (λb o hc e=>⟨o,k b o (λz=>hc (by simp[z])) e⟩) (λ_ _ e=>e) (λ_ _ _ e=>e) (λb ps e=>⟨#[],by rw[e];simp⟩) (λm hm=>?_) (λb u e=>?_) I.bare
 .let e:b=it:=by simpa using hb
  subst e;exact⟨h1,hL,h2,h3⟩
 .let⟨o,es,ep,ho,r⟩:=hm
  exact⟨o,es,ep,k _ o (YN hL) ho,r⟩
 .refine (I.aX b u e).gA (λc v hc q=>k c v ?_ q) (λ_ q=>q) λ_ _ q=>q
  rcases hc with z|z
  .rw[z];exact Dw b u e
  .calc Dw c _ z
theorem Inv.tok(I:Inv X pins σ H s)(t:Nat):Inv X pins σ H {s with toks:=t}:=I.un (h':=s.heap) (t':=t) Un.refl I.aX
theorem Inv.kept{t':Nat}(I:Inv X pins σ H s)(k:∀b u,s.heap.get? b=U u->h'.get? b=U u):Inv X pins σ H {s with heap:=h',toks:=t'}:=I.un (Un.kept k) (I.aX.kept k)
theorem Inv.laid{a:M}{o:HO}{t':Nat}(I:Inv X pins σ H s)(k:∀b u,s.heap.get? b=U u->h'.get? b=U u)(hp:⇑s<=a)(new:aU X.prog X.w (upd H a o) h' a o):
  Inv X pins σ (upd H a o) {s with heap:=h',toks:=t'}:=I.un (Un.laid k hp (I.aX.fresh hp)) (I.aX.laid k hp new)
theorem Inv.write{x e:M}{o:HO}{t':Nat}(I:Inv X pins σ H s)(mu:rS (H x))(he:e=x\/H e=U (.own x))(k:∀b u,b≠e->s.heap.get? b=U u->h'.get? b=U u)(lL:∃u,h'.get? e=U u)
  (new:aU X.prog X.w (upd H x o) h' x o):Inv X pins σ (upd H x o) {s with heap:=h',toks:=t'}:=I.un (Un.write mu he k lL) (I.aX.write mu he k lL new)
theorem Inv.fu{dg:aC}(I:Inv X pins σ H s)(h:∀p∈dg,s.heap.get? p.1=U p.2/\H p.1=Z/\p.1≠X.env.locals/\p.1∉X.fs/\∀v,p.2.data≠.cell v):Inv X dg σ H s :=
 ⟨I.ok,I.os,I.bare,I.base,I.loc,I.cell,I.free,I.cQ,λp hp=>(W7.mp hp).elim (λz=>I.pin p (XU _ z)) (h p),I.aX,I.len⟩
theorem Dy{N:-R}(hN:N.Nodup){i j:Nat}{x:R}(a:N[i]?=U x)(b:N[j]?=U x):i=j:=by
 let⟨h1,e1⟩:=sG.mp a;let⟨h2,e2⟩:=sG.mp b;calc(ZK hN).mp (e1.trans e2.symm)
theorem Dz{M:Model}{A:Β}{E:bg}{i:Nat}{x:R}{v:V}{u:O}{Q:Unit->B->Prop}(I:Inv X pins σ H s)(hN:X.N.Nodup)(hi:X.N[i]?=U x)(hx:Loc X.env.scope x)(r:RelV v u)
  (h:∀s',Inv X pins (σ.set i (U v)) H s'->(∃a,Za a s.heap s'.heap/\(a=X.env.locals\/X.env.cells.lookup x=U a))->Q () s') (hf:autoParam (gB X x) qz1._auto_1):L M A (storeName X.env x u) Q E s:=by
 let⟨m,hn,hl⟩:=id I.loc;let xt:(X.env.scope.kind==.class||(X.env.scope.kind==.module&&X.env.locals != X.env.globals))=ι:=by rw[I.ok.kind];rfl
 let DA:i<↑σ:=by rw[I.len];exact(sG.mp hi).1
 let pf:=I.pf
 let tracked:∀{a:ξ}{h':Α},(∃o,s.heap.get? a=U o/\H a=Z)->Za a s.heap h'->dW X.prog X.w H h':=λ{a h'} ha hs b ob e=>by
  let⟨_,_,oo⟩:=ha;calc(I.aX b ob e).gA (λc w' hc q=>(hs.2 c ?_).trans q) (λ_ q=>q) λ_ _ q=>q;ext rfl;rcases hc with rfl|hc
  .rw[oo] at e;cases e
  .rw[oo] at hc;cases hc
 rcases hx with hk|hk
 .refine wpAny_storeName_local hk hn (λh' jo hs=>?_) xt
  let⟨oL,_,_,pq,_⟩:=id hn;refine h _ ⟨I.ok,I.os,I.bare,⟨λb o e n hb hx=>?_,λb o e n hb hx=>?_,I.base.free,λb o e hx=>?_,I.base.fB,I.base.fY,I.base.fZ⟩,⟨_,jo,λj y v' e1 e2 e3=>?_⟩,λy c e=>?_,I.free,I.cQ,λp hp=>?_,tracked ⟨oL,pq,I.free⟩ hs,by simpa using I.len⟩ ⟨_,hs,.inl Y⟩
  .exact (hs.2 b (Wv (Wr (MM e) I.ok.above))).trans (I.base.keep b o e n hb hx)
  .let⟨sl,e1⟩:=I.base.slot b o e n hb hx
   exact⟨sl,(hs.2 b (Wv (Wr (MM e) I.ok.above))).trans e1⟩
  .let⟨o',e1⟩:=I.base.there b o e hx
   exact⟨o',(hs.2 b (Wv (Wr (MM e) I.ok.above))).trans e1⟩
  .by_cases hj:j=i
   .subst hj
    rw[hi] at e1;cases e1;rw[Xm DA] at e2;cases e2
    exact⟨u,r,.inl ⟨hk,by simp⟩⟩
   .rw[Xh (YN hj)] at e2
    let⟨u',r',q⟩:=hl j y v' e1 e2 e3;calc⟨u',r',?_⟩;rcases q with⟨k,e⟩|⟨k,c,e,z⟩
    .refine .inl ⟨k,?_⟩
     let:y≠x:=λe=>hj (Dy hN e1 (e▸hi));simp[this,e]
    .exact .inr ⟨k,c,e,z.sameBut hs (pf y c e)⟩
  .let⟨w',z⟩:=I.cell y c e
   exact⟨w',z.sameBut hs (pf y c e)⟩
  .let⟨e,n,ne,nf,d⟩:=I.pin p hp
   exact⟨(hs.2 p.1 ne).trans e,n,ne,nf,d⟩
 .let me:X.fn x=θ:=by
   rcases hf with z|z
   .exact z
   .rw[z] at hk;cases hk
  let⟨c,hc⟩:=I.ok.has x (.inl hk);let⟨w',z⟩:=I.cell x c hc;calc wpAny_storeName_cell I.ok.kind hk hc z (λh' jX hs=>?_);let⟨oc,DB,xu⟩:=id z;refine h {s with heap:=h'} ⟨I.ok,I.os,I.bare,⟨λb o e n hb hx=>?_,λb o e n hb hx=>?_,I.base.free,λb o e hx=>?_,I.base.fB,I.base.fY,I.base.fZ⟩,⟨m,hn.sameBut hs (YN (pf x c hc)),λj y v' e1 e2 e3=>?_⟩,λy c' e=>?_,I.free,I.cQ,λp hp=>?_,tracked ⟨oc,DB,I.cQ x c hc⟩ hs,by simpa using I.len⟩ ⟨c,hs,.inr hc⟩
  .exact (hs.2 b (Wv (Wr (MM e) (I.ok.rW x c me hc)))).trans (I.base.keep b o e n hb hx)
  .let⟨sl,e1⟩:=I.base.slot b o e n hb hx
   exact⟨sl,(hs.2 b (Wv (Wr (MM e) (I.ok.rW x c me hc)))).trans e1⟩
  .let⟨o',e1⟩:=I.base.there b o e hx
   exact⟨o',(hs.2 b (Wv (Wr (MM e) (I.ok.rW x c me hc)))).trans e1⟩
  .by_cases hj:j=i
   .subst hj
    rw[hi] at e1;cases e1;rw[Xm DA] at e2;cases e2
    exact⟨u,r,.inr ⟨.inl hk,c,hc,jX⟩⟩
   .rw[Xh (YN hj)] at e2
    let⟨u',r',q⟩:=hl j y v' e1 e2 e3;calc⟨u',r',?_⟩;rcases q with q|⟨k,c',e,z'⟩
    .exact .inl q
    .refine .inr ⟨k,c',e,z'.sameBut hs ?_⟩
     ext rfl;exact hj (Dy hN e1 (I.ok.inj _ _ _ e hc▸hi))
  .by_cases hcc:c'=c
   .subst hcc;exact⟨_,jX⟩
   .let⟨w2,z2⟩:=I.cell y c' e
    exact⟨w2,z2.sameBut hs hcc⟩
  .let⟨e,n,ne,nf,d⟩:=I.pin p hp
   calc⟨(hs.2 p.1 ?_).trans e,n,ne,nf,d⟩;ext q;rw[q,DB] at e;let q':oc=p.2:=WJ e;calc d w' (by rw[<-q'];calc xu)
theorem DC{M:Model}{A:q}{E:bg}{i:Nat}{x:R}{v:V}{u:O}{Q:Unit->B->Prop}(I:Inv X pins σ H s)(hN:X.N.Nodup)(hi:X.N[i]?=U x)(hx:Loc X.env.scope x)(r:RelV v u)
  (h:∀s',Inv X pins (σ.set i (U v)) H s'->Q () s') (hf:autoParam (gB X x) qz1._auto_1):L M A (storeName X.env x u) Q E s :=
 Dz I hN hi hx r (λs' I' _=>h s' I') hf
theorem Inv.rX{s':B}{ch:-M}(I:Inv X pins σ H s)(ho:s'.os=s.os)(u:Un (jW X.stack) ch H H' s.heap s'.heap)(aX:dW X.prog X.w H' s'.heap)(hg:AllBare s'.gens)
  (lM:∀b∈ch,(b∈X.ex\/⇑X.s₀<=b)/\b≠X.env.locals/\(∀x c,X.env.cells.lookup x=U c->c≠b)/\∀p∈X.pn++pins,p.1≠b):Inv X pins σ H' s':=by
 let⟨h',g',d',t',o'⟩:=s';let e:o'=s.os:=ho;subst e;calc I.call (g':=g') (t':=t') (d':=d') u aX hg lM
end
abbrev XK:=O->Option M->Hp->Prop
abbrev St:=-(Option V)
abbrev VK:=V->Hp->Prop
abbrev TE:=St->Hp->VK->Prop
abbrev TT:=St->Hp->(Bool->Hp->Prop)->Prop
abbrev TA:=St->Hp->(-V->Hp->Prop)->Prop
structure Ends where
 nx:St->Hp->Prop
 rt:VK
 bk:St->Hp->Prop:=λ_ _=>False
 ct:St->Hp->Prop:=λ_ _=>False
abbrev TS:=Ends->St->Hp->Prop
inductive EP (X:Cx) (pins:aC) (σ:St) (Q:VK) (u:O) (s':B):Prop
 |mk (v:V) (H':Hp) (I:Inv X pins σ H' s') (r:RelV v u) (q:Q v H')
def TP(X:Cx)(pins:aC)(σ:St)(Q:Bool->Hp->Prop)(b:Bool)(s':B):Prop:=∃H',Inv X pins σ H' s'/\Q b H'
inductive AP (X:Cx) (pins:aC) (σ:St) (Q:-V->Hp->Prop) (us:-O) (s':B):Prop
 |mk (vs:-V) (H':Hp) (I:Inv X pins σ H' s') (r:Vals vs us) (q:Q vs H')
def SP(X:Cx)(pins:aC)(D:Ends)(f:Flow)(s':B):Prop :=
 match f with
 |.next=>∃σ' H',Inv X pins σ' H' s'/\D.nx σ' H'
 |.brk=>∃σ' H',Inv X pins σ' H' s'/\D.bk σ' H'
 |.cont=>∃σ' H',Inv X pins σ' H' s'/\D.ct σ' H'
 |.ret u=>∃v σ' H',Inv X pins σ' H' s'/\RelV v u/\D.rt v H'
structure JE(X:Cx)(e:J)(t:TE):Prop where
 out:∀(pins:aC)(s:B)(σ:St)(H:Hp)(Q:VK),Inv X pins σ H s->t σ H Q->L (G X.prog X.w) X.A (eval e X.env) (EP X pins σ Q) X.xe s
instance {X:Cx} {e:J} {t:TE}:CoeFun (JE X e t) (λ_=>∀(pins:aC)(s:B)(σ:St)(H:Hp)(Q:VK),Inv X pins σ H s->t σ H Q->L (G X.prog X.w) X.A (eval e X.env) (EP X pins σ Q) X.xe s):=⟨JE.out⟩
structure JT(X:Cx)(e:J)(t:TT):Prop where
 out:∀(pins:aC)(s:B)(σ:St)(H:Hp)(Q:Bool->Hp->Prop),Inv X pins σ H s->t σ H Q->L (G X.prog X.w) X.A (isTrue e X.env (eval e X.env)) (TP X pins σ Q) X.xe s
instance {X:Cx} {e:J} {t:TT}:CoeFun (JT X e t) (λ_=>∀(pins:aC)(s:B)(σ:St)(H:Hp)(Q:Bool->Hp->Prop),Inv X pins σ H s->t σ H Q->L (G X.prog X.w) X.A (isTrue e X.env (eval e X.env)) (TP X pins σ Q) X.xe s):=⟨JT.out⟩
structure JW(X:Cx)(e:J)(t:TT):Prop where
 out:∀(whole:Sem O)(pins:aC)(s:B)(σ:St)(H:Hp)(Q:Bool->Hp->Prop),Inv X pins σ H s->t σ H Q->L (G X.prog X.w) X.A (isTrue e X.env whole) (TP X pins σ Q) X.xe s
instance {X:Cx} {e:J} {t:TT}:CoeFun (JW X e t) (λ_=>∀(whole:Sem O)(pins:aC)(s:B)(σ:St)(H:Hp)(Q:Bool->Hp->Prop),Inv X pins σ H s->t σ H Q->L (G X.prog X.w) X.A (isTrue e X.env whole) (TP X pins σ Q) X.xe s):=⟨JW.out⟩
theorem JW.jt{X:Cx}{e:J}{t:TT}(h:JW X e t):JT X e t:=⟨h.out _⟩
structure JA(X:Cx)(es:-J)(t:TA):Prop where
 out:∀(pos:y)(pins:aC)(s:B)(σ:St)(H:Hp)(Q:-V->Hp->Prop),Inv X pins σ H s->t σ H Q->L (G X.prog X.w) X.A (spliced (backTo pos (starEach es X.env))) (AP X pins σ Q) X.xe s
instance {X:Cx} {es:-J} {t:TA}:CoeFun (JA X es t) (λ_=>∀(pos:y)(pins:aC)(s:B)(σ:St)(H:Hp)(Q:-V->Hp->Prop),Inv X pins σ H s->t σ H Q->L (G X.prog X.w) X.A (spliced (backTo pos (starEach es X.env))) (AP X pins σ Q) X.xe s):=⟨JA.out⟩
structure JS(X:Cx)(st:o)(t:TS):Prop where
 out:∀(pins:aC)(s:B)(σ:St)(H:Hp)(D:Ends),Inv X pins σ H s->t D σ H->L (G X.prog X.w) X.A (exec st X.env) (SP X pins D) X.xe s
instance {X:Cx} {st:o} {t:TS}:CoeFun (JS X st t) (λ_=>∀(pins:aC)(s:B)(σ:St)(H:Hp)(D:Ends),Inv X pins σ H s->t D σ H->L (G X.prog X.w) X.A (exec st X.env) (SP X pins D) X.xe s):=⟨JS.out⟩
structure dM(X:Cx)(st:-o)(t:TS):Prop where
 out:∀(pins:aC)(s:B)(σ:St)(H:Hp)(D:Ends),Inv X pins σ H s->t D σ H->L (G X.prog X.w) X.A (execs st X.env) (SP X pins D) X.xe s
instance {X:Cx} {st:-o} {t:TS}:CoeFun (dM X st t) (λ_=>∀(pins:aC)(s:B)(σ:St)(H:Hp)(D:Ends),Inv X pins σ H s->t D σ H->L (G X.prog X.w) X.A (execs st X.env) (SP X pins D) X.xe s):=⟨dM.out⟩
theorem br{α:Type}{t:Sem α}{Q Q':α->B->Prop}{M:Model}{A:q}{E:bg}{s:B}(h:L M A t Q E s)(hQ:∀a s,Q a s->Q' a s):L M A t Q' E s:=Ym h hQ λ_ _ x=>x
section
variable{X:Cx}
def rY(i:Nat):TE:=fun σ H Q=>∃v,σ[i]?=U (U v)/\Q v H
def tC(v:V):TE:=λ_ H Q=>Q v H
theorem DD{i:Nat}{x:R}{pos:y}(hN:X.N[i]?=U x)(hv:rV X.env.scope x)(hd: ~~~(bV x))(gD: ~~~((x==("__classdict__" : R))=ι)):JE X (.Name x pos) (rY i):=by
 calc⟨?_⟩;ext pins s σ H Q I h;let⟨v,e,h⟩:=h;let⟨m,hn,hl⟩:=I.loc;let⟨u,r,l⟩:=hl i x v hN e hv;let fin:EP X pins σ Q u s:=⟨v,H,I,r,h⟩;rcases l with⟨hk,hm⟩|⟨hk,c,hc,oq⟩
 .exact q2Q (wpAny_loadName_local I.ok.kind hk hn hm fin) hd
 .rcases hk with hk|hk
  .exact q2Q (wpAny_loadName_cell I.ok.kind hk hc oq fin) hd
  .calc q2Q (wpAny_loadName_free I.ok.kind hk hc oq fin gD) hd
theorem ot{i j pos}:JE X (.Constant (.int i) j pos) (tC (.int i)):=⟨λ_ _ _ H _ I h=>wpAny_Constant_int ⟨.int i,H,I.tok _,⟨_,Y⟩,h⟩⟩
theorem Kr{b j pos}:JE X (.Constant (.bool b) j pos) (tC (.bl b)):=⟨λ_ _ _ H _ I h=>Constant_bool ⟨.bl b,H,I,Y,h⟩⟩
theorem Ks{j pos}:JE X (.Constant .none j pos) (tC .non):=⟨λ_ _ _ H _ I h=>Constant_none ⟨.non,H,I,Y,h⟩⟩
theorem Kt{x j pos}:JE X (.Constant (.str x) j pos) (tC (.str x)):=⟨λ_ _ _ H _ I h=>Calls.Constant_str ⟨.str x,H,I.tok _,⟨_,Y⟩,h⟩
⟩
def Gl(X:Cx)(x:R):Prop:=X.env.kindOf x=U .globalImplicit
theorem xv{E:bg}{pins:aC}{s:B}{σ:St}{H:Hp}{x:R}{u:O}{pos:y}{Q:bg}(I:Inv X pins σ H s)(hg:Gl X x)(hm:X.mg x=U u)(h:Q u s)
  (hd: ~~~(bV x)):L (G X.prog X.w) X.A (eval (.Name x pos) X.env) Q E s :=
 Z5 I.ok.kind hg (Calls.loadGlobal_global (by rw[I.ok.glob];calc I.mod.glob.keeps I.bk) hm h) hd
theorem mf{E:bg}{pins:aC}{s:B}{σ:St}{H:Hp}{x:R}{u:O}{pos:y}{Q:bg}(I:Inv X pins σ H s)(hg:Gl X x)(hm:X.mg x=Z)(hv:bootBuiltins x=U u)(h:Q u s)
  (hn:x≠"__name__" := by decide) (hd: ~~~(bV x)):L (G X.prog X.w) X.A (eval (.Name x pos) X.env) Q E s:=by
 let⟨mb,h1,h2⟩:=I.mod.blt;calc Z5 I.ok.kind hg (Calls.loadGlobal_builtin (by rw[I.ok.glob];calc I.mod.glob.keeps I.bk) hm (by rw[I.ok.blt];calc h1.keeps I.bk) ((h2 x hn).trans hv) h) hd
theorem Ku{x:R}{v:V}{u:O}{pos:y}(hg:Gl X x)(hm:X.mg x=U u)(r:RelV v u)(hd: ~~~(bV x)):JE X (.Name x pos) (tC v):=⟨λ_ _ _ H _ I h=>xv I hg hm ⟨v,H,I,r,h⟩ hd⟩
theorem Kv{x:R}{v:V}{u:O}{pos:y}(hg:Gl X x)(hm:X.mg x=Z)(hv:bootBuiltins x=U u)(r:RelV v u)(hn:x≠"__name__" := by decide)(hd: ~~~(bV x)):JE X (.Name x pos) (tC v):=⟨λ_ _ _ H _ I h=>mf I hg hm hv ⟨v,H,I,r,h⟩ hn hd
⟩
variable{a b:J}{ta tb:TE}{pos:y}
structure JC(X:Cx)(op:CmpOp)(a b:J)(t:TE):Prop where
 out:∀(pins:aC)(s:B)(σ:St)(H:Hp)(Q:VK),Inv X pins σ H s->t σ H Q →
  L (G X.prog X.w) X.A (eval a X.env) (λv s₁=>L (G X.prog X.w) X.A (eval b X.env) (λu s₂=>L (G X.prog X.w) X.A (compareOp op v u) (EP X pins σ Q) X.xe s₂) X.xe s₁) X.xe s
instance {X:Cx} {op:CmpOp} {a b:J} {t:TE}:CoeFun (JC X op a b t) (λ_=>∀(pins:aC)(s:B)(σ:St)(H:Hp)(Q:VK),Inv X pins σ H s->t σ H Q->L (G X.prog X.w) X.A (eval a X.env) (λv s₁=>L (G X.prog X.w) X.A (eval b X.env) (λu s₂=>L (G X.prog X.w) X.A (compareOp op v u) (EP X pins σ Q) X.xe s₂) X.xe s₁) X.xe s):=⟨JC.out⟩
def tB(t:TE):TT:=fun σ H Q=>t σ H λx H1=>∃c,x=.bl c/\Q c H1
theorem Kw{op:CmpOp}{t:TE}(h:JC X op a b t)(h1:behindInMarks op b=ι:=by first|exact Vm _ (by decide) (by decide)|rfl):JT X (.Compare a [op] [b] pos) (tB t):=by
 calc⟨?_⟩;ext pins s σ H Q I hw;calc q0Y (br (h pins s σ H _ I hw) λv s1 h1=>br h1 λu s2 h2=>br h2 λc s3 ⟨x,H1,I1,r1,q1⟩=>?_) h1;let⟨d,rfl,q⟩:=q1;cases r1
 calc Yg ⟨H1,I1,q⟩
theorem Ky{e:J}{t:TE}(h:JE X e t)(he:‹∀whole,isTrue e X.env whole=(do let v <- whole;standAt e.pos;holding [v] (truthy v))›):JT X e (tB t):=by
 calc⟨?_⟩;ext pins s σ H Q I hw;calc isTrue_plain (br (h pins s σ H _ I hw) λv s1 ⟨x,H1,I1,r1,q1⟩=>?_) (he _);let⟨d,rfl,q⟩:=q1;cases r1
 calc Yg ⟨H1,I1,q⟩
variable{tA uP:TT}{rest:-J}
def rZ(t u:TT):TT:=fun σ H Q=>t σ H λc H1=>if c=θ then u σ H1 Q else Q ι H1
def DE(t u:TT):TT:=fun σ H Q=>t σ H λc H1=>if c=θ then Q θ H1 else u σ H1 Q
def xw(t:TT):TT:=fun σ H Q=>t σ H λc H1=>Q (!c) H1
theorem Kz(ha:JT X a tA):JW X (.BoolOp .And [a] pos) tA:=by
 calc⟨?_⟩;ext wh pins s σ H Q I h;refine isTrue_and (br (ha pins s σ H Q I h) λc s1 e=>?_)
 cases c with
 |true=>exact isTrue_and_nil e
 |false=>calc e
theorem KC(ha:JT X a tA):JW X (.BoolOp .Or [a] pos) tA:=by
 calc⟨?_⟩;ext wh pins s σ H Q I h;refine isTrue_or (br (ha pins s σ H Q I h) λc s1 e=>?_)
 cases c with
 |false=>exact isTrue_or_nil e
 |true=>calc e
theorem KD(ha:JT X a tA)(hb:JW X (.BoolOp .And (b::rest) pos) uP):JW X (.BoolOp .And (a::b::rest) pos) (rZ tA uP):=by
 calc⟨?_⟩;ext wh pins s σ H Q I h;refine isTrue_and (br (ha pins s σ H _ I h) λc s1 h0_=>el3 h0_ λH1 I1 q1=>?_)
 cases c with
 |true=>exact hb wh pins s1 σ H1 Q I1 q1
 |false=>calc⟨H1,I1,q1⟩
theorem KG(ha:JT X a tA)(hb:JW X (.BoolOp .Or (b::rest) pos) uP):JW X (.BoolOp .Or (a::b::rest) pos) (DE tA uP):=by
 calc⟨?_⟩;ext wh pins s σ H Q I h;refine isTrue_or (br (ha pins s σ H _ I h) λc s1 h0_=>el3 h0_ λH1 I1 q1=>?_)
 cases c with
 |true=>exact⟨H1,I1,q1⟩
 |false=>calc hb wh pins s1 σ H1 Q I1 q1
theorem KH(ha:JT X a tA):JT X (.UnaryOp .Not a pos) (xw tA):=by
 calc⟨?_⟩;ext pins s σ H Q I h;calc isTrue_not (ha pins s σ H (λc H1=>Q (!c) H1) I h)
def KI(ta tb:TE):TE:=fun σ H Q=>ta σ H λx H1=>∃c,x=.bl c/\if c=θ then tb σ H1 Q else Q (.bl ι) H1
def KJ(ta:TE):TE:=fun σ H Q=>ta σ H λx H1=>∃c,x=.bl c/\Q (.bl (!c)) H1
theorem KN{op}{t:TE}(h:JE X a t):JE X (.BoolOp op [a] pos) t:=⟨λpins s σ H Q I hw=>BoolOp_one (h pins s σ H Q I hw)⟩
theorem KO(ha:JE X a ta)(hb:JE X (.BoolOp .And (b::rest) pos) tb):JE X (.BoolOp .And (a::b::rest) pos) (KI ta tb):=by
 calc⟨?_⟩;ext pins s σ H Q I h;calc BoolOp_and (br (ha pins s σ H _ I h) ?_);ext v s1 ⟨x,H1,I1,r1,q1⟩;let⟨c,rfl,q1⟩:=q1;cases r1
 refine Yg ?_
 cases c with
 |true=>exact hb pins s1 σ H1 Q I1 q1
 |false=>calc⟨.bl ι,H1,I1,Y,q1⟩
theorem KP(ha:JE X a ta):JE X (.UnaryOp .Not a pos) (KJ ta):=by
 calc⟨?_⟩;ext pins s σ H Q I h;calc UnaryOp_ (br (ha pins s σ H _ I h) ?_);ext v s1 ⟨x,H1,I1,r1,q1⟩;let⟨c,rfl,q1⟩:=q1;cases r1
 calc not_of (Yg ⟨.bl (!c),H1,I1,Y,q1⟩)
def KQ(t:TT)(ta tb:TE):TE:=fun σ H Q=>t σ H λc H1=>if c=θ then ta σ H1 Q else tb σ H1 Q
theorem KR{c:J}(hc:JT X c tA)(ha:JE X a ta)(hb:JE X b tb):JE X (.IfExp c a b pos) (KQ tA ta tb):=by
 calc⟨?_⟩;ext pins s σ H Q I h;refine wpAny_IfExp (br (hc pins s σ H _ I h) λd s1 h0_=>el3 h0_ λH1 I1 q1=>?_)
 cases d with
 |true=>exact ha pins s1 σ H1 Q I1 q1
 |false=>calc hb pins s1 σ H1 Q I1 q1
end
def bE(K:El)(H:Hp)(a:M)(xs:-V):Prop :=
 Rd H a (.lst xs) ∨
  ∃(o:Q)(au:Array O)(n:Nat),K.lookup a=U o/\o.cls=.type "list" /\ o.dict=Z/\o.data=.seq au n/\au.size<=sizeLine/\Vals xs au.toList
def bO(K:El)(H:Hp)(a:M)(xs:-V):Prop :=
 Rd H a (.tup xs) ∨
  ∃(o:Q)(au:Array O)(n:Nat),K.lookup a=U o/\o.cls=.type "tuple" /\ o.data=.seq au n/\au.size<=sizeLine/\Vals xs au.toList
noncomputable def xx:O->Option V
 |.none=>U .non
 |.bool b=>U (.bl b)
 |.int i _=>U (.int i)
 |.str x _=>U (.str x)
 |.bytes b _=>U (.byt b)
 |.float b _=>U (.flt b)
 |.ref a=>U (.ref a)
 |.type n=>U (.ty n)
 |_=>Z
theorem RelV.abs{x:V}{u:O}(r:RelV x u):xx u=U x:=by
 cases x with
 |non=>cases r;rfl
 |bl _=>cases r;rfl
 |int _=>let⟨t,rfl⟩:=r;rfl
 |str _=>let⟨t,rfl⟩:=r;rfl
 |byt _=>let⟨t,rfl⟩:=r;rfl
 |flt _=>let⟨t,rfl⟩:=r;rfl
 |ref _=>cases r;rfl
 |ty _=>cases r;rfl
theorem RelV.inj{x y:V}{u:O}(r:RelV x u)(q:RelV y u):x=y:=WJ (r.abs.symm.trans q.abs)
theorem Vals.inj:∀{xs ys:-V}{us:-O},Vals xs us->Vals ys us->xs=ys
 |_,_,_,.nil,.nil=>Y
 |_,_,_,.cons r t,.cons r' t'=>by rw[r.inj r',Vals.inj t t']
section
variable{X:Cx}{pins:aC}{σ:St}{H:Hp}{s:B}{a:M}{xs ys:-V}
theorem bE.of{K:El}(h:H a=U (.lst xs)):bE K H a xs:=.inl (.inl h)
theorem bO.of{K:El}(h:H a=U (.tup xs)):bO K H a xs:=.inl (.inl h)
theorem Inv.list(I:Inv X pins σ H s)(h:bE X.K H a xs):∃au:-O,Vals xs au/\PlainL s.heap a au.toArray/\↑xs<=sizeLine:=by
 rcases h with h|⟨o,au,n,hk,hc,hd,hs,hz,r⟩
 .let⟨z,au,n,r,e⟩:=h.ok I.aX
  exact⟨au,r,⟨_,n,e,Y,Y,Y⟩,z⟩
 .refine⟨au.toList,r,⟨o,n,I.eX a o hk,hc,hd,by simpa using hs⟩,?_⟩
  let e:=↑r;erw[Vx] at e;symm
theorem Inv.tuple(I:Inv X pins σ H s)(h:bO X.K H a xs):∃au:-O,Vals xs au/\IsTup s.heap a au.toArray/\↑xs<=sizeLine:=by
 rcases h with h|⟨o,au,n,hk,hc,hs,hz,r⟩
 .let⟨z,au,r,p⟩:=h.ok I.aX
  exact⟨au,r,p,z⟩
 .refine⟨au.toList,r,⟨o,I.eX a o hk,hc,n,by simpa using hs⟩,?_⟩
  let e:=↑r;erw[Vx] at e;symm
theorem Inv.fD(I:Inv X pins σ H s)(h:bE X.K H a xs)(h':bE X.K H a ys):xs=ys:=by
 let⟨au,r,⟨o,n,e,_,_,d⟩,_⟩:=I.list h;let⟨its',r',⟨o',n',e',_,_,d'⟩,_⟩:=I.list h';rw[e] at e';cases e';rw[d] at d';injection d' with d1 _;let:au=its':=by simpa using congrArg q3J d1
 subst this;calc r.inj r'
theorem Inv.eJ(I:Inv X pins σ H s)(h:bO X.K H a xs)(h':bO X.K H a ys):xs=ys:=by
 let⟨au,r,⟨o,e,_,n,d⟩,_⟩:=I.tuple h;let⟨its',r',⟨o',e',_,n',d'⟩,_⟩:=I.tuple h';rw[e] at e';cases e';rw[d] at d';injection d' with d1 _;let:au=its':=by simpa using congrArg q3J d1
 subst this;calc r.inj r'
end
noncomputable abbrev Cx.f7(X:Cx)(E:bg):Cx:={X with xe:=E}
noncomputable abbrev Cx.jY(X:Cx):Cx:=X.f7 λ_ _=>False
theorem Cx.Ok.f7{X:Cx}(ok:X.Ok)(E:bg):(X.f7 E).Ok :=
 ⟨ok.mod,ok.kind,ok.glob,ok.blt,ok.above,ok.inj,ok.has,ok.rW,ok.hd,ok.frames,ok.uN,ok.Dt,ok.bs,ok.l9,ok.ky,ok.l_,ok.eI,ok.om⟩
theorem Cx.Ok.dh{X:Cx}{E:bg}(ok:(X.f7 E).Ok):X.Ok :=
 ⟨ok.mod,ok.kind,ok.glob,ok.blt,ok.above,ok.inj,ok.has,ok.rW,ok.hd,ok.frames,ok.uN,ok.Dt,ok.bs,ok.l9,ok.ky,ok.l_,ok.eI,ok.om⟩
section
variable{X:Cx}{pins:aC}{σ:St}{H:Hp}{s:B}{E:bg}
theorem Inv.f7(I:Inv X pins σ H s)(E:bg):Inv (X.f7 E) pins σ H s:=⟨I.ok.f7 E,I.os,I.bare,I.base,I.loc,I.cell,I.free,I.cQ,I.pin,I.aX,I.len⟩
theorem Inv.dh(I:Inv (X.f7 E) pins σ H s):Inv X pins σ H s:=⟨I.ok.dh,I.os,I.bare,I.base,I.loc,I.cell,I.free,I.cQ,I.pin,I.aX,I.len⟩
theorem SP.dh{D:Ends}{f:Flow}{s':B}(h:SP (X.f7 E) pins D f s'):SP X pins D f s':=by
 cases f with
 |next=>let⟨σ',H',I,q⟩:=h;exact⟨σ',H',I.dh,q⟩
 |brk=>let⟨σ',H',I,q⟩:=h;exact⟨σ',H',I.dh,q⟩
 |cont=>let⟨σ',H',I,q⟩:=h;exact⟨σ',H',I.dh,q⟩
 |ret u=>let⟨v,σ',H',I,r,q⟩:=h;calc⟨v,σ',H',I.dh,r,q⟩
theorem dM.jY{st:-o}{t:TS}(h:dM X.jY st t):dM X st t:=⟨λpins s σ H D I hw =>
 Ym (h pins s σ H D (I.f7 _) hw) (λ_ _ q=>q.dh) λ_ _ z=>Xt z⟩
end
section
variable{X:Cx}{st:o}{rest:-o}{t u:TS}{e:J}{te:TE}{pos:y}
def KU:TS:=λD σ H=>D.nx σ H
def xy(t u:TS):TS:=λD σ H=>t {D with nx:=u D} σ H
theorem mi:dM X [] KU:=⟨λ_ _ σ H _ I h=>q0P ⟨σ,H,I,h⟩⟩
theorem uQ(h1:JS X st t)(h2:dM X rest u):dM X (st::rest) (xy t u):=by
 calc⟨?_⟩;ext pins s σ H D I h;refine q2h (br (h1 pins s σ H {D with nx:=u D} I h) λf s1 q=>?_)
 cases f with
 |next =>
  let⟨σ',H',I',q⟩:=q;exact h2 pins s1 σ' H' D I' q
 |ret v=>exact q
 |brk=>exact q
 |cont=>calc q
theorem xA(h1:JS X st t):dM X [st] t:=by
 calc⟨?_⟩;ext pins s σ H D I h;refine q2h (br (h1 pins s σ H D I h) λf s1 q=>?_)
 cases f with
 |next=>exact q0P q
 |ret v=>exact q
 |brk=>exact q
 |cont=>calc q
theorem Inv.quiet{pins:aC}{σ:St}{H:Hp}{s:B}(I:Inv X pins σ H s):interactive X.env=ι:=by simp[interactive,I.ok.kind]
def KW(te:TE):TS:=λD σ H=>te σ H λ_ H1=>D.nx σ H1
theorem KY(he:JE X e te)(hs:‹swapsWith e Z pos.line X.env=pure ι›):JS X (.Expr e pos) (KW te):=by
 calc⟨?_⟩;ext pins s σ H D I h;calc wpAny_Expr_any (br (he pins s σ H _ I h) λv s1 ⟨x,H1,I1,r1,q1⟩↦⟨σ,H1,I1,q1⟩) I.quiet hs
def xB(te:TE):TS:=λD σ H=>te σ H D.rt
theorem DF(he:JE X e te):JS X (.Return (U e) pos) (xB te):=by
 calc⟨?_⟩;ext pins s σ H D I h;calc wpAny_Return_some (br (he pins s σ H _ I h) λv s1 ⟨x,H1,I1,r1,q1⟩↦⟨x,σ,H1,I1,r1,q1⟩)
def xC(c:TT)(t u:TS):TS:=λD σ H=>c σ H λb H1=>if b=θ then t D σ H1 else u D σ H1
theorem KZ{c:J}{a b:-o}{tc:TT}(hc:JT X c tc)(ha:dM X a t)(hb:dM X b u):JS X (.If c a b pos) (xC tc t u):=by
 calc⟨?_⟩;ext pins s σ H D I h;refine wpAny_If (br (hc pins s σ H _ I h) λd s1 h0_=>el3 h0_ λH1 I1 q1=>?_)
 cases d with
 |true=>exact ha pins s1 σ H1 D I1 q1
 |false=>calc hb pins s1 σ H1 D I1 q1
end
abbrev TG:=V->St->Hp->(St->Hp->Prop)->Prop
abbrev jZ:=-V->St->Hp->(St->Hp->Prop)->Prop
structure JG(X:Cx)(target:J)(t:TG):Prop where
 out:∀(pins:aC)(s:B)(σ:St)(H:Hp)(v:V)(u:O)(Q:St->Hp->Prop),Inv X pins σ H s->RelV v u->t v σ H Q →
  L (G X.prog X.w) X.A (assign target X.env u) (λ_ s'=>∃σ' H',Inv X pins σ' H' s'/\Q σ' H') X.xe s
instance {X:Cx} {target:J} {t:TG}:CoeFun (JG X target t) (λ_=>∀(pins:aC)(s:B)(σ:St)(H:Hp)(v:V)(u:O)(Q:St->Hp->Prop),Inv X pins σ H s->RelV v u->t v σ H Q->L (G X.prog X.w) X.A (assign target X.env u) (λ_ s'=>∃σ' H',Inv X pins σ' H' s'/\Q σ' H') X.xe s):=⟨JG.out⟩
structure i9(X:Cx)(ts:-J)(t:jZ):Prop where
 out:∀(pins:aC)(s:B)(σ:St)(H:Hp)(vs:-V)(us:-O)(Q:St->Hp->Prop),Inv X pins σ H s->Vals vs us->t vs σ H Q →
  L (G X.prog X.w) X.A (assignInOrder ((assignEach ts X.env).map (·.2)) us) (λ_ s'=>∃σ' H',Inv X pins σ' H' s'/\Q σ' H') X.xe s
instance {X:Cx} {ts:-J} {t:jZ}:CoeFun (i9 X ts t) (λ_=>∀(pins:aC)(s:B)(σ:St)(H:Hp)(vs:-V)(us:-O)(Q:St->Hp->Prop),Inv X pins σ H s->Vals vs us->t vs σ H Q->L (G X.prog X.w) X.A (assignInOrder ((assignEach ts X.env).map (·.2)) us) (λ_ s'=>∃σ' H',Inv X pins σ' H' s'/\Q σ' H') X.xe s):=⟨i9.out⟩
abbrev pz:=V->V->V->Hp->(Hp->Prop)->Prop
def r6(X:Cx)(t:pz):Prop :=
 ∀(pins:aC)(s:B)(σ:St)(H:Hp)(o i v:V)(ov iv u:O)(Q:Hp->Prop),Inv X pins σ H s->RelV o ov->RelV i iv->RelV v u->t o i v H Q →
  L (G X.prog X.w) X.A (setItem ov iv u) (λ_ s'=>∃H',Inv X pins σ H' s'/\Q H') X.xe s
section
variable{X:Cx}{pos:y}
def uR(i:Nat):TG:=λv σ H Q=>Q (σ.set i (U v)) H
theorem xD{i:Nat}{x:R}(hN:X.N.Nodup)(hi:X.N[i]?=U x)(hx:Loc X.env.scope x)(hf:autoParam (gB X x) qz1._auto_1):JG X (.Name x pos) (uR i):=by
 calc⟨?_⟩;ext pins s σ H v u Q I r h;calc q1P (DC I hN hi hx r (λs' I'=>⟨_,H,I',h⟩) hf)
def xE:jZ:=λvs σ H Q=>vs=[]/\Q σ H
def K1(t:TG)(u:jZ):jZ:=λvs σ H Q=>∃v r,vs=v::r/\t v σ H fun σ' H'=>u r σ' H' Q
theorem i_:i9 X [] xE:=by
 calc⟨?_⟩;ext pins s σ H vs us Q I r h;let⟨e,h⟩:=h;subst e;cases r
 calc assignInOrder_nil ⟨σ,H,I,h⟩
theorem xF{e:J}{es:-J}{t:TG}{u:jZ}(h1:JG X e t)(h2:i9 X es u)
  (hs:‹(assignEach (e::es) X.env).map (·.2)=assign e X.env::(assignEach es X.env).map (·.2)›):i9 X (e::es) (K1 t u):=by
 calc⟨?_⟩;ext pins s σ H vs us Q I r h;let⟨v,vr,e1,h⟩:=h;subst e1
 cases r with
 |cons r rr =>
  rw[hs];calc assignInOrder_cons (br (h1 pins s σ H _ _ _ I r h) ?_);ext _ s1 ⟨σ1,H1,I1,q1⟩;calc h2 pins s1 σ1 H1 _ _ Q I1 rr q1
def xG(K:El)(n:Nat)(t:jZ):TG:=λv σ H Q=>∃a xs,v=.ref a/\bO K H a xs/\↑xs=n/\t xs σ H Q
theorem DG{es:-J}{k:Nat}{t:jZ}{n:Nat}(hc:X.calm=θ)(h:i9 X es t)
  (hn:‹↑(assignEach es X.env)=n›) (iD:‹(assignEach es X.env).findIdx? (·.1)=Z›):JG X (.Tuple es k pos) (xG X.K n t):=by
 calc⟨?_⟩;ext pins s σ H v u Q I r hw;let⟨a,xs,e1,hq,hl,hw⟩:=hw;subst e1;cases r
 let⟨au,rv,ht,hz⟩:=I.tuple hq;calc assign_Tuple_tuple (I.ok.hd hc) ht (by simp[hn,<-hl,rv.length]) iD λh' hx=>?_;let I1:Inv X pins σ H {s with heap:=h'}:=I.kept (t':=s.toks) λb o e=>hx b o (Wv (MM e)) e;calc h pins _ σ H xs _ Q I1 rv⁻¹ hw
def r9(to ti:TE)(t:pz):TG:=λv σ H Q=>to σ H λo H1=>ti σ H1 λi H2=>t o i v H2 λH3=>Q σ H3
theorem DH{o i:J}{to ti:TE}{t:pz}(ho:JE X o to)(hi:JE X i ti)(hs:r6 X t)
  (ha:‹∀v,assign (.Subscript o i pos) X.env v=(do
   let ov <- holding [v] (eval o X.env)
   let iv <- holding [v,ov] (eval i X.env)
   standAt pos
   holding [v,ov,iv] (setItem ov iv v)
   release [v,ov,iv] [])›):JG X (.Subscript o i pos) (r9 to ti t):=by
 calc⟨?_⟩;ext pins s σ H v u Q I r h;rw[ha];calc qL (W9 (br (ho pins s σ H _ I h) ?_));ext ov s1 ⟨x,H1,I1,r1,q1⟩;calc qL (W9 (br (hi pins s1 σ H1 _ I1 q1) ?_));ext iv s2 ⟨y,H2,I2,r2,q2⟩;calc qL (ZM (qL (W9 (br (hs pins s2 σ H2 x y v ov iv u _ I2 r1 r2 r q2) λ_ s3 h0_=>el3 h0_ λH3 I3 q3=>?_))));calc wpAny_release ⟨σ,H3,I3,q3⟩
def kA(te:TE)(g:TG):TS:=λD σ H=>te σ H λx H1=>g x σ H1 D.nx
theorem xH{tg e:J}{te:TE}{g:TG}(he:JE X e te)(hg:JG X tg g)(hs:‹swapsWithSole [tg] e pos.line X.env=pure ι›)(hw:‹swappedStores [tg] e X.env=pure Z›)
  (h1:‹(assignEach [tg] X.env).map (·.2)=[assign tg X.env]›):JS X (.Assign [tg] e pos) (kA te g):=by
 calc⟨?_⟩;ext pins s σ H D I h;calc wpAny_Assign_stores (br (he pins s σ H _ I h) λv s1 ⟨x,H1,I1,r1,q1⟩=>?_) hs hw;rw[h1];calc br (hg pins s1 σ H1 x v _ I1 r1 q1) λ_ s2 q=>q
theorem xI{i:Nat}{x:R}{e:J}{te:TE}{pos':Ε}(hN:X.N.Nodup)(hi:X.N[i]?=U x)(hx:Loc X.env.scope x)(he:JE X e te)(hs:‹swapsWith e (U (.Name x pos')) pos.line X.env=pure ι›)(hf:autoParam (gB X x) qz1._auto_1):
  JS X (.Assign [.Name x pos'] e pos) (kA te (uR i)):=by
 calc⟨?_⟩;ext pins s σ H D I h;calc wpAny_Assign_Name (br (he pins s σ H _ I h) λv s1 ⟨y,H1,I1,r1,q1⟩=>?_) hs;calc DC I1 hN hi hx r1 (λs2 I2=>⟨_,H1,I2,q1⟩) hf
end
structure It where
 go:Nat->Hp->Prop
 qF:Nat->Hp->V->Hp->Prop
 stop:Nat->Hp->Prop
def bD(X:Cx)(pins:aC)(H:Hp)(b:M):Prop :=
 H b=Z/\b≠X.env.locals/\b∉X.fs/\(b∈X.ex\/⇑X.s₀<=b)/\(∀x c,X.env.cells.lookup x=U c->c≠b)/\∀p∈X.pn++pins,p.1≠b
theorem Inv.gE{X:Cx}{pins:aC}{σ:St}{H H':Hp}{s:B}{b:M}(I:Inv X pins σ H s)(hb:⇑s<=b)(hn:H' b=Z):bD X pins H' b:=by
 refine⟨hn,Yo (Wr I.lt hb),I.xp hb,.inr (WU I.sz hb),λx c e z=>?_,λp hp z=>?_⟩
 .let⟨v,q⟩:=I.cell x c e
  exact absurd (Wr q.lt (by rw[z];calc hb)) (XY _)
 .calc absurd (Wr (MM (I.pin p hp).1) (by rw[z];calc hb)) (XY _)
structure Turn(P:l)(w:g)(K:El)(tg:υ)(J:It)(fp:-M)(it:M)(tn:Nat->I->Prop):Prop where
 mem:it∈fp
 obj:∀i h,tn i h->∀b∈fp,∃o,h.get? b=U o/\∀v,o.data≠.cell v
 keep:∀i h h',tn i h->(∀b∈fp,∀o,h.get? b=U o->h'.get? b=U o)->tn i h'
 item:∀(X:Cx),X.prog=P->X.w=w->X.K=K->X.calm=θ->∀(i:Nat)(pins:aC)(s:B)(σ:St)(H:Hp)(E:bg),Inv X pins σ H s->(∀b∈fp,bD X pins H b)->tn i s.heap->J.go i H →
  L (G P w) X.A (pyNext (.ref it)) (λr s1=>∃u,r=U u ∧
   L (G P w) X.A (letOwnedTupleGo tg (.ref it) u) (λ_ s2=>∃x H',Inv X pins σ H' s2/\RelV x u/\J.qF i H x H'/\tn (i+1) s2.heap/\∀b∈fp,H' b=Z) E s1) E s
 done:∀(X:Cx),X.prog=P->X.w=w->X.K=K->X.calm=θ->∀(i:Nat)(pins:aC)(s:B)(σ:St)(H:Hp)(E:bg),Inv X pins σ H s->(∀b∈fp,bD X pins H b)->tn i s.heap->J.stop i H →
  L (G P w) X.A (pyNext (.ref it)) (λr s1=>r=Z/\Inv X pins σ H s1) E s
 self:∀(A:q)(i:Nat)(s:B)(Q:bg)(E:bg),tn i s.heap->Q (.ref it) s->L (G P w) A (pyIter (.ref it)) Q E s
abbrev TI:=St->Hp->(It->Hp->Prop)->Prop
def xJ(X:Cx)(pins:aC)(σ:St)(tg:υ)(R:It->Hp->Prop)(xK:O)(s2:B):Prop :=
 ∃(it:M)(fp:-M)(tn:Nat->I->Prop)(J:It)(H':Hp),xK=.ref it/\Inv X pins σ H' s2/\Turn X.prog X.w X.K tg J fp it tn/\tn 0 s2.heap/\(∀b∈fp,bD X pins H' b)/\R J H'
structure JI(X:Cx)(tg iter:J)(wi:TI):Prop where
 out:∀(pins:aC)(s:B)(σ:St)(H:Hp)(R:It->Hp->Prop),Inv X pins σ H s->wi σ H R →
  L (G X.prog X.w) X.A (eval iter X.env) (λv s1=>L (G X.prog X.w) X.A (pyIter v) (xJ X pins σ tg R) X.xe s1) X.xe s
instance {X:Cx} {tg iter:J} {wi:TI}:CoeFun (JI X tg iter wi) (λ_=>∀(pins:aC)(s:B)(σ:St)(H:Hp)(R:It->Hp->Prop),Inv X pins σ H s->wi σ H R->L (G X.prog X.w) X.A (eval iter X.env) (λv s1=>L (G X.prog X.w) X.A (pyIter v) (xJ X pins σ tg R) X.xe s1) X.xe s):=⟨JI.out⟩
theorem xM {M:Model} {A:q} {E:bg} {s:B} {tg:J} {it:ξ} {u:O} {o:Γ} {n:String} {vs:Array O} {Q:Unit->B->Prop} (ho:s.heap.get? it=U o) (hc:o.cls = .type n) (hd:o.data = .fields vs)
  (hn:["enumerate", "zip", "dict_itemiterator", "dict_reverseitemiterator", "odict_iterator", "itertools.zip_longest", "itertools.pairwise"].contains n=ι) (hQ:Q () s):L M A (letOwnedTupleGo tg (.ref it) u) Q E s:=by
 unfold letOwnedTupleGo
 cases tg<;>first
  | exact MK hQ
  | (cases u<;>first
    | exact MK hQ
    | (refine qL (wpAny_load ho ?_)
       rw[hc,hd];show L M A (if (["enumerate", "zip", "dict_itemiterator", "dict_reverseitemiterator", "odict_iterator", "itertools.zip_longest", "itertools.pairwise"].contains n && vs[0]? == U (rawInt _))=θ then _ else _) Q E s;rw[Vw (by ext h;rw[hn,q04] at h;cases h)]
       calc MK hQ))
noncomputable def DI(K:El)(a:M):It :=
 ⟨λi H=>∃xs x,bE K H a xs/\xs[i]?=U x,λi H x H'=>H'=H/\∀xs,bE K H a xs->xs[i]?=U x,λi H=>∃xs,bE K H a xs/\↑xs<=i⟩
noncomputable def DJ(K:El)(a:M):It :=
 ⟨λi H=>∃xs x,bO K H a xs/\xs[i]?=U x,λi H x H'=>H'=H/\∀xs,bO K H a xs->xs[i]?=U x,λi H=>∃xs,bO K H a xs/\↑xs<=i⟩
noncomputable def r_(lo:Int)(n:Nat):It:=⟨λi _=>i<n,λi H x H'=>H'=H/\x=.int (lo+i),λi _=>n<=i⟩
theorem K6{P:l}{w:g}{K:El}{tg:J}(a it:M):Turn P w K tg (DI K a) [it] it (λi h=>h.IsListIter it a i) where
 mem:=by simp
 obj:=λi h st b hb=>by
  let e:b=it:=by simpa using hb
  subst e;let⟨o,e,c,d⟩:=st;exact⟨o,e,λv z=>by rw[d] at z;cases z⟩
 keep:=λi h h' st k=>st.at λo e=>k it (by simp) o e
 item:=by
  ext X hP hw hK hc i pins s σ H E I hf st hg;subst hP hw hK;let⟨xs,x,hq,hx⟩:=hg;let⟨au,rv,p,hz⟩:=I.list hq;let⟨u,hu,ru⟩:=rv.get hx;let⟨f0,f1,f2,f3,f4,f5⟩:=hf it (by simp);calc wpAny_pyNext_list_item st p.isList (x:=u) hu⁻¹ λh' eA sb=>?_;let I1:Inv X pins σ H {s with heap:=h'}:=I.turned (t':=s.toks) (λb o hb e=>(sb.2 b hb).trans e) f0 f1 f3 f4 f5;let⟨o,e,c,d⟩:=id eA;exact⟨u,Y,xM (s:={s with heap:=h'}) e c d (by decide) ⟨x,H,I1,ru,⟨Y,λys hy=>by rw[I.fD hy hq];calc hx⟩,eA,λb hb=>(hf b hb).1⟩⟩
 done:=by
  ext X hP hw hK hc i pins s σ H E I hf st hg;subst hP hw hK;let⟨xs,hq,hx⟩:=hg;let⟨au,rv,p,hz⟩:=I.list hq;let⟨f0,f1,f2,f3,f4,f5⟩:=hf it (by simp);let hl:=↑rv;exact wpAny_pyNext_list_end (I.ok.hd hc) st p.isList (by simp;symm) λh' eb=>⟨Y,I.turned (t':=s.toks) (λb o hb e=>eb b o hb e) f0 f1 f3 f4 f5⟩
 self:=λ_ _ _ _ _ st h=>wpAny_pyIter_listiter st h
theorem K7{P:l}{w:g}{K:El}{tg:J}(a it:M):Turn P w K tg (DJ K a) [it] it (λi h=>h.IsTupleIter it a i) where
 mem:=by simp
 obj:=λi h st b hb=>by
  let e:b=it:=by simpa using hb
  subst e;let⟨o,e,c,d⟩:=st;exact⟨o,e,λv z=>by rw[d] at z;cases z⟩
 keep:=λi h h' st k=>st.at λo e=>k it (by simp) o e
 item:=by
  ext X hP hw hK hc i pins s σ H E I hf st hg;subst hP hw hK;let⟨xs,x,hq,hx⟩:=hg;let⟨au,rv,p,hz⟩:=I.tuple hq;let⟨u,hu,ru⟩:=rv.get hx;let⟨f0,f1,f2,f3,f4,f5⟩:=hf it (by simp);calc wpAny_pyNext_tuple_item st (show s.heap.IsTuple a au.toArray from p) (x:=u) hu⁻¹ λh' eA sb=>?_;let I1:Inv X pins σ H {s with heap:=h'}:=I.turned (t':=s.toks) (λb o hb e=>(sb.2 b hb).trans e) f0 f1 f3 f4 f5;let⟨o,e,c,d⟩:=id eA;exact⟨u,Y,xM (s:={s with heap:=h'}) e c d (by decide) ⟨x,H,I1,ru,⟨Y,λys hy=>by rw[I.eJ hy hq];calc hx⟩,eA,λb hb=>(hf b hb).1⟩⟩
 done:=by
  ext X hP hw hK hc i pins s σ H E I hf st hg;subst hP hw hK;let⟨xs,hq,hx⟩:=hg;let⟨au,rv,p,hz⟩:=I.tuple hq;let⟨f0,f1,f2,f3,f4,f5⟩:=hf it (by simp);let hl:=↑rv;exact wpAny_pyNext_tuple_end (I.ok.hd hc) st (show s.heap.IsTuple a au.toArray from p) (by simp;symm) λh' eb=>⟨Y,I.turned (t':=s.toks) (λb o hb e=>eb b o hb e) f0 f1 f3 f4 f5⟩
 self:=λ_ _ _ _ _ st h=>wpAny_pyIter_tupleiter st h
theorem K8{P:l}{w:g}{K:El}{tg:J}(it:M)(lo:Int)(n:Nat):Turn P w K tg (r_ lo n) [it] it (λi h=>IsRangeIter h it (lo+(i:Nat)*1) ((n:Int)-(i:Nat)) 1) where
 mem:=by simp
 obj:=λi h st b hb=>by
  let e:b=it:=by simpa using hb
  subst e
  exact⟨_,st,λv z=>by
   let z':Data.fields _=Data.cell v:=z
   cases z'⟩
 keep:=λi h h' st k=>k it (by simp) _ st
 item:=by
  ext X hP hw hK hc i pins s σ H E I hf st hg;subst hP hw hK;let⟨f0,f1,f2,f3,f4,f5⟩:=hf it (by simp);let W:=Walks.range (prog:=X.prog) (w:=X.w) (I.ok.hd hc) it lo 1 n;calc W.item i s _ _ hg st λv h' tk hv eA kk=>?_;let⟨t,rfl⟩:=hv;let I1:Inv X pins σ H {s with heap:=h',toks:=tk}:=I.turned (λb o hb e=>kk b o hb⁻¹ e) f0 f1 f3 f4 f5;calc⟨_,Y,xM (s:={s with heap:=h',toks:=tk}) (n:="range_iterator") eA Y Y (by decide) ⟨.int (lo+i),H,I1,⟨t,?_⟩,⟨Y,Y⟩,eA,λb hb=>(hf b hb).1⟩⟩;rw[q05]
 done:=by
  ext X hP hw hK hc i pins s σ H E I hf st hg;subst hP hw hK;let⟨f0,f1,f2,f3,f4,f5⟩:=hf it (by simp);exact wpAny_pyNext_range_end (I.ok.hd hc) st (by let:n<=i:=hg;symm) λh' eb=>⟨Y,I.turned (t':=s.toks) (λb o hb e=>eb b o hb e) f0 f1 f3 f4 f5⟩
 self:=λ_ _ _ _ _ st h=>wpAny_pyIter_rangeiter st h
section
variable{X:Cx}{tg:J}
theorem DK{pins:aC}{σ:St}{H:Hp}{s:B}{R:It->Hp->Prop}{E:bg}{lo hi:Int}{t u v:Tok}{tk:Nat}(I:Inv X pins σ H s)(h1 : -(2 ^ 62)<=lo)(h2:lo<2 ^ 62)(h3 : -(2 ^ 62)<=hi)(h4:hi<2 ^ 62)
  (q:R (r_ lo (hi-lo).toNat) H):L (G X.prog X.w) X.A (pyIter (.ref ⇑s)) (xJ X pins σ tg R) E {s with heap:=s.heap.push {cls:=.type "range",data:=.fields #[.int lo t,.int hi u,.int 1 v]},toks:=tk}:=by
 calc wpAny_pyIter_range (IsRange.new ..) (q3t h1 h2 h3 h4) ?_;let I1:Inv X pins σ H {s with heap:=s.heap.push {cls:=.type "range",data:=.fields #[.int lo t,.int hi u,.int 1 v]},toks:=tk}:=I.kept λb o e=>u6 _ e
 refine⟨(s.heap.push {cls:=.type "range",data:=.fields #[.int lo t,.int hi u,.int 1 v]}).objs.size,[(s.heap.push {cls:=.type "range",data:=.fields #[.int lo t,.int hi u,.int 1 v]}).objs.size],_,_,H,Y,
  I1.kept (t':=tk) λb o e=>u6 _ e,K8 _ lo (hi-lo).toNat,?_,λb hb=>?_,q⟩
 .let e1:lo+((0:Nat):Int)*1=lo:=by simp
  let e2:(((hi-lo).toNat:Nat):Int)-((0:Nat):Int)=YI lo hi 1:=by rw[q1l];split<;>symm
  show IsRangeIter _ _ (lo+((0:Nat):Int)*1) ((((hi-lo).toNat:Nat):Int)-((0:Nat):Int)) 1;rw[e1,e2];exact Vt _ Y
 .let e:b=(s.heap.push {cls:=.type "range",data:=.fields #[.int lo t,.int hi u,.int 1 v]}).objs.size:=by simpa using hb
  subst e;calc I1.gE (Ek _) (I1.aX.fresh (Ek _))
def K9(ta:TA):TI:=fun σ H R=>ta σ H λvs H1=>∃j:Int,vs=[.int j] /\ -(2 ^ 62)<=j/\j<2 ^ 62/\R (r_ 0 j.toNat) H1
def K_(ta:TA):TI:=fun σ H R=>ta σ H λvs H1=>∃i j:Int,vs=[.int i,.int j]/\(-(2 ^ 62)<=i/\i<2 ^ 62 /\ -(2 ^ 62)<=j/\j<2 ^ 62)/\R (r_ i (j-i).toNat) H1
theorem La{a:J}{ta:TA}{p pos:y}(hg:Gl X "range")(hm:X.mg "range" = Z)(ha:JA X [a] ta)(hs:‹starEach [a] X.env=[(ι,eval a X.env)]›):JI X tg (.Call (.Name "range" p) [a] [] pos) (K9 ta):=by
 calc⟨?_⟩;ext pins s σ H R I h;calc Call_ (mf I hg hm boot_range (Xv (br (ha pos pins s σ H _ I h) λus s1 ⟨vs,H1,I1,r1,q1⟩=>?_) hs Y));let⟨j,e,q1,q2,q⟩:=q1;subst e
 cases r1 with
 |cons r rr =>
  cases rr
  let⟨t,rfl⟩:=r;calc call_range_1 (DK I1 ⋯ ⋯ q1 q2 q⁻¹)
theorem Lb{a b:J}{ta:TA}{p pos:y}(hg:Gl X "range")(hm:X.mg "range" = Z)(ha:JA X [a,b] ta)(hs:‹starEach [a,b] X.env=[(ι,eval a X.env),(ι,eval b X.env)]›)(d6:‹starEach [b] X.env=[(ι,eval b X.env)]›):
  JI X tg (.Call (.Name "range" p) [a,b] [] pos) (K_ ta):=by
 calc⟨?_⟩;ext pins s σ H R I h;calc Call_ (mf I hg hm boot_range (Xv (br (ha pos pins s σ H _ I h) λus s1 ⟨vs,H1,I1,r1,q1⟩=>?_) (by rw[hs,d6]) (by rw[d6];rfl)));let⟨i,j,e,⟨q1,q2,q3,q4⟩,q⟩:=q1;subst e
 cases r1 with
 |cons r rr =>
  cases rr with
  |cons r' rr =>
   cases rr
   let⟨t,rfl⟩:=r;let⟨t',rfl⟩:=r';calc call_range_2 (DK I1 q1 q2 q3 q4 q)
def xN(wi:TI)(g:TG)(tb:TS):TS:=λD σ H=>wi σ H λJ H1=>∃W:Nat->Nat->St->Hp->Prop,(∃m,W 0 m σ H1)/\∀i m σ H,W i m σ H →
 (J.stop i H/\D.nx σ H)\/(J.go i H/\∃N:St->Hp->Prop,(∀σ' H',N σ' H'->∃m',m'<m/\W (i+1) m' σ' H')/\∀x H',J.qF i H x H'->g x σ H' fun σ2 H2=>tb {D with nx:=N,ct:=N,bk:=D.nx} σ2 H2)
noncomputable def sd(fp:-M)(h:I):-(M×Q):=fp.filterMap λb=>(h.get? b).map λo=>(b,o)
theorem uS{fp:-M}{h:I}{b:M}{o:Q}(hb:b∈fp)(e:h.get? b=U o):(b,o)∈sd fp h:=Zm.mpr ⟨b,hb,by rw[e];rfl⟩
theorem Lc{fp:-M}{h:I}{p:M×Q}(hp:p∈sd fp h):p.1∈fp/\h.get? p.1=U p.2:=by
 let⟨b,hb,e⟩:=Zm.mp hp
 cases q:h.get? b with
 |none=>rw[q] at e;cases e
 |some o =>
  rw[q] at e;let e':(b,o)=p:=WJ e;subst e';calc⟨hb,q⟩
theorem Inv.pinned{pins:aC}{σ:St}{H:Hp}{s:B}{fp:-M}(I:Inv X pins σ H s)(hf:∀b∈fp,bD X pins H b)(ho:∀b∈fp,∃o,s.heap.get? b=U o/\∀v,o.data≠.cell v):Inv X (pins++sd fp s.heap) σ H s :=
 I.fu λp hp=>(W7.mp hp).elim (λz=>I.pin p (WB _ z)) λz=>by
  let⟨hb,e⟩:=Lc z;let⟨f0,f1,f2,_⟩:=hf p.1 hb;let⟨o,e',d⟩:=ho p.1 hb;rw[e] at e';cases e';calc⟨e,f0,f1,f2,d⟩
theorem Inv.d7{pins pl:aC}{σ:St}{H:Hp}{s:B}(I:Inv X (pins++pl) σ H s):Inv X pins σ H s:=I.fu λp hp=>I.pin p (WB _ (XU _ hp))
theorem DL{iter:υ}{body:-χ}{wi:TI}{g:TG}{tb:TS}{pos:y}(hp:PassesOwn (G X.prog X.w) X.A X.env X.xe)(hc:X.calm=θ)(hi:JI X tg iter wi)(hg:JG X tg g)(hb:dM X body tb)
  (hs:‹∀x,foldedSetIterable iter X.env x=pure x›):JS X (.For tg iter body [] pos) (xN wi g tb):=by
 calc⟨?_⟩;ext pins s σ H D I h;calc wpAny_For (br (hi pins s σ H _ I h) λv s1 h1=>br h1 λxK s2 h2=>?_) hs;let⟨it,fp,tn,J,H2,e,I2,T,kB,f2,W,⟨m0,w0⟩,turn⟩:=h2;subst e;let iE:∀{H':Hp},(∀b∈fp,H' b=Z)->∀b∈fp,bD X pins H' b:=λhn b hb=>⟨hn b hb,(f2 b hb).2⟩;calc codeAny_forLoop_any (λn s'=>∃i σ' H',Inv X pins σ' H' s'/\tn i s'.heap/\(∀b∈fp,H' b=Z)/\W i n σ' H') ?_ m0 ⟨0,σ,H2,I2,kB,λb hb=>(f2 b hb).1,w0⟩;ext n s3 ⟨i,σ3,H3,I3,ou,sf,w3⟩;rcases turn i n σ3 H3 w3 with⟨stop,qn⟩|⟨go,N,hN,step⟩
 .refine Zk hp (br (T.done X Y Y Y hc i pins s3 σ3 H3 X.xe I3 (iE sf) ou stop) ?_);ext r s4 ⟨hr,I4⟩
  subst hr;exact q0P ⟨σ3,H3,I4,qn⟩
 .refine Zk hp (br (T.item X Y Y Y hc i pins s3 σ3 H3 X.xe I3 (iE sf) ou go) ?_);ext r s4 ⟨u,hr,h4⟩
  subst hr;calc Zk hp (br h4 ?_);ext _ s5 ⟨x,H5,I5,r5,y5,pA,xO⟩;let xP:=I5.pinned (iE xO) (T.obj _ _ pA);calc Zk hp (br (hg _ s5 σ3 H5 x u _ xP r5 (step x H5 y5)) ?_);ext _ s6 ⟨σ6,H6,I6,q6⟩;refine Zk hp (br (hb _ s6 σ6 H6 _ I6 q6) λf s7 q7=>?_)
  let again:∀{σ7:St}{H7:Hp},Inv X (pins++sd fp s5.heap) σ7 H7 s7->N σ7 H7->∃m,m<n/\∃i σ' H',Inv X pins σ' H' s7/\tn i s7.heap/\(∀b∈fp,H' b=Z)/\W i m σ' H':=λ{σ7 H7} I7 n7=>by
   let⟨m',hm,w7⟩:=hN σ7 H7 n7;calc⟨m',hm,i+1,σ7,H7,I7.d7,T.keep _ _ _ pA λb hb o e=>(I7.pin (b,o) (WB _ (WB _ (uS hb e)))).1,λb hb=>?_,w7⟩;let⟨o,e,d⟩:=T.obj _ _ pA b hb;exact(I7.pin (b,o) (WB _ (WB _ (uS hb e)))).2.1
  cases f with
  |next=>let⟨σ7,H7,I7,n7⟩:=q7;exact again I7 n7
  |cont=>let⟨σ7,H7,I7,n7⟩:=q7;exact again I7 n7
  |brk=>let⟨σ7,H7,I7,q7⟩:=q7;exact⟨σ7,H7,I7.d7,q7⟩
  |ret v=>let⟨x7,σ7,H7,I7,r7,q7⟩:=q7;calc⟨x7,σ7,H7,I7.d7,r7,q7⟩
end
abbrev R2:=V->V->Hp->VK->Prop
def eB(X:Cx)(f:O->O->Sem O)(r:R2):Prop :=
 ∀(pins:aC)(s:B)(σ:St)(H:Hp)(x y:V)(v u:O)(Q:VK),Inv X pins σ H s->RelV x v->RelV y u->r x y H Q →
  L (G X.prog X.w) X.A (f v u) (EP X pins σ Q) X.xe s
def xQ(X:Cx)(f:O->Sem O)(r:V->Hp->VK->Prop):Prop :=
 ∀(pins:aC)(s:B)(σ:St)(H:Hp)(x:V)(v:O)(Q:VK),Inv X pins σ H s->RelV x v->r x H Q →
  L (G X.prog X.w) X.A (f v) (EP X pins σ Q) X.xe s
def gZ(X:Cx)(f:O)(r:-V->Hp->VK->Prop):Prop :=
 ∀(pins:aC)(s:B)(σ:St)(H:Hp)(xs:-V)(us:-O)(Q:VK),Inv X pins σ H s->Vals xs us->r xs H Q →
  L (G X.prog X.w) X.A (call f us) (EP X pins σ Q) X.xe s
def sg(r:R2)(ta tb:TE):TE:=fun σ H Q=>ta σ H λx H1=>tb σ H1 λy H2=>r x y H2 Q
def Ld(r:V->Hp->VK->Prop)(ta:TE):TE:=fun σ H Q=>ta σ H λx H1=>r x H1 Q
def rI(C:Int->Int->Prop)(g:Int->Int->V):R2:=λx y H Q=>∃i j,x=.int i/\y=.int j/\C i j/\Q (g i j) H
def ml(g:Int->Int->V):R2:=λx y H Q=>∃i j,x=.int i/\y=.int j/\Q (g i j) H
def rU(g:Int->V):V->Hp->VK->Prop:=λx H Q=>∃i,x=.int i/\Q (g i) H
section
variable{X:Cx}{a b c:J}{ta tb tc:TE}{pos:y}
theorem pB(ha:JE X a ta)(hb:JE X b tb){pins:aC}{s:B}{σ:St}{H:Hp}{R:V->V->Hp->Prop}(I:Inv X pins σ H s)
  (h:ta σ H λx H1=>tb σ H1 λy H2=>R x y H2) {Q:bg} {f:O->O->Sem O}
  (hf:∀v u s2 x y H2,Inv X pins σ H2 s2->RelV x v->RelV y u->R x y H2->L (G X.prog X.w) X.A (f v u) Q X.xe s2) :
  L (G X.prog X.w) X.A (eval a X.env) (λv s₁=>L (G X.prog X.w) X.A (eval b X.env) (λu s₂=>L (G X.prog X.w) X.A (f v u) Q X.xe s₂) X.xe s₁) X.xe s:=by
 calc br (ha pins s σ H _ I h) ?_;ext v s1 ⟨x,H1,I1,r1,q1⟩;calc br (hb pins s1 σ H1 _ I1 q1) ?_;ext u s2 ⟨y,H2,I2,r2,q2⟩;calc hf v u s2 x y H2 I2 r1 r2 q2
theorem si{op:Operator}{r:R2}(ho:eB X (binaryOp op) r)(ha:JE X a ta)(hb:JE X b tb):JE X (.BinOp a op b pos) (sg r ta tb):=by
 calc⟨?_⟩;ext pins s σ H Q I h;calc wpAny_BinOp (pB ha hb I h λv u s2 x y H2 I2 rx ry q=>ho pins s2 σ H2 x y v u Q I2 rx ry q)
theorem Le{op:UnaryOp}{r:V->Hp->VK->Prop}(ho:xQ X (unaryOp op) r)(ha:JE X a ta):JE X (.UnaryOp op a pos) (Ld r ta):=by
 calc⟨?_⟩;ext pins s σ H Q I h;calc UnaryOp_ (br (ha pins s σ H _ I h) λv s1 ⟨x,H1,I1,r1,q1⟩↦ho pins s1 σ H1 x v Q I1 r1 q1)
theorem uT{f:O->O->Sem O}{C:Int->Int->Prop}{g:Int->Int->Int}
  (rule:∀(i j:Int)(t u:Tok)(s:B)(Q:bg)(E:bg),C i j->Q (.int (g i j) s.toks) {s with toks:=s.toks+1}->L (G X.prog X.w) X.A (f (.int i t) (.int j u)) Q E s) :
  eB X f (rI C λi j=>.int (g i j)):=by
 ext pins s σ H x y v u Q I rx ry h;let⟨i,j,rfl,rfl,hc,q⟩:=h;let⟨t,rfl⟩:=rx;let⟨t',rfl⟩:=ry;calc rule i j t t' s _ _ hc ⟨.int (g i j),H,I.tok _,⟨_,Y⟩,q⟩
theorem sj{f:O->O->Sem O}{g:Int->Int->Int}
  (rule:∀(i j:Int)(t u:Tok)(s:B)(Q:bg)(E:bg),Q (.int (g i j) s.toks) {s with toks:=s.toks+1}->L (G X.prog X.w) X.A (f (.int i t) (.int j u)) Q E s) :
  eB X f (ml λi j=>.int (g i j)):=by
 ext pins s σ H x y v u Q I rx ry h;let⟨i,j,rfl,rfl,q⟩:=h;let⟨t,rfl⟩:=rx;let⟨t',rfl⟩:=ry;calc rule i j t t' s _ _ ⟨.int (g i j),H,I.tok _,⟨_,Y⟩,q⟩
theorem mq{f:O->O->Sem O}{g:Int->Int->Bool}
  (rule:∀(i j:Int)(t u:Tok)(s:B)(Q:bg)(E:bg),Q (.bool (g i j)) s->L (G X.prog X.w) X.A (f (.int i t) (.int j u)) Q E s) :
  eB X f (ml λi j=>.bl (g i j)):=by
 ext pins s σ H x y v u Q I rx ry h;let⟨i,j,rfl,rfl,q⟩:=h;let⟨t,rfl⟩:=rx;let⟨t',rfl⟩:=ry;calc rule i j t t' s _ _ ⟨.bl (g i j),H,I,Y,q⟩
def d8(i j:Int):Prop:=0<=j/\j<=1000000/\i.natAbs<2 ^ 64
def mw(i j:Int):Prop:=(-(2 ^ 64)<i/\i<2 ^ 64)\/(-(2 ^ 64)<j/\j<2 ^ 64)
theorem mw.ok{i j:Int}(h:mw i j):IntMulOk i j:=by
 rcases h with⟨h1,h2⟩|⟨h1,h2⟩
 .exact .of_left (q3e h1 h2)
 .calc .of_right (q3e h1 h2)
theorem DM:eB X (binaryOp .Add) (ml λi j=>.int (i+j)):=sj λ_ _ _ _ _ _ _ q=>add_int q
theorem Lf:eB X (binaryOp .Sub) (ml λi j=>.int (i-j)):=sj λ_ _ _ _ _ _ _ q=>sub_int q
theorem Lg:eB X (binaryOp .Mult) (rI mw λi j=>.int (i*j)):=uT λ_ _ _ _ _ _ _ hc q=>mul_int q hc.ok
theorem xR:eB X (binaryOp .Mod) (rI (λ_ j=>0<j) λi j=>.int (i%j)):=uT λi j _ _ _ _ _ hc q=>by
 let h1:(0:Int)<j:=hc;calc mod_int' ⋯ (by rw[Int.fmod_eq_emod_of_nonneg i ⋯];calc q)
theorem Lh:eB X (binaryOp .Pow) (rI d8 λi j=>.int (i ^ j.toNat)):=uT λ_ _ _ _ _ _ _ hc q=>pow_int_small hc.1 hc.2.1 hc.2.2 q
theorem Li{f:O->Sem O}{g:Int->Int}
  (rule:∀(i:Int)(t:Tok)(s:B)(Q:bg)(E:bg),Q (.int (g i) s.toks) {s with toks:=s.toks+1}->L (G X.prog X.w) X.A (f (.int i t)) Q E s) :
  xQ X f (rU λi=>.int (g i)):=by
 ext pins s σ H x v Q I rx h;let⟨i,rfl,q⟩:=h;let⟨t,rfl⟩:=rx;calc rule i t s _ _ ⟨.int (g i),H,I.tok _,⟨_,Y⟩,q⟩
theorem Lj:xQ X (unaryOp .USub) (rU λi=>.int (-(i:Int))):=Li λ_ _ _ _ _ q=>neg_int q
theorem Lk{pins:aC}{σ:St}{H:Hp}{s:B}{Q:VK}{k k':Bool}(I:Inv X pins σ H s)(q:Q (.bl k) H)(e:k=k'):EP X pins σ Q (.bool k') s:=by
 subst e;calc⟨.bl k,H,I,Y,q⟩
theorem Ll:eB X (compareOp .Lt) (ml λi j=>.bl (S (i<j))):=mq λ_ _ _ _ _ _ _ q=>lt_int q
theorem Lm:eB X (compareOp .LtE) (ml λi j=>.bl (S (i<=j))):=mq λ_ _ _ _ _ _ _ q=>le_int q
theorem Ln:eB X (compareOp .Gt) (ml λi j=>.bl (S (j<i))):=mq λ_ _ _ _ _ _ _ q=>gt_int q
theorem Lo:eB X (compareOp .GtE) (ml λi j=>.bl (S (j<=i))):=mq λ_ _ _ _ _ _ _ q=>ge_int q
theorem Lp:eB X (compareOp .Is) (λx y H Q=>y=.non/\Q (.bl (S (x=.non))) H):=by
 ext pins s σ H x y v u Q I rx ry h;let⟨rfl,q⟩:=h;cases ry
 refine is_none_gen (Lk I q ?_)
 cases x<;>first
  |(cases rx;rfl)
  |(let⟨t,rfl⟩:=rx;rfl)
theorem xS(b:J){op:CmpOp}(h: ~~~(op≠.In))(h2: ~~~(op≠.NotIn)):behindInMarks op b=ι:=by
 let e1:(op==CmpOp.In)=ι:=by cases op<;>first|rfl|exact absurd Y h
 let e2:(op==CmpOp.NotIn)=ι:=by cases op<;>first|rfl|exact absurd Y h2
 cases b<;>simp[behindInMarks,e1,e2]
theorem Lq{op:CmpOp}{r:R2}(ho:eB X (compareOp op) r)(ha:JE X a ta)(hb:JE X b tb)(hm:behindInMarks op b=ι):JE X (.Compare a [op] [b] pos) (sg r ta tb):=by
 calc⟨?_⟩;ext pins s σ H Q I h;calc wpAny_Compare1 (pB ha hb I h λv u s2 x y H2 I2 rx ry q=>ho pins s2 σ H2 x y v u Q I2 rx ry q) hm
def Lr(t:TE):TT:=fun σ H Q=>t σ H λx H'=>∃k,x=.bl k/\Q k H'
theorem Ls{op:CmpOp}{r:R2}(ho:eB X (compareOp op) r)(ha:JE X a ta)(hb:JE X b tb)(hm:behindInMarks op b=ι):JT X (.Compare a [op] [b] pos) (Lr (sg r ta tb)):=by
 calc⟨?_⟩;ext pins s σ H Q I h
 refine q0Y (br (ha pins s σ H _ I h) λv s1 ⟨x,H1,I1,r1,q1⟩=>br (hb pins s1 σ H1 _ I1 q1) λu s2 ⟨y,H2,I2,r2,q2⟩ =>
  br (ho pins s2 σ H2 x y v u _ I2 r1 r2 q2) λc s3 ⟨z,H3,I3,r3,k,e,q3⟩=>?_) hm
 subst e;cases r3
 calc Yg ⟨H3,I3,q3⟩
def Lu(r r':R2)(ta tb tc:TE):TE:=fun σ H Q=>ta σ H λx H1=>tb σ H1 λy H2=>r x y H2 λz H3=>∃k,z=.bl k ∧
 (if k=θ then tc σ H3 λw' H4=>r' y w' H4 Q else Q (.bl ι) H3)
theorem Lw{op pC:CmpOp}{r r':R2}(ho:eB X (compareOp op) r)(c_:eB X (compareOp pC) r')(ha:JE X a ta)(hb:JE X b tb)(hc:JE X c tc)
  (hm:autoParam (lastMarks [op,pC] [b,c]=ι) qz6._auto_1):JE X (.Compare a [op,pC] [b,c] pos) (Lu r r' ta tb tc):=by
 calc⟨?_⟩;ext pins s σ H Q I h
 refine Compare_chain (br (ha pins s σ H _ I h) λv s1 ⟨x,H1,I1,r1,q1⟩=>chain_link (br (hb pins s1 σ H1 _ I1 q1) λu s2 ⟨y,H2,I2,r2,q2⟩ =>
  br (ho pins s2 σ H2 x y v u _ I2 r1 r2 q2) λd s3 ⟨z,H3,I3,r3,k,e,q3⟩=>?_)) hm
 subst e;cases r3
 refine Yg ?_
 cases k with
 |false=>exact ite_ff ⟨.bl ι,H3,I3,Y,q3⟩
 |true=>calc ite_tt (chain_last (br (hc pins s3 σ H3 _ I3 q3) λw' s4 ⟨z',H4,I4,r4,q4⟩↦c_ pins s4 σ H4 y z' u w' Q I4 r2 r4 q4))
theorem qG:(sizeLine:Nat)<2 ^ 63:=by rw[Xg];decide
theorem Lx:eB X (binaryOp .Add) (λx y H Q=>∃i j,x=.str i/\y=.str j/\↑i+↑j<=sizeLine/\Q (.str (i++j)) H):=by
 ext pins s σ H x y v u Q I rx ry h;let⟨i,j,rfl,rfl,hz,q⟩:=h;let⟨t,rfl⟩:=rx;let⟨t',rfl⟩:=ry;calc add_str (λt' tk=>⟨.str (i++j),H,I.tok _,⟨_,Y⟩,q⟩) hz
theorem vals1{x:V}{us:-O}(r:Vals [x] us):∃u,us=[u]/\RelV x u:=by
 cases r with
 |cons r1 r2=>cases r2;calc⟨_,Y,r1⟩
theorem vals2{x y:V}{us:-O}(r:Vals [x,y] us):∃u w',us=[u,w']/\RelV x u/\RelV y w':=by
 cases r with
 |cons r1 r2 =>
  cases r2 with
  |cons r3 r4=>cases r4;calc⟨_,_,Y,r1,r3⟩
theorem Ly(hc:X.calm=θ):gZ X (.builtin "max") (λxs H Q=>∃i j,xs=[.int i,.int j]/\Q (.int (if j>i then j else i)) H):=by
 ext pins s σ H xs us Q I r h;let⟨i,j,rfl,q⟩:=h;let⟨u,w',rfl,⟨t,rfl⟩,⟨t',rfl⟩⟩:=vals2 r;refine max_two_ints (I.ok.hd hc) λh' tk k=>⟨_,H,I.kept k,?_,q⟩
 by_cases hj:j>i
 .rw[Wm hj,Wm hj];exact⟨_,Y⟩
 .rw[Vw hj,Vw hj];calc⟨_,Y⟩
theorem Lz(hc:X.calm=θ):gZ X (.builtin "min") (λxs H Q=>∃i j,xs=[.int i,.int j]/\Q (.int (if j<i then j else i)) H):=by
 ext pins s σ H xs us Q I r h;let⟨i,j,rfl,q⟩:=h;let⟨u,w',rfl,⟨t,rfl⟩,⟨t',rfl⟩⟩:=vals2 r;refine min_two_ints (I.ok.hd hc) λh' tk k=>⟨_,H,I.kept k,?_,q⟩
 by_cases hj:j<i
 .rw[Wm hj,Wm hj];exact⟨_,Y⟩
 .rw[Vw hj,Vw hj];calc⟨_,Y⟩
end
structure iF(h:I)(x dx C:M)(mA:R->Option O):Prop where
 obj:h.get? x=U (Yl C dx)
 ns:h.Ns1 dx mA
 ne:dx≠x
theorem LA{h:I}{dx:M}{mA:R->Option O}(n:h.Ns1 dx mA):∃od,h.get? dx=U od/\∀name,Z6 name od=U (mA name):=by
 let⟨o,es,ep,ho,hd,hk,_,hm⟩:=n;calc⟨o,ho,λname=>?_⟩;let e:=hm name;unfold nsFind findBy at e;rw[<-Array.find?_toList] at e;unfold Z6;rw[hd];dsimp only;split
 .rename_i y q
  rw[q] at e;exact congrArg U e
 .rename_i q
  rw[q] at e
  let a:es.toList.any (·.refKey)=ι:=by
   rw[Yh];ext y hy;let⟨z,t,xT⟩:=hk y (Array.mem_toList_iff.mp hy);simp[DictEntry.refKey,xT]
  let a':¬ es.toList.any (·.refKey)=θ:=by rw[a];exact WQ
  rw[Vw a'];calc congrArg U e
theorem iF.look{h:Α}{x dx C:M}{mA:R->Option O}(I:iF h x dx C mA):∃od,PySem.W.InstAt h x (Yl C dx) C (U od)/\∀name,Z6 name od=U (mA name) :=
 let⟨od,ho,hl⟩:=LA I.ns
 ⟨od,⟨I.obj,Y,Y,ho⟩,hl⟩
section
variable{prog:l}{w:g}{A:q}{E:bg}{s:B}{K:El}{x dx C f:M}{mA:R->Option O}{name:R}{v:O}
theorem LB{expr:Bool}{Q:bg}(X:K.In s.heap)(I:iF s.heap x dx C mA)(hg:ZL K C name=θ)(hh:q0h K C=θ)
  (ha:Xx K (.ref C) name=U Z) (hv:mA name=U v) (uU:q2i v=θ) (h:Q v {s with toks:=s.toks+1}) :
  L (G prog w) A (getAttr (.ref x) name expr) Q E s:=by
 let⟨od,J,hl⟩:=I.look;calc PySem.W.get_value X J (ZW hg).1 (PySem.W.findObj_own hh ha Y (by rw[hl,hv])) uU h
theorem LC{pl:Sem Bool}{Q:O×-O->B->Prop}(X:K.In s.heap)(I:iF s.heap x dx C mA)(hg:ZL K C name=θ)
  (hf:Xx K (.ref C) name=U (U (.ref f))) (ht:q0E K (.ref f)=θ) (hv:mA name=Z) (h:Q (.ref f,[.ref x]) s) :
  L (G prog w) A (getMethod (.ref x) name pl) Q E s:=by
 let⟨od,J,hl⟩:=I.look;calc PySem.W.method_fn X J (ZW hg).1 (ZW hg).2 hf (q0F.mp ht) (by show(Z6 name od).map (·.isSome)=U ι;rw[hl,hv];rfl) h
theorem LF{ns:-R}{Q:Unit->B->Prop}(X:K.In s.heap)(I:iF s.heap x dx C mA)
  (hs:Xx K (.ref C) "__setattr__" = U (U (.builtin "object.__setattr__"))) (hp:q1Q K C=θ) (ht:q0Q K C name=U Z) (hh:q0h K C=θ)
  (hw:q1O mA ns) (hsz:↑ns<=sizeLine)
  (h:∀h',iF h' x dx C (λy=>if y=name then U v else mA y)->Za dx s.heap h'->Q () {s with heap:=h',toks:=s.toks+2}) :
  L (G prog w) A (setAttr (.ref x) name v) Q E s:=by
 let⟨od,J,hl⟩:=I.look;calc PySem.W.set_plain X J hs (PySem.W.osa_open (s:={s with toks:=s.toks+1}) (r:=none) X J hp ht λb=>?_);let⟨cd,hc,ph⟩:=PySem.W.any_some hh;let hx:s.heap.get? x=U ⟨.ref C,U dx,.plain,#[]⟩:=I.obj;calc qL (MK (qL (qL (wpAny_loadPart hx (qL (PySem.W.Looks.here (s:={s with toks:=s.toks+1}) (PySem.W.looks_clsIn X hc) ?_))))));rw[ph];calc MK (a:=U dx) (qL (MK (qL ?_)));calc wpAny_nsSet1 (s:={s with toks:=s.toks+1}) I.ns λh' uV d6=>?_;let⟨oD,Vn,Vo,LH,LI,LL⟩:=uV.count (PySem.Within.cons name v hw);refine qL (wpAny_lookBehind LH (by rw[LI];calc pastItsLine_dict (WU LL (by rw[Em];symm))) ?_)
 calc MK (h _ ⟨(d6.2 _ (YN I.ne)).trans I.obj,uV,I.ne⟩ d6)
theorem LM{R:Result->B->Prop}{vs:-O}{kw:-(π×O)}(X:K.In s.heap)(hm:q2B K C=θ)
  (hi:Xx K (.ref C) "__init__" = U (U (.ref f))) (hf:PySem.W.typeIn K (.ref f)=U (.type "function"))
  (h:codeAny (G prog w) (A.under (.builtin "type.__call__" ⟨.ref C::vs,kw⟩)) (.call (.ref f) ⟨.ref (⇑s+1)::vs,kw⟩) (PySem.W.InitBack (⇑s+1) R)
   {s with heap:=(s.heap.push XF).push (Yl C ⇑s)}) :
  codeAny (G prog w) A (.call (.ref C) ⟨vs,kw⟩) R s:=by
 let⟨hh,g,d,t,os⟩:=s;calc PySem.W.make_core (PySem.W.makes_of X hm) (PySem.W.looks_findIn X hi) (λself=>PySem.W.bind_fn X self hf) (.inl Y) h
end
noncomputable def cE(f:R)(v:V):-(R×V)->-(R×V)
 |[]=>[(f,v)]
 |(g,x)::r=>if g=f then(g,v)::r else(g,x)::cE f v r
theorem DN(f g:R)(v:V):∀fs:-(R×V),(cE f v fs).lookup g=if g=f then U v else fs.lookup g
 |[]=>by
  show YL g [(f,v)]=_
  by_cases h:g=f
  .let hb:(g==f)=θ:=q0F.mpr h
   erw[YL,hb,Wm h]
  .let hb:(g==f)=ι:=YF.mpr h
   erw[YL,hb,Vw h]
 |(k,x)::r=>by
  let ih:=DN f g v r;rw[show cE f v ((k,x)::r)=(if k=f then(k,v)::r else(k,x)::cE f v r) from Y]
  by_cases hk:k=f
  .rw[Wm hk]
   by_cases h:g=k
   .let hb:(g==k)=θ:=q0F.mpr h
    erw[YL,hb,Wm (h.trans hk)]
   .let hb:(g==k)=ι:=YF.mpr h
    erw[YL,hb,Vw (λe:g=f=>h (e.trans hk.symm))]
  .rw[Vw hk]
   by_cases h:g=k
   .let hb:(g==k)=θ:=q0F.mpr h
    erw[YL,hb,Vw (λe:g=f=>hk (h.symm.trans e))]
   .let hb:(g==k)=ι:=YF.mpr h
    erw[YL,hb];calc ih
theorem xU(f:R)(v:V):∀fs:-(R×V),f∈(cE f v fs).map (·.1)/\∀g,g∈fs.map (·.1)->g∈(cE f v fs).map (·.1)
 |[]=>⟨by simp[cE],λg h=>by simp at h⟩
 |(k,x)::r=>by
  let⟨i1,i2⟩:=xU f v r;rw[show cE f v ((k,x)::r)=(if k=f then(k,v)::r else(k,x)::cE f v r) from Y]
  by_cases hk:k=f
  .rw[Wm hk]
   subst hk;exact⟨by simp,λg h=>by simpa using h⟩
  .rw[Vw hk]
   refine⟨?_,λg h=>?_⟩
   .rw[Wx]
    exact Vu _ i1
   .rw[Wx] at h ⊢
    rcases MN.mp h with e|e
    .exact MN.mpr (.inl e)
    .calc Vu _ (i2 g e)
theorem DO(f:R)(v:V):∀fs:-(R×V),↑(cE f v fs)<=fs.length+1
 |[]=>by simp[cE]
 |(k,x)::r=>by
  let ih:=DO f v r;rw[show cE f v ((k,x)::r)=(if k=f then(k,v)::r else(k,x)::cE f v r) from Y]
  by_cases hk:k=f
  .rw[Wm hk,Em,Em];symm
  .rw[Vw hk,Em,Em];symm
theorem d5.some_of{v:V}{o:Option O}(r:d5 (U v) o):∃u,o=U u/\RelV v u:=by
 cases o with
 |none=>exact(show False from r).elim
 |some u=>calc⟨u,Y,r⟩
theorem d5.none_of{o:Option O}(r:d5 Z o):o=Z:=by
 cases o with
 |none=>rfl
 |some u=>calc(show False from r).elim
theorem LN{v:V}{u:O}(r:RelV v u):q2i u=θ:=by
 cases v with
 |non=>cases(show u=WN from r);rfl
 |bl b=>cases(show u=Y7 b from r);rfl
 |int i=>let⟨t,e⟩:=(show ∃t,u=YY i t from r);cases e;rfl
 |str x=>let⟨t,e⟩:=(show ∃t,u=q1b x t from r);cases e;rfl
 |byt b=>let⟨t,e⟩:=(show ∃t,u=Value.bytes b t from r);cases e;rfl
 |flt b=>let⟨t,e⟩:=(show ∃t,u=q2w b t from r);cases e;rfl
 |ref a=>cases(show u=W5 a from r);rfl
 |ty n=>cases(show u=Z3 n from r);rfl
section
variable{P:l}{w:g}{H H':Hp}{h h':I}{a C dx:M}{fs Kn:-(R×V)}
theorem uW(aX:dW P w H h)(e:H a=U (.ins C dx fs)):∃mA,iF h a dx C mA/\(∀f,d5 (fs.lookup f) (mA f))/\q1O mA (fs.map (·.1))/\fs.length<=1000/\H dx=U (.own a):=by
 let⟨d,z,ne,ob,mA,n,r,q⟩:=(show aU P w H h a (.ins C dx fs) from aX a _ e);calc⟨mA,⟨ob,n,ne⟩,r,q,z,d⟩
end
structure g9(K:El)(C:M):Prop where
 pg:ZL K C Str.empty=θ
 hd:q0h K C=θ
 po:q1Q K C=θ
 sa:Xx K (.ref C) "__setattr__" = U (U (.builtin "object.__setattr__"))
theorem g9.get{K:El}{C:M}(c:g9 K C)(f:R):ZL K C f=θ:=c.pg
def cx(K:El)(C:M)(f:R):Prop:=Xx K (.ref C) f=U Z
theorem cx.sk{K:El}{C:M}{f:R}(n:cx K C f):q0Q K C f=U Z:=by
 unfold q0Q;rw[show Xx K (.ref C) f=U Z from n];rfl
structure Meth(K:El)(C:M)(m:R)(f:M):Prop where
 at_:Xx K (.ref C) m=U (U (.ref f))
 fn:q0E K (.ref f)=θ
 kp:Xy K (.ref f)=θ
section
variable{X:Cx}{pins:aC}{σ:St}{H:Hp}{s:B}{a C dx:M}{fs:-(R×V)}{f:R}{v:V}{A:q}{E:bg}
theorem LO{b:Bool}{Q:bg}(I:Inv X pins σ H s)(e:H a=U (.ins C dx fs))(c:g9 X.K C)(n:cx X.K C f)(l:fs.lookup f=U v)
  (h:∀u s',Inv X pins σ H s'->RelV v u->Q u s'):L (G X.prog X.w) A (getAttr (.ref a) f b) Q E s:=by
 let⟨mA,O,r,_,_,_⟩:=uW I.aX e;let⟨u,hu,ru⟩:=d5.some_of (v:=v) (o:=mA f) (by rw[<-l];calc r f);calc LB I.eX O (c.get f) c.hd n hu (LN ru) (h u _ (I.tok _) ru)
theorem DP{m:R}{g:M}{pl:Sem Bool}{Q:ν×-ν->B->Prop}(I:Inv X pins σ H s)(e:H a=U (.ins C dx fs))(c:g9 X.K C)(k:Meth X.K C m g)(l:fs.lookup m=Z)
  (h:Q (.ref g,[.ref a]) s):L (G X.prog X.w) A (getMethod (.ref a) m pl) Q E s:=by
 let⟨mA,O,r,_,_,_⟩:=uW I.aX e;let hn:mA m=Z:=d5.none_of (by rw[<-l];calc r m);calc LC I.eX O (c.get m) k.at_ k.fn hn h
theorem LP{y:V}{u:ν}{Q:Unit->B->Prop}(I:Inv X pins σ H s)(e:H a=U (.ins C dx fs))(c:g9 X.K C)(n:cx X.K C f)(hl:fs.length<1000)(ry:RelV y u)
  (h:∀s',Inv X pins σ (upd H a (.ins C dx (cE f y fs))) s'->Q () s'):L (G X.prog X.w) A (setAttr (.ref a) f u) Q E s:=by
 let⟨mA,O,r,wi,_,ho⟩:=uW I.aX e;let hz:↑(fs.map (·.1))<=sizeLine:=by rw[pN,Xg];symm
 calc LF I.eX O c.sa c.po n.sk c.hd wi hz λh' O' sb=>h _ ?_;let hd:∃o,h'.get? dx=U o:=let⟨o,_,_,e',_⟩:=O'.ns;⟨o,e'⟩;calc I.write (x:=a) (e:=dx) (by rw[e];calc Yz) (.inr ho) (λb q hb z=>(sb.2 b hb).trans z) hd ?_;refine⟨by rw[aZ O.ne];calc ho,?_,O.ne,O'.obj,_,O'.ns,λg=>?_,λg hg=>?_⟩
 .let:=DO f y fs;symm
 .show d5 ((cE f y fs).lookup g) (if g=f then U u else mA g)
  rw[DN]
  by_cases q:g=f
  .rw[Wm q,Wm q];exact ry
  .rw[Vw q,Vw q];exact r g
 .by_cases q:g=f
  .rw[q];exact(xU f y fs).1
  .refine (xU f y fs).2 g (wi g λz=>hg ?_)
   show(if g=f then U u else mA g)=Z;rw[Vw q];calc z
theorem Inv.made(I:Inv X pins σ H s):Inv X pins σ (upd (upd H ⇑s (.own (⇑s+1))) (⇑s+1) (.ins C ⇑s []))
  {s with heap:=(s.heap.push XF).push (Yl C ⇑s)}:=by
 let e1:(s.heap.push XF).get? ⇑s=U XF:=Vt s.heap Y
 let e2:((s.heap.push XF).push (Yl C ⇑s)).get? (⇑s+1)=U (Yl C ⇑s):=by
  let:=Vt (s.heap.push XF) (o:=Yl C ⇑s) Y
  rwa [Xo] at this
 let e3:(s.heap.push XF).Ns ⇑s (λ_=>Z):=⟨XF,#[],_,e1,Y,(λe he=>absurd he (by simp)),λ_=>Y⟩;let I1:=I.laid (a:=s.heap.objs.size) (o:=.own (⇑s+1)) (h':=s.heap.push XF) (t':=s.toks) (λb u q=>u6 _ q) (Ek _) ⟨_,e1⟩;calc I1.laid (a:=⇑s+1) (o:=.ins C ⇑s []) (t':=s.toks) (λb u q=>u6 _ q) (ZY (Xo _ _)) ?_;let ne:⇑s≠⇑s+1:=Wv (YG _);calc⟨by rw[aZ ne,b_],W8 _,ne,e2,λ_=>Z,(Heap.Ns1.of_empty e3).at λo q=>u6 _ q,λ_=>Yz,λy hy=>absurd Y hy⟩
theorem LQ{prog:l}{w:g}{env:t}{e:J}{f:R}{pos:y}{s:B}{Q:bg}(hb:attributeBase e f env (eval e env)=eval e env)
  (h:L (G prog w) A (eval e env) (λo s₁=>L (G prog w) A (getAttr o f θ) Q E s₁) E s):L (G prog w) A (eval (.Attribute e f pos) env) Q E s :=
 Attribute_any_ h (by rw[arm_eval_Attribute,hb])
end
def xV(K:El)(ta:TE)(f:R):TE:=fun σ H Q=>ta σ H λx H1=>∃a C dx fs v,x=.ref a/\H1 a=U (.ins C dx fs)/\g9 K C/\cx K C f/\fs.lookup f=U v/\Q v H1
def xW(K:El)(ta tv:TE)(f:R):TS:=λD σ H=>tv σ H λy H1=>ta σ H1 λx H2=>∃a C dx fs,x=.ref a/\H2 a=U (.ins C dx fs)/\g9 K C/\cx K C f/\fs.length<1000 ∧
 D.nx σ (upd H2 a (.ins C dx (cE f y fs)))
section
variable{X:Cx}{o e value:J}{f:R}{pos pos' xX:y}{ta tv:TE}
theorem LR(he:JE X e ta)(hb:attributeBase e f X.env (eval e X.env)=eval e X.env):JE X (.Attribute e f pos) (xV X.K ta f):=by
 calc⟨?_⟩;ext pins s σ H Q I h;calc LQ hb (br (he pins s σ H _ I h) ?_);ext u s1 ⟨x,H1,I1,rx,a,C,dx,fs,v,ex,ea,c,n,l,q⟩;subst ex;obtain rfl:u=W5 a:=rx;calc LO I1 ea c n l λu' s2 I2 ru=>⟨v,H1,I2,ru,q⟩
theorem LU(ha:JE X o ta)(hv:JE X value tv)(hs:swapsWith value (U (.Attribute o f pos')) pos.line X.env=pure ι):JS X (.Assign [.Attribute o f pos'] value pos) (xW X.K ta tv f):=by
 calc⟨?_⟩;ext pins s σ H D I h;calc plainObj_wpAny_Assign_Attribute (br (hv pins s σ H _ I h) λu s1 ⟨y,H1,I1,ry,q⟩=>br (ha pins s1 σ H1 _ I1 q) λov s2 ⟨x,H2,I2,rx,a,C,dx,fs,ex,ea,c,n,l,q2⟩=>?_) hs;subst ex;obtain rfl:ov=W5 a:=rx;calc LP I2 ea c n l ry λs3 I3=>⟨σ,_,I3,q2⟩
end
section
variable{X:Cx}{pins:aC}{σ:St}{H:Hp}{s:B}{A:q}{E:bg}{Q:bg}{c:O}{b:Bool}
inductive d9 (K:El) (H:Hp):V->O->Prop where
 |non:d9 K H .non (.type "NoneType")
 |bl (x:Bool):d9 K H (.bl x) (.type "bool")
 |int (i:Int):d9 K H (.int i) (.type "int")
 |str (x:R):d9 K H (.str x) (.type "str")
 |flt (x:UInt64):d9 K H (.flt x) (.type "float")
 |lst {a:M} {xs:-V} (e:H a=U (.lst xs)):d9 K H (.ref a) (.type "list")
 |frz {a:M} {o:Γ} {xs:-V} (e:H a=U (.frz o (.lst xs))):d9 K H (.ref a) (.type "list")
 |tup {a:M} {xs:-V} (e:H a=U (.tup xs)):d9 K H (.ref a) (.type "tuple")
 |dK {a:M} {kvs:-(Key×V)} (e:H a=U (.dK kvs)):d9 K H (.ref a) (.type "dict")
 |dT {a:M} {kvs:-(-Key×V)} (e:H a=U (.dT kvs)):d9 K H (.ref a) (.type "dict")
 |ins {a C dx:M} {fs:-(R×V)} (e:H a=U (.ins C dx fs)) (cl:g9 K C) (ha:Xx K (.ref C) "__class__" = U (U (.builtin "object.__class__")))
   (hn:PySem.W.specialIn K (.builtin "object.__class__") "__get__" = U (U (.builtin "getset_descriptor.__get__"))) (DQ:PySem.W.takesIn K (.builtin "object.__class__")=U θ)
   (hm:PySem.W.mroIn K C (.type "object")=U θ):d9 K H (.ref a) (.ref C)
theorem LV{x:V}{u t:ν}(I:Inv X pins σ H s)(rx:RelV x u)(ty:d9 X.K H x t)(e:Xp X.K t c=U b)(h:∀tk,Q (.bool b) {s with toks:=tk}):
  L (G X.prog X.w) A (call (.builtin "isinstance") [u,c]) Q E s:=by
 cases ty with
 |non=>cases(show u=WN from rx);exact Xz PySem.W.kitx_none I.eX Yz e (λz=>nomatch z) h
 |bl y=>cases(show u=Y7 y from rx);exact Xz PySem.W.kitx_bool I.eX Yz e (λz=>nomatch z) h
 |int i=>let⟨t,q⟩:=(show ∃t,u=YY i t from rx);cases q;exact Xz PySem.W.kitx_int I.eX Yz e (λz=>nomatch z) h
 |str y=>let⟨t,q⟩:=(show ∃t,u=q1b y t from rx);cases q;exact Xz PySem.W.kitx_str I.eX Yz e (λz=>nomatch z) h
 |flt y=>let⟨t,q⟩:=(show ∃t,u=q2w y t from rx);cases q;exact Xz PySem.W.kitx_float I.eX Yz e (λz=>nomatch z) h
 | @lst a xs ea =>
  cases(show u=W5 a from rx)
  let⟨_,_,n,_,h1⟩:=(show aU X.prog X.w H s.heap a (.lst xs) from I.aX a _ ea);exact Xz q1R I.eX ⟨_,h1,Y⟩ e (λz=>nomatch z) h
 | @frz a ob xs ea =>
  cases(show u=W5 a from rx)
  let⟨_,_,_,n,_,h1⟩:=(show aU X.prog X.w H s.heap a (.frz ob (.lst xs)) from I.aX a _ ea);exact Xz q1R I.eX ⟨_,h1,Y⟩ e (λz=>nomatch z) h
 | @tup a xs ea =>
  cases(show u=W5 a from rx)
  let⟨_,_,_,p⟩:=(show aU X.prog X.w H s.heap a (.tup xs) from I.aX a _ ea);let⟨o,h1,h2,_⟩:=p;exact Xz PySem.W.kitx_tuple I.eX ⟨o,h1,h2⟩ e (λz=>nomatch z) h
 | @dK a kvs ea =>
  cases(show u=W5 a from rx)
  let⟨_,_,vs,_,p⟩:=(show aU X.prog X.w H s.heap a (.dK kvs) from I.aX a _ ea);let⟨o,es,ep,h1,h2,_⟩:=p;exact Xz q1S I.eX ⟨o,h1,h2.1⟩ e (λz=>nomatch z) h
 | @dT a kvs ea =>
  cases(show u=W5 a from rx)
  let⟨_,_,xs,_,o,es,ep,h1,h2,_⟩:=(show aU X.prog X.w H s.heap a (.dT kvs) from I.aX a _ ea);exact Xz q1S I.eX ⟨o,h1,h2.1⟩ e (λz=>nomatch z) h
 | @ins a C dx fs ea cl ha hn DQ hm =>
  cases(show u=W5 a from rx)
  let⟨mA,O,_⟩:=uW I.aX ea;let⟨od,J,_⟩:=O.look;calc Xz (PySem.W.kitx_own (cl.get _) cl.hd ha hn DQ hm) I.eX J e (λz=>nomatch z) h
end
structure aY(k:Nat)(A:q):Prop where
 hd:A.handled=Z
 dp:A.depth+3*k+5<recursionLimit
 un:A.units+16*k+200<cLine
 gd:A.guards=U []
theorem aY.mono{j k:Nat}{A:q}(r:aY k A)(h:j<=k):aY j A:=⟨r.hd,by let:=r.dp;symm,by let:=r.un;symm,r.gd⟩
theorem aY.deeper{k:Nat}{A:q}(r:aY (k+1) A)(env:t):aY k (A.deeper env) :=
 ⟨r.hd,by let:=r.dp;show A.depth+1+3*k+5<_;symm,by let:=r.un;show A.units+3+16*k+200<_;symm,r.gd⟩
theorem aY.in1{k:Nat}{A:q}(r:aY (k+1) A):aY k A.in1 :=
 ⟨r.hd,by let:=r.dp;show A.depth+3*k+5<_;symm,by let:=r.un;show A.units+1+16*k+200<_;symm,r.gd⟩
theorem LW{A:q}{C:M}{us:-O}{kw:-(R×O)}:(A.under (.builtin "type.__call__" ⟨.ref C::us,kw⟩)).depth=A.depth+1:=by
 first|rfl|simp[q1T,Code.weight,Code.isCreation,Code.isGuard,Code.isCaller,Code.frames,q1U,guardIds]
theorem LX{A:q}{C:M}{us:-O}{kw:-(R×O)}:(A.under (.builtin "type.__call__" ⟨.ref C::us,kw⟩)).units=A.units+1:=by
 first|rfl|simp[q1T,Code.cUnits,Code.frames,q1U]
theorem aY.make{k:Nat}{A:q}(r:aY (k+1) A)(C:M)(us:-O)(kw:-(R×O)):aY k (A.under (.builtin "type.__call__" ⟨.ref C::us,kw⟩)) :=
 ⟨r.hd,by let:=r.dp;rw[LW];symm,by let:=r.un;rw[LX];symm,r.gd⟩
theorem aY.depth{k:Nat}{A:q}(r:aY k A):A.depth<recursionLimit:=by let:=r.dp;symm
theorem aY.units{k:Nat}{A:q}(r:aY k A):A.units+64<cLine:=by let:=r.un;symm
def so:TA:=λ_ H Q=>Q [] H
def oy(ta:TE)(tr:TA):TA:=fun σ H Q=>ta σ H λx H1=>tr σ H1 λxs H2=>Q (x::xs) H2
section
variable{X:Cx}{e:J}{es:-J}{te:TE}{t:TA}{pos:y}
theorem cK:JA X [] so:=⟨λ_ _ _ _ H Q I h=>Calls.spliced_nil ⟨[],H,I,.nil,h⟩⟩
theorem jw(ha:JE X e te)(hr:JA X es t)(hs:‹cj X e es›):JA X (e::es) (oy te t):=by
 calc⟨?_⟩;ext pos pins s σ H Q I h;rw[hs];show L _ _ (spliced ((ι,eval e X.env)::backTo pos (starEach es X.env))) _ _ s;calc Calls.spliced_cons (br (ha pins s σ H _ I h) ?_);ext u s1 ⟨x,H1,I1,r1,q1⟩;calc br (hr pos pins s1 σ H1 _ I1 q1) λus s2 ⟨xs,H2,I2,r2,q2⟩↦⟨x::xs,H2,I2,.cons r1 r2,q2⟩
def xY(t:TA):TE:=fun σ H Q=>t σ H λxs H1=>↑xs<=sizeLine/\∀p,H1 p=Z->Q (.ref p) (upd H1 p (.tup xs))
def xZ(t:TA):TE:=fun σ H Q=>t σ H λxs H1=>↑xs<=sizeLine/\∀p,H1 p=Z->Q (.ref p) (upd H1 p (.lst xs))
theorem LY{x1}(h:JA X es t):JE X (.Tuple es x1 pos) (xY t):=by
 calc⟨?_⟩;ext pins s σ H Q I hq;calc wpAny_Tuple_spliced (br (h pos pins s σ H _ I hq) λus s1 ⟨xs,H1,I1,r,z,q⟩=>⟨by rw[<-↑r];calc z,?_⟩);let hf:H1 ⇑s1=Z:=I1.aX.fresh (Ek _);calc⟨.ref ⇑s1,upd H1 ⇑s1 (.tup xs),I1.laid (t':=s1.toks) (λb u e=>u6 _ e) (Ek _) ?_,Y,q _ hf⟩;calc⟨z,us,r,⟨_,Vt _ Y,Y,_,Y⟩⟩
theorem x4(h:JA X es t):JE X (.List es pos) (xZ t):=by
 calc⟨?_⟩;ext pins s σ H Q I hq;calc wpAny_List_spliced (br (h pos pins s σ H _ I hq) λus s1 ⟨xs,H1,I1,r,z,q⟩=>⟨by rw[<-↑r];calc z,?_⟩);let hf:H1 ⇑s1=Z:=I1.aX.fresh (Ek _);calc⟨.ref ⇑s1,upd H1 ⇑s1 (.lst xs),I1.laid (t':=s1.toks) (λb u e=>u6 _ e) (Ek _) ?_,Y,q _ hf⟩;calc⟨z,us,0,r,Vt _ Y⟩
end
abbrev Sp:=-V->Hp->VK->XK->Prop
abbrev j2:=-t->Hp->B->XK->O->B->Prop
structure iG(P:l)(w:g)(K:El)(mg:R->Option O)(base:I)(A:q)(outer:-t)(s:B)(H:Hp):Prop where
 frames:A.frames=U outer
 mod:Mod K mg base
 bs:∀b o,base.get? b=U o->s.heap.get? b=U o/\H b=Z
 l9:base.objs.size<=⇑s
 eI:s.heap.FunFrames base outer
 om:∀b∈jW outer,H b=Z
 aX:dW P w H s.heap
 bare:AllBare s.gens
def CE(outer:-t)(P:l)(w:g)(H:Hp)(s:B)(Q:VK)(u:O)(s':B):Prop :=
 ∃v H',s'.os=s.os/\AllBare s'.gens/\Un (jW outer) [] H H' s.heap s'.heap/\dW P w H' s'.heap/\RelV v u/\Q v H'
def CR(CX:j2)(outer:-t)(P:l)(w:g)(H:Hp)(s:B)(Q:VK)(E:XK)(r:Result)(s':B):Prop :=
 match r with
 |.ok (.ret u)=>CE outer P w H s Q u s'
 |.ok _=>False
 |.error e=>CX outer H s E e s'
structure bW(P:l)(w:g)(K:El)(mg:R->Option O)(base:I)(CX:j2)(k:Nat)(f:M)(fd:FuncData)(ps:-R)(sp:Sp):Prop where
 len:∀vs H Q E,sp vs H Q E->↑vs=↑ps
 run:∀(A:q)(outer:-t)(s:B)(H:Hp)(args:Args)(us:-O)(vs:-V)(Q:VK)(E:XK),aY k A->iG P w K mg base A outer s H->BindsTo s fd args (ps.zip us)->Vals vs us->sp vs H Q E →
  codeAny (G P w) A (.call (.ref f) args) (CR CX outer P w H s Q E) s
theorem iG.make{P:l}{w:g}{K:El}{mg:R->Option O}{base:I}{A:q}{outer:-t}{s:B}{H:Hp}(e:iG P w K mg base A outer s H)(C:M)(us:-O)(kw:-(R×O)):
  iG P w K mg base (A.under (.builtin "type.__call__" ⟨.ref C::us,kw⟩)) outer s H:=⟨by first|exact e.frames|(simpa[q1T,Code.envs,q1U,pushEnvs] using e.frames),e.mod,e.bs,e.l9,e.eI,e.om,e.aX,e.bare⟩
section
variable{X:Cx}{pins:aC}{σ:St}{H:Hp}{s s':B}
theorem Inv.pD(I:Inv X pins σ H s):iG X.prog X.w X.K X.mg X.base X.A X.stack s H :=
 ⟨I.ok.frames,I.ok.mod,I.bs,WU I.ok.l9 I.sz,I.stack,I.i8,I.aX,I.bare⟩
theorem Inv.after{Q:VK}{u:O}(I:Inv X pins σ H s)(h:CE X.stack X.prog X.w H s Q u s'):EP X pins σ Q u s':=by
 let⟨v,H',os,bare,un,aX,r,q⟩:=h;let⟨hh,g,d,t,xk⟩:=s';obtain rfl:xk=s.os:=os;calc⟨v,H',I.call (h':=hh) (g':=g) (d':=d) (t':=t) (ch:=[]) un aX bare (λb z=>absurd z (by simp)),r,q⟩
end
def x5(sp:Sp)(f9:-V)(E:XK)(t:TA):TE:=fun σ H Q=>t σ H λvs H1=>sp (vs++f9) H1 Q E
def x6(C:M)(m:R)(sp:Sp)(f9:-V)(E:XK)(ta:TE)(t:TA):TE:=fun σ H Q=>ta σ H λx H1=>∃a dx fs,x=.ref a/\H1 a=U (.ins C dx fs)/\fs.lookup m=Z ∧
 t σ H1 λvs H2=>sp (x::(vs++f9)) H2 Q E
def LZ(C:M)(sp:Sp)(f9:-V)(E:XK)(t:TA):TE:=fun σ H Q=>t σ H λvs H1=>∀x dx,H1 x=Z->H1 dx=Z->dx≠x →
 sp (.ref x::(vs++f9)) (upd (upd H1 dx (.own x)) x (.ins C dx [])) (λv H2=>v=.non/\Q (.ref x) H2) E
def Binds(K:El)(fd:FuncData)(ps:-R)(ds:-O):Prop :=
 ∀(s:B)(us:-O),K.In s.heap->↑(us++ds)=↑ps->BindsTo s fd ⟨us,[]⟩ (ps.zip (us++ds))
theorem Binds.all{K:El}{fd:FuncData}{ps:-R}(h:∀us:-O,↑us=↑ps->bindArgs fd ⟨us,[]⟩=pure (ps.zip us)):Binds K fd ps []:=λs us _ hl=>by
 rw[mE] at hl ⊢;calc .of_eq (h us hl)
def pE(CX:j2)(X:Cx)(E:XK):Prop:=∀(pins:aC)(σ:St)(H:Hp)(s:B)(e:O)(s':B),Inv X pins σ H s->CX X.stack H s E e s'->X.xe e s'
section
variable{X:Cx}{CX:j2}{k:Nat}{f C:M}{fd:FuncData}{ps:-R}{sp:Sp}{f9:-V}{ds:-O}{E:XK}{x m:R}{p pos apos:y}{e o:J}{es:-J}{ta:TE}{t:TA}
theorem x8{pins:aC}{σ:St}{H:Hp}{s:B}{Q:VK}{us:-O}{vs:-V}(F:bW X.prog X.w X.K X.mg X.base CX k f fd ps sp)(hr:aY k X.A)(hb:Binds X.K fd ps ds)(hd:Vals f9 ds)(hx:pE CX X E)
  (I:Inv X pins σ H s) (r:Vals vs us) (h:sp (vs++f9) H Q E):L (G X.prog X.w) X.A (call (.ref f) us) (EP X pins σ Q) X.xe s:=by
 let r2:Vals (vs++f9) (us++ds):=r.append hd;let hl:↑(us++ds)=↑ps:=by rw[<-↑r2];exact F.len _ _ _ _ h
 refine q1w (Zw (F.run X.A X.stack s H ⟨us,[]⟩ (us++ds) (vs++f9) Q E hr I.pD (hb s us I.eX hl) r2 h) λr s' hq=>?_)
 cases r with
 |error e=>exact hx pins σ H s e s' I hq
 |ok fl =>
  cases fl with
  |ret u=>exact I.after hq
  |next=>exact Xt hq
  |brk=>exact Xt hq
  |cont=>calc Xt hq
theorem uX(F:bW X.prog X.w X.K X.mg X.base CX k f fd ps sp)(hr:aY k X.A)(hg:Gl X x)(hm:X.mg x=U (.ref f))(hk:Xy X.K (.ref f)=θ)(hb:Binds X.K fd ps ds)(hd:Vals f9 ds)(hx:pE CX X E)
  (ha:JA X (e::es) t) (dP: ~~~(bV x)) (he:‹cj X e es›) (cR:‹cD X pos es›) :
  JE X (.Call (.Name x p) (e::es) [] pos) (x5 sp f9 E t):=by
 calc⟨?_⟩;ext pins s σ H Q I h;calc YO (xv I hg hm ?_ dP);calc Z7 (h₀:=X.base) I.ok.mod.ju hk (br (ha pos pins s σ H _ I h) λus s1 ⟨vs,H1,I1,r,q⟩=>⟨I1.eX,?_⟩) he cR;calc x8 F hr hb hd hx I1 r q
theorem L0 {pl:Sem Bool} (he:JE X o ta) (c:g9 X.K C) (hm:Meth X.K C m f) (F:bW X.prog X.w X.K X.mg X.base CX k f fd ps sp) (hr:aY k X.A) (hb:Binds X.K fd ps ds) (hd:Vals f9 ds) (hx:pE CX X E) (ha:JA X (e :: es) t)
  (iD:‹cj X e es›) (cR:‹cD X pos es›)
  (ht:‹eval (.Call (.Attribute o m apos) (e :: es) [] pos) X.env=(do
   let ov <- eval o X.env
   standAt apos.atName
   let (f,first) <- holding [ov] (getMethod ov m pl)
   callWith pos f first (backTo pos (starEach (e :: es) X.env)) (backToKw pos (keywordEach [] X.env)))›) :
  JE X (.Call (.Attribute o m apos) (e :: es) [] pos) (x6 C m sp f9 E ta t):=by
 calc⟨?_⟩;ext pins s σ H Q I h;calc q0Z (pl:=pl) (br (he pins s σ H _ I h) λu s1 ⟨x,H1,I1,rx,a,dx,fs,ex,ea,l,q⟩ => ?_) ht;subst ex;obtain rfl:u=W5 a:=rx;calc DP I1 ea c hm l ?_;calc Z7 (first:=[.ref a]) (h₀ := X.base) I.ok.mod.ju hm.kp (br (ha pos pins s1 σ H1 _ I1 q) λus s2 ⟨vs,H2,I2,r,q2⟩=>⟨I2.eX,?_⟩) iD cR;calc x8 (us := .ref a :: us) (vs := .ref a :: vs) F hr hb hd hx I2 (.cons Y r) q2
theorem L1 {pl:Sem Bool} (he:JE X o ta) (c:g9 X.K C) (hm:Meth X.K C m f) (F:bW X.prog X.w X.K X.mg X.base CX k f fd ps sp) (hr:aY k X.A) (hb:Binds X.K fd ps ds) (hd:Vals f9 ds) (hx:pE CX X E)
  (ht:‹eval (.Call (.Attribute o m apos) [] [] pos) X.env=(do
   let ov <- eval o X.env
   standAt apos.atName
   let (f,first) <- holding [ov] (getMethod ov m pl)
   callWith pos f first (backTo pos (starEach [] X.env)) (backToKw pos (keywordEach [] X.env)))›) :
  JE X (.Call (.Attribute o m apos) [] [] pos) (x6 C m sp f9 E ta so):=by
 calc⟨?_⟩;ext pins s σ H Q I h;calc q0Z (pl:=pl) (br (he pins s σ H _ I h) λu s1 ⟨x,H1,I1,rx,a,dx,fs,ex,ea,l,q⟩ => ?_) ht;subst ex;obtain rfl:u=W5 a:=rx;calc DP I1 ea c hm l ?_;calc PySem.W.callWith_K0 (first:=[.ref a]) I1.eX hm.kp (x8 (us:=[.ref a]) (vs:=[.ref a]) F hr hb hd hx I1 (.cons Y .nil) q)
structure Mk(K:El)(C f:M):Prop where
 makes:q2B K C=θ
 init:Xx K (.ref C) "__init__" = U (U (.ref f))
 fn:q0E K (.ref f)=θ
 kp:Xy K (.ref C)=θ
theorem L4{pins:aC}{σ:St}{H:Hp}{s:B}{Q:VK}{us:-O}{vs:-V}(M:Mk X.K C f)(F:bW X.prog X.w X.K X.mg X.base CX k f fd ps sp)(hr:aY (k+1) X.A)(hb:Binds X.K fd ps ds)(hd:Vals f9 ds)
  (hx:pE CX X E) (I:Inv X pins σ H s) (r:Vals vs us)
  (h:∀x dx,H x=Z->H dx=Z->dx≠x->sp (.ref x::(vs++f9)) (upd (upd H dx (.own x)) x (.ins C dx [])) (λv H2=>v=.non/\Q (.ref x) H2) E) :
  L (G X.prog X.w) X.A (call (.ref C) us) (EP X pins σ Q) X.xe s:=by
 let hq:=h (⇑s+1) ⇑s (I.aX.fresh (ZR _)) (I.aX.fresh (Ek _)) (Wv (YG _));let I2:=Inv.made (C:=C) I;let r2:Vals (V.ref (⇑s+1)::(vs++f9)) (W5 (⇑s+1)::(us++ds)):=.cons Y (r.append hd)
 let hl:↑(W5 (⇑s+1)::us++ds)=↑ps:=by
  let e:=↑r2;rw[F.len _ _ _ _ hq] at e;exact e.symm
 refine q1w (LM (f:=f) I.eX M.makes M.init (q0F.mp M.fn) (Zw (F.run _ X.stack _ _ ⟨W5 (⇑s+1)::us,[]⟩ (W5 (⇑s+1)::(us++ds)) _ _ E (hr.make C us [])
  (I2.pD.make C us []) (hb _ (W5 (⇑s+1)::us) I2.eX hl) r2 hq) λr s' oz=>?_))
 cases r with
 |error e=>exact hx pins σ _ _ e s' I2 oz
 |ok fl =>
  cases fl with
  |ret u =>
   let⟨v,H',I3,rv,ev,q3⟩:=I2.after oz;subst ev;exact⟨rv,⟨V.ref (⇑s+1),H',I3,Y,q3⟩⟩
  |next=>exact Xt oz
  |brk=>exact Xt oz
  |cont=>calc Xt oz
theorem L5(M:Mk X.K C f)(F:bW X.prog X.w X.K X.mg X.base CX k f fd ps sp)(hr:aY (k+1) X.A)(hg:Gl X x)(hm:X.mg x=U (.ref C))(hb:Binds X.K fd ps ds)(hd:Vals f9 ds)(hx:pE CX X E)
  (ha:JA X (e::es) t) (dP: ~~~(bV x)) (he:‹cj X e es›) (cR:‹cD X pos es›) :
  JE X (.Call (.Name x p) (e::es) [] pos) (LZ C sp f9 E t):=by
 calc⟨?_⟩;ext pins s σ H Q I h;calc YO (xv I hg hm ?_ dP);calc Z7 (h₀:=X.base) I.ok.mod.ju M.kp (br (ha pos pins s σ H _ I h) λus s1 ⟨vs,H1,I1,r,q⟩=>⟨I1.eX,?_⟩) he cR;calc L4 M F hr hb hd hx I1 r q
end
section
variable{X:Cx}{CX:j2}{k:Nat}{f C:M}{fd:FuncData}{ps ks:-R}{sp:Sp}{E:XK}{x m:R}{p pos apos iH:y}{e o:J}{es:-J}{Vp:-Keyword}{te ta:TE}{t tk:TA}{nm:Option R}
variable{g:-O->-O->-O}{gV:-V->-V->-V}
end
structure mx(N P:-R)(sc:a):Prop where
 kind:sc.kind=.function
 co:sc.isCoroutine=ι
 gen:sc.isGenerator=ι
 nd:N.Nodup
 pre:N.take ↑P=P
 par:∀x∈P,sc.names.lookup x=U .local\/sc.names.lookup x=U .cell
 pF:∀y∈sc.names,y.2≠.free
theorem DR{kindOf:R->Option NameKind}{x:R}:∀{binds:-(R×O)}{m:R->Option O},(∀v,(x,v)∉binds)->bindL kindOf binds m x=m x
 |[],_,_=>Y
 |(n,v)::r,m,h=>by
  unfold bindL;rw[DR λw hw=>h w (Vu _ hw)];split
  .let:x≠n:=by ext rfl;exact h v Wo
   simp[this]
  .rfl
theorem DT{kindOf:R->Option NameKind}{x:R}:∀{binds:-(R×O)}{m:R->Option O},(∀v,(x,v)∉binds)->bindC kindOf binds m x=m x
 |[],_,_=>Y
 |(n,v)::r,m,h=>by
  unfold bindC;rw[DT λw hw=>h w (Vu _ hw)];split
  .rfl
  .let:x≠n:=by ext rfl;exact h v Wo
   simp[this]
theorem DU{kindOf:R->Option NameKind}{x:R}{v:O}:∀{P:-R}{vs:-O}{i:Nat}{m:R->Option O},P.Nodup->P[i]?=U x->vs[i]?=U v->kindOf x=U .local →
  bindL kindOf (P.zip vs) m x=U v
 |[],_,_,_,_,h,_,_=>by simp at h
 |_::_,[],_,_,_,_,h,_=>by simp at h
 |p::P,w::vs,0,m,nd,h1,h2,hk=>by
  simp at h1 h2;subst h1;subst h2;show bindL kindOf ((p,w)::P.zip vs) m p=_;unfold bindL;rw[DR λv hv=>(YS.mp nd).1 (q0R hv).1,Wm hk];simp
 |p::P,w::vs,i+1,m,nd,h1,h2,hk=>by
  show bindL kindOf ((p,w)::P.zip vs) m x=_;unfold bindL;calc DU (i:=i) (YS.mp nd).2 h1⁻¹ h2⁻¹ hk
theorem DW{kindOf:R->Option NameKind}{x:R}{v:O}:∀{P:-R}{vs:-O}{i:Nat}{m:R->Option O},P.Nodup->P[i]?=U x->vs[i]?=U v->kindOf x≠U .local →
  bindC kindOf (P.zip vs) m x=U v
 |[],_,_,_,_,h,_,_=>by simp at h
 |_::_,[],_,_,_,_,h,_=>by simp at h
 |p::P,w::vs,0,m,nd,h1,h2,hk=>by
  simp at h1 h2;subst h1;subst h2;show bindC kindOf ((p,w)::P.zip vs) m p=_;unfold bindC;rw[DT λv hv=>(YS.mp nd).1 (q0R hv).1,Vw hk];simp
 |p::P,w::vs,i+1,m,nd,h1,h2,hk=>by
  show bindC kindOf ((p,w)::P.zip vs) m x=_;unfold bindC;calc DW (i:=i) (YS.mp nd).2 h1⁻¹ h2⁻¹ hk
noncomputable def start(N:-R)(vs:-V):St:=vs.map U++Vv (↑N-↑vs) Z
noncomputable def eK(CX:j2)(P:l)(w:g)(K:El)(mg:R->Option O)(base:I)(N:-R)(qual:R)(scope:a)(f:M)(cd:O)(A:q)(outer:-t)(s:B)(H:Hp)(E:XK):Cx where
 prog:=P
 w:=w
 K:=K
 mg:=mg
 base:=base
 A:=A.deeper (envOfC qual scope ⇑s f cd)
 N:=N
 s₀:=s
 H₀:=H
 env:=envOfC qual scope ⇑s f cd
 outer:=outer
 stack:=envOfC qual scope ⇑s f cd::outer
 ex:=[]
 calm:=true
 fn:=λ_=>θ
 pn:=[]
 xe:=λe s'=>L (G P w) (A.deeper (envOfC qual scope ⇑s f cd)) (leaving (envOfC qual scope ⇑s f cd) e) (λ_ iI=>CX outer H s E e iI) (λe' iI=>CX outer H s E e' iI) s'
theorem DX{sc:a}{n:Nat}{x:R}(h:sc.names.lookup x=U .cell):∃c,(cellsFrom n sc.names []).lookup x=U c:=by
 let q:=Zx sc.names n [] (.inl h);calc q0o.mp q
theorem L6{CX:j2}{P:l}{w:g}{K:El}{mg:R->Option O}{base:I}{N ps:-R}{qual:R}{scope:Δ}{f:M}{cd:O}{A:Β}{outer:-t}{s s1:B}{H:Hp}{E:XK}{us:-O}{vs:-V}
  (S:mx N ps scope) (hd:A.handled=Z) (e0:iG P w K mg base A outer s H) (hl:↑vs=↑ps) (r:Vals vs us)
  (x:InCallC s ⇑s (bindL (envOfC qual scope ⇑s f cd).kindOf (ps.zip us) λ_=>Z) (cellsFrom (⇑s+1) scope.names []) (bindC (envOfC qual scope ⇑s f cd).kindOf (ps.zip us) λ_=>Z) s1) :
  Inv (eK CX P w K mg base N qual scope f cd A outer s H E) [] (start N vs) H s1:=by
 let cR:↑ps<=↑N:=by let:=congrArg List.length S.pre;rw[WM] at this;symm
 let⟨h1,tk,rfl,hk⟩:=x.done;let my:∀b:M,b∉(eK CX P w K mg base N qual scope f cd A outer s H E).ex:=λb z=>absurd (show b∈([]:-M) from z) (by simp)
 refine⟨⟨e0.mod,S.kind,Y,Y,Ek _,λy z c h1 h2=>?_,λy hy=>?_,λy c _ h=>?_,λ_=>hd,q06 e0.frames,.inr ⟨Y,Y⟩,λb z=>absurd z (my b),e0.bs,e0.l9,λb _ _=>my b,λb z=>absurd z (my b),e0.eI,e0.om⟩,
  Y,e0.bare,Un.kept hk,⟨_,x.toInCall.ns,λi y v h1 h2 h3=>?_⟩,λy c h=>⟨_,x.cell y c h⟩,e0.aX.fresh (Ek _),λy c h=>?_,λp hp=>absurd (show p∈([]:aC) from hp) (by simp),e0.aX.kept hk,?_⟩
 .exact name_of_addr x.apart (Xr h1) (Xr h2)
 .let hy:scope.names.lookup y=U .cell\/scope.names.lookup y=U .free:=hy
  rcases hy with hy|hy
  .exact DX hy
  .exact absurd Y (S.pF _ (Xr hy))
 .exact X0 (x.above y c (Xr h))
 .let hi:i<↑vs:=by
   unfold start at h2
   by_cases hi:i<↑vs
   .exact hi
   .rw[Vs hi⁻¹] at h2
    rw[Zp] at h2;split at h2<;>cases h2
  let ha:vs[i]?=U v:=by
   unfold start at h2;rw[ML hi⁻¹,My] at h2
   cases e:vs[i]? with
   |none=>rw[e] at h2;cases h2
   |some a=>rw[e] at h2;cases h2;rfl
  let⟨u,hu,rv⟩:=r.get ha
  let hp:ps[i]?=U y:=by
   rw[<-S.pre,WV ⋯];exact h1
  let DY:ps.Nodup:=by rw[<-S.pre];exact S.nd.sublist (List.take_sublist _ _)
  calc⟨u,rv,?_⟩;rcases S.par y (WR hp) with k|k
  .exact .inl ⟨k,DU DY hp hu k⟩
  .let⟨c,e⟩:=DX (n:=⇑s+1) k
   calc .inr ⟨.inl k,c,e,?_⟩;let q:=x.cell y c e;rw[DW DY hp hu (by show scope.names.lookup y≠_;rw[k];decide)] at q;exact q
 .exact e0.aX.fresh (X0 (x.above y c (Xr h)))
 .unfold start
  show _=↑N;rw[MJ,pN,ZH];symm
theorem DZ{CX:j2}{P:l}{w:g}{K:El}{mg:R->Option O}{base:Α}{k:Nat}{f:M}{name qual:R}{params:Arguments}{body:-χ}{scope:a}{dV kV doc pm bc ct oc:O}{an od:Option M}
  {mz:Array (Option O)} {N ps:-R} {sp:Sp} (lk:K.lookup f=U ⟨oc,od,.func (Xe name qual params body scope dV kV doc pm an bc ct),mz⟩) (gD:Y8 K bc qual=θ) (S:mx N ps scope)
  (len:∀vs H Q E,sp vs H Q E->↑vs=↑ps)
  (d_:∀(A:Β)(outer:-Ζ)(s:B)(H:Hp)(vs:-V)(Q:VK)(E:XK),aY k (A.deeper (envOfC qual scope ⇑s f bc))->sp vs H Q E →
   ∃t,dM (eK CX P w K mg base N qual scope f bc A outer s H E) body t/\t {nx:=λ_ H'=>Q .non H',rt:=Q} (start N vs) H) :
  bW P w K mg base CX (k+1) f (Xe name qual params body scope dV kV doc pm an bc ct) ps sp:=by
 calc⟨len,λA outer s H args us vs Q E hr e0 hb r oA=>?_⟩;let hl:=len _ _ _ _ oA;let KX:K.In s.heap:=e0.mod.ju.keeps λb o e=>(e0.bs b o e).1;let lim:s.heap.NoLimit:=e0.mod.nolimit.keeps λb o e=>(e0.bs b o e).1
 let su:∀y∈ps.zip us,scope.names.lookup y.1=U .local\/(scope.names.lookup y.1=U .cell/\((cellsFrom (⇑s+1) scope.names []).lookup y.1).isSome=θ):=λ⟨n,v⟩ hy↦by
  rcases S.par n (q0R hy).1 with q|q
  .exact .inl q
  .exact .inr ⟨q,Zx _ _ _ (.inl q)⟩
 calc codeAny_call_function hr.depth (KX _ _ lk) Y S.co S.gen Y (PySem.W.codeRec_of KX gD) (hb _ _ _ _ ?_);calc wpAny_newFunctionEnv_cells S.kind su λenv he s1 x=>?_;subst he;calc⟨lim.keeps x.toInCall.keep,codeAny_func ?_⟩;let⟨t,ht,hq⟩:=d_ A outer s H vs Q E (hr.deeper _) oA;let I:Inv (eK CX P w K mg base N qual scope f bc A outer s H E) [] (start N vs) H s1:=L6 S hr.hd e0 hl r x;refine Ym (ht [] s1 (start N vs) H _ I hq) (λfl s' hs=>?_) λe s' hs=>hs
 let fin:∀{σ':St}{H':Hp}{v:V}{u:O},Inv (eK CX P w K mg base N qual scope f bc A outer s H E) [] σ' H' s'->RelV v u->Q v H'->CE outer P w H s Q u s' :=
  λ{σ' H' v u} J rv q=>⟨v,H',J.os,J.bare,J.base,J.aX,rv,q⟩
 cases fl with
 |ret u =>
  let⟨v,σ',H',J,rv,q⟩:=hs;exact fin J rv q
 |next =>
  let⟨σ',H',J,q⟩:=hs;exact fin (v:=V.non) (u:=WN) J Y q
 |brk =>
  let⟨_,_,_,q⟩:=hs;exact Xt q
 |cont =>
  let⟨_,_,_,q⟩:=hs;calc Xt q
section
variable{X:Cx}{x:R}{p pos:y}{e:J}{es:-J}{t:TA}{id T:String}{r:-V->Hp->VK->Prop}
def uY(r:-V->Hp->VK->Prop)(t:TA):TE:=fun σ H Q=>t σ H λvs H1=>r vs H1 Q
theorem uZ(hc:gZ X (.builtin id) r)(hg:Gl X x)(hm:X.mg x=Z)(hv:bootBuiltins x=U (.builtin id))(ha:JA X (e::es) t)(hn:x≠"__name__" := by decide)(dP: ~~~(bV x))
  (he:‹cj X e es›) (cR:‹cD X pos es›):JE X (.Call (.Name x p) (e::es) [] pos) (uY r t):=by
 calc⟨?_⟩;ext pins s σ H Q I h;calc YO (mf I hg hm hv ?_ hn dP);calc PyProof.Rows.callWith_builtin1 (br (ha pos pins s σ H _ I h) λus s1 ⟨vs,H1,I1,r1,q1⟩↦hc pins s1 σ H1 vs us Q I1 r1 q1) he cR
theorem pG(hc:gZ X (.type T) r)(hg:Gl X x)(hm:X.mg x=Z)(hv:bootBuiltins x=U (.type T))(ha:JA X (e::es) t)(hn:x≠"__name__" := by decide)(dP: ~~~(bV x))
  (he:‹cj X e es›) (cR:‹cD X pos es›):JE X (.Call (.Name x p) (e::es) [] pos) (uY r t):=by
 calc⟨?_⟩;ext pins s σ H Q I h;calc YO (mf I hg hm hv ?_ hn dP);calc Xv (br (ha pos pins s σ H _ I h) λus s1 ⟨vs,H1,I1,r1,q1⟩↦hc pins s1 σ H1 vs us Q I1 r1 q1) he cR
end
end L2
namespace HT
open PySem PyProof.Rows
noncomputable def lexLt:-Int->-Int->Bool
 |[],[]=>ι
 |[],_::_=>θ
 |_::_,[]=>ι
 |x::xs,y::ys=>if x=y then lexLt xs ys else S (x<y)
theorem oB(x y:Int)(xs ys:-Int):lexLt (x::xs) (y::ys)=if x=y then lexLt xs ys else S (x<y):=rfl
theorem L7:lexLt [] []=ι:=rfl
theorem L8(y:Int)(ys:-Int):lexLt [] (y::ys)=θ:=rfl
theorem L9(x:Int)(xs:-Int):lexLt (x::xs) []=ι:=rfl
theorem L_(A:q)(s:B)(a:Int)(t:Tok)(c:Int)(u:Tok):∃e,q0D A s (.int a t) (.int c u) e/\(e=θ↔a=c) :=
 ⟨(a==c),q1A a t c u,by simp⟩
theorem Ma(A:q)(s:B)(a:Int)(t:Tok)(c:Int)(u:Tok)(prog:l)(w:g)(E:bg)(Q:bg)(h:Q (.bool (S (a<c))) s):
  L (G prog w) A (richCompare .Lt (.int a t) (.int c u)) Q E s :=
 (ZX h:L (G prog w) A (compareOp .Lt (.int a t) (.int c u)) Q E s)
section
open PySem.SeqAt
open PySem.AutoSeq1 (wpAny_loadPart')
open PySem.MeetsSeq PySem.MeetsSeq2 PySem.MeetsSeq3
theorem Mb(l b:M)(items cy:Array O)(n n2:Nat)(dd oC:Option M)(sl oE:Array (Option O))(ns ms:-Int)(hi:IntsAre items.toList ns)(hj:IntsAre cy.toList ms):
  Meets (Builtin.«tuple.__lt__» ⟨[.ref l,.ref b],[]⟩)
   (λ_ R s=>s.heap.get? l=U {cls:=.type "tuple",dict:=dd,data:=.seq items n,slots:=sl}/\s.heap.get? b=U {cls:=.type "tuple",dict:=oC,data:=.seq cy n2,slots:=oE} ∧
    R (.ok (.ret (.bool (lexLt ns ms)))) s) :=
 .of_wp λprog w A R s h=>by
  let⟨hp,g,d,tk,os⟩:=s;let⟨hl,hb,h⟩:=h;let f2:=AutoSeq1.sub_tuple_tuple;let z1:items.size=↑ns:=by rw[<-↑hi];simp
  let z2:cy.size=↑ms:=by rw[<-↑hj];simp
  wp_walk using XQ hl,XQ hb,q2g _ (λrest b s'=>b.1=Z/\s'=⟨hp,g,d,tk,os⟩/\∃(vs ws:-O)(bx qH:-Int),rest=vs.zip ws ∧
   IntsAre vs bx/\IntsAre ws qH/\↑bx+cy.size=↑qH+items.size/\R (.ok (.ret (.bool (lexLt bx qH)))) ⟨hp,g,d,tk,os⟩) _
  case turn =>
   ext⟨y,x⟩ rest b s' ⟨hb',rfl,vs,ws,bx,qH,hz,x9,u2,hlen,hR⟩
   cases x9 with
   |nil=>rw[Zy] at hz;cases hz
   |cons a t x_ =>
    cases u2 with
    |nil=>rw[q1B] at hz;cases hz
    |cons c u ya =>
     rw[YQ] at hz;injection hz with Mc sv;injection Mc with hy hx;subst hy hx;rw[oB] at hR;erw[Em] at hlen;let⟨e,he,sx⟩:=L_ A.in1 ⟨hp,g,d,tk,os⟩ a t c u;refine qL (he prog w _ _ ?_)
     cases e with
     |true =>
      rw[Wm (sx.mp Y)] at hR
      wp_walk
      exact⟨Y,Y,_,_,_,_,sv,x_,ya,⋯,hR⟩
     |false =>
      rw[Vw (λq=>absurd (sx.mpr q) WQ)] at hR;let Md:=Ma A.in1 ⟨hp,g,d,tk,os⟩ a t c u prog w
      wp_walk using Md
      exact⟨_,Y,by simpa using hR⟩
  case fin =>
   ext⟨b1,b2⟩ s' ⟨hb',rfl,vs,ws,bx,qH,hz,x9,u2,hlen,hR⟩;simp only at hb';subst hb'
   let hv:lexLt bx qH=S (items.size<cy.size):=by
    cases x9 with
    |nil =>
     cases u2 with
     |nil =>
      erw[YT] at hlen;rw[L7];exact(Wn ⋯).symm
     |cons c u hw =>
      erw[YT,Em] at hlen;rw[L8];exact(Wu ⋯).symm
    |cons a t hv =>
     cases u2 with
     |nil =>
      erw[YT,Em] at hlen;rw[L9];exact(Wn ⋯).symm
     |cons c u hw =>
      rw[YQ] at hz;cases hz
   rw[hv] at hR
   wp_walk
   exact⟨_,Y,by simpa[Builtin.Tuple.tupleCompareSizes] using hR⟩
  case h =>
   calc⟨Y,Y,items.toList,cy.toList,ns,ms,Y,hi,hj,⋯,h⟩
end
section
variable{prog:l}{w:g}{A:q}{E:bg}{s:B}
theorem D0{l b:M}{items cy:Array O}{ns ms:-Int}{Q:bg}(hl:IsTup s.heap l items)(hb:IsTup s.heap b cy)(hi:IntsAre items.toList ns)(hj:IntsAre cy.toList ms)
  (hu:A.units<cLine) (h:Q (.bool (lexLt ns ms)) s):L (G prog w) A (compareOp .Lt (.ref l) (.ref b)) Q E s:=by
 let⟨⟨cls,dd,data,sl⟩,ho,hc,n,hd⟩:=id hl;let⟨⟨sy,oC,data2,oE⟩,eG,g_,n2,hd2⟩:=id hb;simp only at hc hd g_ hd2;subst hc hd g_ hd2
 exact richCompare_meets_room (op:=.Lt) ⟨_,ho,Y⟩ ⟨_,eG,Y⟩ PySem.F.slot_tuple_lt PySem.F.entry_tuple_lt (PySem.F.args_tuple_lt_2 _ _) (Mb l b items cy n n2 dd oC sl oE ns ms hi hj)
  ⟨ho,eG,show Y7 (lexLt ns ms)≠Value.notImplemented/\Q (.bool (lexLt ns ms)) s from⟨(λx=>nomatch x),h⟩⟩ hu
theorem Me{t b:M}{vs ws:-O}{Q:bg}(ht:IsTup s.heap t vs.toArray)(hb:IsTup s.heap b ws.toArray)(hv:vs≠[])
  (h1:ws=[]->Q (.ref t) s) (h2:ws≠[]->Q (.ref ⇑s) {s with heap:=s.heap.push {cls:=.type "tuple",data:=.seq (vs++ws).toArray}})
  (hsz:↑vs+↑ws<=sizeLine):L (G prog w) A (binaryOp .Add (.ref t) (.ref b)) Q E s:=by
 let⟨⟨cls,dd,data,sl⟩,ho,hc,n,hd⟩:=id ht;let⟨⟨sy,oC,data2,oE⟩,eG,g_,n2,hd2⟩:=id hb;simp only at hc hd g_ hd2;subst hc hd g_ hd2;let e:vs.toArray++ws.toArray=(vs++ws).toArray:=by simp
 by_cases hw:ws=[]
 .exact q1V ⟨_,ho,Y⟩ ⟨_,eG,Y⟩ q0u q1m Zz Zq (Zh _ _)
   (tuple_addW1 t b vs.toArray ws.toArray n n2 dd oC sl oE hv⁻¹ (by simp[hw])) ⟨ho,eG,h1 hw⟩
 .refine q1V ⟨_,ho,Y⟩ ⟨_,eG,Y⟩ q0u q1m Zz Zq (Zh _ _)
   (tuple_addW2 t b vs.toArray ws.toArray n n2 dd oC sl oE hv⁻¹ hw⁻¹ (by rw[yA,yA];calc hsz)) ⟨ho,eG,?_⟩
  rw[e];calc h2 hw
noncomputable def bA(n d:Nat):Option Int->Nat
 |none=>d
 |some v=>if v<0 then(v+(n:Int)).toNat else min v.toNat n
theorem yb(n d:Nat):bA n d Z=d:=rfl
theorem sA(n d k:Nat):bA n d (U (k:Int))=min k n:=by
 show(if(k:Int)<0 then((k:Int)+(n:Int)).toNat else min (k:Int).toNat n)=min k n;rw[Vw ⋯,Ww]
theorem Mf(n d:Nat)(hd:d<=n)(o:Option Int):bA n d o<=n:=by
 cases o with
 |none=>exact hd
 |some v =>
  show(if v<0 then(v+(n:Int)).toNat else min v.toNat n)<=n
  by_cases hv:v<0
  .rw[Wm hv];symm
  .rw[Vw hv];calc Nat.min_le_right _ _
theorem D1(v:Int)(n d:Nat):(if v<0 then max (v+(n:Int)) 0 else min v (n:Int))=((bA n d (U v):Nat):Int):=by
 show(if v<0 then max (v+(n:Int)) 0 else min v (n:Int))=(((if v<0 then(v+(n:Int)).toNat else min v.toNat n):Nat):Int)
 by_cases hv:v<0
 .erw[Wm hv];symm
 .erw[Vw hv];symm
theorem Mg(lo hi:Option Int)(n:Nat):Zc lo hi 1 (n:Int)=(((bA n 0 lo:Nat):Int),((bA n n hi:Nat):Int)):=by
 let h1:¬ ((1:Int)<0):=by symm
 unfold Zc;erw[h1,Yw];refine Prod.ext ?_ ?_
 .cases lo with
  |none=>rfl
  |some v=>exact D1 v n 0
 .cases hi with
  |none=>rfl
  |some v=>calc D1 v n n
theorem Mh(i j:Nat):Yu (i:Int) (j:Int) 1=j-i:=by
 unfold Yu;let h1:(1:Int)>0:=by symm
 erw[h1,ZN,Int.ediv_one];split<;>symm
theorem D2{v:O}{o:Option Int}{Q:Option Int->B->Prop}(p:IsPart v o)(h:Q o s):L (G prog w) A (Builtin.Slice.slicePartIndex v) Q E s:=by
 cases p with
 |none=>exact slicePart_none h
 |int i t=>calc slicePart_int h
theorem D3{sl:M}{vl vu:O}{lo hi:Option Int}{n:Nat}{Q:Int×Int×Nat->B->Prop}(hs:s.heap.IsSliceOf sl vl vu .none)(pl:IsPart vl lo)(pu:IsPart vu hi)
  (h:Q (((bA n 0 lo:Nat):Int),1,bA n n hi-bA n 0 lo) s):L (G prog w) A (Z8 (.ref sl) (pure (n:Int))) Q E s:=by
 let⟨os,pH,qI,sC⟩:=id hs;unfold Z8 Builtin.Slice.sliceFields;calc qL (qL (XG pH sC (x:=vl) Y (qL (XG pH sC (x:=vu) Y (qL (XG pH sC (x:=.none) Y (MK ?_)))))));calc qL (slicePart_none ?_);show L _ _ (if((1:Int)==0)=θ then _ else _) _ _ s;rw[Vw (by decide)];refine qL (D2 pl (qL (D2 pu (qL (MK ?_)))))
 show L _ _ (match Zc lo hi 1 (n:Int) with|(lo,hi)=>pure (lo,(1:Int),Yu lo hi 1)) _ _ s;rw[Mg lo hi n];show L _ _ (pure (((bA n 0 lo:Nat):Int),(1:Int),Yu ((bA n 0 lo:Nat):Int) ((bA n n hi:Nat):Int) 1)) _ _ s;rw[Mh];calc MK h
theorem Mi(xs:Array O)(i k:Nat):((WL k).filterMap λ(m:Nat)=>xs[((i:Int)+(m:Int)*1).toNat]?).toArray=((xs.toList.drop i).take k).toArray:=by
 let e:(λ(m:Nat)=>xs[((i:Int)+(m:Int)*1).toNat]?)=λm=>xs[i+m]?:=by
  funext m;let:((i:Int)+(m:Int)*1).toNat=i+m:=by symm
  rw[this]
 rw[e];let:=pick_run xs i k;rw[List.filterMap_map] at this;let e2:((λx=>xs[x]?)∘λx=>i+x)=λm=>xs[i+m]?:=Y;rw[e2] at this;rw[this]
theorem Mj{t sl:M}{items:Array O}{vl vu:O}{lo hi:Option Int}{Q:bg}(ht:IsTup s.heap t items)(hs:s.heap.IsSliceOf sl vl vu .none)(pl:IsPart vl lo)(pu:IsPart vu hi)
  (hw:¬ (bA items.size 0 lo=0/\bA items.size items.size hi=items.size))
  (h:Q (.ref ⇑s) {s with heap:=s.heap.push {cls:=.type "tuple",data:=.seq ((items.toList.drop (bA items.size 0 lo)).take (bA items.size items.size hi-bA items.size 0 lo)).toArray}})
  (hsz:items.size<=sizeLine):L (G prog w) A (getItem (.ref t) (.ref sl)) Q E s:=by
 let ja:sizeOk (.seq ((items.toList.drop (bA items.size 0 lo)).take (bA items.size items.size hi-bA items.size 0 lo)).toArray):=by
  show((items.toList.drop (bA items.size 0 lo)).take (bA items.size items.size hi-bA items.size 0 lo)).toArray.size<=sizeLine;rw[yA,WM,Ya,Vx];symm
 let hj:bA items.size items.size hi<=items.size:=Mf _ _ (Ek _) hi;let⟨os,pH,qI,sC⟩:=id hs;let yc:s.TypeIs (.ref sl) "slice" := ⟨os,pH,qI⟩;unfold getItem
 try with_reducible refine W9 ?_
 first|refine qL (MK ?_)|skip
 refine qL (q1W ht.typeIs (by decide) ?_)
 refine qL (XW (name:=XA "__getitem__") ht.typeIs Xc
  (Yq Xc ht.typeIs q1c ?_ (q1C _ _)))
 show L _ _ (Z9 (.ref t) >>= _) _ _ s;calc qL (tupleItemsOf_ ht ?_);calc qL (q1X yc ?_);rw[Wm (by decide)];refine qL (D3 hs pl pu ?_)
 let Ml:¬ ((((bA items.size 0 lo:Nat):Int)==0&&(1:Int)==1&&(bA items.size items.size hi-bA items.size 0 lo)==items.size)=θ):=by
  ext q;rw[WZ,WZ] at q;let q1:((bA items.size 0 lo:Nat):Int)=0:=XT q.1.1;let q2:bA items.size items.size hi-bA items.size 0 lo=items.size:=XT q.2;exact hw ⟨⋯,⋯⟩
 show L _ _ (if(((bA items.size 0 lo:Nat):Int)==0&&(1:Int)==1&&(bA items.size items.size hi-bA items.size 0 lo)==items.size)=θ then _ else _) _ _ s;rw[Vw Ml,Mi]
 first
  |exact qL (m:=YA _) (Yi (MK ⟨_,Y,MK h⟩) ja)
  |exact qL (m:=YA _) (Yi (qL (MK (MK ⟨_,Y,MK h⟩))) ja)
  |exact qL (qL (m:=YA _) (Yi (MK (MK ⟨_,Y,MK h⟩)) ja))
  |calc qL (qL (m:=YA _) (Yi (MK ⟨_,Y,MK h⟩) ja))
end
end HT
namespace L2
open PySem PySem.Spec PyProof.Rows
abbrev TO:=St->Hp->(Option Int->Hp->Prop)->Prop
def PO(X:Cx)(e:Option J)(t:TO):Prop :=
 ∀(pins:aC)(s:B)(σ:St)(H:Hp)(Q:Option Int->Hp->Prop),Inv X pins σ H s->t σ H Q →
  L (G X.prog X.w) X.A (evalPart e X.env) (λu s'=>∃o H',Inv X pins σ H' s'/\IsPart u o/\Q o H') X.xe s
def Mm:TO:=λ_ H Q=>Q Z H
def Mn(t:TE):TO:=fun σ H Q=>t σ H λx H1=>∃i,x=.int i/\Q (U i) H1
theorem intsAre_of{ns:-Int}:∀{us:-O},Vals (ns.map V.int) us->IntsAre us ns:=by
 induction ns with
 |nil=>ext us r;rw[Yp] at r;cases r;exact .nil
 |cons n ns ih =>
  ext us r;rw[Wx] at r
  cases r with
  |cons r1 r2 =>
   let⟨t,e⟩:=r1;subst e;calc .cons n t (ih r2)
section
variable{X:Cx}{e:J}{te:TE}{lo hi:Option J}{tl th:TO}{pos p2:y}
theorem D4:PO X Z Mm:=by
 ext pins s σ H Q I h;rw[q3h];calc MK ⟨Z,H,I,.none,h⟩
theorem u3(h:JE X e te):PO X (U e) (Mn te):=by
 ext pins s σ H Q I hw;rw[evalPart_some];calc br (h pins s σ H _ I hw) ?_;ext u s1 ⟨x,H1,I1,r1,q1⟩;let⟨i,rfl,q⟩:=q1;let⟨t,rfl⟩:=r1;calc⟨U i,H1,I1,.int i t,q⟩
def oF(X:Cx)(r:V->Option Int->Option Int->Hp->VK->Prop):Prop :=
 ∀(pins:aC)(s:B)(σ:St)(H:Hp)(x:V)(v vl vu:O)(lo hi:Option Int)(sl:M)(Q:VK),Inv X pins σ H s->RelV x v->s.heap.IsSliceOf sl vl vu .none->IsPart vl lo->IsPart vu hi->r x lo hi H Q →
  ∃T id,typeLookup (.type T) "__getitem__" = pure (U (.builtin id))/\s.TypeIs v T/\L (G X.prog X.w) X.A (getItem v (.ref sl)) (EP X pins σ Q) X.xe s
theorem oF.or{r r':V->Option Int->Option Int->Hp->VK->Prop}(h:oF X r)(h':oF X r'):oF X (λx lo hi H Q=>r x lo hi H Q\/r' x lo hi H Q):=by
 ext pins s σ H x v vl vu lo hi sl Q I rx hs pl pu q;rcases q with q|q
 .exact h pins s σ H x v vl vu lo hi sl Q I rx hs pl pu q
 .calc h' pins s σ H x v vl vu lo hi sl Q I rx hs pl pu q
def Mo(r:V->Option Int->Option Int->Hp->VK->Prop)(te:TE)(tl th:TO):TE:=fun σ H Q=>te σ H λx H1=>tl σ H1 λl H2=>th σ H2 λu H3=>r x l u H3 Q
theorem yd{r:V->Option Int->Option Int->Hp->VK->Prop}(hr:oF X r)(he:JE X e te)(hl:PO X lo tl)(hu:PO X hi th):JE X (.Subscript e (.Slice lo hi Z p2) pos) (Mo r te tl th):=by
 calc⟨?_⟩;ext pins s σ H Q I h;calc Subscript_ (br (he pins s σ H _ I h) ?_);ext v s1 ⟨x,H1,I1,r1,q1⟩;calc wpAny_Slice (br (hl pins s1 σ H1 _ I1 q1) λvl s2 ⟨l,H2,I2,pl,q2⟩=>br (hu pins s2 σ H2 _ I2 q2) ?_);ext vu s3 ⟨u,H3,I3,pu,q3⟩;rw[q3h];calc MK ?_;let I4:Inv X pins σ H3 {s3 with heap:=s3.heap.push {cls:=.type "slice",data:=.fields #[vl,vu,.none]}}:=I3.kept (t':=s3.toks) λb ob q=>u6 _ q;let⟨T,id,hT,ht,hg⟩:=hr pins {s3 with heap:=s3.heap.push {cls:=.type "slice",data:=.fields #[vl,vu,.none]}} σ H3 x v vl vu l u ⇑s3 Q I4 r1 (Heap.IsSliceOf.new ..) pl pu q3
 show L (G X.prog X.w) X.A (subscriptTail e (.Slice lo hi Z p2) v (.ref ⇑s3)) (EP X pins σ Q) X.xe {s3 with heap:=s3.heap.push {cls:=.type "slice",data:=.fields #[vl,vu,.none]}};calc tail_any (ops:=[.ref ⇑s3,v]) ht hT hg (by with_unfolding_all rfl)
noncomputable def di(xs:-V)(lo hi:Option Int):-V:=(xs.drop (HT.bA ↑xs 0 lo)).take (HT.bA ↑xs ↑xs hi-HT.bA ↑xs 0 lo)
theorem D5(xs:-V)(lo hi:Option Int):↑(di xs lo hi)<=↑xs:=by
 unfold di;rw[WM,Ya];symm
def ye(K:El):V->Option Int->Option Int->Hp->VK->Prop:=λx lo hi H Q=>∃a xs,x=.ref a/\bO K H a xs ∧
 ¬ (HT.bA ↑xs 0 lo=0/\HT.bA ↑xs ↑xs hi=↑xs)/\∀p,H p=Z->Q (.ref p) (upd H p (.tup (di xs lo hi)))
theorem Mp:oF X (ye X.K):=by
 ext pins s σ H x v vl vu lo hi sl Q I rx hs pl pu h;let⟨a,xs,rfl,hx,hw,q⟩:=h;cases rx
 let⟨au,r,ht,hz⟩:=I.tuple hx;let hlen:au.toArray.size=↑xs:=by rw[yA];exact r.length.symm
 calc⟨"tuple",_,Xc.lookup,ht.typeIs,?_⟩;calc HT.Mj ht hs pl pu (by rw[hlen];calc hw) ?_ (by rw[hlen];calc hz);rw[hlen];calc⟨.ref ⇑s,_,I.laid (t':=s.toks) (o:=.tup (di xs lo hi)) (λb ob q=>u6 _ q) (Ek _) ?_,Y,q _ (I.aX.fresh (Ek _))⟩;calc⟨WU (D5 xs lo hi) hz,_,(r.drop (HT.bA ↑xs 0 lo)).take (HT.bA ↑xs ↑xs hi-HT.bA ↑xs 0 lo),IsTup.new _ _⟩
def yf(K:El):R2:=λx y H Q=>∃a b ns ms,x=.ref a/\y=.ref b/\bO K H a (ns.map V.int)/\bO K H b (ms.map V.int)/\Q (.bl (HT.lexLt ns ms)) H
theorem Mq(hu:X.A.units<cLine):eB X (compareOp .Lt) (yf X.K):=by
 ext pins s σ H x y v u Q I rx ry h;let⟨a,b,ns,ms,rfl,rfl,ha,hb,q⟩:=h;cases rx
 cases ry
 let⟨au,r1,p1,_⟩:=I.tuple ha;let⟨bz,r2,p2,_⟩:=I.tuple hb;let i1:IntsAre au.toArray.toList ns:=intsAre_of r1;let i2:IntsAre bz.toArray.toList ms:=intsAre_of r2;calc HT.D0 p1 p2 i1 i2 hu ⟨.bl (HT.lexLt ns ms),H,I,Y,q⟩
def Mr(K:El):R2:=λx y H Q=>∃a b xs ys,x=.ref a/\y=.ref b/\bO K H a xs/\bO K H b ys/\xs≠[]/\↑xs+↑ys<=sizeLine ∧
 (ys=[]->Q (.ref a) H)/\(ys≠[]->∀p,H p=Z->Q (.ref p) (upd H p (.tup (xs++ys))))
theorem Vals.fw{xs:-V}{us:-O}(r:Vals xs us):us=[]↔xs=[]:=by
 cases r with
 |nil=>simp
 |cons _ _=>simp
theorem Ms:eB X (binaryOp .Add) (Mr X.K):=by
 ext pins s σ H x y v u Q I rx ry h;let⟨a,b,xs,ys,rfl,rfl,ha,hb,hx,hz,q1,q2⟩:=h;cases rx
 cases ry
 let⟨au,r1,p1,_⟩:=I.tuple ha;let⟨bz,r2,p2,_⟩:=I.tuple hb;calc HT.Me p1 p2 (λz=>hx (r1.fw.mp z)) (λz=>⟨.ref a,H,I,Y,q1 (r2.fw.mp z)⟩) (λz=>?_) (by rw[<-↑r1,<-↑r2];calc hz);calc⟨.ref ⇑s,_,I.laid (t':=s.toks) (o:=.tup (xs++ys)) (λb ob q=>u6 _ q) (Ek _) ?_,Y,q2 (λw=>z (r2.fw.mpr w)) _ (I.aX.fresh (Ek _))⟩;calc⟨by rw[MJ];calc hz,_,r1.append r2,IsTup.new _ _⟩
end
noncomputable def jc(n:Nat)(i:Int):Option Nat:=if 0<=i then(if i<n then U i.toNat else Z) else if -(n:Int)<=i then U (i+n).toNat else Z
noncomputable def dX{α:Type}(xs:-α)(i:Int):Option α:=(jc ↑xs i).bind λj=>xs[j]?
theorem D6{n:Nat}{i:Int}{j:Nat}(h:jc n i=U j):seqIndex? i n=U j/\j<n /\ -(n:Int)<=i/\i<n:=by
 unfold jc at h
 by_cases h0:0<=i
 .rw[Wm h0] at h
  by_cases h1:i<n
  .rw[Wm h1] at h
   let e:i.toNat=j:=WJ h;exact⟨by rw[q2x h0 h1,e],⋯,⋯,h1⟩
  .rw[Vw h1] at h;cases h
 .rw[Vw h0] at h
  by_cases h1 : -(n:Int)<=i
  .rw[Wm h1] at h
   let e:(i+n).toNat=j:=WJ h;exact⟨by rw[q1Y ⋯ h1,e],⋯,h1,⋯⟩
  .rw[Vw h1] at h;cases h
theorem yg{α:Type}{xs:-α}{i:Int}{v:α}(h:dX xs i=U v):∃j,seqIndex? i ↑xs=U j/\xs[j]?=U v/\j<↑xs /\ -(↑xs:Int)<=i/\i<↑xs:=by
 unfold dX at h
 cases e:jc ↑xs i with
 |none=>rw[e] at h;cases h
 |some j =>
  rw[e] at h;let⟨h1,h2,h3,h4⟩:=D6 e;calc⟨j,h1,h,h2,h3,h4⟩
theorem g5{α:Type}{xs:-α}{j:Nat}{v:α}(h:xs[j]?=U v):dX xs (j:Int)=U v:=by
 let hj:j<↑xs:=(sG.mp h).1
 let e:jc ↑xs (j:Int)=U j:=by
  unfold jc;rw[Wm ⋯,Wm ⋯];simp
 unfold dX;rw[e];calc h
def D7(b:J):Prop:=∀o i,subscripted b ι o i=operate [o,i] (getItem o i)
def sD(X:Cx)(r:R2):Prop :=
 ∀(value slice:J)(pins:aC)(s:B)(σ:St)(H:Hp)(x y:V)(v u:O)(Q:VK),Inv X pins σ H s->RelV x v->RelV y u->r x y H Q →
  subscripted slice ι v u=operate [v,u] (getItem v u)->L (G X.prog X.w) X.A (subscriptTail value slice v u) (EP X pins σ Q) X.xe s
def yh(X:Cx)(id:String)(r:V->-V->Hp->VK->Prop):Prop :=
 ∀(pins:aC)(s:B)(σ:St)(H:Hp)(x:V)(xs:-V)(v:O)(us:-O)(Q:VK),Inv X pins σ H s->RelV x v->Vals xs us->r x xs H Q →
  L (G X.prog X.w) X.A (call (.builtin id) (v::us)) (EP X pins σ Q) X.xe s
section
variable{X:Cx}{a b:J}{ta tb:TE}{pos:y}
theorem D8{r:R2}(hr:sD X r)(ha:JE X a ta)(hb:JE X b tb)(hs:D7 b):JE X (.Subscript a b pos) (sg r ta tb):=by
 calc⟨?_⟩;ext pins s σ H Q I h;calc Subscript_ (pB ha hb I h λv u s2 x y H2 I2 rx ry q=>hr a b pins s2 σ H2 x y v u Q I2 rx ry q (hs _ _))
def yi(K:El):R2:=λx y H Q=>∃p xs i v,x=.ref p/\y=.int i/\bE K H p xs/\dX xs i=U v/\Q v H
def yj(K:El):R2:=λx y H Q=>∃p xs i v,x=.ref p/\y=.int i/\bO K H p xs/\dX xs i=U v/\Q v H
def yk:R2:=λx y H Q=>∃z i c,x=.str z/\y=.int i/\↑z<=sizeLine/\dX z.cps.toList i=U c/\Q (.str ⟨#[c]⟩) H
theorem D9:sD X (yi X.K):=by
 ext value slice pins s σ H x y v u Q I rx ry h hs;let⟨p,xs,i,z,rfl,rfl,hq,he,q⟩:=h;cases rx
 let⟨t,rfl⟩:=ry;let⟨au,r,pl,hz⟩:=I.list hq;let⟨j,h1,h2,h3,h4,h5⟩:=yg he;let⟨w,ew,sE⟩:=r.get h2;let hl:=↑r;let hn:=qG;let fin:EP X pins σ Q w s:=⟨z,H,I,sE,q⟩
 by_cases h0:0<=i
 .let hj:i.toNat=j:=by
   rw[q2x h0 h5] at h1;exact WJ h1
  exact item_listR pl.isList h0 ⋯ (by rw[hj];simpa using ew) fin hs
 .let hj:(i+(au.toArray.size:Int)).toNat=j:=by
   rw[q1Y ⋯ h4] at h1;rw[yA,<-hl];exact WJ h1
  exact q0G (x:=w) pl.isList.typeIs q1Z.lookup
   (wpAny_getItem_list_neg (Q:=λr s'=>r=w/\EP X pins σ Q r s') pl.isList ⋯ (by rw[yA]<;>symm) ⋯ (by rw[hj];simpa using ew) ⟨Y,fin⟩) hs
theorem Mt:sD X (yj X.K):=by
 ext value slice pins s σ H x y v u Q I rx ry h hs;let⟨p,xs,i,z,rfl,rfl,hq,he,q⟩:=h;cases rx
 let⟨t,rfl⟩:=ry;let⟨au,r,pl,hz⟩:=I.tuple hq;let⟨j,h1,h2,h3,h4,h5⟩:=yg he;let⟨w,ew,sE⟩:=r.get h2;let hl:=↑r;let hn:=qG;let fin:EP X pins σ Q w s:=⟨z,H,I,sE,q⟩
 exact q0G (x:=w) pl.typeIs slot_tuple_getitem.lookup
  (getItem_tuple (j:=j) (Q:=λr s'=>r=w/\EP X pins σ Q r s') pl ⋯ ⋯ (by rw[yA,<-hl];calc h1) ew⁻¹ ⟨Y,fin⟩) hs
theorem Mu:sD X yk:=by
 ext value slice pins s σ H x y v u Q I rx ry h hs;let⟨z,i,c,rfl,rfl,hz,he,q⟩:=h;let⟨t,rfl⟩:=rx;let⟨t',rfl⟩:=ry;let⟨j,h1,h2,h3,h4,h5⟩:=yg he;let hl:↑z.cps.toList=↑z:=by simp[Str.length]
 rw[hl] at h1 h4 h5;let hn:=qG
 exact tail_any (typeIs_str s z t) slot_str_getitem.lookup (getItem_str (c:=c) (by
  let e1:S (i < -(2 ^ 63:Int))=ι:=Wn ⋯;let e2:S (i ≥ 2 ^ 63)=ι:=Wn ⋯
  rw[e1,e2,q3i]) (by rw[h1];simpa using h2) ⟨.str ⟨#[c]⟩,H,I.tok _,⟨_,Y⟩,q⟩) hs
theorem Mv(au:-O)(n j:Nat)(u:O):WY (·.setIfInBounds j u) {cls:=.type "list",data:=.seq au.toArray n}={cls:=.type "list",data:=.seq (au.set j u).toArray n}:=by
 simp[WY]
theorem Inv.lst{pins:aC}{σ:St}{H:Hp}{s:B}{p:M}{xs:-V}(I:Inv X pins σ H s)(h:H p=U (.lst xs)):
  ∃(au:-O)(n:Nat),Vals xs au/\s.heap.get? p=U {cls:=.type "list",data:=.seq au.toArray n}/\↑xs<=sizeLine:=by
 let⟨z,au,n,r,e⟩:=I.aX p _ h;calc⟨au,n,r,e,z⟩
theorem Inv.pI{pins:aC}{σ:St}{H:Hp}{s:B}{p:M}{xs ys:-V}{au its':-O}{n n':Nat}{f:Q->Q}(I:Inv X pins σ H s)(h:H p=U (.lst xs))
  (ho:s.heap.get? p=U {cls:=.type "list",data:=.seq au.toArray n}) (hf:f {cls:=.type "list",data:=.seq au.toArray n}={cls:=.type "list",data:=.seq its'.toArray n'}) (r:Vals ys its') (hz:↑ys<=sizeLine) (t:Nat) :
  Inv X pins σ (upd H p (.lst ys)) {s with heap:=s.heap.update p f,toks:=t}:=by
 let e:(s.heap.update p f).get? p=U {cls:=.type "list",data:=.seq its'.toArray n'}:=by
  rw[Y0 f ho (by rw[hf]<;>rfl),hf]
 calc I.write (x:=p) (e:=p) (by rw[h];trivial) (.inl Y) (λb u hb q=>(q0H _ _ (YN hb)).trans q) ⟨_,e⟩ ?_;calc⟨hz,its',n',r,e⟩
def D_:V->V->V->Hp->(Hp->Prop)->Prop:=λo i v H Q=>∃p xs k j,o=.ref p/\i=.int k/\H p=U (.lst xs)/\jc ↑xs k=U j/\Q (upd H p (.lst (xs.set j v)))
theorem set_list:r6 X D_:=by
 ext pins s σ H o i v ov iv u Q I ro ri rv h;let⟨p,xs,k,j,rfl,rfl,hp,hj,q⟩:=h;cases ro
 let⟨t,rfl⟩:=ri;let⟨au,n,r,ho,hz⟩:=I.lst hp;let⟨h1,h2,h3,h4⟩:=D6 hj;let hl:=↑r;let hn:=qG
 let I':Inv X pins σ (upd H p (.lst (xs.set j v))) {s with heap:=s.heap.update p (WY (·.setIfInBounds j u))} :=
  I.pI hp ho (Mv au n j u) (r.set rv j) (by rw[Xq];calc hz) s.toks
 by_cases h0:0<=k
 .let hk:k.toNat=j:=by
   rw[q2x h0 h4] at h1;exact WJ h1
  exact PySem.W.ki_setAt ho h0 ⋯ (by rw[yA,<-hl];calc h4) (by rw[hk];calc⟨_,I',q⟩)
 .let hk:(k+(au.toArray.size:Int)).toNat=j:=by
   rw[q1Y ⋯ h3] at h1;rw[yA,<-hl];exact WJ h1
  calc PySem.W.ki_setBack ho ⋯ (by rw[yA,<-hl];calc h3) ⋯ (by rw[hk];calc⟨_,I',q⟩)
theorem Mw(lo hi:Option Int)(n:Nat):(sliceBounds lo hi Z n).1=((HT.bA n 0 lo:Nat):Int)/\(sliceBounds lo hi Z n).2.1=((HT.bA n n hi:Nat):Int)/\(sliceBounds lo hi Z n).2.2=1:=by
 refine⟨?_,?_,Y⟩
 .cases lo with
  |none=>simp[sliceBounds,HT.bA]
  |some i =>
   erw[sliceBounds,HT.bA,q0r,show(1:Int)>0 by decide,ZN]
   by_cases h:i<0
   .erw[h,ZN]<;>symm
   .erw[h,Yw]<;>symm
 .cases hi with
  |none=>simp[sliceBounds,HT.bA]
  |some i =>
   erw[sliceBounds,HT.bA,q0r,show(1:Int)>0 by decide,ZN]
   by_cases h:i<0
   .erw[h,ZN]<;>symm
   .erw[h,Yw]<;>symm
theorem Mx(au:-O)(lo hi:Option Int):slicePick au.toArray lo hi Z=((au.drop (HT.bA ↑au 0 lo)).take (HT.bA ↑au ↑au hi-HT.bA ↑au 0 lo)).toArray:=by
 let⟨h1,h2,h3⟩:=Mw lo hi au.toArray.size;unfold slicePick;rw[h1,h2,h3];erw[sliceRange_one,pick_run,yA]<;>rfl
def ym(K:El):V->Option Int->Option Int->Hp->VK->Prop:=λx lo hi H Q=>∃a xs,x=.ref a/\bE K H a xs/\∀p,H p=Z->Q (.ref p) (upd H p (.lst (di xs lo hi)))
theorem gF:oF X (ym X.K):=by
 ext pins s σ H x v vl vu lo hi sl Q I rx hs pl pu h;let⟨a,xs,rfl,hx,q⟩:=h;cases rx
 let⟨au,r,ht,hz⟩:=I.list hx;let hlen:=↑r;calc⟨"list",_,q1Z.lookup,ht.isList.typeIs,?_⟩;calc wpAny_getItem_list_slice ht.isList hs pl pu .none (by simp) ?_ (by rw[yA]<;>symm);rw[Mx,<-hlen];calc⟨.ref ⇑s,_,I.laid (t':=s.toks) (o:=.lst (di xs lo hi)) (λb ob q=>u6 _ q) (Ek _) ?_,Y,q _ (I.aX.fresh (Ek _))⟩;calc⟨WU (D5 xs lo hi) hz,_,0,(r.drop (HT.bA ↑xs 0 lo)).take (HT.bA ↑xs ↑xs hi-HT.bA ↑xs 0 lo),Vt _ Y⟩
theorem Ea:gZ X (.builtin "len") (λxs H Q=>∃p ys,xs=[.ref p]/\(bE X.K H p ys\/bO X.K H p ys)/\Q (.int ↑ys) H):=by
 ext pins s σ H xs us Q I r h;let⟨p,ys,rfl,hq,q⟩:=h;let⟨u,rfl,rx⟩:=vals1 r;cases rx
 let hn:=qG;rcases hq with hq|hq
 .let⟨au,r',pl,hz⟩:=I.list hq
  let hlen:=↑r';exact Calls.call_len_list pl.isList (by erw[yA]<;>symm) ⟨.int ↑ys,H,I.tok _,⟨s.toks+1,by rw[yA,hlen]⟩,q⟩
 .let⟨au,r',pl,hz⟩:=I.tuple hq
  let hlen:=↑r';calc len_tuple pl (by erw[yA]<;>symm) ⟨.int ↑ys,H,I.tok _,⟨s.toks+1,by rw[yA,hlen]⟩,q⟩
theorem Mz:gZ X (.builtin "len") (λxs H Q=>∃z,xs=[.str z]/\↑z<=sizeLine/\Q (.int ↑z) H):=by
 ext pins s σ H xs us Q I r h;let⟨z,rfl,hz,q⟩:=h;let⟨u,rfl,t,rfl⟩:=vals1 r;let hn:=qG;calc len_str ⋯ ⟨.int ↑z,H,I.tok _,⟨_,Y⟩,q⟩
theorem yn:gZ X (.type "list") (λxs H Q=>∃p ys,xs=[.ref p]/\(bE X.K H p ys\/bO X.K H p ys)/\∀l,H l=Z->Q (.ref l) (upd H l (.lst ys))):=by
 ext pins s σ H xs us Q I r h;let⟨p,ys,rfl,hq,q⟩:=h;let⟨u,rfl,rx⟩:=vals1 r;cases rx
 let fin:∀(au:-O),Vals ys au->↑ys<=sizeLine->∀(h':Α)(c':Nat),(∀b o',s.heap.get? b=U o'->h'.get? b=U o') →
   h'.get? ⇑s=U {cls:=.type "list",dict:=none,data:=.seq au.toArray c',slots := #[]}->EP X pins σ Q (.ref ⇑s) {s with heap:=h'}:=λau r' hz h' c' kp e =>
  ⟨.ref ⇑s,_,I.laid (t':=s.toks) kp (Ek _) (show aU X.prog X.w _ h' _ (.lst ys) from⟨hz,au,c',r',e⟩),Y,q _ (I.aX.fresh (Ek _))⟩
 rcases hq with hq|hq
 .let⟨au,r',pl,hz⟩:=I.list hq
  let hlen:=↑r';let⟨o,ho,hc,n,hd⟩:=pl.isList;exact q3j p (.inl Y) ho hc hd (λh' c' kp e=>fin au r' hz h' c' kp e) (by erw[yA]<;>symm)
 .let⟨au,r',pl,hz⟩:=I.tuple hq
  let hlen:=↑r';let⟨o,ho,hc,n,hd⟩:=pl;calc q3j p (.inr Y) ho hc hd (λh' c' kp e=>fin au r' hz h' c' kp e) (by erw[yA]<;>symm)
theorem Eb:gZ X (.type "tuple") (λxs H Q=>∃p ys,xs=[.ref p]/\((bE X.K H p ys/\∀l,H l=Z->Q (.ref l) (upd H l (.tup ys)))\/(bO X.K H p ys/\Q (.ref p) H))):=by
 ext pins s σ H xs us Q I r h;let⟨p,ys,rfl,h⟩:=h;let⟨u,rfl,rx⟩:=vals1 r;cases rx
 rcases h with⟨hq,q⟩|⟨hq,q⟩
 .let⟨au,r',pl,hz⟩:=I.list hq
  let hlen:=↑r';calc call_tuple_list pl.isList (λh' kp=>?_) (by erw[yA]<;>symm);let I1:Inv X pins σ H {s with heap:=h'}:=I.kept (t':=s.toks) kp
  let I2:Inv X pins σ (upd H h'.objs.size (.tup ys)) {s with heap:=h'.push {cls:=.type "tuple",data:=.seq au.toArray}} :=
   I1.laid (t':=s.toks) (λb o e=>u6 _ e) (Ek _) (show aU X.prog X.w _ _ _ (.tup ys) from⟨hz,au,r',IsTup.new _ _⟩)
  exact⟨.ref h'.objs.size,_,I2,Y,q _ (I1.aX.fresh (Ek _))⟩
 .let⟨au,r',pl,hz⟩:=I.tuple hq
  calc call_tuple_same pl ⟨.ref p,H,I,Y,q⟩
def yo(K:El)(T:String)(x:V)(H:Hp):Prop:=match x with
 |.str _=>T="str"
 |.int _=>T="int"
 |.ref p=>(T="list" /\ ∃xs,bE K H p xs)\/(T="tuple" /\ ∃o,K.lookup p=U o/\o.cls=.type "tuple" /\ o.dict=Z) ∨
   (T="dict" /\ ((∃kvs,H p=U (.dK kvs))\/∃kvs,H p=U (.dT kvs)))\/(T="set" /\ ∃S n,H p=U (.set S n))
 |_=>False
theorem Ec{pins:aC}{σ:St}{H:Hp}{s:B}{T:String}{x:V}{v:O}(I:Inv X pins σ H s)(r:RelV x v)(ty:yo X.K T x H):
  s.TypeIs v T/\∀a,v=.ref a->∃ob,s.heap.get? a=U ob/\ob.dict=Z:=by
 cases x with
 |str z =>
  let⟨t,rfl⟩:=r;cases(show T="str" from ty)
  exact⟨typeIs_str s z t,λ_ e=>nomatch e⟩
 |int i =>
  let⟨t,rfl⟩:=r;cases(show T="int" from ty)
  exact⟨q2S s i t,λ_ e=>nomatch e⟩
 |ref p =>
  cases r
  rcases ty with⟨rfl,xs,hq⟩|⟨rfl,o,hk,hc,hd⟩|⟨rfl,hk⟩|⟨rfl,S,n,hk⟩
  .let⟨au,_,pl,_⟩:=I.list hq
   calc⟨pl.isList.typeIs,λa e=>?_⟩;cases e
   let⟨o,n,e,c,hd,_⟩:=pl;exact⟨o,e,hd⟩
  .refine⟨⟨o,I.eX p o hk,hc⟩,λa e=>?_⟩
   cases e
   exact⟨o,I.eX _ o hk,hd⟩
  .let z:∃o,s.heap.get? p=U o/\o.ExactDict:=by
    rcases hk with⟨kvs,hk⟩|⟨kvs,hk⟩
    .let⟨_,_,_,_,o,_,_,e,ex,_⟩:=I.aX p _ hk
     exact⟨o,e,ex⟩
    .let⟨_,_,_,_,o,_,_,e,ex,_⟩:=I.aX p _ hk
     exact⟨o,e,ex⟩
   let⟨o,e,ex⟩:=z;calc⟨⟨o,e,ex.1⟩,λa e2=>?_⟩;cases e2
   exact⟨o,e,ex.2.1⟩
  .let⟨o,_,_,_,e,ex,_⟩:=I.aX p _ hk
   calc⟨⟨o,e,ex.1⟩,λa e2=>?_⟩;cases e2
   exact⟨o,e,ex.2.1⟩
 |_=>calc Xt ty
def sF(K:El)(T:String)(r:V->-V->Hp->VK->Prop)(to:TE):TE:=fun σ H Q=>to σ H λx H1=>yo K T x H1/\r x [] H1 Q
def u4(K:El)(T:String)(r:V->-V->Hp->VK->Prop)(to:TE)(t:TA):TE:=fun σ H Q=>to σ H λx H1=>yo K T x H1/\t σ H1 λxs H2=>r x xs H2 Q
variable{o e:J}{es:-J}{to:TE}{t:TA}{name:R}{apos f_:y}{T id:String}{r:V->-V->Hp->VK->Prop}
theorem MA(pa:PlainAttrs T)(slot:Slot T name id)(yq:typeOf (.builtin id)=pure (.type "method_descriptor"))(hm:yh X id r)(ho:JE X o to)
  (kC:‹attributeBase o name X.env (eval o X.env)=eval o X.env›) (kD:‹(apos.endLine==f_.line)=θ›):JE X (.Call (.Attribute o name apos) [] [] f_) (sF X.K T r to):=by
 calc⟨?_⟩;ext pins s σ H Q I h;calc wpAny_Call_method0_late kC kD (br (ho pins s σ H _ I h) ?_);ext v s1 ⟨x,H1,I1,r1,ty,q1⟩;let⟨h1,h2⟩:=Ec I1 r1 ty;calc⟨T,id,pa,slot,yq,h1,h2,q0I Y (PySem.evalArgs_none (hm pins s1 σ H1 x [] v [] Q I1 r1 .nil q1))⟩
theorem qJ(pa:PlainAttrs T)(slot:Slot T name id)(yq:typeOf (.builtin id)=pure (.type "method_descriptor"))(hm:yh X id r)(ho:JE X o to)(ha:JA X (e::es) t)
  (kC:‹attributeBase o name X.env (eval o X.env)=eval o X.env›)
  (yr:‹((backTo f_ (starEach (e::es) X.env)).all (λx => !x.1)&&(backToKw f_ (keywordEach [] X.env)).all (λx=>x.1.isSome)
   && S (↑(e::es)+↑([]:-Keyword)+(if([]:-Keyword).isEmpty then 0 else 1)<30))=θ›)
  (kD:‹(apos.endLine==f_.line)=θ›) (hs:‹cj X e es›) (pJ:‹cD X f_ es›) :
  JE X (.Call (.Attribute o name apos) (e::es) [] f_) (u4 X.K T r to t):=by
 calc⟨?_⟩;ext pins s σ H Q I h;calc wpAny_Call_method_late kC yr kD Y (br (ho pins s σ H _ I h) ?_);ext v s1 ⟨x,H1,I1,r1,ty,q1⟩;let⟨h1,h2⟩:=Ec I1 r1 ty;calc⟨T,id,pa,slot,yq,h1,h2,?_⟩;let hA:=ha f_ pins s1 σ H1 _ I1 q1;rw[hs] at hA ⊢;calc q0I (by show(ι||(backTo f_ (starEach es X.env)).any (·.1))=ι;rw[pJ]<;>rfl) (Calls.evalArgs_plain ?_);calc br hA λus s2 ⟨vs,H2,I2,r2,q2⟩↦hm pins s2 σ H2 x vs v us Q I2 r1 r2 q2
end
def u5(X:Cx)(id:String)(r:V->-V->Hp->VK->Prop):Prop :=
 ∀(pins:aC)(s:B)(σ:St)(H:Hp)(x:V)(xs:-V)(v:O)(us:-O)(Q:VK),Inv X pins σ H s->RelV x v->Vals xs us->r x xs H Q →
  L (G X.prog X.w) X.A (call (.builtin id) (v::us)) (EP X pins σ Q) X.xe s
theorem Vals.one:∀{x:V}{us:-O},Vals [x] us->∃u,us=[u]/\RelV x u:=by
 ext x us h
 cases h with
 |cons r h=>cases h;calc⟨_,Y,r⟩
theorem Vals.two:∀{x y:V}{us:-O},Vals [x,y] us->∃u v,us=[u,v]/\RelV x u/\RelV y v:=by
 ext x y us h
 cases h with
 |cons r h =>
  let⟨v,rfl,q⟩:=Vals.one h;calc⟨_,_,Y,r,q⟩
theorem Vals.zero:∀{us:-O},Vals [] us->us=[]
 |_,.nil=>Y
theorem Vals.dropLast{xs:-V}{us:-O}(h:Vals xs us):Vals xs.dropLast us.dropLast:=by
 induction h with
 |nil=>exact .nil
 |cons r t ih =>
  cases t with
  |nil=>exact .nil
  |cons q t'=>calc .cons r ih
theorem Vals.eraseIdx:∀{xs:-V}{us:-O}(i:Nat),Vals xs us->Vals (xs.eraseIdx i) (us.eraseIdx i)
 |_,_,_,.nil=>.nil
 |_,_,0,.cons _ t=>t
 |_,_,i+1,.cons r t=>.cons r (Vals.eraseIdx i t)
theorem Vals.rep{xs:-V}{us:-O}(h:Vals xs us):∀k:Nat,Vals (Vv k xs).flatten (Vv k us).flatten
 |0=>.nil
 |k+1=>by
  rw[Xs,Xs,Yy,Yy];calc Vals.append h (Vals.rep h k)
theorem MB{α:Type}(l:-α):l.eraseIdx (↑l-1)=l.dropLast:=by
 induction l with
 |nil=>rfl
 |cons a r ih =>
  cases r with
  |nil=>rfl
  |cons b r =>
   let e:↑(a::b::r)-1=(↑(b::r)-1)+1:=by
    let h1:↑(a::b::r)=↑r+2:=Y;let h2:↑(b::r)=↑r+1:=Y;symm
   rw[e,List.eraseIdx_cons_succ,ih]
   all_goals rfl
theorem Ed{α:Type}:∀(l:-α)(i:Nat),↑(l.eraseIdx i)<=↑l
 |[],_=>Ek _
 |_::_,0=>ZR _
 |_::r,i+1=>q2k (Ed r i)
theorem foldl_rep(au:-O):∀(k:Nat)(acc:-O),
  q2T (λx1 x2=>x1++x2) acc.toArray (Vv k au.toArray)=(acc++(Vv k au).flatten).toArray
 |0,acc=>by simp
 |k+1,acc=>by
  let e:acc.toArray++au.toArray=(acc++au).toArray:=by simp
  let e2:(acc++au)++(Vv k au).flatten=acc++(Vv (k+1) au).flatten:=by
   rw[Xs,Yy,Yj]
  rw[<-e2,<-foldl_rep au k (acc++au),<-e,Xs,XO]
section
variable{X:Cx}{pins:aC}{σ:St}{H:Hp}{s:B}{l b:M}{xs ys zs:-V}
theorem Inv.mB{au its':-O}{n:Nat}{f:Array O->Array O}{t':Nat}(I:Inv X pins σ H s)(hH:H l=U (.lst xs))
  (e:s.heap.get? l=U {cls:=.type "list",data:=.seq au.toArray n}) (hf:f au.toArray=its'.toArray) (hv:Vals ys its') (hz:↑ys<=sizeLine) :
  Inv X pins σ (upd H l (.lst ys)) {s with heap:=s.heap.update l (WY f),toks:=t'}:=by
 let q:=PySem.IsL.update e f;rw[hf] at q;calc I.write (x:=l) (e:=l) (by rw[hH];calc trivial) (.inl Y) (λb' u hb hu=>(q0H s.heap (WY f) (YN hb)).trans hu) ⟨_,q⟩ ?_;calc⟨hz,its',_,hv,q⟩
theorem Inv.cb{au:-O}{t':Nat}(I:Inv X pins σ H s)(hv:Vals ys au)(hz:↑ys<=sizeLine):
  Inv X pins σ (upd H ⇑s (.lst ys)) {s with heap:=s.heap.push {cls:=.type "list",data:=.seq au.toArray},toks:=t'} :=
 I.laid (λ_ _ q=>u6 _ q) (Ek _) ⟨hz,au,0,hv,Vt _ Y⟩
theorem Inv.fresh(I:Inv X pins σ H s):H ⇑s=Z:=I.aX.fresh (Ek _)
theorem Inv.hJ(I:Inv X pins σ H s)(hH:H l=U (.lst xs)):↑xs<=sizeLine/\∃(au:-O)(n:Nat),Vals xs au/\↑xs=↑au/\s.heap.get? l=U {cls:=.type "list",data:=.seq au.toArray n}:=by
 let⟨z,au,n,r,e⟩:=I.aX l _ hH;calc⟨z,au,n,r,↑r,e⟩
theorem Ee{n:Nat}(h:n<=sizeLine):YB n=ι:=by
 unfold YB;calc Wn ⋯
end
section
variable{X:Cx}
def Ef:V->-V->Hp->VK->Prop:=λx vs H Q=>∃l xs y,x=.ref l/\vs=[y]/\H l=U (.lst xs)/\↑xs<sizeLine/\Q .non (upd H l (.lst (xs++[y])))
theorem sH:u5 X "list.append" Ef:=by
 ext pins s σ H x vs v us Q I rx rv h;let⟨l,xs,y,rfl,rfl,hH,hz,q⟩:=h;cases rx
 let⟨u,rfl,ru⟩:=rv.one;let⟨z,au,n,r,hl,e⟩:=I.hJ hH;calc Z_ F.slot_list_append ⟨_,e,Y⟩ F.entry_list_append (F.args_list_append_2 _ _) (PySem.list_append l au.toArray n u (by rw[yA];symm)) ⟨e,?_⟩;calc⟨.non,_,I.mB (its':=au++[u]) hH e (by simp) (r.append (.cons ru .nil)) ?_,Y,q⟩;rw[MJ,XI];symm
def Eg:V->-V->Hp->VK->Prop:=λx vs H Q=>∃l b xs zs,x=.ref l/\vs=[.ref b]/\H l=U (.lst xs)/\H b=U (.lst zs)/\↑xs+↑zs<=sizeLine/\Q .non (upd H l (.lst (xs++zs)))
theorem MC:u5 X "list.extend" Eg:=by
 ext pins s σ H x vs v us Q I rx rv h;let⟨l,b,xs,zs,rfl,rfl,hH,hB,hz,q⟩:=h;cases rx
 let⟨u,rfl,ru⟩:=rv.one;cases ru
 let⟨z,au,n,r,hl,e⟩:=I.hJ hH;let⟨z2,bz,n2,r2,qK,e2⟩:=I.hJ hB;let hsz:au.toArray.size+bz.toArray.size<=sizeLine:=by rw[yA,yA];symm
 let kE:¬ (!au.toArray.isEmpty&&YB (au.toArray.size+bz.toArray.size))=θ:=by
  rw[Ee hsz,q2U];exact WQ
 refine Z_ F.slot_list_extend ⟨_,e,Y⟩ F.entry_list_extend (F.args_list_extend_2 _ _)
  (AutoSeq1.list_extend_list_list_0 l au.toArray n b bz.toArray n2 kE (by rw[yA];symm) ⋯) ⟨e,e2,?_⟩
 calc⟨.non,_,I.mB (its':=au++bz) hH e (by simp) (r.append r2) ?_,Y,q⟩;rw[MJ];symm
def sI:V->-V->Hp->VK->Prop:=λx vs H Q=>∃l xs y,x=.ref l/\vs=[]/\H l=U (.lst xs)/\xs[↑xs-1]?=U y/\Q y (upd H l (.lst xs.dropLast))
theorem MD:u5 X "list.pop" sI:=by
 ext pins s σ H x vs v us Q I rx rv h;let⟨l,xs,y,rfl,rfl,hH,hy,q⟩:=h;cases rx
 let ME:=rv.zero;subst ME;let⟨z,au,n,r,hl,e⟩:=I.hJ hH;let⟨u,hu,ru⟩:=r.get hy
 let oG:au.toArray[au.toArray.size-1]?=U u:=by
  show au.toArray[↑au-1]?=U u;rw[<-W0,<-hl];exact hu
 calc Z_ q01 ⟨_,e,Y⟩ q2l (F.args_list_pop_1 _) (MeetsSeq.list_pop_last l au.toArray n u oG (by rw[yA];symm)) ⟨e,?_⟩;refine⟨y,_,I.mB (its':=au.dropLast) hH e ?_ r.dropLast ?_,ru,q⟩
 .show au.toArray.eraseIdxIfInBounds (au.toArray.size-1)=au.dropLast.toArray
  rw[yA,ZF,MB]
 .rw[List.length_dropLast]
  symm
def Eh:V->-V->Hp->VK->Prop:=λx vs H Q=>∃l xs i k y,x=.ref l/\vs=[.int i]/\H l=U (.lst xs) /\ -(2 ^ 63)<=i/\i<2 ^ 63/\seqIndex? i ↑xs=U k/\xs[k]?=U y/\Q y (upd H l (.lst (xs.eraseIdx k)))
theorem MF:u5 X "list.pop" Eh:=by
 ext pins s σ H x vs v us Q I rx rv h;let⟨l,xs,i,k,y,rfl,rfl,hH,h1,h2,hk,hy,q⟩:=h;cases rx
 let⟨u,rfl,ru⟩:=rv.one;let⟨t,rfl⟩:=ru;let⟨z,au,n,r,hl,e⟩:=I.hJ hH;let⟨w,hw,sE⟩:=r.get hy
 refine Z_ q01 ⟨_,e,Y⟩ q2l (F.args_list_pop_2 _ _)
  (MeetsSeq.list_pop_at l au.toArray n i t k w (q2V h1 h2) (by rw[yA,<-hl];calc hk) (by rw[<-W0];calc hw) (by rw[yA];symm)) ⟨e,?_⟩
 refine⟨y,_,I.mB (its':=au.eraseIdx k) hH e ?_ (r.eraseIdx k) ?_,sE,q⟩
 .show au.toArray.eraseIdxIfInBounds k=(au.eraseIdx k).toArray
  rw[ZF]
 .let:=Ed xs k
  symm
def yt:R2:=λx y H Q=>∃l b xs zs,x=.ref l/\y=.ref b/\H l=U (.lst xs)/\H b=U (.lst zs)/\↑xs+↑zs<=sizeLine/\∀p,H p=Z->Q (.ref p) (upd H p (.lst (xs++zs)))
theorem Ei:eB X (binaryOp .Add) yt:=by
 ext pins s σ H x y v u Q I rx ry h;let⟨l,b,xs,zs,rfl,rfl,hH,hB,hz,q⟩:=h;cases rx
 cases ry
 let⟨z,au,n,r,hl,e⟩:=I.hJ hH;let⟨z2,bz,n2,r2,qK,e2⟩:=I.hJ hB;calc PySem.P.add_list e e2 ?_ (by rw[yA,yA];symm);let ea:au.toArray++bz.toArray=(au++bz).toArray:=by simp
 rw[ea];calc⟨.ref _,_,I.cb (t':=s.toks) (r.append r2) (by rw[MJ];symm),Y,q _ I.fresh⟩
def yu:R2:=λx y H Q=>∃l k xs,x=.ref l/\y=.int k/\H l=U (.lst xs) /\ -(2 ^ 63)<=k/\k<2 ^ 63/\↑xs*k.toNat<=sizeLine ∧
 ∀p,H p=Z->Q (.ref p) (upd H p (.lst (Vv k.toNat xs).flatten))
theorem len_rep{α:Type}(xs:-α)(k:Nat):(Vv k xs).flatten.length=k*↑xs:=by
 induction k with
 |zero=>simp
 |succ k ih=>rw[Xs,Yy,MJ,ih,Nat.succ_mul,Nat.add_comm]
theorem MG:eB X (binaryOp .Mult) yu:=by
 ext pins s σ H x y v u Q I rx ry h;let⟨l,k,xs,rfl,rfl,hH,h1,h2,hz,q⟩:=h;cases rx
 let⟨t,rfl⟩:=ry;let⟨z,au,n,r,hl,e⟩:=I.hJ hH;let hlen:au.toArray.size*k.toNat<=sizeLine:=by rw[yA,<-hl];exact hz
 let yw:¬ au.toArray.size*k.toNat>(2 ^ 63-1) / 8:=by
  let:(sizeLine:Nat)<=(2 ^ 63-1) / 8:=by decide
  symm
 let yx:¬ (!Builtin.List.listFitsIndex k)=θ:=by
  rw[q2V h1 h2];exact WQ
 let kE:¬ YB (au.toArray.size*k.toNat)=θ:=by
  rw[Ee hlen];exact WQ
 let yy:q2T (λx1 x2=>x1++x2) #[] (Vv (if au.toArray.isEmpty=θ then 0 else k.toNat) au.toArray)=(Vv k.toNat au).flatten.toArray:=by
  let f0:∀m:Nat,q2T (λx1 x2=>x1++x2) #[] (Vv m au.toArray)=(Vv m au).flatten.toArray:=λm=>by
   let:=foldl_rep au m [];rw[YU] at this;exact this
  rw[f0]
  cases au with
  |nil=>simp
  |cons a r'=>rw[Vw (by simp)]
 refine wpAny_binaryOp_repeat_ref (T:="list") (U:="int") (by decide) ⟨_,e,Y⟩ (λs'=>q2S s' k t) noFill_list_mul F.fills_int_mul q2D repeat_list F.slot_int_index.lookup
  (Z_ q2D (q2S s k t) F.entry_int_rmul (F.args_int_rmul_2 _ _) (int___rmul___int_list k t l au.toArray n)
   ⟨e,Y,⟨_,e,Y⟩,Z_ F.slot_list_mul ⟨_,e,Y⟩ F.entry_list_mul (F.args_list_mul_2 _ _) (AutoListH.list___mul___list_int_3 l au.toArray n k t yx yw kE) ⟨e,?_⟩⟩)
 rw[yy];calc⟨.ref _,_,I.cb (t':=s.toks) (r.rep k.toNat) (by rw[len_rep,q3G];calc hz),Y,q _ I.fresh⟩
end
section
variable{prog:l}{w:g}{A:q}{E:bg}{s:B}
end
section
variable{X:Cx}
end
end L2
namespace Att
open PySem PySem.W PySem.Calls PyProof.Rows
theorem eY{P:Params}{h:I}:∀(ns:-Int)(vs:-O),WellAll P h vs (ns.map WData.int)->IntsAre vs ns:=by
 ext ns
 induction ns with
 |nil =>
  ext vs w;rw[Yp] at w;cases w
  exact .nil
 |cons n ns ih =>
  ext vs w;rw[Wx] at w
  cases w with
  |cons a b =>
   cases a
   calc .cons _ _ (ih _ b)
theorem jx{l:OpenLaw}{n:Nat}(hn:l.most=U n){P:Params}{h:I}{args:-WData}{vals:-O}
  (mC:l.row.toRowW.claim.pre args=θ) (yz:WellAll P h vals args) :
  ∃a vs ns,vals=[W5 a]/\args=[WData.list (ns.map WData.int)]/\h.get? a=U {cls:=.type "list",data:=.seq vs.toArray}/\IntsAre vs ns/\↑ns<=n:=by
 let MH:WShape.hasAll [] args [.list .int]=θ:=(pre_splitW mC).1;let hc:l.pre.holds [] {args:=args}=θ:=(pre_splitW mC).2;let⟨d,r,rfl,h1,h2⟩:=hasAllW_cons MH;obtain rfl:=hasAllW_nil h2;let⟨xs,rfl,h3⟩:=hasW_list h1;let⟨ns,rfl⟩:=items_int h3
 let hlen:↑ns<=n:=by
  unfold OpenLaw.pre at hc
  let h4:(WTm.not (.lt (.lit (.int (n:Int))) (.len (.arg 0)))).holds [] {args:=[.list (ns.map .int)]}=θ:=by
   let h4:=(holds_andW hc).1;rw[hn] at h4;exact h4
  let h5:=condW_of h4 (w_not (w_lt w_lit (w_len_list (w_arg Y))));rw[pN] at h5;calc Nat.le_of_not_lt λq=>?_;let q':(n:Int)<((↑ns:Nat):Int):=by symm
  first
   |(rw[Wu q'] at h5;calc absurd h5 (by decide))
   |(simp at h5;symm)
 cases yz with
 |cons w1 w2 =>
  cases w2
  cases w1 with
  |list ho l7=>calc⟨_,_,ns,Y,Y,ho,eY ns _ l7,hlen⟩
theorem jy(l:OpenLaw)(args:-WData):l.row.toRowW.claim.post args (.bool θ) args=θ :=
 postW_of (r:=l.row.toRowW) (X:=(θ==θ))
  (show WShape.has [] (.bool θ) .bool=θ by first|rfl|decide|simp[WShape.has,WShape.arms,WShape.armsAll])
  (show(WTm.eq .res (.lit (.bool θ))).value [] {args:=args,res:=U (.bool θ),after:=args}=U (.bool (θ==θ)) from w_eq_bool (w_res Y) w_lit) Y
theorem hU{l:OpenLaw}{n:Nat}{q:ψ}{loose:-R}{XP:(R->Option O)->I->Prop}{YP:g->I->Prop}{d:DefRec}
  (hn:l.most=U n) (sJ:d.params.defaults=[])
  (call:∀(w:g)(s₀ s₁:B)(mg mb:R->Option O)(fa:M)(o:Q)(pm cd doc:O)(a:M)(vs:-O)(ns:-Int),
   Ground q loose [] XP w s₀ mg mb s₁.heap->YP w s₁.heap →
   s₁.heap.get? fa=U o->o.data=.func (docDef d.name d.params d.body d.scope pm cd doc)->s₁.heap.CodeRec cd d.name->mg d.name=U (.ref fa) →
   s₁.heap.get? a=U {cls:=.type "list",data:=.seq vs.toArray}->IntsAre vs ns->↑ns<=n->s₁.gens = #[] →
   codeAny (ς l.prog w) callerA (.call (.ref fa) ⟨[.ref a],[]⟩) (λr s'=>r=.ok (.ret (.bool θ))/\OldK s₁.heap s'.heap/\s'.os=s₁.os/\AllBare s'.gens) s₁) :
  WalkO q loose XP YP l.row.toRowW d [] (λf vs=>q2X f vs):=by
 ext w s₀ s₁ mg mb G Y fa o pm cd doc dV kV ho hd gD hD mD hg args vals as mC MI Vq yz Vr;obtain rfl:dV=.none:=Dflts.none hD sJ;obtain rfl:kV=.none:=Dflts.noKw hD;let⟨a,vs,ns,rfl,rfl,pK,hints,hlen⟩:=jx hn mC yz;calc enter_call (Zw (call w s₀ s₁ mg mb fa o pm cd doc a vs ns G Y ho (fd_plain hd) gD mD pK hints hlen hg) λr s' hq=>?_);let⟨rfl,h2,h3,h4⟩:=hq;calc⟨.inl ⟨.bool θ,.bool θ,[],rfl,λ_=>rfl,.bool θ,jy l _,λ_=>⟨q11,λ_ hm=>(nomatch hm)⟩⟩,h2,h3,h4⟩
section
variable{prog:l}{w:g}{A:q}{E:bg}{s:B}{K:Frag}
end
end Att
namespace L2
open PySem PySem.Spec PyProof.Rows
theorem Ej:∀{vs:-O}{ns:-Int},IntsAre vs ns->Vals (ns.map V.int) vs
 |_,_,.nil=>.nil
 |_,_,.cons n t h=>.cons ⟨t,Y⟩ (Ej h)
noncomputable def inClass(s:o)(j:Nat):o:=match s with
 |.ClassDef _ _ _ body _ _ _ _ _ _ _=>body.getD j (.Pass ⟨0,0,0,0⟩)
 |_=>.Pass ⟨0,0,0,0⟩
noncomputable def iJ(s:o):Arguments:=match s with
 |.FunctionDef _ a _ _ _ _ _ _ _ _=>a
 |_=>{posonlyargs:=[],args:=[],vararg:=none,kwonlyargs:=[],kw_defaults:=[],kwarg:=none,defaults:=[]}
noncomputable def fE(s:o):-o:=match s with
 |.FunctionDef _ _ b _ _ _ _ _ _ _=>b
 |_=>[]
noncomputable def cn(s:o):a:=match s with
 |.FunctionDef _ _ _ _ _ _ sc _ _ _=>sc
 |_=>{kind:=.function,names:=[],isGenerator:=false,isCoroutine:=false}
abbrev eM:j2:=λ_ _ _ _ _ _=>False
abbrev E0:XK:=λ_ _ _=>False
theorem pP{X:Cx}:pE eM X E0:=λ_ _ _ _ _ _ _ h=>h.elim
structure fS(K:El)(x qual:R)(st:o)(f:M)(fd:FuncData):Prop where
 ex:∃(oc:O)(od:Option M)(kV doc pm:O)(an:Option M)(bc ct:O)(mz:Array (Option O)),
  fd=Xe x qual (iJ st) (fE st) (cn st) .none kV doc pm an bc ct/\K.lookup f=U ⟨oc,od,.func fd,mz⟩/\Y8 K bc qual=θ
 kp:Xy K (.ref f)=θ
section
variable{P:l}{w:g}{K:El}{mg:R->Option O}{base:I}
theorem fS.u7{x qual:R}{st:o}{f:M}{fd:FuncData}{N ps:-R}{k:Nat}{sp:Sp}(F:fS K x qual st f fd)(S:mx N ps (cn st))(len:∀vs H Q E,sp vs H Q E->↑vs=↑ps)
  (d_:∀(bc:O)(A:Β)(outer:-Ζ)(s:B)(H:Hp)(vs:-V)(Q:VK)(E:XK),aY k (A.deeper (envOfC qual (cn st) ⇑s f bc))->sp vs H Q E →
   ∃t,dM (eK eM P w K mg base N qual (cn st) f bc A outer s H E).jY (fE st) t/\t {nx:=λ_ H'=>Q .non H',rt:=Q} (start N vs) H):bW P w K mg base eM (k+1) f fd ps sp:=by
 let⟨oc,od,kV,doc,pm,an,bc,ct,mz,rfl,lk,gD⟩:=F.ex;calc DZ lk gD S len λA outer s H vs Q E hr oA=>?_;let⟨t,h,q⟩:=d_ bc A outer s H vs Q E hr oA;calc⟨t,h.jY,q⟩
theorem fS.binds{x qual:R}{st:o}{f:M}{fd:FuncData}{ps:-R}(F:fS K x qual st f fd)
  (h:∀(kV doc pm:O)(an:Option M)(bc ct:O)(us:-O),↑us=↑ps->bindArgs (Xe x qual (iJ st) (fE st) (cn st) .none kV doc pm an bc ct) ⟨us,[]⟩=pure (ps.zip us)):Binds K fd ps []:=by
 let⟨oc,od,kV,doc,pm,an,bc,ct,mz,rfl,lk,gD⟩:=F.ex;calc .all (h kV doc pm an bc ct)
theorem u9{x qual:R}{st:o}{f:M}{oc:O}{od an:Option M}{mz:Array (Option O)}{kV doc pm bc ct:O}(l:K.lookup f=U ⟨oc,od,.func (Xe x qual (iJ st) (fE st) (cn st) .none kV doc pm an bc ct),mz⟩)
  (c:Y8 K bc qual=θ) (k:Xy K (.ref f)=θ):fS K x qual st f (Xe x qual (iJ st) (fE st) (cn st) .none kV doc pm an bc ct):=⟨⟨oc,od,kV,doc,pm,an,bc,ct,mz,Y,l,c⟩,k⟩
end
theorem qM{n:Nat}(h:n<=1000):n<sizeLine:=Z4 h (by decide)
section
variable{X:Cx}
theorem jv(i:Nat){x:R}{pos:y}(hN:‹X.N[i]?=U x›)(hv:rV X.env.scope x:=by first|exact q1t Y|exact q2f (q1t Y)|calc q2f (q2f Y))(hd: ~~~(bV x))
  (gD: ~~~((x==("__classdict__" : R))=ι)):JE X (.Name x pos) (rY i):=DD hN hv hd gD
end
def aL(H H':Hp):Prop:=∀b o,H b=U o->H' b=U o
theorem aL.trans{H H1 H2:Hp}(a:aL H H1)(b:aL H1 H2):aL H H2:=λc o h=>b c o (a c o h)
theorem aL.free{H H':Hp}(e:aL H H'){l:M}(h:H' l=q4H):H l=q4H:=by
 cases q:H l with
 |none=>rfl
 |some o =>
  rw[e l o q] at h;cases h
theorem aL.seq{K:El}{H H':Hp}{a:M}{xs:-V}(e:aL H H')(h:bE K H a xs):bE K H' a xs:=by
 rcases h with(h|⟨o,h⟩)|h
 .exact .inl (.inl (e _ _ h))
 .exact .inl (.inr ⟨o,e _ _ h⟩)
 .calc .inr h
theorem MO{prog:l}{w:g}{A:q}{R:Result->B->Prop}{s:B}{elt target iter:J}{ifs:-J}{scope:a}{pos:y}{it acc:O}{env:t}(I:Nat->B->Prop)
  (turn:∀n s,I n s->L (G prog w) A (pyNext it) (λr s₁=>match r with
   |none=>R (.ok .next) s₁
   |some v=>L (G prog w) A (letOwnedTupleGo target it v) (λ_ s₂=>L (G prog w) A (assign target env v) (λ_ s₃ =>
     L (G prog w) A (forIn ifs θ λc r=>if r=θ then do let ok <- isTrue c env (eval c env);pure (XR ok) else pure (XR r)) (λok s₄ =>
      if ok=θ then L (G prog w) A (eval elt env) (λx s₅ =>
       L (G prog w) A (call (.builtin "list.append") [acc,x]) (λ_ s₆=>∃m,m<n/\I m s₆) (λ_ _=>False) s₅) (λ_ _=>False) s₄
      else ∃m,m<n/\I m s₄) (λ_ _=>False) s₃) (λ_ _=>False) s₂) (λ_ _=>False) s₁) (λ_ _=>False) s)
  (n:Nat) (h:I n s) :
  codeAny (G prog w) A (.compLoop (.ListComp elt [⟨target,iter,ifs,0⟩] scope pos) 0 it acc env) R s:=by
 calc codeAny_loop Y I (λn s hI=>?_) n h;show L _ A ((compTurn (.ListComp elt [⟨target,iter,ifs,0⟩] scope pos) 0 it acc env).onRaise (λx=>do noteFrame x env;theTreesLotGoes x)) _ _ s;calc wpAny_noted ?_;rw[compTurn_list];refine qL (ZM (qL (Ym (turn n s hI) (λr s₁ h₁=>?_) λ_ _ h'=>Xt h')))
 cases r with
 |none=>exact MK h₁
 |some v =>
  calc qL (Ym h₁ (λ_ s₂ h₂=>?_) λ_ _ h'=>Xt h');refine qL (Ym h₂ (λ_ s₃ h₃=>qL (Ym h₃ (λok s₄ h₄=>?_) λ_ _ h'=>Xt h')) λ_ _ h'=>Xt h')
  cases ok with
  |false=>exact MK ⟨Y,h₄⟩
  |true =>
   calc qL (qL (Ym h₄ (λx s₄ h₄=>qL (Ym h₄ (λ_ s₅ h₅=>MK (MK ⟨Y,h₅⟩)) λ_ _ h'=>Xt h')) λ_ _ h'=>Xt h'))
theorem yB{env:t}:∀(names:-(R×NameKind))(acc:-(R×M)),(∀y∈names,y.2=.free->∃c,env.cells.lookup y.1=U c)->(∀x c,acc.lookup x=U c->env.cells.lookup x=U c) →
  ∃cl,(forIn names acc (λ(x:Str×NameKind) (cs:-(Str×Addr))=>if x.2==XZ then cellOf env x.1 >>= λa=>pure (XR ((x.1,a)::cs)) else pure (XR cs)):Sem (-(R×M)))=pure cl ∧
   (∀x c,cl.lookup x=U c->env.cells.lookup x=U c)/\(∀y∈names,y.2=.free->∃c,cl.lookup y.1=U c)/\(∀x c,acc.lookup x=U c->∃c,cl.lookup x=U c)
 |[],acc,_,h2=>⟨acc,Y,h2,λ_ hy=>absurd hy (by simp),λx c e=>⟨c,e⟩⟩
 |(n,k)::r,acc,h1,h2=>by
  rw[q0S]
  by_cases hk:k=.free
  .subst hk
   let⟨c,hc⟩:=h1 (n,.free) Wo Y;let jX:env.cells.lookup n=U c:=hc;let ec:cellOf env n=pure c:=by unfold cellOf;rw[jX]
   let gG:∀x d,((n,c)::acc).lookup x=U d->env.cells.lookup x=U d:=λx d e=>by
    rw[Wz] at e
    cases q:x==n with
    |true =>
     rw[q] at e;cases e
     rw[XT q];exact jX
    |false =>
     rw[q] at e;exact h2 x d e
   let⟨cl,e,p1,p2,p3⟩:=yB r ((n,c)::acc) (λy hy=>h1 y (Vu _ hy)) gG;refine⟨cl,?_,p1,λy hy hf=>?_,λx d e=>?_⟩
   .dsimp only
    rw[Wm (by decide),ec];exact e
   .rcases MN.mp hy with rfl|hy
    .exact p3 n c (by simp)
    .exact p2 y hy hf
   .cases q:x==n with
    |true=>exact p3 x c (by rw[Wz,q])
    |false=>exact p3 x d (by rw[Wz,q];calc e)
  .let⟨cl,e,p1,p2,p3⟩:=yB r acc (λy hy=>h1 y (Vu _ hy)) h2
   refine⟨cl,?_,p1,λy hy hf=>?_,p3⟩
   .dsimp only
    rw[Vw hk⁻¹];exact e
   .rcases MN.mp hy with rfl|hy
    .exact absurd hf hk
    .calc p2 y hy hf
theorem Eo{scope:Δ}{env:t}(h:∀y∈scope.names,y.2=.free->∃c,env.cells.lookup y.1=U c):
  ∃cl,closureFor scope env=pure cl/\(∀x c,cl.lookup x=U c->env.cells.lookup x=U c)/\∀y∈scope.names,y.2=.free->∃c,cl.lookup y.1=U c:=by
 let⟨cl,e,p1,p2,_⟩:=yB scope.names [] h (λx c e=>by simp at e);calc⟨cl,?_,p1,p2⟩;let e':closureFor scope env=(forIn scope.names ([]:-(R×M)) (λ(x:Str×NameKind) (cs:-(Str×Addr))=>if x.2==XZ then cellOf env x.1 >>= λa=>pure (XR ((x.1,a)::cs)) else pure (XR cs)):Sem (-(R×M))) >>= pure:=Y;rw[e',e];rfl
structure BD where
 cl:-(R×M)
 C:M
 s:B
 H:Hp
 fp:-M
@[reducible] noncomputable def cC (X:Cx) (scope:a) (Nb:-R) (d:BD):Cx where
 prog:=X.prog
 w:=X.w
 K:=X.K
 mg:=X.mg
 base:=X.base
 A:=X.A
 N:=Nb
 s₀:=d.s
 H₀:=d.H
 env:=compEnvC scope d.cl d.C X.env
 outer:=X.stack
 stack:=X.stack
 ex:=d.fp
 fn:=λx=>S (scope.names.lookup x=U .cell)
 calm:=X.calm
 pn:=[]
 xe:=λ_ _=>False
noncomputable def ir(cp:-(Option Nat))(σ:St):St:=cp.map λo=>match o with
 |some i=>(σ[i]?).join
 |none=>Z
noncomputable def kF(N:-R)(u_ scope:a)(Nb:-R)(cp:-(Option Nat)):Bool :=
 (scope.names.all λy=>(S (y.2≠.cell)||S (scope.names.lookup y.1=U .cell))&&(S (y.2≠.local)||S (scope.names.lookup y.1=U .local))&&(S (y.2≠.free)||S (u_.names.lookup y.1=U .cell)||S (u_.names.lookup y.1=U .free))) &&
 S (↑cp=↑Nb)&&(cp.zip Nb).all λz=>match z.1 with
  |none=>θ
  |some i=>S (N[i]?=U z.2)&&S (scope.names.lookup z.2=U .free)
structure va(X:Cx)(scope:a)(Nb:-R)(cp:-(Option Nat)):Prop where
 kind:scope.kind=.function
 cell:∀y∈scope.names,y.2=.cell->scope.names.lookup y.1=U .cell
 names:∀y∈scope.names,y.2=.local->scope.names.lookup y.1=U .local
 free:∀y∈scope.names,y.2=.free->(X.env.kindOf y.1=U .cell\/X.env.kindOf y.1=U .free)
 len:↑cp=↑Nb
 sL:∀(j i:Nat)(x:R),cp[j]?=U (U i)->Nb[j]?=U x->X.N[i]?=U x/\scope.names.lookup x=U .free
theorem x2J{X:Cx}{scope:a}{Nb:-R}{cp:-(Option Nat)}(hk:scope.kind=.function)(h:kF X.N X.env.scope scope Nb cp=θ):va X scope Nb cp:=by
 unfold kF at h;erw[WZ,XS,Bool.or_eq_true,XH] at h;let⟨⟨h1,h2⟩,h3⟩:=h;refine⟨hk,λy hy e=>(h1 y hy).1.1.resolve_left (λz=>z e),λy hy e=>?_,λy hy e=>?_,h2,λj i x e1 e2=>?_⟩
 .rcases (h1 y hy).1.2 with z|z
  .exact absurd e z
  .exact z
 .rcases (h1 y hy).2 with(z|z)|z
  .exact absurd e z
  .exact .inl z
  .exact .inr z
 .let hm:(U i,x)∈cp.zip Nb:=by
   let:(cp.zip Nb)[j]?=U (U i,x):=by
    rw[List.getElem?_zip_eq_some];exact⟨e1,e2⟩
   exact WR this
  let:=h3 _ hm;simpa using this
theorem yC{env:t}{x:R}:∀{names:-(R×NameKind)}{k:NameKind},names.lookup x=U k →
  (names.map λ(n,k)=>if(k==XZ&&env.scope.kind==.function&&env.kindOf n==U .cell) then(n,XJ) else(n,k)).lookup x =
   U (if(k==XZ&&env.scope.kind==.function&&env.kindOf x==U .cell) then XJ else k)
 |[],k,h=>by simp at h
 |(n,k')::r,k,h=>by
  let ih:=@yC env x r k;show YL x ((if(k'==XZ&&env.scope.kind==.function&&env.kindOf n==U .cell)=θ then(n,XJ) else(n,k'))::_)=_
  cases hx:x==n with
  |true =>
   erw[Wz,hx] at h;cases h
   let e:x=n:=XT hx;subst e
   by_cases hc:(k'==XZ&&env.scope.kind==.function&&env.kindOf x==U .cell)=θ
   .rw[Wm hc,Wm hc];simp[Wz]
   .rw[Vw hc,Vw hc];simp[Wz]
  |false =>
   erw[Wz,hx] at h
   by_cases hc:(k'==XZ&&env.scope.kind==.function&&env.kindOf n==U .cell)=θ
   .rw[Wm hc];erw[Wz,hx];exact ih h
   .rw[Vw hc];erw[Wz,hx];calc ih h
theorem Ep{env:t}{x:R}:∀{names:-(R×NameKind)},names.lookup x=Z →
  (names.map λ(n,k)=>if(k==XZ&&env.scope.kind==.function&&env.kindOf n==U .cell) then(n,XJ) else(n,k)).lookup x=Z
 |[],h=>by simp
 |(n,k')::r,h=>by
  let ih:=@Ep env x r;show YL x ((if(k'==XZ&&env.scope.kind==.function&&env.kindOf n==U .cell)=θ then(n,XJ) else(n,k'))::_)=_
  cases hx:x==n with
  |true=>erw[Wz,hx] at h;cases h
  |false =>
   erw[Wz,hx] at h
   by_cases hc:(k'==XZ&&env.scope.kind==.function&&env.kindOf n==U .cell)=θ
   .rw[Wm hc];erw[Wz,hx];exact ih h
   .rw[Vw hc];erw[Wz,hx];calc ih h
structure JF(X:Cx)(ifs:-J)(t:TT):Prop where
 out:∀(pins:aC)(s:B)(σ:St)(H:Hp)(Q:Bool->Hp->Prop),Inv X pins σ H s->t σ H Q →
  L (G X.prog X.w) X.A (forIn ifs θ λc r=>if r=θ then do let ok <- isTrue c X.env (eval c X.env);pure (XR ok) else pure (XR r)) (TP X pins σ Q) X.xe s
instance {X:Cx} {ifs:-J} {t:TT}:CoeFun (JF X ifs t) (λ_=>∀(pins:aC)(s:B)(σ:St)(H:Hp)(Q:Bool->Hp->Prop),Inv X pins σ H s->t σ H Q->L (G X.prog X.w) X.A (forIn ifs θ λc r=>if r=θ then do let ok <- isTrue c X.env (eval c X.env);pure (XR ok) else pure (XR r)) (TP X pins σ Q) X.xe s):=⟨JF.out⟩
def yD:TT:=λ_ H Q=>Q θ H
theorem pQ{X:Cx}:JF X [] yD:=⟨λ_ _ _ H _ I h=>wpAny_tests_nil ⟨H,I,h⟩⟩
theorem MP{X:Cx}{c:J}{t:TT}(h:JT X c t):JF X [c] t:=⟨λpins s σ H Q I hw=>wpAny_tests_one (h pins s σ H Q I hw)
⟩
def MQ(g:TG)(tf:TT)(te:TE)(l:M)(x:V)(τ:St)(H:Hp)(N:St->Hp->Prop):Prop :=
 g x τ H fun τ2 H2=>tf τ2 H2 λb H3=>if b=θ then te τ2 H3 λy H4=>∃ys,H4 l=U (.lst ys)/\↑ys<sizeLine/\N τ2 (upd H4 l (.lst (ys++[y]))) else N τ2 H3
def Er(J:It)(g:TG)(tf:TT)(te:TE)(l:M)(τ0:St)(H0:Hp)(Q:VK):Prop :=
 ∃W:Nat->Nat->St->Hp->Prop,(∃m,W 0 m τ0 H0)/\∀i m τ H,W i m τ H →
  (J.stop i H/\Q (.ref l) H)\/(J.go i H/\∃N:St->Hp->Prop,(∀τ' H',N τ' H'->∃m',m'<m/\W (i+1) m' τ' H')/\∀x H',J.qF i H x H'->MQ g tf te l x τ H' N)
def sM(wi:TI)(cp:-(Option Nat))(g:BD->TG)(tf:BD->TT)(te:BD->TE):TE:=fun σ H Q=>wi σ H λJ H1=>∀(d:BD)(l:M),H1 l=Z->Er J (g d) (tf d) (te d) l (ir cp σ) (upd H1 l (.lst [])) Q
theorem qN:∀{names:-(R×NameKind)}{n:Nat}{acc:-(R×M)}{x:R}{c:M},(cellsFrom n names acc).lookup x=U c->acc.lookup x=U c\/(n<=c/\(x,XJ)∈names)
 |[],n,acc,x,c,h=>.inl h
 |(y,k)::r,n,acc,x,c,h=>by
  unfold cellsFrom at h;split at h
  .rename_i hk
   let ek:k=.cell:=XT hk;subst ek;rcases qN h with h|⟨h,m⟩
   .rw[Wz] at h
    cases q:x==y with
    |true=>rw[q] at h;cases h;rw[XT q];exact .inr ⟨Ek _,Wo ..⟩
    |false=>rw[q] at h;exact .inl h
   .exact .inr ⟨⋯,Vu _ m⟩
  .rcases qN h with h|⟨h,m⟩
   .exact .inl h
   .calc .inr ⟨h,Vu _ m⟩
theorem yE:∀{names:-(R×NameKind)}{n:Nat}{acc:-(R×M)}{x:R}{c:M},(x,XJ)∈names->(cellsFrom n names acc).lookup x=U c->n<=c
 |[],n,acc,x,c,m,h=>by cases m
 |(y,k)::r,n,acc,x,c,m,h=>by
  unfold cellsFrom at h
  by_cases mr:(x,XJ)∈r
  .split at h
   .let:=yE mr h;symm
   .exact yE mr h
  .let e:(x,XJ)=(y,k):=by
    rcases MN.mp m with e|e
    .exact e
    .exact absurd e mr
   cases e
   rw[Wm (by decide)] at h;rcases qN h with h|⟨h,_⟩
   .rw[Wz,beq_self_eq_true] at h
    cases h;exact Ek _
   .omega
theorem yF:∀{names:-(R×NameKind)}{n:Nat}{acc:-(R×M)}{x y:R}{c:M},(∀u v c,acc.lookup u=U c->acc.lookup v=U c->u=v)->(∀u c,acc.lookup u=U c->c<n)->(cellsFrom n names acc).lookup x=U c->(cellsFrom n names acc).lookup y=U c->x=y
 |[],n,acc,x,y,c,hi,_,h1,h2=>hi x y c h1 h2
 |(z,k)::r,n,acc,x,y,c,hi,hb,h1,h2=>by
  unfold cellsFrom at h1 h2;split at h1
  .rename_i hk
   rw[Wm hk] at h2;refine yF (λu v c q1 q2=>?_) (λu c q=>?_) h1 h2
   .rw[Wz] at q1 q2
    cases e1:u==z with
    |true =>
     rw[e1] at q1;cases q1
     cases e2:v==z with
     |true=>rw[XT e1,XT e2]
     |false=>rw[e2] at q2;exact absurd (hb v _ q2) (XY _)
    |false =>
     rw[e1] at q1
     cases e2:v==z with
     |true=>rw[e2] at q2;cases q2;exact absurd (hb u _ q1) (XY _)
     |false=>rw[e2] at q2;exact hi u v c q1 q2
   .rw[Wz] at q
    cases e1:u==z with
    |true=>rw[e1] at q;cases q;exact YG _
    |false=>rw[e1] at q;exact XD (hb u c q)
  .rename_i hk
   rw[Vw hk] at h2;calc yF hi hb h1 h2
theorem yG:∀{names:-(R×NameKind)}{n:Nat}{acc:-(R×M)}{x:R},(x,XJ)∉names->(cellsFrom n names acc).lookup x=acc.lookup x
 |[],n,acc,x,_=>Y
 |(y,k)::r,n,acc,x,m=>by
  unfold cellsFrom;split
  .rename_i hk
   let ek:k=.cell:=XT hk;subst ek;rw[yG λz=>m (Vu _ z),Wz]
   cases q:x==y with
   |true=>exact absurd (by rw[XT q];calc Wo ..) m
   |false=>rfl
  .calc yG λz=>m (Vu _ z)
theorem yH:∀{names:-(R×NameKind)}{h:I}{acc:-(R×M)}{x:R}{c:M},(∀u c,acc.lookup u=U c->∃v,h.IsCell c v)->(cellsFrom h.objs.size names acc).lookup x=U c->∃v,(pushCells h names).IsCell c v
 |[],h,acc,x,c,hc,e=>hc x c e
 |(y,k)::r,h,acc,x,c,hc,e=>by
  unfold cellsFrom at e;unfold pushCells;split at e
  .rename_i hk
   rw[Wm hk];let hz:(h.push {cls:=.type "cell",data:=.cell Z}).objs.size=h.objs.size+1:=Xo ..;rw[<-hz] at e;calc yH (λu c q=>?_) e;rw[Wz] at q
   cases e1:u==y with
   |true=>rw[e1] at q;cases q;exact⟨Z,_,Vt _ Y,Y⟩
   |false =>
    rw[e1] at q;let⟨v,o,g1,g2⟩:=hc u c q;exact⟨v,o,u6 _ g1,g2⟩
  .rename_i hk
   rw[Vw hk];calc yH hc e
theorem MR{M:Model}{A:q}{E:bg}{s:B}{scope:a}{g:ξ}{cl:-(R×ξ)}{qual:R}{env:t}{Q:t->B->Prop}
  (h:Q (newEnv scope ⇑s g (cellsFrom (⇑s+1) scope.names cl) qual Z .none (U env) builtinsNs) {s with heap:=pushCells (s.heap.push {cls:=.type "dict",data:=.dict #[]}) scope.names}) :
  L M A (newFunctionEnv scope g cl [] qual Z .none (U env)) Q E s:=by
 erw[newFunctionEnv,q1D,ZN];calc qL (wpAny_alloc ?_);calc qL (wpAny_layCells _ (λname kind cells=>by cases MS:kind==XJ<;>simp[MS]) _ _ _ _ ?_);rw[show({s with heap:=s.heap.push {cls:=.type "dict",data:=.dict #[]}}:B).heap.objs.size=⇑s+1 from Xo ..];calc qL ?_;rw[q07];calc MK (MK h)
section
variable{X:Cx}{elt tg iter:J}{ifs:-J}{scope:a}{pos:y}{Nb:-R}{cp:-(Option Nat)}{wi:TI}{g:BD->TG}{tf:BD->TT}{te:BD->TE}
variable{pins:aC}{σ:St}{H:Hp}{s:B}
noncomputable abbrev sN(scope:a)(s:B)(cl:-(R×M)):-(R×M):=cellsFrom (⇑s+1) scope.names cl
theorem MT{fp:-M}{cl:-(R×M)}(S:va X scope Nb cp)(I:Inv X pins σ H s)(hf:∀b∈fp,bD X pins H b)(ho:∀b∈fp,∃o,s.heap.get? b=U o)
  (c1:∀x c,cl.lookup x=U c->X.env.cells.lookup x=U c) (c2:∀y∈scope.names,y.2=.free->∃c,cl.lookup y.1=U c):(cC X scope Nb ⟨sN scope s cl,⇑s,s,H,fp⟩).Ok:=by
 let MU:∀b∈fp,b∉jW X.stack:=λb hb z=>by
  let⟨_,f1,f2,_⟩:=hf b hb;rcases MN.mp (I.gC b z) with e|e
  .exact f1 e
  .exact f2 e
 let lt:∀u c,cl.lookup u=U c->c<⇑s:=λu c e=>by
  let⟨v,q⟩:=I.cell u c (c1 _ _ e);exact q.lt
 refine⟨I.ok.mod,?_,I.ok.glob,I.ok.blt,Ek _,λx y c h1 h2=>?_,λx hx=>?_,λx c h hc=>?_,I.ok.hd,I.ok.frames,.inl Y,λb hb=>⟨?_,λx c e=>?_⟩,I.bs,WU I.ok.l9 I.sz,λb o e hb=>?_,MU,I.stack,I.i8⟩
 .exact S.kind
 .exact yF (λu v c q1 q2=>I.ok.inj u v c (c1 _ _ q1) (c1 _ _ q2)) (λu c e=>XD (lt u c e)) h1 h2
 .cases q:scope.names.lookup x with
  |none =>
   let z:(relabel scope X.env).names.lookup x=Z:=Ep q;let qO:(relabel scope X.env).names.lookup x=U .cell\/(relabel scope X.env).names.lookup x=U .free:=hx;rw[z] at qO;rcases qO with h|h<;>cases h
  |some k =>
   let hm:=Xr q;let z:(relabel scope X.env).names.lookup x=_:=yC (env:=X.env) q;let qO:(relabel scope X.env).names.lookup x=U .cell\/(relabel scope X.env).names.lookup x=U .free:=hx;rw[z] at qO
   let kf:k=.free\/k=.cell:=by
    by_cases hk:k=.free
    .exact .inl hk
    .let:(k==XZ)=ι:=by simpa using hk
     erw[this,q04,Xb,Yw] at qO;rcases qO with h|h
     .exact .inr (WJ h)
     .exact absurd (WJ h) hk
   calc q0o.mp (Zx scope.names _ cl ?_);rcases kf with rfl|rfl
   .let⟨c,e⟩:=c2 (x,.free) hm Y
    exact .inr (by rw[show cl.lookup x=U c from e];rfl)
   .exact .inl q
 .let hl:scope.names.lookup x=U .cell:=XE h
  let:=yE (Xr hl) hc;exact q12 this
 .let⟨o,e⟩:=ho b hb
  exact Wv (MM e)
 .rcases qN e with e|⟨e,_⟩
  .exact (hf b hb).2.2.2.2.1 x c (c1 _ _ e)
  .let⟨o,eo⟩:=ho b hb
   let yI:=MM eo;ext z;subst z;exact absurd (q13 e) (q50.mpr (X0 yI))
 .rcases (hf b hb).2.2.2.1 with z|z
  .exact I.ok.ky b o e z
  .calc absurd (Wr (MM (I.ok.bs b o e).1) z) (XY _)
theorem MV{cp:-(Option Nat)}{σ:St}{j:Nat}{v:V}(h:(ir cp σ)[j]?=U (U v)):∃i,cp[j]?=U (U i)/\σ[i]?=U (U v):=by
 unfold ir at h;rw[My] at h
 cases e:cp[j]? with
 |none=>rw[e] at h;cases h
 |some o =>
  rw[e] at h
  cases o with
  |none=>cases h
  |some i =>
   calc⟨i,Y,?_⟩;let h':(σ[i]?).join=U v:=WJ h
   cases q:σ[i]? with
   |none=>rw[q] at h';cases h'
   |some z =>
    rw[q] at h';let:z=U v:=h';rw[this]
theorem MW{fp:-M}{cl:-(R×M)}{h1:Α}{tk:Nat}(S:va X scope Nb cp)(I:Inv X pins σ H s)(hf:∀b∈fp,bD X pins H b)(ho:∀b∈fp,∃o,s.heap.get? b=U o)
  (c1:∀x c,cl.lookup x=U c->X.env.cells.lookup x=U c) (c2:∀y∈scope.names,y.2=.free->∃c,cl.lookup y.1=U c)
  (hn:h1.Ns ⇑s (λx=>([]:-(R×O)).reverse.lookup x)) (hk:∀b o,s.heap.get? b=U o->h1.get? b=U o) (qI:∀x c,(sN scope s cl).lookup x=U c->∃v,h1.IsCell c v) :
  Inv (cC X scope Nb ⟨sN scope s cl,⇑s,s,H,fp⟩) [] (ir cp σ) H {s with heap:=h1,toks:=tk}:=by
 refine⟨MT S I hf ho c1 c2,Y,I.bare,Un.kept hk,⟨_,hn,λj x v e1 e2 e3=>?_⟩,qI,I.aX.fresh (Ek _),λx c e=>?_,λp hp=>absurd (show p∈([]:aC) from hp) (by simp),I.aX.kept hk,?_⟩
 .let⟨i,q1,q2⟩:=MV e2
  let⟨q3,q4⟩:=S.sL j i x q1 e1;let hm:=Xr q4;let oH:=S.free _ hm Y;let⟨m,_,hl⟩:=I.loc
  let MX:rV X.env.scope x:=by
   rcases oH with h|h
   .exact .inr (.inl h)
   .exact .inr (.inr h)
  let⟨u,ru,lk⟩:=hl i x v q3 q2 MX;refine⟨u,ru,?_⟩
  let nl:X.env.kindOf x≠U .local:=by
   rcases oH with h|h
   .ext z;rw[h] at z;cases z
   .ext z;rw[h] at z;cases z
  rcases lk with⟨k,_⟩|⟨_,c,ec,hc⟩
  .exact absurd k nl
  .let⟨c',Es⟩:=c2 (x,.free) hm Y
   let Et:=c1 _ _ Es;rw[ec] at Et;cases Et;let nc:(x,XJ)∉scope.names:=λz=>by let:=S.cell _ z Y;rw[show scope.names.lookup x=U .free from q4] at this;cases this
   refine .inr ⟨?_,c,(yG nc).trans Es,?_⟩
   .let z:(relabel scope X.env).names.lookup x=_:=yC (env:=X.env) q4
    show(relabel scope X.env).names.lookup x=U .cell\/(relabel scope X.env).names.lookup x=U .free;rw[z];split
    .exact .inl Y
    .exact .inr Y
   .let⟨o,e,d⟩:=hc
    exact⟨o,hk _ _ e,d⟩
 .rcases qN e with e|⟨e,_⟩
  .exact I.cQ x c (c1 _ _ e)
  .exact I.aX.fresh (q12 e)
 .unfold ir
  rw[pN];calc S.len
theorem MY{fp:-M}{d:BD}{it l:M}{tn:Nat->I->Prop}{J:It}{R:Result->B->Prop}{Q:VK}{H1:Hp}{s1:B}{τ:St}(hc:X.calm=θ)
  (hg:JG (cC X scope Nb d) tg (g d)) (hf:JF (cC X scope Nb d) ifs (tf d)) (he:JE (cC X scope Nb d) elt (te d)) (T:Turn X.prog X.w X.K tg J fp it tn)
  (Vy:d.fp=fp) (I1:Inv (cC X scope Nb d) [] τ H1 s1) (iD:tn 0 s1.heap) (Eu:∀b∈fp,bD (cC X scope Nb d) [] H1 b)
  (W:Nat->Nat->St->Hp->Prop) (w0:∃m,W 0 m τ H1)
  (turn:∀i m τ H,W i m τ H->(J.stop i H/\Q (.ref l) H)\/(J.go i H/\∃N:St->Hp->Prop,(∀τ' H',N τ' H'->∃m',m'<m/\W (i+1) m' τ' H')/\∀x H',J.qF i H x H'->g d x τ H' fun τ2 H2=>tf d τ2 H2 λb H3 =>
   if b=θ then te d τ2 H3 λy H4=>∃ys,H4 l=U (.lst ys)/\↑ys<sizeLine/\N τ2 (upd H4 l (.lst (ys++[y]))) else N τ2 H3))
  (fin:∀τ' H' s',Inv (cC X scope Nb d) [] τ' H' s'->Q (.ref l) H'->R (.ok .next) s') :
  codeAny (G X.prog X.w) X.A (.compStart (.ListComp elt [⟨tg,iter,ifs,0⟩] scope pos) 0 (.ref it) (.ref l) (compEnvC scope d.cl d.C X.env)) R s1:=by
 let iE:∀{H':Hp},(∀b∈fp,H' b=Z)->∀b∈fp,bD (cC X scope Nb d) [] H' b:=λhn b hb=>⟨hn b hb,(Eu b hb).2⟩
 let loop:codeAny (G X.prog X.w) X.A (.compLoop (.ListComp elt [⟨tg,iter,ifs,0⟩] scope pos) 0 (.ref it) (.ref l) (compEnvC scope d.cl d.C X.env)) R s1:=by
  let⟨m0,w0⟩:=w0;calc MO (λn s'=>∃i τ' H',Inv (cC X scope Nb d) [] τ' H' s'/\tn i s'.heap/\(∀b∈fp,H' b=Z)/\W i n τ' H') ?_ m0 ⟨0,τ,H1,I1,iD,λb hb=>(Eu b hb).1,w0⟩;ext n s3 ⟨i,σ3,H3,I3,ou,sf,w3⟩;rcases turn i n σ3 H3 w3 with⟨stop,qn⟩|⟨go,N,hN,step⟩
  .refine br (T.done (cC X scope Nb d) Y Y Y hc i [] s3 σ3 H3 (λ_ _=>False) I3 (iE sf) ou stop) ?_;ext r s4 ⟨hr,I4⟩
   subst hr;exact fin σ3 H3 s4 I4 qn
  .refine br (T.item (cC X scope Nb d) Y Y Y hc i [] s3 σ3 H3 (λ_ _=>False) I3 (iE sf) ou go) ?_;ext r s4 ⟨u,hr,h4⟩
   subst hr;calc br h4 ?_;ext _ s5 ⟨x,H5,I5,r5,y5,pA,xO⟩;let xP:=I5.pinned (iE xO) (T.obj _ _ pA);refine br (hg _ s5 σ3 H5 x u _ xP r5 (step x H5 y5)) ?_;ext _ s6 ⟨σ6,H6,I6,q6⟩
   let again:∀{σ7:St}{H7:Hp}{s7:B}{m':Nat},Inv (cC X scope Nb d) ([]++sd fp s5.heap) σ7 H7 s7->m'<n->W (i+1) m' σ7 H7->∃m,m<n/\∃i σ' H',Inv (cC X scope Nb d) [] σ' H' s7/\tn i s7.heap/\(∀b∈fp,H' b=Z)/\W i m σ' H':=λ{σ7 H7 s7 m'} I7 hm w7=>by
    calc⟨m',hm,i+1,σ7,H7,I7.d7,T.keep _ _ _ pA λb hb o e=>(I7.pin (b,o) (WB _ (WB _ (uS hb e)))).1,λb hb=>?_,w7⟩;let⟨o,e,d⟩:=T.obj _ _ pA b hb;exact(I7.pin (b,o) (WB _ (WB _ (uS hb e)))).2.1
   refine br (hf _ s6 σ6 H6 _ I6 q6) λok s7 h0_=>el3 h0_ λH7 I7 q7=>?_
   cases ok with
   |false =>
    rw[Vw WQ] at q7 ⊢;let⟨m',hm,w7⟩:=hN _ _ q7;exact again I7 hm w7
   |true =>
    rw[Wm Y] at q7 ⊢;calc br (he _ s7 σ6 H7 _ I7 q7) ?_;ext y s8 ⟨yv,H8,I8,r8,ys,hy,hz,q8⟩;let⟨m',hm,w8⟩:=hN _ _ q8;calc br (sH _ s8 σ6 H8 (.ref l) [yv] (.ref l) [y] (λ_ H9=>H9=upd H8 l (.lst (ys++[yv]))) I8 Y (.cons r8 .nil) ⟨l,ys,yv,Y,Y,hy,hz,Y⟩) ?_;ext _ s9 ⟨_,H9,I9,_,e9⟩;subst e9;exact again I9 hm w8
 calc codeAny_compStart_list loop (T.self _ 0 s1 _ _ iD loop)
theorem MZ{fp:-M}{d:BD}{τ:St}{H1 H':Hp}{s1 s':B}(I1:Inv X pins σ H1 s1)(hs:d.s=s1)(hH:d.H=H1)(hd:d.fp=fp)(hf:∀b∈fp,bD X pins H1 b)(J:Inv (cC X scope Nb d) [] τ H' s'):Inv X pins σ H' s':=by
 subst hs hH hd;calc I1.rX (ch:=d.fp) J.os J.base J.aX J.bare λb hb=>⟨(hf b hb).2.2.2.1,(hf b hb).2.1,(hf b hb).2.2.2.2.1,(hf b hb).2.2.2.2.2⟩
theorem Ew{use:Option (O->Sem Unit)}{P:bg}{Q:VK}(hc:X.calm=θ)(S:va X scope Nb cp)(hi:JI X tg iter wi)(hg:∀d,JG (cC X scope Nb d) tg (g d))(hf:∀d,JF (cC X scope Nb d) ifs (tf d))(he:∀d,JE (cC X scope Nb d) elt (te d))
  (hs:∀x,foldedSetIterable iter X.env x=pure x) (I:Inv X pins σ H s) (h:sM wi cp g tf te σ H Q)
  (fin:∀(l C:M)(H':Hp)(s':B)(m:R->Option O),Inv X pins σ H' s'->bD X pins H' C->(∀p c,X.env.cells.lookup p=U c->c≠C)->s'.heap.Ns C m->Q (.ref l) H'->compPost (G X.prog X.w) X.A X.xe use P (.ref l) C (.ok .next) s') :
  L (G X.prog X.w) X.A (comprehension (.ListComp elt [⟨tg,iter,ifs,0⟩] scope pos) scope X.env (firstIterPos [⟨tg,iter,ifs,0⟩] pos) (newList []) ι (eval iter X.env) use) P X.xe s:=by
 let⟨cl,M0,c1,c2⟩:=Eo (scope:=scope) (env:=X.env) λy hy M1=>by
  rcases S.free y hy M1 with z|z
  .exact I.ok.has _ (.inl z)
  .exact I.ok.has _ (.inr z)
 calc wpAny_comprehension_free (cl:=cl) Y hs M0 S.kind S.names (br (hi pins s σ H _ I h) λv s1 h1=>br h1 λxK s2 h2=>?_);let⟨it,fp,tn,J,H2,e,I2,T,kB,f2,q2⟩:=h2;subst e;calc Yi ?_;let hl:H2 ⇑s2=Z:=I2.fresh;let I3:Inv X pins σ (upd H2 ⇑s2 (.lst [])) {s2 with heap:=s2.heap.push {cls:=.type "list",data:=.seq ([]:-O).toArray}}:=I2.cb (t':=s2.toks) (ys:=[]) .nil (W8 _);let k3:∀b o,s2.heap.get? b=U o->(s2.heap.push {cls:=.type "list",data:=.seq ([]:-O).toArray}).get? b=U o:=λb o e=>u6 _ e
 let f3:∀b∈fp,bD X pins (upd H2 ⇑s2 (.lst [])) b:=λb hb=>by
  let⟨o,e,_⟩:=T.obj _ _ kB b hb;calc⟨?_,(f2 b hb).2⟩;rw[aZ (Wv (MM e))];exact(f2 b hb).1
 generalize M3:upd H2 ⇑s2 (.lst [])=H3 at I3 f3;generalize M4:({s2 with heap:=s2.heap.push {cls:=.type "list",data:=.seq ([]:-O).toArray}}:B)=s3 at I3;let Ex:∀b o,s2.heap.get? b=U o->s3.heap.get? b=U o:=by rw[<-M4];exact k3
 let o3:∀b∈fp,∃o,s3.heap.get? b=U o:=λb hb=>let⟨o,e,_⟩:=T.obj _ _ kB b hb;⟨o,Ex b o e⟩;calc MR ?_;let k4:∀b o,s3.heap.get? b=U o->(pushCells (s3.heap.push {cls:=.type "dict",data:=.dict #[]}) scope.names).get? b=U o:=λb o e=>q2E _ _ _ _ (u6 _ e);let sO:(pushCells (s3.heap.push {cls:=.type "dict",data:=.dict #[]}) scope.names).Ns ⇑s3 (λx=>([]:-(R×O)).reverse.lookup x):=(Heap.Ns.new s3.heap (.type "dict")).keeps (q2E _ _)
 let I4:=MW (Nb:=Nb) (tk:=s3.toks) S I3 f3 o3 c1 c2 sO k4 λx c e=>by
  let hz:(s3.heap.push {cls:=.type "dict",data:=.dict #[]}).objs.size=⇑s3+1:=Xo ..;let e':(cellsFrom (s3.heap.push {cls:=.type "dict",data:=.dict #[]}).objs.size scope.names cl).lookup x=U c:=by rw[hz];exact e
  calc yH (λu c q=>?_) e';let⟨v,o,g1,g2⟩:=I3.cell u c (c1 _ _ q);exact⟨v,o,u6 _ g1,g2⟩
 generalize M5:pushCells (s3.heap.push {cls:=.type "dict",data:=.dict #[]}) scope.names=h₁ at k4 sO I4 ⊢;let⟨W,w0,turn⟩:=q2 ⟨sN scope s3 cl,⇑s3,s3,H3,fp⟩ ⇑s2 hl;rw[M3] at w0;refine MY (d:=⟨sN scope s3 cl,⇑s3,s3,H3,fp⟩) (fp:=fp) (tn:=tn) (J:=J) (Q:=Q) hc (hg _) (hf _) (he _) T Y I4 (T.keep _ _ _ kB λb hb o e=>k4 b o (Ex b o e)) (λb hb=>?_) W w0 turn fun τ' H' s' I5 q5=>?_
 .let⟨o,e⟩:=o3 b hb
  refine⟨(f3 b hb).1,Wv (MM e),λz=>?_,.inl hb,λx c ec=>?_,λp hp=>absurd (show p∈([]:aC) from hp) (by simp)⟩
  .rcases MN.mp (I3.gC b z) with r|r
   .exact (f3 b hb).2.1 r
   .exact (f3 b hb).2.2.1 r
  .rcases qN ec with q|⟨q,_⟩
   .exact (f3 b hb).2.2.2.2.1 x c (c1 _ _ q)
   .let yI:=MM e
    ext z;subst z;exact absurd (q13 q) (q50.mpr (X0 yI))
 .let I6:Inv X pins σ H' s':=MZ I3 Y Y Y f3 I5
  let⟨m,hn,_⟩:=I5.loc;let fC:bD X pins H' ⇑s3:=I3.gE (Ek _) I5.free;calc fin _ _ _ _ m I6 fC (λp c e=>fC.2.2.2.2.1 p c e) hn q5
theorem Ey(cp:-(Option Nat))(Nb:-R)(hc:X.calm=θ)(hi:JI X tg iter wi)(hg:∀d,JG (cC X scope Nb d) tg (g d))(hf:∀d,JF (cC X scope Nb d) ifs (tf d))(he:∀d,JE (cC X scope Nb d) elt (te d))
  (hk:‹scope.kind=.function›) (ho:autoParam (kF X.N X.env.scope scope Nb cp=θ) qz2._auto_1) (hs:‹∀x,foldedSetIterable iter X.env x=pure x›) :
  JE X (.ListComp elt [⟨tg,iter,ifs,0⟩] scope pos) (sM wi cp g tf te):=by
 calc⟨?_⟩;ext pins s σ H Q I h;rw[eval_ListComp];calc Ew (use:=none) hc (x2J hk ho) hi hg hf he hs I h λl C H' s' m I' fC hcc hn q=>⟨m,hn,λh' sP=>⟨.ref l,H',?_,Y,q⟩⟩;calc I'.turned (t':=s'.toks) (λb o hb e=>(sP.2 b hb).trans e) fC.1 fC.2.1 fC.2.2.2.1 fC.2.2.2.2.1 fC.2.2.2.2.2
theorem M6(cp:-(Option Nat))(Nb:-R){i:Nat}{x:R}{pos' hW:y}(hN:X.N.Nodup)(hi:X.N[i]?=U x)(hx:Loc X.env.scope x)(hc:X.calm=θ)(hit:JI X tg iter wi)(hg:∀d,JG (cC X scope Nb d) tg (g d))(hf:∀d,JF (cC X scope Nb d) ifs (tf d))(he:∀d,JE (cC X scope Nb d) elt (te d))
  (hk:‹scope.kind=.function›) (ho:autoParam (kF X.N X.env.scope scope Nb cp=θ) qz2._auto_1) (hs:‹∀x,foldedSetIterable iter X.env x=pure x›)
  (sQ:‹swapsWith (.ListComp elt [⟨tg,iter,ifs,0⟩] scope pos) (U (.Name x pos')) hW.line X.env=pure θ›)
  (me:autoParam (gB X x) qz1._auto_1) :
  JS X (.Assign [.Name x pos'] (.ListComp elt [⟨tg,iter,ifs,0⟩] scope pos) hW) (kA (sM wi cp g tf te) (uR i)):=by
 calc⟨?_⟩;ext pins s σ H D I h;rw[exec_Assign_Name_used _ _ _ _ sQ];calc qL (ZM (qL ?_));show L _ X.A (do let _ <- comprehension (.ListComp elt [⟨tg,iter,ifs,0⟩] scope pos) scope X.env _ (newList []) ι (eval iter X.env) (U (assign (.Name x pos') X.env))) _ _ s;calc qL (br (Ew (use:=U (assign (.Name x pos') X.env)) (P:=λ_ s'=>SP X pins D .next s') hc (x2J hk ho) hit hg hf he hs I h λl C H' s' m I' fC hcc hn q=>?_) λ_ s' hq=>MK (MK hq));show L _ X.A (assign (.Name x pos') X.env (.ref l)) _ _ s';refine q1P (Dz I' hN hi hx (v:=.ref l) Y (λiI M7 ⟨a,sb,ha⟩=>?_) me)
 let nC:C≠a:=by
  rcases ha with e|e
  .rw[e];exact fC.2.1
  .exact YN (hcc _ _ e)
 calc⟨m,hn.sameBut sb nC,λh' sP=>⟨_,H',?_,q⟩⟩;calc M7.turned (t':=iI.toks) (λb o hb e=>(sP.2 b hb).trans e) fC.1 fC.2.1 fC.2.2.2.1 fC.2.2.2.2.1 fC.2.2.2.2.2
end
section
variable{g:TG}{tf:TT}{te:TE}
end
section
variable{X:Cx}{pins:aC}{σ:St}{H:Hp}{s:B}{h':I}{T:M}{o:HO}{ch:-M}{t':Nat}
theorem Inv.fF(I:Inv X pins σ H s)(hf:∀b∈ch,bD X pins H b)(k:∀b u,b∉ch->s.heap.get? b=U u->h'.get? b=U u)(hT:⇑s<=T)(new:aU X.prog X.w (upd H T o) h' T o):
  Inv X pins σ (upd H T o) {s with heap:=h',toks:=t'}:=by
 let hn:H T=Z:=I.aX.fresh hT;let kz:∀b u,H b=U u->b∉ch:=λb u e hb=>by rw[(hf b hb).1] at e;cases e
 refine I.step (g':=s.gens) (d':=s.drawn) (ch:=ch) (λb hb=>⟨(hf b hb).2.2.2.1,(hf b hb).2.1,(hf b hb).2.2.2.2.1,(hf b hb).2.2.2.2.2⟩) (λb u _ _ hc e _=>k b u hc e) (λb u _ _ hc e _=>⟨u.slots,k b u hc e⟩)
  (λb u _ e n=>by rw[aZ (Wv (Wr (MM e) hT))];calc n) (λb u hc e=>⟨u,k b u hc e⟩) (λb xs e=>by rw[aZ (dJ e hn)];calc e)
  (λb u xs e=>by rw[aZ (dJ e hn)];calc e) (λb ps e=>⟨#[],by rw[aZ (dJ e hn),e];simp⟩) (λm hm=>?_) (λb u e=>?_) I.bare
 .let⟨u,es,ep,ho,r⟩:=hm
  exact⟨u,es,ep,k _ u (λhb=>(hf _ hb).2.1 Y) ho,r⟩
 .by_cases hb:b=T
  .subst hb;rw[b_] at e;cases e;exact new
  .rw[aZ hb] at e
   refine(I.aX b u e).gA (λc v hc q=>k c v ?_ q) (λc q=>by rw[aZ (dJ q hn)];calc q) λc xs q=>by rw[aZ (dJ q hn)];exact q
   rcases hc with z|z
   .rw[z];exact kz b u e
   .calc kz c _ z
theorem Inv.jz(I:Inv X pins σ H s)(hf:∀b∈ch,bD X pins H b)(k:∀b u,b∉ch->s.heap.get? b=U u->h'.get? b=U u):Inv X pins σ H {s with heap:=h',toks:=t'}:=by
 let kz:∀b u,H b=U u->b∉ch:=λb u e hb=>by rw[(hf b hb).1] at e;cases e
 refine I.step (g':=s.gens) (d':=s.drawn) (ch:=ch) (λb hb=>⟨(hf b hb).2.2.2.1,(hf b hb).2.1,(hf b hb).2.2.2.2.1,(hf b hb).2.2.2.2.2⟩) (λb u _ _ hc e _=>k b u hc e) (λb u _ _ hc e _=>⟨u.slots,k b u hc e⟩)
  (λb u _ e n=>n) (λb u hc e=>⟨u,k b u hc e⟩) (λb xs e=>e)
  (λb u xs e=>e) (λb ps e=>⟨#[],by rw[e];simp⟩) (λm hm=>?_) (λb u e=>?_) I.bare
 .let⟨u,es,ep,ho,r⟩:=hm
  exact⟨u,es,ep,k _ u (λhb=>(hf _ hb).2.1 Y) ho,r⟩
 .refine (I.aX b u e).gA (λc v hc q=>k c v ?_ q) (λc q=>q) λc xs q=>q
  rcases hc with z|z
  .rw[z];exact kz b u e
  .calc kz c _ z
end
noncomputable def qP(K:El)(a:M):It :=
 ⟨λi H=>∃xs x,bE K H a xs/\xs[i]?=U x,λi H x H'=>∃T v,x=.ref T/\H T=Z/\H'=upd H T (.tup [.int (i:Nat),v])/\∀xs,bE K H a xs->xs[i]?=U v,λi H=>∃xs,bE K H a xs/\↑xs<=i⟩
theorem Ez{P:l}{w:g}{K:El}{elts:-J}{x1}{tp:y}(a e it:M)(g6:e≠it):
  Turn P w K (.Tuple elts x1 tp) (qP K a) [e,it] e (λi h=>(∃old,IsEnum h e it (i:Nat) old)/\h.IsListIter it a i) where
 mem:=by simp
 obj:=λi h st b hb=>by
  let⟨⟨old,he⟩,o,hi,hc,hd⟩:=st;rcases MN.mp hb with rfl|hb
  .exact⟨_,he,λv z=>by cases z⟩
  .let z:b=it:=by simpa using hb
   subst z;exact⟨o,hi,λv z=>by rw[hd] at z;cases z⟩
 keep:=λi h h' st k=>by
  let⟨⟨old,he⟩,hi⟩:=st;exact⟨⟨old,k e (by simp) _ he⟩,hi.at λo q=>k it (by simp) o q⟩
 item:=by
  ext X hP hw hK hc i pins s σ H E I hf st hg;subst hP hw hK;let⟨⟨old,he⟩,hi⟩:=st;let⟨xs,x,hq,hx⟩:=hg;let⟨au,rv,p,hz⟩:=I.list hq;let⟨u,hu,ru⟩:=rv.get hx;calc wpAny_pyNext_enum_item he hi p.isList (x:=u) hu⁻¹ g6 λh1 lL sR sS hsz hk=>⟨_,Y,?_⟩;calc q0a lL λh2 vb d6=>?_;let hT:⇑s≠e:=Yo (MM he);let l6:h2.get? ⇑s=U {cls:=.type "tuple",data:=.seq #[.int i s.toks,u]}:=(d6.2 _ hT).trans sS
  let k2:∀b o,b∉[e,it]->s.heap.get? b=U o->h2.get? b=U o:=λb o hb q=>by
   let mF:b≠e:=λz=>hb (by simp[z]);let gG:b≠it:=λz=>hb (by simp[z]);exact(d6.2 _ mF).trans (hk b o mF gG q)
  let hn:H ⇑s=Z:=I.aX.fresh (Ek _);refine⟨.ref ⇑s,upd H ⇑s (.tup [.int i,x]),I.fF (ch:=[e,it]) (t':=s.toks+1) hf k2 (Ek _) ?_,Y,⟨_,x,Y,hn,Y,λys hy=>by rw[I.fD hy hq];calc hx⟩,⟨⟨u,?_⟩,?_⟩,λb hb=>?_⟩
  .exact⟨by show 2<=sizeLine;decide,[.int i s.toks,u],.cons ⟨_,Y⟩ (.cons ru .nil),_,l6,Y,_,Y⟩
  .let e3:((i:Int)+1)=(((i+1:Nat)):Int):=by symm
   rw[e3] at vb;exact vb
  .exact sR.at λo q=>(d6.2 _ (YN g6)).trans q
  .let:b<⇑s:=by
    let⟨o,q,_⟩:=hi;rcases MN.mp hb with rfl|hb
    .exact MM he
    .let z:b=it:=by simpa using hb
     subst z;exact MM q
   rw[aZ (Wv this)];exact(hf b hb).1
 done:=by
  ext X hP hw hK hc i pins s σ H E I hf st hg;subst hP hw hK;let⟨⟨old,he⟩,hi⟩:=st;let⟨xs,hq,hx⟩:=hg;let⟨au,rv,p,hz⟩:=I.list hq;let hl:=↑rv;calc wpAny_pyNext_enum_end (I.ok.hd hc) he hi p.isList (by simp;symm) λh1 eb=>⟨Y,?_⟩;let⟨f0,f1,f2,f3,f4,f5⟩:=hf it (by simp);exact I.turned (t':=s.toks) (λb o hb q=>eb b o hb q) f0 f1 f3 f4 f5
 self:=λA i s Q E st h=>by
  let⟨⟨old,he⟩,hi⟩:=st;let hT:s.TypeIs (.ref e) "enumerate" := ⟨_,he,Y⟩;calc Yk he h
section
variable{X:Cx}{elts:-J}{x1:Nat}{tp:y}
def M8(K:El)(ta:TA):TI:=fun σ H R=>ta σ H λvs H1=>∃a,vs=[.ref a]/\(∃xs,bE K H1 a xs)/\R (qP K a) H1
theorem EA:bootBuiltins "enumerate" = U (.type "enumerate"):=by decide +kernel
theorem M9:bootBuiltins "zip" = U (.type "zip"):=by decide +kernel
theorem M_{a:J}{ta:TA}{p pos:y}(hg:Gl X "enumerate")(hm:X.mg "enumerate" = Z)(ha:JA X [a] ta)(hs:‹starEach [a] X.env=[(ι,eval a X.env)]›):
  JI X (.Tuple elts x1 tp) (.Call (.Name "enumerate" p) [a] [] pos) (M8 X.K ta):=by
 calc⟨?_⟩;ext pins s σ H R I h;calc Call_ (mf I hg hm EA (Xv (br (ha pos pins s σ H _ I h) λus s1 ⟨vs,H1,I1,r1,q1⟩=>?_) hs Y));let⟨l,e,⟨xs,hq⟩,q⟩:=q1;subst e
 cases r1 with
 |cons r rr =>
  cases rr
  cases r
  let⟨au,rv,p,hz⟩:=I1.list hq;calc q1d p.isList λh' he hi hsz hk=>?_;let I2:Inv X pins σ H1 {s1 with heap:=h'}:=I1.kept (t':=s1.toks) hk;calc Yk he ?_;refine⟨_,_,_,_,H1,Y,I2,Ez l (⇑s1+1) ⇑s1 (q0v _),⟨⟨_,he⟩,hi⟩,λb hb=>?_,q⟩
  let hb':⇑s1<=b:=by
   rcases MN.mp hb with rfl|hb
   .exact ZR _
   .let z:b=⇑s1:=by simpa using hb
    rw[z];exact Ek _
  calc I1.gE hb' (I1.aX.fresh hb')
end
section
variable{X:Cx}{nm:R}{tp:y}
end
end L2
namespace L2
open PySem PySem.Spec PyProof.Rows PySem.W
open Builtin Builtin.ObjectAttr
section
variable{prog:l}{w:g}{A:q}{E:bg}{s:B}{K:Frag}{x D:M}{ox:Q}{Vz:Option Q}{name:R}
variable{h:I}{g:Array GenState}{d:Drawn}{t:Nat}{os:OsState}{nm q:R}{C N:M}{bs bm VA:-O}{Na:Bool}{sn:-R}{sub:-O}{ab:Bool}{col:Option Bool}{dd:Option M}{k0 k1 k2 k3 k5:Option O}{B newId yJ:String}
end
end L2
namespace L2
open PySem PySem.Spec PyProof.Rows
section
variable{X:Cx}{pins:aC}{σ:St}{H:Hp}{s:B}{C f:M}{CX:j2}{k:Nat}{fd:FuncData}{ps:-R}{sp:Sp}{E:XK}{x:R}{p pos pos':y}{e o value:J}{es:-J}{ta tv:TE}{t:TA}
end
section
variable{X:Cx}
noncomputable def sT:V->Option O
 |.ty n=>U (.type n)
 |.ref a=>U (.ref a)
 |_=>Z
theorem Nc{y:V}{u c:O}(r:RelV y u)(e:sT y=U c):u=c:=by
 cases y with
 |ty n=>cases e;exact r
 |ref a=>cases e;exact r
 |_=>cases e
theorem Nd:gZ X (.builtin "isinstance") (λxs H Q=>∃x y c t b,xs=[x,y]/\sT y=U c/\d9 X.K H x t/\Xp X.K t c=U b/\Q (.bl b) H):=by
 ext pins s σ H xs us Q I rv h;let⟨x,y,c,t,b,rfl,hc,ty,e,q⟩:=h;let⟨u,w',rfl,rx,ry⟩:=rv.two;rw[Nc ry hc];calc LV I rx ty e λtk=>⟨.bl b,H,I.tok tk,Y,q⟩
end
theorem Nf{K:El}{a:M}{xs:-V}{g:TG}{tb:TS}{D:Ends}{σ:St}{H:Hp}(Pv:Nat->St->Hp->Prop)(h0:Pv 0 σ H)(hl:∀i σ H,i<=↑xs->Pv i σ H->bE K H a xs)
  (hs:∀i x T σ H,xs[i]?=U x->Pv i σ H->H T=Z->g (.ref T) σ (upd H T (.tup [.int (i:Nat),x])) fun σ2 H2=>tb {D with nx:=Pv (i+1),ct:=Pv (i+1),bk:=D.nx} σ2 H2) (hd:∀σ H,Pv ↑xs σ H->D.nx σ H) :
  ∃W:Nat->Nat->St->Hp->Prop,(∃m,W 0 m σ H)/\∀i m σ H,W i m σ H →
   ((qP K a).stop i H/\D.nx σ H)\/((qP K a).go i H/\∃N:St->Hp->Prop,(∀σ' H',N σ' H'->∃m',m'<m/\W (i+1) m' σ' H')/\∀x H',(qP K a).qF i H x H'->g x σ H' fun σ2 H2=>tb {D with nx:=N,ct:=N,bk:=D.nx} σ2 H2):=by
 calc⟨λi m σ H=>m=↑xs-i/\i<=↑xs/\Pv i σ H,⟨↑xs,by simp,W8 _,h0⟩,?_⟩;ext i m σ H ⟨rfl,hi,p⟩;let q:=hl i σ H hi p
 by_cases fX:i<↑xs
 .refine .inr ⟨⟨xs,xs[i],q,by simp[fX]⟩,Pv (i+1),fun σ' H' p'=>⟨↑xs-(i+1),⋯,Y,fX,p'⟩,λx H' y=>?_⟩
  let⟨T,v,rfl,hT,rfl,y⟩:=y;exact hs i v T σ H (y xs q) p hT
 .let e:i=↑xs:=by symm
  subst e;calc .inl ⟨⟨xs,q,Ek _⟩,hd σ H p⟩
section
variable{g:TG}{tf:TT}{te:TE}{l:M}{τ0:St}{H0:Hp}{Q:VK}
end
section
variable{X:Cx}{es:-J}{te:TE}{t:TA}
theorem yK{c j p}(ha:JE X (.Constant c j p) te)(hr:JA X es t):JA X (.Constant c j p::es) (oy te t):=jw ha hr Y
theorem pR{x p}(ha:JE X (.Name x p) te)(hr:JA X es t):JA X (.Name x p::es) (oy te t):=jw ha hr Y
theorem mG{f a k p}(ha:JE X (.Call f a k p) te)(hr:JA X es t):JA X (.Call f a k p::es) (oy te t):=jw ha hr Y
theorem yL{a p}(ha:JE X (.List a p) te)(hr:JA X es t):JA X (.List a p::es) (oy te t):=jw ha hr Y
theorem yM{a k p}(ha:JE X (.Tuple a k p) te)(hr:JA X es t):JA X (.Tuple a k p::es) (oy te t):=jw ha hr Y
theorem yN{a k p}(ha:JE X (.Subscript a k p) te)(hr:JA X es t):JA X (.Subscript a k p::es) (oy te t):=jw ha hr Y
end
inductive D where
 |non|bl (b:Bool)|int (i:Int)|str (x:R)|tup (xs:-D)|lst (xs:-D)
mutual
def Is (H:Hp):D->V->Prop
 |.non,v=>v=.non
 |.bl b,v=>v=.bl b
 |.int i,v=>v=.int i
 |.str x,v=>v=.str x
 |.tup ds,v=>∃a vs,v=.ref a/\H a=U (.tup vs)/\ah H ds vs
 |.lst ds,v=>∃a vs,v=.ref a/\H a=U (.lst vs)/\ah H ds vs
def ah (H:Hp):-D->-V->Prop
 |[],vs=>vs=[]
 |d::ds,vs=>∃v r,vs=v::r/\Is H d v/\ah H ds r
end
mutual
theorem Is.same {H H':Hp} (s:aL H H'):∀{d:D}{v:V},Is H d v->Is H' d v
 |.non,_,h=>h
 |.bl _,_,h=>h
 |.int _,_,h=>h
 |.str _,_,h=>h
 |.tup _,_,h=>by
  erw[Is] at h ⊢;let⟨a,vs,e,h1,h2⟩:=h;exact⟨a,vs,e,s _ _ h1,ah.same s h2⟩
 |.lst _,_,h=>by
  erw[Is] at h ⊢;let⟨a,vs,e,h1,h2⟩:=h;calc⟨a,vs,e,s _ _ h1,ah.same s h2⟩
theorem ah.same {H H':Hp} (s:aL H H'):∀{d:-D}{v:-V},ah H d v->ah H' d v
 |[],_,h=>h
 |_::_,_,h=>by
  erw[ah] at h ⊢;let⟨v,r,e,h1,h2⟩:=h;calc⟨v,r,e,Is.same s h1,ah.same s h2⟩
end
theorem ah.length{H:Hp}:∀{ds:-D}{vs:-V},ah H ds vs->↑vs=↑ds
 |[],_,h=>by erw[ah] at h;rw[h];rfl
 |_::_,_,h=>by
  erw[ah] at h;let⟨v,r,rfl,_,h2⟩:=h;rw[Em,Em,ah.length h2]
theorem ah.get{H:Hp}:∀{ds:-D}{vs:-V}{i:Nat}{v:V},ah H ds vs->vs[i]?=U v->∃d,ds[i]?=U d/\Is H d v
 |[],_,i,v,h,e=>by erw[ah] at h;rw[h] at e;simp at e
 |d::ds,_,i,v,h,e=>by
  erw[ah] at h;let⟨v',r,rfl,h1,h2⟩:=h
  cases i with
  |zero=>simp at e;subst e;exact⟨d,Y,h1⟩
  |succ i=>simp at e;simpa using ah.get h2 e
theorem ah.nil{H:Hp}:ah H [] []:=by erw[ah]
theorem ah.cons{H:Hp}{d:D}{ds:-D}{v:V}{vs:-V}(h:Is H d v)(r:ah H ds vs):ah H (d::ds) (v::vs):=by
 erw[ah];calc⟨v,vs,Y,h,r⟩
theorem ah.snoc{H:Hp}{d:D}{v:V}:∀{ds:-D}{vs:-V},ah H ds vs->Is H d v->ah H (ds++[d]) (vs++[v])
 |[],_,h,q=>by erw[ah] at h;subst h;exact .cons q .nil
 |_::_,_,h,q=>by
  erw[ah] at h;let⟨v',r,rfl,h1,h2⟩:=h;exact .cons h1 (ah.snoc h2 q)
mutual
noncomputable def dep:D->Nat
 |.tup ds=>bq ds+1
 |.lst ds=>bq ds+1
 |_=>0
noncomputable def bq:-D->Nat
 |[]=>0
 |d::ds=>max (dep d) (bq ds)
end
theorem yO:∀{ds:-D}{i:Nat}{d:D},ds[i]?=U d->dep d<=bq ds
 |[],i,d,e=>by simp at e
 |d'::ds,0,d,e=>by simp at e;subst e;erw[bq];exact Nat.le_max_left _ _
 |d'::ds,i+1,d,e=>by simp at e;erw[bq];calc WU (yO e) (Nat.le_max_right _ _)
noncomputable def cF:D->String
 |.non=>"NoneType" | .bl _=>"bool" | .int _=>"int" | .str _=>"str" | .tup _=>"tuple" | .lst _=>"list"
theorem Is.ty{K:El}{H:Hp}:∀{d:D}{v:V},Is H d v->d9 K H v (.type (cF d))
 |.non,_,h=>by cases(show _=_ from h);exact .non
 |.bl b,_,h=>by cases(show _=_ from h);exact .bl b
 |.int i,_,h=>by cases(show _=_ from h);exact .int i
 |.str x,_,h=>by cases(show _=_ from h);exact .str x
 |.tup _,_,h=>by
  erw[Is] at h;let⟨a,vs,rfl,h1,_⟩:=h;exact .tup h1
 |.lst _,_,h=>by
  erw[Is] at h;let⟨a,vs,rfl,h1,_⟩:=h;calc .lst h1
noncomputable def bf(T c:String):Bool:=T==c||(T=="bool" && c=="int")
section
variable{K:El}
theorem Ng:∀T∈["NoneType", "bool", "int", "str", "tuple", "list"],Xp K (.type T) (.type "bool")=U (bf T "bool"):=by
 ext T hT;erw[MN,WD,Yf] at hT;rcases hT with rfl|rfl|rfl|rfl|rfl|rfl<;>kernel_rfl
theorem Nh:∀T∈["NoneType", "bool", "int", "str", "tuple", "list"],Xp K (.type T) (.type "int")=U (bf T "int"):=by
 ext T hT;erw[MN,WD,Yf] at hT;rcases hT with rfl|rfl|rfl|rfl|rfl|rfl<;>kernel_rfl
theorem Ni:∀T∈["NoneType", "bool", "int", "str", "tuple", "list"],Xp K (.type T) (.type "str")=U (bf T "str"):=by
 ext T hT;erw[MN,WD,Yf] at hT;rcases hT with rfl|rfl|rfl|rfl|rfl|rfl<;>kernel_rfl
theorem kit_tuple:∀T∈["NoneType", "bool", "int", "str", "tuple", "list"],Xp K (.type T) (.type "tuple")=U (bf T "tuple"):=by
 ext T hT;erw[MN,WD,Yf] at hT;rcases hT with rfl|rfl|rfl|rfl|rfl|rfl<;>kernel_rfl
theorem Nj:∀T∈["NoneType", "bool", "int", "str", "tuple", "list"],Xp K (.type T) (.type "list")=U (bf T "list"):=by
 ext T hT;erw[MN,WD,Yf] at hT;rcases hT with rfl|rfl|rfl|rfl|rfl|rfl<;>kernel_rfl
theorem sU(d:D):cF d∈["NoneType", "bool", "int", "str", "tuple", "list"]:=by cases d<;>simp[cF]
end
section
variable{X:Cx}
theorem JE.weak{e:J}{t t':TE}(h:JE X e t)(k:∀σ H Q,t' σ H Q->t σ H Q):JE X e t':=⟨λpins s σ H Q I q=>h pins s σ H Q I (k σ H Q q)⟩
theorem JT.weak{e:J}{t t':TT}(h:JT X e t)(k:∀σ H Q,t' σ H Q->t σ H Q):JT X e t':=⟨λpins s σ H Q I q=>h pins s σ H Q I (k σ H Q q)⟩
theorem JA.weak{es:-J}{t t':TA}(h:JA X es t)(k:∀σ H Q,t' σ H Q->t σ H Q):JA X es t':=⟨λpos pins s σ H Q I q=>h pos pins s σ H Q I (k σ H Q q)⟩
theorem JS.weak{st:o}{t t':TS}(h:JS X st t)(k:∀D σ H,t' D σ H->t D σ H):JS X st t':=⟨λpins s σ H D I q=>h pins s σ H D I (k D σ H q)⟩
theorem dM.weak{st:-o}{t t':TS}(h:dM X st t)(k:∀D σ H,t' D σ H->t D σ H):dM X st t':=⟨λpins s σ H D I q=>h pins s σ H D I (k D σ H q)⟩
end
section
variable{κ:Type}[DecidableEq κ]
noncomputable def ee(kvs:-(κ×V))(k:κ):Option V:=(kvs.find? λkv=>S (kv.1=k)).map (·.2)
noncomputable def putK(kvs:-(κ×V))(k:κ)(v:V):-(κ×V) :=
 if(kvs.any λkv=>S (kv.1=k))=θ then kvs.map (λkv=>if kv.1=k then(kv.1,v) else kv) else kvs++[(k,v)]
theorem vc{p:κ×V}{r:-(κ×V)}{k:κ}(e:p.1=k):ee (p::r) k=U p.2:=by simp[ee,YV,e]
theorem vd{p:κ×V}{r:-(κ×V)}{k:κ}(e:¬ p.1=k):ee (p::r) k=ee r k:=by simp[ee,YV,e]
theorem EB(k:κ):∀kvs:-(κ×V),(kvs.any λkv=>S (kv.1=k))=(ee kvs k).isSome
 |[]=>Y
 |p::r=>by
  rw[YC]
  by_cases e:p.1=k
  .erw[vc e,Wu e,q3N,q1D]
  .rw[vd e,Wn e,q3k];calc EB k r
theorem EC(kvs:-(κ×V))(k:κ)(v:V):↑(putK kvs k v)<=↑kvs+1:=by
 unfold putK;split
 .rw[pN];symm
 .rw[MJ,Em,YT];symm
theorem d5.eN{o:Option V}{u:Option O}(r:d5 o u):o.isSome=u.isSome:=by
 cases o with
 |none=>cases u with
  |none=>rfl
  |some _=>exact(show False from r).elim
 |some _=>cases u with
  |none=>exact(show False from r).elim
  |some _=>rfl
theorem KV.val{kvs:-(κ×V)}{vs:-(κ×O)}(r:KV kvs vs)(k:κ):d5 (ee kvs k) (valueAt vs k):=by
 unfold KV at r
 induction r with
 |nil=>exact Yz
 | @cons p q ps qs h t ih =>
  let⟨h1,h2⟩:=h
  by_cases e:p.1=k
  .let e':q.1=k:=h1.symm.trans e
   let b:valueAt (q::qs) k=U q.2:=by simp[valueAt,YV,e']
   rw[vc e,b];exact h2
  .let e':¬ q.1=k:=λz=>e (h1.trans z)
   let b:valueAt (q::qs) k=valueAt qs k:=by simp[valueAt,YV,e']
   rw[vd e,b];calc ih
theorem KV.any{kvs:-(κ×V)}{vs:-(κ×O)}(r:KV kvs vs)(k:κ):(kvs.any λkv=>S (kv.1=k))=vs.any λkv=>S (kv.1=k):=by
 unfold KV at r
 induction r with
 |nil=>rfl
 |cons h t ih=>rw[YC,YC,ih,h.1]
theorem KV.iK{kvs:-(κ×V)}{vs:-(κ×O)}(r:KV kvs vs)(k:κ){y:V}{u:O}(ry:RelV y u):
  KV (kvs.map λkv=>if kv.1=k then(kv.1,y) else kv) (vs.map λkv=>if kv.1=k then(kv.1,u) else kv):=by
 unfold KV at r ⊢
 induction r with
 |nil=>exact .nil
 | @cons p q ps qs h t ih =>
  rw[Wx,Wx];calc .cons ?_ ih;let⟨h1,h2⟩:=h
  by_cases e:p.1=k
  .rw[Wm e,Wm (h1.symm.trans e)];exact⟨h1,ry⟩
  .rw[Vw e,Vw (λz=>e (h1.trans z))];calc⟨h1,h2⟩
theorem KV.put{kvs:-(κ×V)}{vs:-(κ×O)}(r:KV kvs vs)(k:κ){y:V}{u:O}(ry:RelV y u):KV (putK kvs k y) (stored vs k u):=by
 unfold putK stored;rw[r.any k]
 by_cases e:(vs.any λkv=>S (kv.1=k))=θ
 .rw[Wm e,Wm e];exact r.iK k ry
 .rw[Vw e,Vw e];calc Paired.snoc r ⟨Y,ry⟩
theorem KV.length{kvs:-(κ×V)}{vs:-(κ×O)}(r:KV kvs vs):↑kvs=↑vs:=q1k r
end
theorem yP{P:l}{w:g}{k:Key}{u:O}(r:RelV (kV k) u):(jr P w).is k u=θ:=by
 cases k with
 |inl i=>let⟨t,e⟩:=(show ∃t,u=YY i t from r);subst e;exact Kk P w i t
 |inr x=>let⟨t,e⟩:=(show ∃t,u=q1b x t from r);subst e;calc Kl P w x t
theorem ED{P:l}{w:g}:∀{ks:-Key}{us:-O},Vals (ks.map kV) us->ItemsAre (jr P w) ks us
 |[],_,r=>by rw[Yp] at r;cases r;exact .nil
 |k::ks,_,r=>by
  rw[Wx] at r
  cases r with
  |cons h t=>calc .cons (yP h) (ED t)
abbrev KT(H:Hp):-(-Key×V)->-(-Key×M×O)->Prop:=Paired λp q=>p.1=q.1/\H q.2.1=U (.tup (p.1.map kV))/\RelV p.2 q.2.2
theorem KT.val{H:Hp}{kvs:-(-Key×V)}{xs:-(-Key×M×O)}(r:KT H kvs xs)(k:-Key):d5 (ee kvs k) ((atKey xs k).map (·.2)):=by
 induction r with
 |nil=>exact Yz
 | @cons p q ps qs h t ih =>
  let⟨h1,_,h2⟩:=h
  by_cases e:p.1=k
  .let e':q.1=k:=h1.symm.trans e
   let b:atKey (q::qs) k=U q.2:=by simp[atKey,YV,e']
   rw[vc e,b];exact h2
  .let e':¬ q.1=k:=λz=>e (h1.trans z)
   let b:atKey (q::qs) k=atKey qs k:=by simp[atKey,YV,e']
   rw[vd e,b];calc ih
theorem KT.iK{H:Hp}{kvs:-(-Key×V)}{xs:-(-Key×M×O)}(r:KT H kvs xs)(k:-Key){y:V}{u:O}(ry:RelV y u):
  KT H (kvs.map λkv=>if kv.1=k then(kv.1,y) else kv) (xs.map (putAt k u)):=by
 induction r with
 |nil=>exact .nil
 | @cons p q ps qs h t ih =>
  rw[Wx,Wx];calc .cons ?_ ih;let⟨h1,h2,h3⟩:=h;unfold putAt
  by_cases e:p.1=k
  .rw[Wm e,Wm (h1.symm.trans e)];exact⟨h1,h2,ry⟩
  .rw[Vw e,Vw (λz=>e (h1.trans z))];calc⟨h1,h2,h3⟩
theorem KT.put{H:Hp}{kvs:-(-Key×V)}{xs:-(-Key×M×O)}(r:KT H kvs xs)(k:-Key){b:M}{y:V}{u:O}(hb:H b=U (.tup (k.map kV)))(ry:RelV y u):
  KT H (putK kvs k y) (storedH xs k b u):=by
 let e:(kvs.any λkv=>S (kv.1=k))=(atKey xs k).isSome:=by
  rw[EB,(r.val k).eN,q14]
 unfold putK storedH;rw[e]
 by_cases q:(atKey xs k).isSome=θ
 .rw[Wm q,Wm q];exact r.iK k ry
 .rw[Vw q,Vw q];calc Paired.snoc r ⟨Y,hb,ry⟩
theorem KT.keeps{H H':Hp}{kvs:-(-Key×V)}{xs:-(-Key×M×O)}(r:KT H kvs xs)(ht:∀b ys,H b=U (.tup ys)->H' b=U (.tup ys)):KT H' kvs xs :=
 Paired.pd r λ_ _ z=>⟨z.1,ht _ _ z.2.1,z.2.2⟩
section
variable{P:l}{w:g}{H:Hp}{h:I}{a:M}
theorem EE{u:HO}(ok:dW P w H h)(e:Rd H a u):aU P w H h a u:=e.ok ok
theorem EF{kvs:-(Key×V)}(ok:dW P w H h)(e:Rd H a (.dK kvs)):↑kvs<=sizeLine/\(a==sysModules)=ι/\∃vs,KV kvs vs/\h.DictOf (jr P w) a vs :=
 show aU P w H h a (.dK kvs) from EE ok e
theorem Nk{kvs:-(Key×V)}(ok:dW P w H h)(e:H a=U (.dK kvs)):↑kvs<=sizeLine/\(a==sysModules)=ι/\∃vs,KV kvs vs/\h.DictOf (jr P w) a vs:=EF ok (.inl e)
theorem yQ{ks:-Key}(ok:dW P w H h)(e:H a=U (.tup (ks.map kV))):(tupleKind (jr P w)).is h ks a:=by
 let⟨_,au,r,o,h1,h2,n,h3⟩:=(show aU P w H h a (.tup (ks.map kV)) from ok a _ e);calc⟨o,au.toArray,n,h1,h2,h3,by simpa using ED r⟩
theorem EG{kvs:-(-Key×V)}(ok:dW P w H h)(e:Rd H a (.dT kvs)):↑kvs<=sizeLine/\(a==sysModules)=ι ∧
  ∃xs,KT H kvs xs/\h.DictOfH (tupleKind (jr P w)) a xs:=by
 let⟨z,y,xs,r,o,es,ep,h1,h2,h3,h4,h5⟩:=(show aU P w H h a (.dT kvs) from EE ok e);refine⟨z,y,xs,r,o,es,ep,h1,h2,h3,h4,λx hx=>?_,h5⟩
 let all:∀{l:-(-Key×V)}{m:-(-Key×M×O)},KT H l m->∀x∈m,(tupleKind (jr P w)).is h x.1 x.2.1:=by
  ext l m q
  induction q with
  |nil=>ext x hx;exact nomatch hx
  | @cons p q ps qs hq t ih =>
   ext x hx;rcases MN.mp hx with e|hx
   .subst e
    exact yQ ok (by rw[<-hq.1];calc hq.2.1)
   .exact ih x hx
 calc all r x hx
theorem Nl{kvs:-(-Key×V)}(ok:dW P w H h)(e:H a=U (.dT kvs)):↑kvs<=sizeLine/\(a==sysModules)=ι ∧
  ∃xs,KT H kvs xs/\h.DictOfH (tupleKind (jr P w)) a xs:=EG ok (.inl e)
end
def jA(H:Hp)(a:M)(y:V)(r:Option V):Prop :=
 (∃kvs k,Rd H a (.dK kvs)/\y=kV k/\r=ee kvs k)\/∃kvs k b,Rd H a (.dT kvs)/\y=.ref b/\H b=U (.tup (k.map kV))/\r=ee kvs k
def kG(H:Hp)(a:M)(y v:V)(H':Hp):Prop :=
 (∃kvs k,H a=U (.dK kvs)/\y=kV k/\↑kvs<sizeLine/\H'=upd H a (.dK (putK kvs k v))) ∨
 ∃kvs k b,H a=U (.dT kvs)/\y=.ref b/\H b=U (.tup (k.map kV))/\↑kvs<sizeLine/\H'=upd H a (.dT (putK kvs k v))
theorem jA.k{H:Hp}{a:M}{kvs:-(Key×V)}{k:Key}(e:H a=U (.dK kvs)):jA H a (kV k) (ee kvs k):=.inl ⟨kvs,k,.inl e,Y,Y⟩
theorem kG.k{H:Hp}{a:M}{kvs:-(Key×V)}{k:Key}{v:V}(e:H a=U (.dK kvs))(hl:↑kvs<sizeLine):kG H a (kV k) v (upd H a (.dK (putK kvs k v))):=.inl ⟨kvs,k,e,Y,hl,Y⟩
section
variable{X:Cx}{pins:aC}{σ:St}{H:Hp}{s:B}{a:M}{y v:V}{u r:O}{o:Option V}{A:q}{E:bg}
theorem Inv.big(I:Inv X pins σ H s):sysModules<⇑s:=by
 let h:mainGlobals<⇑s:=(I.mod.glob.keeps I.bk).lt;calc q3H (by decide) h
theorem yR{Q:bg}(hu:A.units+1<cLine)(I:Inv X pins σ H s)(g:jA H a y o)(ry:RelV y u)(h:∀s',Inv X pins σ H s'->Q (.bool o.isSome) s'):
  L (G X.prog X.w) A (compareOp .In u (.ref a)) Q E s:=by
 rcases g with⟨kvs,k,e,ey,l⟩|⟨kvs,k,b,e,ey,eb,l⟩
 .subst ey
  let⟨z,hd,vs,rel,dd⟩:=EF I.aX e;calc wpAny_in_of (yP ry) hd dd.mapOf ?_;rw[<-(rel.val k).eN,<-l];exact h _ (I.tok _)
 .subst ey
  cases(show u=W5 b from ry)
  let⟨z,hd,xs,rel,dd⟩:=EG I.aX e;calc wpAny_in_heap (q1E hu) (yQ I.aX eb) hd dd ?_;let q:=(rel.val k).eN;rw[q14] at q;rw[<-q,<-l];calc h _ (I.tok _)
theorem EH{h':Α}{t':Nat}{ob:HO}(I:Inv X pins σ H s)(mu:rS (H a))(hs:Za a s.heap h')(he:∃q,h'.get? a=U q)(new:aU X.prog X.w (upd H a ob) h' a ob):
  Inv X pins σ (upd H a ob) {s with heap:=h',toks:=t'} :=
 I.write (x:=a) (e:=a) mu (.inl Y) (λb q hb z=>(hs.2 b hb).trans z) he new
theorem Nm{P:l}{w:g}{H':Hp}{h':I}{kvs:-(Key×V)}{vs:-(Key×O)}(z:↑kvs<=sizeLine)(hd:(a==sysModules)=ι)(rel:KV kvs vs)(dd:h'.DictOf (jr P w) a vs):
  aU P w H' h' a (.dK kvs):=⟨z,hd,vs,rel,dd⟩
theorem Nn{H':Hp}{Q:Unit->B->Prop}(hu:A.units+1<cLine)(I:Inv X pins σ H s)(g:kG H a y v H')(ry:RelV y u)(rv:RelV v r)(h:∀s',Inv X pins σ H' s'->Q () s'):
  L (G X.prog X.w) A (setItem (.ref a) u r) Q E s:=by
 rcases g with⟨kvs,k,e,ey,l,eH⟩|⟨kvs,k,b,e,ey,eb,l,eH⟩
 .subst ey eH
  let⟨z,hd,vs,rel,dd⟩:=Nk I.aX e;let hz:↑vs<=sizeLine:=by rw[<-↑rel];exact z
  let hl:↑(putK kvs k v)<=sizeLine:=by let:=EC kvs k v;symm
  calc wpAny_setItem_pairs (hsz:=hz) (yP ry) dd λh' vf hs=>h _ ?_;let he:∃q,h'.get? a=U q:=let⟨q,_,_,hq,_⟩:=vf;⟨q,hq⟩;exact EH I (by rw[e];calc Yz) hs he (Nm hl hd (rel.put k rv) vf)
 .subst ey eH
  cases(show u=W5 b from ry)
  let⟨z,hd,xs,rel,dd⟩:=Nl I.aX e;let hz:↑xs<=sizeLine:=by rw[<-q1k rel];exact z
  let hl:↑(putK kvs k v)<=sizeLine:=by let:=EC kvs k v;symm
  calc wpAny_setItem_heap (hsz:=hz) (q1E hu) (yQ I.aX eb) dd λh' vf hs=>h _ ?_;let⟨q,es,ep,hq,h2,h3,h4,_,h5⟩:=vf;calc EH I (by rw[e];calc Yz) hs ⟨q,hq⟩ ⟨hl,hd,_,(rel.put k eb rv).keeps λc ys ec=>?_,q,es,ep,hq,h2,h3,h4,h5⟩;rw[aZ (Km ec e (λz=>nomatch z))];calc ec
end
section
variable{X:Cx}{pins:aC}{σ:St}{H:Hp}{s:B}{a:M}{kvs:-(Key×V)}{k:Key}{u:O}{A:q}{E:bg}
end
def sV(ty td:TE):TE:=fun σ H Q=>ty σ H λy H1=>td σ H1 λx H2=>∃a o,x=.ref a/\jA H2 a y o/\Q (.bl o.isSome) H2
def Np(td ty tv:TE):TS:=λD σ H=>tv σ H λv H1=>td σ H1 λx H2=>ty σ H2 λy H3=>∃a H4,x=.ref a/\kG H3 a y v H4/\D.nx σ H4
section
variable{X:Cx}{o i e value:J}{pos pos' xX:y}{td ty tv:TE}
theorem Nq(hu:X.A.units+1<cLine)(hi:JE X i ty)(ho:JE X o td):JC X .In i o (sV ty td):=by
 calc⟨?_⟩;ext pins s σ H Q I h;calc br (hi pins s σ H _ I h) λiv s1 ⟨y,H1,I1,ry,q1⟩=>br (ho pins s1 σ H1 _ I1 q1) ?_;ext u s2 ⟨x,H2,I2,rx,a,ov,ex,g,q2⟩;subst ex;obtain rfl:u=W5 a:=rx;calc yR hu I2 g ry λs3 I3=>⟨.bl ov.isSome,H2,I3,Y,q2⟩
theorem Nr(hu:X.A.units+1<cLine)(ho:JE X o td)(hi:JE X i ty)(hv:JE X value tv)(hs:swapsWith value (U (.Subscript o i pos')) pos.line X.env=pure ι):
  JS X (.Assign [.Subscript o i pos'] value pos) (Np td ty tv):=by
 calc⟨?_⟩;ext pins s σ H D I h;calc wpAny_Assign_Subscript (br (hv pins s σ H _ I h) λr s1 ⟨v,H1,I1,rv,q1⟩=>br (ho pins s1 σ H1 _ I1 q1) λu s2 ⟨x,H2,I2,rx,q2⟩=>br (hi pins s2 σ H2 _ I2 q2) λiv s3 ⟨y,H3,I3,ry,a,H4,ex,g,q3⟩=>?_) hs;subst ex;obtain rfl:u=W5 a:=rx;calc Nn hu I3 g ry rv λs4 I4=>⟨σ,H4,I4,q3⟩
end
theorem Nt{P:l}{w:g}{H:Hp}(h:I)(hb:sysModules<h.objs.size):aU P w H (h.push {cls:=.type "dict",data:=.dict #[]}) h.objs.size (.dK []) :=
 ⟨W8 _,YF.mpr (YN (Wv hb)),[],.nil,Heap.DictOf.new h⟩
def Nu:TE:=λ_ H Q=>∀p,H p=Z->Q (.ref p) (upd H p (.dK []))
section
variable{X:Cx}{pos:y}
theorem kH:JE X (.Dict [] [] pos) Nu:=⟨λpins s σ H Q I h =>
 wpAny_Dict_empty ⟨.ref ⇑s,_,I.laid (a:=s.heap.objs.size) (o:=.dK []) (t':=s.toks) (λ_ _ q=>u6 _ q) (Ek _) (Nt s.heap I.big),Y,h _ (I.aX.fresh (Ek _))⟩⟩
end
section
variable{X:Cx}{pins:aC}{σ:St}{H:Hp}{s:B}{a:M}{y d:V}{u r:O}{o:Option V}{A:q}{E:bg}
end
section
variable{X:Cx}{o e f:J}{apos f_:y}{td ty tx:TE}
end
section
variable{X:Cx}{pins:aC}{σ:St}{H:Hp}{s:B}{a:M}{kvs:-(Key×V)}{A:q}{E:bg}
end
section
variable{X:Cx}{pins:aC}{σ:St}{H:Hp}{s:B}{a:M}{y:V}{u:O}{A:q}{E:bg}
end
end L2
namespace L2
section
variable{κ:Type}[DecidableEq κ]
end
end L2
namespace L2
open PySem PySem.Spec PyProof.Rows
end L2
namespace LJS
open PySem
noncomputable def hp(i j:Int):Int:=reduceHash (Builtin.Tuple.tupleHashOf [hashInt i,hashInt j])
theorem EI{prog:l}{w:g}(i j:Int):hT prog w [i,j]=hp i j:=rfl
noncomputable def vg:-(Int×Int):=(WL 12).flatMap λj=>(WL j).map λi:Nat=>(q2n i,q2n j)
theorem Nv:∀a∈vg,∀b∈vg,hp a.1 a.2=hp b.1 b.2->a=b:=by decide +kernel
theorem EJ{i j:Int}(h0:0<=i)(h1:i<j)(h2:j<12):(i,j)∈vg:=by
 let⟨a,rfl⟩:∃a:Nat,i=a:=⟨i.toNat,⋯⟩;let⟨b,rfl⟩:∃b:Nat,j=b:=⟨j.toNat,⋯⟩;unfold vg;calc List.mem_flatMap.mpr ⟨b,Xf.mpr ⋯,Wq.mpr ⟨a,Xf.mpr ⋯,Y⟩⟩
end LJS
namespace L2
open PySem PySem.Spec PyProof.Rows
noncomputable def kI(S:M)(n:Nat):HO:=.ext λh=>∃hs:-Int,↑hs=n/\LJS.fA h S hs
theorem Nx{P:l}{w:g}{H:Hp}{h:I}{S:M}{hs:-Int}{n:Nat}(e:LJS.fA h S hs)(hn:↑hs=n):aU P w H h S (kI S n) :=
 ⟨⟨hs,hn,e⟩,let⟨o,_,_,_,ho,_⟩:=e;⟨o,ho⟩,λh1 h2 ⟨vh,en,e1⟩ k↦⟨vh,en,LJS.xj e1 λo eo=>k o eo⟩⟩
section
variable{X:Cx}
theorem EK:∀{ps:-M}{au:-O},Vals (ps.map V.ref) au->au=ps.map W5
 |[],_,.nil=>Y
 |_::_,_,.cons r rs=>by cases r;rw[EK rs];rfl
theorem Ny(hc:X.calm=θ)(hu:X.A.units+64<cLine):gZ X (.type "set") (λxs H Q=>∃(l:M)(ps:-M)(ks:-(Int×Int)),xs=[.ref l]/\bE X.K H l (ps.map V.ref)/\↑ps=↑ks ∧
  (∀(i:Nat)(a:M)(k:Int×Int),ps[i]?=U a->ks[i]?=U k->H a=U (.tup [.int k.1,.int k.2]))/\(∀k∈ks,0<=k.1/\k.1<k.2/\k.2<12)/\ks.Nodup/\↑ks<=30/\∀p,H p=Z->Q (.ref p) (upd H p (kI p ↑ks))):=by
 ext pins s σ H xs us Q I r h;let⟨l,ps,ks,rfl,hq,hl,fB,bd,mH,d4,q⟩:=h;let⟨u,rfl,rx⟩:=vals1 r;cases rx
 let⟨au,r',pl,_⟩:=I.list hq;obtain rfl:=EK r';let sz:(ps.map W5).toArray.size=↑ks:=by rw[yA,pN,hl]
 let pS:∀i,i<↑ks->∃k,ks[i]?=U k/\ks.getD i (0,0)=k:=λi hi=>⟨ks[i],pM hi,by rw[En,pM hi];rfl⟩;let yS:∀i,i<↑ks->∃a,ps[i]?=U a/\ps.getD i 0=a:=λi hi=>⟨ps[i]'(by rw[hl];calc hi),pM (by rw[hl];calc hi),by rw[En,pM (by rw[hl];calc hi)];rfl⟩;refine LJS.J8 (λi=>ps.getD i 0) (λi=>[(ks.getD i (0,0)).1,(ks.getD i (0,0)).2]) (I.ok.hd hc) ⋯ pl.isList (λi v hv=>?_) (λi hi=>?_) (λi j hi hj=>?_) (by rw[sz];calc d4) λh' tk se kp=>?_
 .rw[Y1,My] at hv
  let⟨a,ea,rfl⟩:=Ws.mp hv;rw[En,ea];rfl
 .rw[sz] at hi
  let⟨k,ek,dk⟩:=pS i hi;let⟨a,ea,da⟩:=yS i hi;show IsTupleKey _ _ [(ks.getD i (0,0)).1,(ks.getD i (0,0)).2] (ps.getD i 0);rw[dk,da];let⟨_,bz,r2,o,ho,oJ,n,hd⟩:=I.aX a _ (fB i a k ea ek)
  cases r2 with
  |cons ra rr =>
   cases rr with
   |cons rb rn =>
    cases rn
    let⟨t1,rfl⟩:=ra;let⟨t2,rfl⟩:=rb;exact⟨o,_,n,ho,oJ,hd,.cons (q2Y ..) (.cons (q2Y ..) .nil)⟩
 .rw[sz] at hi
  let⟨k,ek,dk⟩:=pS i hi;let⟨k',yT,Nz⟩:=pS j ⋯;show LJS.hT _ _ [(ks.getD j (0,0)).1,(ks.getD j (0,0)).2]≠LJS.hT _ _ [(ks.getD i (0,0)).1,(ks.getD i (0,0)).2];rw[dk,Nz,LJS.EI,LJS.EI];ext z;let b1:=bd k (Wt.mpr ⟨i,ek⟩);let b2:=bd k' (Wt.mpr ⟨j,yT⟩);let e:=LJS.Nv (k'.1,k'.2) (LJS.EJ b2.1 b2.2.1 b2.2.2) (k.1,k.2) (LJS.EJ b1.1 b1.2.1 b1.2.2) z;let e':k'=k:=e;rw[e'] at yT;let⟨sW,NA⟩:=sG.mp yT;let⟨eV,NB⟩:=sG.mp ek;let:=(ZK (h₀:=sW) (h₁:=eV) mH).mp (by rw[NA,NB]);symm
 .calc⟨.ref ⇑s,upd H ⇑s (kI ⇑s ↑ks),I.laid (t':=tk) (λb o e=>kp b o (MM e) e) (Ek _) (Nx se (by rw[pN,W6,sz])),Y,q _ (I.aX.fresh (Ek _))⟩
theorem NC:gZ X (.builtin "len") (λxs H Q=>∃(p:M)(n:Nat),xs=[.ref p]/\H p=U (kI p n)/\n<1000/\Q (.int n) H):=by
 ext pins s σ H xs us Q I r h;let⟨p,n,rfl,hp,hn,q⟩:=h;let⟨u,rfl,rx⟩:=vals1 r;cases rx
 let⟨⟨hs,hl,o,es,ep,t,ho,hex,hd,T⟩,_⟩:=I.aX p _ hp;let e:es.size=n:=by rw[T.num,hl]
 calc call_len_set ho hex hd T.fits ⋯ ⟨.int n,H,I.tok _,⟨_,by rw[e]⟩,q⟩
theorem EL:∀{bs:-Bool}{au:-O},Vals (bs.map V.bl) au->au=bs.map Y7
 |[],_,.nil=>Y
 |_::_,_,.cons r rs=>by cases r;rw[EL rs];rfl
theorem all_range(bs:-Bool):(WL bs.length).all (λi=>bs.getD i θ)=bs.all id:=by
 rw[Bool.eq_iff_iff,XS,XS]
 constructor
 .ext h b hb
  let⟨i,hi⟩:=Wt.mp hb;let hl:=(sG.mp hi).1;let:=h i (Xf.mpr hl);rw[En,hi] at this;exact this
 .ext h i hi
  let hl:=Xf.mp hi;rw[En,pM hl];calc h _ (Yb hl)
theorem ND(hc:X.calm=θ):gZ X (.builtin "all") (λxs H Q=>∃(l:M)(bs:-Bool),xs=[.ref l]/\bE X.K H l (bs.map V.bl)/\Q (.bl (bs.all id)) H):=by
 ext pins s σ H xs us Q I r h;let⟨l,bs,rfl,hq,q⟩:=h;let⟨u,rfl,rx⟩:=vals1 r;cases rx
 let⟨au,r',pl,_⟩:=I.list hq;obtain rfl:=EL r';let hL:=pl.isList;let ll:l<⇑s:=by let⟨o,e,_⟩:=hL;exact MM e
 let nI:l≠⇑s:=Wv ll;calc call_all_walk (Yx hL ?_);refine⟨⇑s,_,_,_,_,_,λi=>bs.getD i θ,Y,q1x (by rw[Yc];calc I.ok.hd hc) ⇑s l nI _,⟨⟨_,Vt _ Y,Y,Y⟩,hL.push _⟩,λi v s' Q' E' hv vi=>?_,λh' tk kp=>?_⟩
 .let hv:(bs.map Y7).toArray[i]?=U v:=hv
  let vi:Q' (bs.getD i θ) s':=vi;rw[Y1,My] at hv;let⟨b,eb,rfl⟩:=Ws.mp hv;rw[En,eb] at vi;exact Yg vi
 .refine⟨.bl (bs.all id),H,I.kept (t':=tk) λb o e=>kp b o (λz=>?_) (u6 _ e),?_,q⟩
  .let:=MM e
   rw[WW.mp z] at this;exact XY _ this
  .show Y7 _=Y7 _
   rw[yA,pN,all_range]
end
end L2
namespace LJ
open PySem L2
structure Fn(P:l)(w:g)(K:El)(mg:R->Option O)(base:I)(k:Nat)(x:R)(ps:-R)(sp:Sp)(f:M)(fd:FuncData):Prop where
 ok:bW P w K mg base eM k f fd ps sp
 vj:mg x=U (.ref f)
 kp:Xy K (.ref f)=θ
 bd:Binds K fd ps []
theorem sX:bootBuiltins "bool" = U (.type "bool"):=by decide +kernel
theorem vk:bootBuiltins "int" = U (.type "int"):=by decide +kernel
theorem EM:bootBuiltins "str" = U (.type "str"):=by decide +kernel
theorem vm:bootBuiltins "tuple" = U (.type "tuple"):=by decide +kernel
theorem sY:bootBuiltins "list" = U (.type "list"):=by decide +kernel
theorem NF:bootBuiltins "set" = U (.type "set"):=by decide +kernel
theorem NG:bootBuiltins "all" = U (.builtin "all"):=by decide +kernel
section
variable{K:El}
end
structure a_(many:Int)(ys:-(Int×Int×Int)):Prop where
 m1:1<=many
 j3:many<=12
 d4:↑ys<=30
 ends:∀y∈ys,0<=y.1/\y.1<y.2.1/\y.2.1<many/\0<=y.2.2/\y.2.2<=1000000000
 unlike:(ys.map λy=>(y.1,y.2.1)).Nodup
end LJ
namespace L2
open PySem PySem.Spec PyProof.Rows
section
variable{X:Cx}
end
end L2
namespace LJ
open PySem L2
noncomputable def jd:Nat->-(Int×Int)
 |0=>[]
 |n+1=>jd n++(WL n).map λa:Nat=>(q2n a,q2n n)
theorem yU:∀{n:Nat}{k:Int×Int},k∈jd n->0<=k.1/\k.1<k.2/\k.2<n
 |0,_,h=>nomatch h
 |n+1,k,h=>by
  rcases W7.mp h with h|h
  .let:=yU h;symm
  .let⟨a,ha,rfl⟩:=Wq.mp h
   let:=Xf.mp ha;refine⟨Int.natCast_nonneg a,?_,?_⟩
   .show (a:Int)<(n:Int);symm
   .show (n:Int)<((n+1:Nat):Int);symm
theorem EN:∀n:Nat,(jd n).Nodup
 |0=>List.nodup_nil
 |n+1=>by
  refine ZA.mpr ⟨EN n,?_,λk h1 k' h2 e=>?_⟩
  .refine X1.mpr (ZI.imp λ{a b} ne e=>ne ?_)
   exact q1n (congrArg q4J e)
  .subst e
   let⟨a,ha,rfl⟩:=Wq.mp h2;let:=(yU h1).2.2;let:(n:Int)<(n:Int):=this;symm
theorem EO:∀n:Nat,n<=12->↑(jd n)<=66:=by
 ext n h;rcases n with _|_|_|_|_|_|_|_|_|_|_|_|_|n
 all_goals first|decide|symm
end LJ
namespace LJ
open PySem
theorem NH{j n:Nat}(h:j<n):seqIndex? (j:Int) n=U j:=by
 unfold seqIndex?
 first|(simp;symm)|skip
end LJ
namespace L2
open PySem PySem.Spec PyProof.Rows
section
variable{X:Cx}
theorem ER:gZ X (.type "range") (λxs H Q=>∃j:Int,xs=[.int j]/\∀r,H r=Z->Q (.ref r) (upd H r (.rng 0 j))):=by
 ext pins s σ H xs us Q I r h;let⟨j,rfl,q⟩:=h;let⟨u,rfl,t,rfl⟩:=vals1 r;calc call_range_1 ⟨.ref ⇑s,_,I.laid (t':=s.toks+1+1) (o:=.rng 0 j) (λb o e=>u6 _ e) (Ek _) ?_,Y,q _ (I.aX.fresh (Ek _))⟩;calc⟨_,_,_,Vt _ Y⟩
noncomputable def bp(n:Nat):-Int:=(WL n).map λa:Nat=>(a:Int)
theorem yV:∀{ns:-Int}{us:-O},↑us=↑ns->(∀(i:Nat)(u:O),us[i]?=U u->∃t,u=.int (ns.getD i 0) t)->Vals (ns.map V.int) us
 |[],[],_,_=>.nil
 |[],_::_,h,_=>by simp at h
 |_::_,[],h,_=>by simp at h
 |n::ns,u::us,h,g=>by
  let⟨t,e⟩:=g 0 u Y;calc .cons ⟨t,e⟩ (yV h⁻¹ λi v e2=>?_);let⟨t,e⟩:=g (i+1) v e2⁻¹;calc⟨t,by simpa using e⟩
theorem NI(hc:X.calm=θ):gZ X (.type "list") (λxs H Q=>∃(r:M)(n:Nat),xs=[.ref r]/\H r=U (.rng 0 (n:Int))/\n<=1000/\∀l,H l=Z->Q (.ref l) (upd H l (.lst ((bp n).map V.int)))):=by
 ext pins s σ H xs us Q I r h;let⟨a,n,rfl,ha,hn,q⟩:=h;let⟨u,rfl,rx⟩:=vals1 r;cases rx
 let⟨t,u,v,e⟩:=(show ∃t u v,s.heap.get? a=U {cls:=.type "range",data:=.fields #[.int 0 t,.int (n:Int) u,.int 1 v]} from I.aX a _ ha);let hs:YI 0 (n:Int) 1=n:=by rw[q1l];split<;>symm
 calc call_list_range (n:=n) (I.ok.hd hc) e (q3t ⋯ ⋯ ⋯ ⋯) hs ⋯ λh' tk acc c' kp e' it=>?_;calc⟨.ref ⇑s,_,I.laid (t':=tk) (o:=.lst ((bp n).map V.int)) kp (Ek _) ?_,Y,q _ (I.aX.fresh (Ek _))⟩;calc⟨X0 (qM (by rw[pN,bp,pN,W6];calc hn)),acc.toList,c',?_,by simpa using e'⟩;refine yV ?_ λi u e=>?_
 .rw[Vx,it.1,bp,pN,W6]
 .rw[W0] at e
  let⟨t',e2⟩:=it.2 i u e;let hi:i<n:=by rw[<-it.1];exact(Y4.mp e).1
  calc⟨t',e2.trans ?_⟩;rw[bp,En,My,X7 hi];show YY (0+(i:Int)*1) t'=YY (i:Int) t';rw[q0J,q05]
theorem yW:∀(ns:-Int)(j:Nat),j<=↑ns->q3O (λi=>ns.getD i 0) j=(ns.take j).sum
 |ns,0,_=>by rw[ZC];rfl
 |ns,j+1,h=>by
  show q3O _ j+ns.getD j 0=_;let hj:j<↑ns:=by symm
  rw[yW ns j ⋯,List.take_add_one,pM hj,En,pM hj,List.sum_append];simp
theorem ES:∀{ns:-Int},(∀x∈ns,0<=x/\x<=1000000000)->0<=ns.sum/\ns.sum<=↑ns*1000000000
 |[],_=>by simp
 |n::ns,h=>by
  let ih:=ES λx hx=>h x (Vu _ hx);let:=h n (Wo ..);rw[List.sum_cons,Em];symm
theorem NJ(hc:X.calm=θ):gZ X (.builtin "sum") (λxs H Q=>∃(l:M)(ns:-Int),xs=[.ref l]/\bE X.K H l (ns.map V.int)/\(∀x∈ns,0<=x/\x<=1000000000)/\↑ns<=1000/\Q (.int ns.sum) H):=by
 ext pins s σ H xs us Q I r h;let⟨l,ns,rfl,hq,bd,ET,q⟩:=h;let⟨u,rfl,rx⟩:=vals1 r;cases rx
 let⟨au,r',pl,_⟩:=I.list hq;let hl:=↑r';rw[pN] at hl;let hL:=pl.isList;let ll:l<⇑s:=by let⟨o,e,_⟩:=hL;exact MM e
 let nI:l≠⇑s:=Wv ll;let sz:au.toArray.size=↑ns:=by rw[yA];exact hl.symm
 calc call_sum_walk (Yx hL ?_);refine⟨⇑s,_,_,_,_,_,λi=>ns.getD i 0,Y,q1x (by rw[Yc];calc I.ok.hd hc) ⇑s l nI _,⟨⟨_,Vt _ Y,Y,Y⟩,hL.push _⟩,λb hb=>?_,λi v hv=>?_,λj hj=>?_,λh' tk t' kp=>?_⟩
 .erw[MN,WD,Yf] at hb
  rw[Xo];rcases hb with e|e
  .rw[e];exact YG _
  .rw[e];exact XD ll
 .let hv:au.toArray[i]?=U v:=hv
  rw[Y1] at hv;let hi:i<↑ns:=by rw[hl];exact(sG.mp hv).1
  let⟨u,e1,t,e2⟩:=r'.get (x:=V.int (ns.getD i 0)) (i:=i) (by rw[My,pM hi,En,pM hi];rfl);rw[hv] at e1;cases e1
  exact⟨t,e2⟩
 .rw[sz] at hj
  let a1:=bd _ (Yb hj);let e1:ns.getD j 0=ns[j]:=by rw[En,pM hj];rfl
  let a2:=ES (ns:=ns.take (j+1)) λx hx=>bd x (Y5 hx);let a3:↑(ns.take (j+1))<=1000:=by rw[WM];symm
  rw[yW ns (j+1) ⋯];show InLong (ns.getD j 0)/\_;rw[e1];refine⟨⟨⋯,⋯⟩,⟨⋯,⋯⟩⟩
 .refine⟨.int ns.sum,H,I.kept (t':=tk) λb o e=>kp b o (λz=>?_) (u6 _ e),⟨t',?_⟩,q⟩
  .let:=MM e
   rw[WW.mp z] at this;exact XY _ this
  .rw[sz,yW ns ↑ns (Ek _),Xa (Ek _)]
theorem EU:∀{us:-O}{ns:-Int},IntsAre us ns->Vals (ns.map V.int) us
 |_,_,.nil=>.nil
 |_,_,.cons n t r=>.cons ⟨t,Y⟩ (EU r)
theorem EV:gZ X (.builtin "sorted") (λxs H Q=>∃(l:M)(ns:-Int),xs=[.ref l]/\bE X.K H l (ns.map V.int)/\↑ns<64/\∀(r:M)(bx:-Int),bx.Perm ns->bx.Pairwise (· <= ·)->H r=Z->Q (.ref r) (upd H r (.lst (bx.map V.int)))):=by
 ext pins s σ H xs us Q I r h;let⟨l,ns,rfl,hq,iu,q⟩:=h;let⟨u,rfl,rx⟩:=vals1 r;cases rx
 let⟨au,r',pl,_⟩:=I.list hq;let hl:=↑r';rw[pN] at hl;calc sorted_ints pl.isList (intsAre_of r')⁻¹ ⋯ λout bx hI pm pw=>?_;let hf:H (⇑s+1)=Z:=I.aX.fresh (ZR _);let⟨e,he⟩:=sortedAll_at s.heap au out;calc⟨.ref (⇑s+1),_,I.laid (t':=s.toks) (o:=.lst (bx.map V.int)) (λb o e=>sortedAll_old e) (ZR _) ?_,Y,q _ bx pm pw hf⟩;calc⟨X0 (qM (by rw[pN,pm.length_eq];symm)),out.toList,e,EU hI,?_⟩;simpa[seqObj] using he
theorem EW{prog:ψ}{w:ω}{A:q}{E:bg}{I l:M}{items:Array O}(W:Walks prog w A I [I,l] [I] items.size (λi v=>items[i]?=U v) (λi h=>h.IsListIter I l i/\h.IsList l items)):
  ∀(k i:Nat)(s:B)(Q:-O->B->Prop),i+k<=items.size->(s.heap.IsListIter I l i/\s.heap.IsList l items) →
   (∀h' tk,(h'.IsListIter I l (i+k)/\h'.IsList l items)->(∀b o,b∉[I]->s.heap.get? b=U o->h'.get? b=U o)->Q ((items.toList.drop i).take k) {s with heap:=h',toks:=tk})->L (G prog w) A (draw (.ref I) k) Q E s
 |0,i,s,Q,_,st,g=>by
  show L _ _ (pure []) Q E s;calc MK ?_;let:=g s.heap s.toks st λ_ _ _ e=>e;rw[ZC] at this;exact this
 |k+1,i,s,Q,hk,st,g=>by
  let hi:i<items.size:=by symm
  show L _ _ (pyNext (.ref I) >>= _) Q E s;calc qL (W.item i s _ _ hi st λv h1 oj hv lK yX=>?_);refine qL (W9 (EW W k (i+1) _ _ ⋯ lK λh2 yY kB yZ=>MK ?_))
  let e:items.toList.drop i=v::items.toList.drop (i+1):=by
   rw[Zd (by rw[Vx];calc hi)];congr 1;let uU:items[i]?=U v:=hv;rw[X9 hi] at uU;simpa using uU
  let:=g h2 yY (by rw[show i+(k+1)=i+1+k by symm];calc kB) λb o hb e=>yZ b o hb (yX b o hb e);rw[e,q1e] at this;calc this
theorem NK{prog:ψ}{w:ω}{A:q}{E:bg}{s:B}{l:M}{items:Array O}{Q:-O->B->Prop}(hh:A.handled=Z)(hl:s.heap.IsList l items)
  (g:∀h' tk,(∀b o,b≠⇑s->s.heap.get? b=U o->h'.get? b=U o)->Q items.toList {s with heap:=h',toks:=tk}):L (G prog w) A (unpackItems (.ref l) items.size Z) Q E s:=by
 let ll:l<⇑s:=by let⟨o,e,_⟩:=hl;exact MM e
 let W:=q1x (prog:=prog) (w:=w) hh ⇑s l (Wv ll) items;unfold unpackItems;calc qL ?_;unfold notIterableAtAll;calc qL (q2z hl.typeIs slot_list_iter.lookup (MK ?_));erw[Xb,Yw];calc qL (W9 (Yx hl ?_));calc qL (W9 (EW W items.size 0 _ _ ⋯ ⟨⟨_,Vt _ Y,Y,Y⟩,hl.push _⟩ λh1 oj lK yX=>?_));rw[q0b,Xa (by rw[Vx];calc Ek _),Vw (by rw[Vx];calc XY _)];rw[Xi] at lK;calc qL (W9 (W.done _ _ _ lK λh2 yY yZ=>?_));erw[Option.isSome_none,Xb,Yw];calc MK (g h2 yY λb o hb e=>yZ b o hb⁻¹ (yX b o hb⁻¹ (u6 _ e)))
def NL(K:El)(n:Nat)(t:jZ):TG:=λv σ H Q=>∃a xs,v=.ref a/\bE K H a xs/\↑xs=n/\t xs σ H Q
theorem NM{es:-J}{k:Nat}{t:jZ}{n:Nat}{pos:y}(hc:X.calm=θ)(h:i9 X es t)
  (hn:‹↑(assignEach es X.env)=n›) (iD:‹(assignEach es X.env).findIdx? (·.1)=Z›):JG X (.Tuple es k pos) (NL X.K n t):=by
 calc⟨?_⟩;ext pins s σ H v u Q I r hw;let⟨a,xs,e1,hq,hl,hw⟩:=hw;subst e1;cases r
 let⟨au,rv,ht,hz⟩:=I.list hq;let hlen:=↑rv;rw[assign_Tuple];calc qL (ZM ?_);unfold unpack;rw[iD,show↑(assignEach es X.env)=au.toArray.size by rw[hn,<-hl,hlen];simp];calc qL (W9 (NK (I.ok.hd hc) ht.isList λh' tk kp=>?_));let I1:Inv X pins σ H {s with heap:=h',toks:=tk}:=I.kept λb o e=>kp b o (Wv (MM e)) e;calc h pins _ σ H xs _ Q I1 rv⁻¹ hw
end
section
variable{X:Cx}{e:J}{te:TE}{pos p2 p3 p4:y}
end
inductive DV where
 |p (d:D)|o (k:Nat)|t (d:D) (k:Nat)|w (a:M)
inductive FV where
 |p (d:D)|w (a:M)
noncomputable def FV.v:FV->DV
 |.p d=>.p d
 |.w a=>.w a
inductive OV where
 |lst (ds:-D)|dct (kvs:-(Key×D))|dtt (kvs:-(-Int×Int))
 |al (a:M) (ds:-D)|ac (a:M) (kvs:-(Key×D))|ins (a C:M) (fs:-(R×FV))
structure aH where
 sl:-(Option DV)
 mu:-(Option OV)
def eZ(F:Hp):-(Key×D)->-(Key×V)->Prop
 |[],ws=>ws=[]
 |kd::r,ws=>∃v t,ws=(kd.1,v)::t/\Is F kd.2 v/\eZ F r t
def dY(F:Hp):-(R×FV)->-(R×V)->Prop
 |[],ws=>ws=[]
 |(x,.p d)::r,ws=>∃v t,ws=(x,v)::t/\Is F d v/\dY F r t
 |(x,.w a)::r,ws=>∃t,ws=(x,.ref a)::t/\dY F r t
def eC(F:Hp)(a:M):OV->HO->Prop
 |.lst ds,o=>∃vs,o=.lst vs/\ah F ds vs
 |.dct kvs,o=>∃ws,o=.dK ws/\eZ F kvs ws
 |.dtt kvs,o=>o=.dT (kvs.map λp=>(p.1.map q0f,V.int p.2))
 |.al b ds,o=>b=a/\∃vs,o=.lst vs/\ah F ds vs
 |.ac b kvs,o=>b=a/\∃ws,o=.dK ws/\eZ F kvs ws
 |.ins b C fs,o=>b=a/\∃dx ws,o=.ins C dx ws/\dY F fs ws
theorem eZ.same{F F':Hp}(s:aL F F'):∀{gb:-(Key×D)}{ws:-(Key×V)},eZ F gb ws->eZ F' gb ws
 |[],_,h=>h
 |_::_,_,⟨v,t,e,h1,h2⟩=>⟨v,t,e,h1.same s,eZ.same s h2⟩
theorem dY.same{F F':Hp}(s:aL F F'):∀{fs:-(R×FV)}{ws:-(R×V)},dY F fs ws->dY F' fs ws
 |[],_,h=>h
 |(_,.p _)::_,_,⟨v,t,e,h1,h2⟩=>⟨v,t,e,h1.same s,dY.same s h2⟩
 |(_,.w _)::_,_,⟨t,e,h2⟩=>⟨t,e,dY.same s h2⟩
theorem eC.same{F F':Hp}{a:M}(s:aL F F'):∀{ov:OV}{o:HO},eC F a ov o->eC F' a ov o
 |.lst _,_,⟨vs,e,h⟩=>⟨vs,e,h.same s⟩
 |.dct _,_,⟨ws,e,h⟩=>⟨ws,e,h.same s⟩
 |.dtt _,_,e=>e
 |.al _ _,_,⟨z,vs,e,h⟩=>⟨z,vs,e,h.same s⟩
 |.ac _ _,_,⟨z,ws,e,h⟩=>⟨z,ws,e,h.same s⟩
 |.ins _ _ _,_,⟨z,dx,ws,e,h⟩=>⟨z,dx,ws,e,h.same s⟩
def dB(F:Hp)(ad:-M):DV->V->Prop
 |.p d,v=>Is F d v
 |.o k,v=>∃a,ad[k]?=U a/\v=.ref a
 |.w a,v=>v=.ref a
 |.t d k,v=>∃a b u,v=.ref a/\F a=U (.tup [u,.ref b])/\Is F d u/\ad[k]?=U b
def Lv(ad:-M)(mu:-(Option OV))(a:M):Prop:=∃(k:Nat)(ov:OV),ad[k]?=U a/\mu[k]?=U (U ov)
class aS where
 ad:-M
 ok:Hp->Prop
 same:∀{H H':Hp},ok H->aL H H'->ok H'
 put:∀{H:Hp}{a:M}{o o':HO},ok H->H a=U o->((∃vs,o=.lst vs)\/(∃ws,o=.dK ws)\/(∃ws,o=.dT ws)\/∃C dx ws,o=.ins C dx ws)->ok (upd H a o')
 tb:∀{H:Hp}{a:M},ok H->a∈ad->∃ps,H a=U (.tbl ps)
theorem eC.kd{F:Hp}{a:M}:∀{ov:OV}{o:HO},eC F a ov o->(∃vs,o=.lst vs)\/(∃ws,o=.dK ws)\/(∃ws,o=.dT ws)\/∃C dx ws,o=.ins C dx ws
 |.lst _,_,⟨vs,e,_⟩=>.inl ⟨vs,e⟩
 |.dct _,_,⟨ws,e,_⟩=>.inr (.inl ⟨ws,e⟩)
 |.dtt _,_,e=>.inr (.inr (.inl ⟨_,e⟩))
 |.al _ _,_,⟨_,vs,e,_⟩=>.inl ⟨vs,e⟩
 |.ac _ _,_,⟨_,ws,e,_⟩=>.inr (.inl ⟨ws,e⟩)
 |.ins _ _ _,_,⟨_,dx,ws,e,_⟩=>.inr (.inr (.inr ⟨_,dx,ws,e⟩))
theorem eC.kind{F:Hp}{a:M}{ov:OV}{o:HO}(h:eC F a ov o)(ps:Array O)(z:o=.tbl ps):False:=by
 rcases h.kd with⟨_,e⟩|⟨_,e⟩|⟨_,e⟩|⟨_,_,_,e⟩<;>rw[e] at z<;>cases z
variable[aS]
structure SR(F:Hp)(ad:-M)(δ:aH)(σ:St)(H:Hp):Prop where
 sub:aL F H
 off:∀a,Lv ad δ.mu a->F a=Z
 cf:↑ad=↑δ.mu
 inj:∀(k l:Nat)(a:M)(ov ow:OV),ad[k]?=U a->ad[l]?=U a->δ.mu[k]?=U (U ov)->δ.mu[l]?=U (U ow)->k=l
 mu:∀(k:Nat)(ov:OV),δ.mu[k]?=U (U ov)->∃a o,ad[k]?=U a/\H a=U o/\eC F a ov o
 sl:∀(i:Nat)(x:DV),δ.sl[i]?=U (U x)->∃v,σ[i]?=U (U v)/\dB F ad x v
 len:↑σ=↑δ.sl
 tab:aS.ok H
 nt:∀a∈aS.ad,F a=Z
structure Ext(F:Hp)(ad:-M)(mu:-(Option OV))(H:Hp)(F':Hp)(aG:-M)(cL:-(Option OV))(H':Hp):Prop where
 same:aL F F'
 new:∀a o,F' a=U o->F a=U o\/H a=Z\/Lv ad mu a
 keep:∀a o,H a=U o->¬ Lv ad mu a->a∉aS.ad->H' a=U o
 pre:∀(k:Nat)(a:M),ad[k]?=U a->aG[k]?=U a
 cb:∀a,Lv aG cL a->Lv ad mu a\/H a=Z
 hX:∀a o,H a=U o->∃o',H' a=U o'
section
variable{F F' EX H H' j4:Hp}{ad aG sZ:-M}{mu cL s_:-(Option OV)}{δ:aH}{σ:St}
theorem de{H:Hp}{a:M}{o:HO}(h:H a=Z):aL H (upd H a o):=λb u e=>by rw[aZ (dJ e h)];calc e
theorem Ext.refl:Ext F ad mu H F ad mu H:=⟨λ_ _ e=>e,λ_ _ e=>.inl e,λ_ _ e _ _=>e,λ_ _ e=>e,λ_ e=>.inl e,λ_ o e=>⟨o,e⟩⟩
theorem Ext.trans(x:Ext F ad mu H F' aG cL H')(y:Ext F' aG cL H' EX sZ s_ j4):Ext F ad mu H EX sZ s_ j4 where
 same:=x.same.trans y.same
 new:=λa o e=>by
  rcases y.new a o e with h|h|h
  .exact x.new a o h
  .refine .inr (.inl ?_)
   cases q:H a with
   |none=>rfl
   |some u=>let⟨u',h'⟩:=x.hX a u q;rw[h] at h';cases h'
  .rcases x.cb a h with h|h
   .exact .inr (.inr h)
   .exact .inr (.inl h)
 keep:=λa o e n t=>y.keep a o (x.keep a o e n t) (λl=>by
  rcases x.cb a l with h|h
  .exact n h
  .rw[e] at h;cases h) t
 pre:=λk a e=>y.pre k a (x.pre k a e)
 cb:=λa l=>by
  rcases y.cb a l with h|h
  .exact x.cb a h
  .refine .inr ?_
   cases q:H a with
   |none=>rfl
   |some u=>let⟨u',h'⟩:=x.hX a u q;rw[h] at h';cases h'
 hX:=λa o e=>let⟨o1,e1⟩:=x.hX a o e;y.hX a o1 e1
theorem dB.ext{x:DV}{v:V}(h:dB F ad x v)(e:Ext F ad mu H F' aG cL H'):dB F' aG x v:=by
 cases x with
 |p d=>exact Is.same e.same h
 |o k=>let⟨a,h1,h2⟩:=h;exact⟨a,e.pre k a h1,h2⟩
 |w a=>exact h
 |t d k=>let⟨a,b,u,h1,h2,h3,h4⟩:=h;calc⟨a,b,u,h1,e.same _ _ h2,h3.same e.same,e.pre k b h4⟩
theorem dB.same{x:DV}{v:V}(h:dB F ad x v)(s:aL F F'):dB F' ad x v:=by
 cases x with
 |p d=>exact Is.same s h
 |o k=>exact h
 |w a=>exact h
 |t d k=>let⟨a,b,u,h1,h2,h3,h4⟩:=h;calc⟨a,b,u,h1,s _ _ h2,h3.same s,h4⟩
theorem dB.pre{cq:-M}{x:DV}{v:V}(h:dB F ad x v)(s:∀k a,ad[k]?=U a->x=.o k\/(∃d,x=.t d k)->cq[k]?=U a):dB F cq x v:=by
 cases x with
 |p d=>exact h
 |o k=>let⟨a,h1,h2⟩:=h;exact⟨a,s k a h1 (.inl Y),h2⟩
 |w a=>exact h
 |t d k=>let⟨a,b,u,h1,h2,h3,h4⟩:=h;calc⟨a,b,u,h1,h2,h3,s k b h4 (.inr ⟨d,Y⟩)⟩
noncomputable def Nw(F H H':Hp):Hp:=λa=>match H a with
 |none=>H' a
 |some _=>F a
theorem Nw.same(s:aL F H):aL F (Nw F H H'):=λa o e=>by
 unfold Nw;rw[s a o e];calc e
theorem Nw.sub(s:aL F H)(k:aL H H'):aL (Nw F H H') H':=λa o e=>by
 unfold Nw at e
 cases q:H a with
 |none=>rw[q] at e;exact e
 |some u=>rw[q] at e;calc k a o (s a o e)
theorem Nw.upd{p:M}{o:HO}(s:aL F H)(hp:H p=Z):Nw F H (upd H p o)=upd F p o:=by
 funext a;unfold Nw L2.upd
 by_cases c:a=p
 .subst c;rw[hp,Wm Y];simp
 .rw[Vw c,Vw c]
  cases q:H a with
  |none =>
   cases q2:F a with
   |none=>rfl
   |some u=>rw[s a u q2] at q;cases q
  |some u=>rfl
theorem Nw.refl(s:aL F H):Nw F H H=F:=by
 funext a;unfold Nw
 cases q:H a with
 |none =>
  cases q2:F a with
  |none=>rfl
  |some u=>rw[s a u q2] at q;cases q
 |some u=>rfl
theorem SR.al(S:SR F ad δ σ H)(k:aL H H'):SR (Nw F H H') ad δ σ H':=by
 let sm:=Nw.same (H':=H') S.sub;refine⟨Nw.sub S.sub k,λa l=>?_,S.cf,S.inj,λi ov e=>?_,λi x e=>?_,S.len,aS.same S.tab k,λa ha=>by let⟨ps,q⟩:=aS.tb S.tab ha;unfold Nw;rw[q];calc S.nt a ha⟩
 .let⟨i,ov,e1,e2⟩:=l
  let⟨a',o,e3,e4,_⟩:=S.mu i ov e2;rw[e1] at e3;cases e3;unfold Nw;rw[e4];exact S.off a ⟨i,ov,e1,e2⟩
 .let⟨a,o,e1,e2,h⟩:=S.mu i ov e
  exact⟨a,o,e1,k a o e2,h.same sm⟩
 .let⟨v,e1,h⟩:=S.sl i x e
  calc⟨v,e1,h.same sm⟩
theorem Ext.al(S:SR F ad δ σ H)(k:aL H H'):Ext F ad δ.mu H (Nw F H H') ad δ.mu H' where
 same:=Nw.same S.sub
 new:=λa o e=>by
  unfold Nw at e
  cases q:H a with
  |none=>exact .inr (.inl Y)
  |some u=>rw[q] at e;exact .inl e
 keep:=λa o e _ _=>k a o e
 pre:=λ_ _ e=>e
 cb:=λ_ l=>.inl l
 hX:=λa o e=>⟨o,k a o e⟩
theorem SR.own{p:M}{o:HO}{ov:OV}(S:SR F ad δ σ H)(hp:H p=Z)(h:eC F p ov o):SR F (ad++[p]) ⟨δ.sl,δ.mu++[U ov]⟩ σ (upd H p o):=by
 let old:∀{k:Nat}{w:OV},(δ.mu++[U ov])[k]?=U (U w)->(k<↑δ.mu/\δ.mu[k]?=U (U w))\/(k=↑δ.mu/\w=ov):=λ{k w} e=>by
  by_cases c:k<↑δ.mu
  .rw[ML c] at e;exact .inl ⟨c,e⟩
  .let hl:=(sG.mp e).1
   rw[MJ,XI] at hl;let ek:k=↑δ.mu:=by symm
   subst ek;rw[Vs (Ek _),Xn] at e;exact .inr ⟨Y,by simpa using e.symm⟩
 let pre:∀{k:Nat},k<↑δ.mu->(ad++[p])[k]?=ad[k]?:=λ{k} c=>ML (by rw[S.cf];calc c);let last:(ad++[p])[↑δ.mu]?=U p:=by rw[<-S.cf,Vs (Ek _),Xn];rfl
 let np:∀{k:Nat}{a:M}{w:OV},ad[k]?=U a->δ.mu[k]?=U (U w)->a≠p:=λ{k a w} e1 e2=>by
  let⟨a',u,e3,e4,_⟩:=S.mu k w e2;rw[e1] at e3;cases e3;exact dJ e4 hp
 refine⟨λa u e=>?_,λa l=>?_,by rw[MJ,MJ,S.cf];rfl,λk l a w w' e1 e2 e3 e4=>?_,λk w e=>?_,λi x e=>?_,S.len,aS.same S.tab (de hp),S.nt⟩
 .let:=S.sub a u e
  rw[aZ (dJ this hp)];exact this
 .let⟨k,w,e1,e2⟩:=l
  rcases old e2 with⟨c,e3⟩|⟨c,e3⟩
  .rw[pre c] at e1;exact S.off a ⟨k,w,e1,e3⟩
  .subst c;rw[last] at e1;cases e1
   cases q:F p with
   |none=>rfl
   |some u=>rw[S.sub p u q] at hp;cases hp
 .rcases old e3 with⟨c,q⟩|⟨c,q⟩
  .rw[pre c] at e1
   rcases old e4 with⟨c',q'⟩|⟨c',q'⟩
   .rw[pre c'] at e2;exact S.inj k l a w w' e1 e2 q q'
   .subst c';rw[last] at e2;cases e2;exact absurd Y (np e1 q)
  .subst c;rw[last] at e1;cases e1
   rcases old e4 with⟨c',q'⟩|⟨c',q'⟩
   .rw[pre c'] at e2;exact absurd Y (np e2 q')
   .exact c'.symm
 .rcases old e with⟨c,q⟩|⟨c,q⟩
  .let⟨a,u,e1,e2,h'⟩:=S.mu k w q
   exact⟨a,u,by rw[pre c];calc e1,by rw[aZ (np e1 q)];calc e2,h'⟩
  .subst c;subst q;exact⟨p,o,last,b_,h⟩
 .let⟨v,e1,h'⟩:=S.sl i x e
  calc⟨v,e1,h'.pre λk a e2 _=>by rw[ML (sG.mp e2).1];calc e2⟩
theorem Ext.own{p:M}{o:HO}{ov:OV}(S:SR F ad δ σ H)(hp:H p=Z):Ext F ad δ.mu H F (ad++[p]) (δ.mu++[U ov]) (upd H p o) where
 same:=λ_ _ e=>e
 new:=λ_ _ e=>.inl e
 keep:=λa u e _ _=>by rw[aZ (dJ e hp)];exact e
 pre:=λk a e=>by rw[ML (sG.mp e).1];exact e
 cb:=λa l=>by
  let⟨k,w,e1,e2⟩:=l
  by_cases c:k<↑δ.mu
  .rw[ML c] at e2
   rw[ML (by rw[S.cf];calc c)] at e1;exact .inl ⟨k,w,e1,e2⟩
  .let hl:=(sG.mp e2).1
   rw[MJ,XI] at hl;let ek:k=↑ad:=by rw[S.cf];symm
   subst ek;rw[Vs (Ek _),Xn] at e1;let:p=a:=by simpa using e1
   subst this;exact .inr hp
 hX:=λa u e=>⟨u,by rw[aZ (dJ e hp)];calc e⟩
theorem SR.put{k:Nat}{a:M}{o:HO}{ov ow:OV}(S:SR F ad δ σ H)(hk:δ.mu[k]?=U (U ow))(ha:ad[k]?=U a)(h:eC F a ov o):SR F ad ⟨δ.sl,δ.mu.set k (U ov)⟩ σ (upd H a o):=by
 let kl:=(sG.mp hk).1
 let old:∀{l:Nat}{w:OV},(δ.mu.set k (U ov))[l]?=U (U w)->(l≠k/\δ.mu[l]?=U (U w))\/(l=k/\w=ov):=λ{l w} e=>by
  by_cases c:k=l
  .subst c;rw[Xm kl] at e;exact .inr ⟨Y,by simpa using e.symm⟩
  .rw[Xh c] at e;exact .inl ⟨λz=>c z.symm,e⟩
 let lv:∀{l:Nat}{w:OV}{b:M},ad[l]?=U b->(δ.mu.set k (U ov))[l]?=U (U w)->Lv ad δ.mu b:=λ{l w b} e1 e2=>by
  rcases old e2 with⟨_,q⟩|⟨c,_⟩
  .exact⟨l,w,e1,q⟩
  .subst c;exact⟨l,ow,e1,hk⟩
 let tk:aS.ok (upd H a o):=by
  let⟨a',u,e1,e2,h'⟩:=S.mu k ow hk;rw[ha] at e1;cases e1;exact aS.put S.tab e2 h'.kd
 refine⟨λb u e=>?_,λb l=>?_,by rw[Xq];calc S.cf,λl l' b w w' e1 e2 e3 e4=>?_,λl w e=>?_,λi x e=>?_,S.len,tk,S.nt⟩
 .let nb:b≠a:=λz=>by
   subst z;rw[S.off b ⟨k,ow,ha,hk⟩] at e;cases e
  rw[aZ nb];exact S.sub b u e
 .let⟨l,w,e1,e2⟩:=l
  exact S.off b (lv e1 e2)
 .let h1:∃w,δ.mu[l]?=U (U w):=by
   rcases old e3 with⟨_,q⟩|⟨c,_⟩
   .exact⟨_,q⟩
   .subst c;exact⟨_,hk⟩
  let h2:∃w,δ.mu[l']?=U (U w):=by
   rcases old e4 with⟨_,q⟩|⟨c,_⟩
   .exact⟨_,q⟩
   .subst c;exact⟨_,hk⟩
  let⟨w1,q1⟩:=h1;let⟨w2,q2⟩:=h2;exact S.inj l l' b _ _ e1 e2 q1 q2
 .rcases old e with⟨c,q⟩|⟨c,q⟩
  .let⟨b,u,e1,e2,h'⟩:=S.mu l w q
   let nb:b≠a:=λz=>by subst z;exact c (S.inj l k b _ _ e1 ha q hk)
   exact⟨b,u,e1,by rw[aZ nb];calc e2,h'⟩
  .subst c;subst q;exact⟨a,o,ha,b_,h⟩
 .calc S.sl i x e
theorem Ext.put{k:Nat}{a:M}{o:HO}{ov ow:OV}(S:SR F ad δ σ H)(hk:δ.mu[k]?=U (U ow))(ha:ad[k]?=U a):Ext F ad δ.mu H F ad (δ.mu.set k (U ov)) (upd H a o) where
 same:=λ_ _ e=>e
 new:=λ_ _ e=>.inl e
 keep:=λb u e n _=>by rw[aZ λz=>n (by subst z;calc⟨k,ow,ha,hk⟩)];exact e
 pre:=λ_ _ e=>e
 cb:=λb l=>by
  let⟨l,w,e1,e2⟩:=l
  by_cases c:k=l
  .subst c;exact .inl ⟨k,ow,e1,hk⟩
  .rw[Xh c] at e2;exact .inl ⟨l,w,e1,e2⟩
 hX:=λb u e=>by
  by_cases c:b=a
  .subst c;exact⟨o,b_⟩
  .calc⟨u,by rw[aZ c];calc e⟩
theorem SR.fix{k:Nat}{a:M}{o:HO}{ow:OV}(S:SR F ad δ σ H)(hk:δ.mu[k]?=U (U ow))(ha:ad[k]?=U a)(ho:H a=U o):SR (upd F a o) ad ⟨δ.sl,δ.mu.set k Z⟩ σ H:=by
 let kl:=(sG.mp hk).1;let fa:=S.off a ⟨k,ow,ha,hk⟩;let sm:aL F (upd F a o):=λb u e=>by rw[aZ (dJ e fa)];exact e
 let old:∀{l:Nat}{w:OV},(δ.mu.set k Z)[l]?=U (U w)->l≠k/\δ.mu[l]?=U (U w):=λ{l w} e=>by
  by_cases c:k=l
  .subst c;rw[Xm kl] at e;cases e
  .rw[Xh c] at e;exact⟨λz=>c z.symm,e⟩
 refine⟨λb u e=>?_,λb l=>?_,by rw[Xq];calc S.cf,λl l' b w w' e1 e2 e3 e4=>S.inj l l' b w w' e1 e2 (old e3).2 (old e4).2,λl w e=>?_,λi x e=>?_,S.len,S.tab,λb hb=>?_⟩
 .by_cases c:b=a
  .subst c;rw[b_] at e;cases e;exact ho
  .rw[aZ c] at e;exact S.sub b u e
 .let⟨l,w,e1,e2⟩:=l
  let⟨c,q⟩:=old e2;let nb:b≠a:=λz=>by subst z;exact c (S.inj l k b _ _ e1 ha q hk)
  rw[aZ nb];exact S.off b ⟨l,w,e1,q⟩
 .let⟨b,u,e1,e2,h'⟩:=S.mu l w (old e).2
  exact⟨b,u,e1,e2,h'.same sm⟩
 .let⟨v,e1,h'⟩:=S.sl i x e
  exact⟨v,e1,h'.same sm⟩
 .let⟨ps,q⟩:=aS.tb S.tab hb
  let nb:b≠a:=λz=>by
   subst z;let⟨a',u,e1,e2,h'⟩:=S.mu k ow hk;rw[ha] at e1;cases e1;rw[q] at e2;cases e2;exact h'.kind ps Y
  rw[aZ nb];calc S.nt b hb
theorem Ext.fix{k:Nat}{a:M}{o:HO}{ow:OV}(S:SR F ad δ σ H)(hk:δ.mu[k]?=U (U ow))(ha:ad[k]?=U a):Ext F ad δ.mu H (upd F a o) ad (δ.mu.set k Z) H where
 same:=λb u e=>by rw[aZ (dJ e (S.off a ⟨k,ow,ha,hk⟩))];exact e
 new:=λb u e=>by
  by_cases c:b=a
  .subst c;exact .inr (.inr ⟨k,ow,ha,hk⟩)
  .rw[aZ c] at e;exact .inl e
 keep:=λb u e _ _=>e
 pre:=λ_ _ e=>e
 cb:=λb l=>by
  let⟨l,w,e1,e2⟩:=l
  by_cases c:k=l
  .subst c;rw[Xm (sG.mp hk).1] at e2;cases e2
  .rw[Xh c] at e2;exact .inl ⟨l,w,e1,e2⟩
 hX:=λb u e=>⟨u,e⟩
theorem SR.set{i:Nat}{x:DV}{v:V}(S:SR F ad δ σ H)(h:dB F ad x v):SR F ad ⟨δ.sl.set i (U x),δ.mu⟩ (σ.set i (U v)) H:=by
 refine⟨S.sub,S.off,S.cf,S.inj,S.mu,λj y e=>?_,by rw[Xq,Xq];calc S.len,S.tab,S.nt⟩
 by_cases c:i=j
 .subst c
  let hl:=(sG.mp e).1;rw[Xq] at hl;rw[Xm hl] at e;cases e
  exact⟨v,Xm (by rw[S.len];calc hl),h⟩
 .rw[Xh c] at e
  let⟨w,e1,h1⟩:=S.sl j y e;calc⟨w,by rw[Xh c];calc e1,h1⟩
end
abbrev WE:=aH->(DV->aH->Prop)->Prop
abbrev WA:=aH->(-DV->aH->Prop)->Prop
abbrev WT:=aH->(Bool->aH->Prop)->Prop
def cX(F:Hp)(ad:-M):-DV->-V->Prop
 |[],vs=>vs=[]
 |x::xs,vs=>∃v r,vs=v::r/\dB F ad x v/\cX F ad xs r
theorem cX.ext{F F' H H':Hp}{ad aG:-M}{mu cL:-(Option OV)}(e:Ext F ad mu H F' aG cL H'):∀{xs:-DV}{vs:-V},cX F ad xs vs->cX F' aG xs vs
 |[],_,h=>h
 |_::_,_,⟨v,r,q,h1,h2⟩=>⟨v,r,q,h1.ext e,cX.ext e h2⟩
inductive tD (f:WE) (σ:St) (H:Hp) (Q:VK):Prop
 |mk (F:Hp) (ad:-M) (δ:aH) (K:DV->aH->Prop) (S:SR F ad δ σ H) (q:f δ K) (k:∀x δ',K x δ'->∀v F' aG H',Ext F ad δ.mu H F' aG δ'.mu H'->SR F' aG δ' σ H'->dB F' aG x v->Q v H')
inductive b8 (f:WA) (σ:St) (H:Hp) (Q:-V->Hp->Prop):Prop
 |mk (F:Hp) (ad:-M) (δ:aH) (K:-DV->aH->Prop) (S:SR F ad δ σ H) (q:f δ K) (k:∀xs δ',K xs δ'->∀vs F' aG H',Ext F ad δ.mu H F' aG δ'.mu H'->SR F' aG δ' σ H'->cX F' aG xs vs->Q vs H')
inductive cS (f:WT) (σ:St) (H:Hp) (Q:Bool->Hp->Prop):Prop
 |mk (F:Hp) (ad:-M) (δ:aH) (K:Bool->aH->Prop) (S:SR F ad δ σ H) (q:f δ K) (k:∀b δ',K b δ'->∀F' aG H',Ext F ad δ.mu H F' aG δ'.mu H'->SR F' aG δ' σ H'->Q b H')
def iL(F H:Hp):D->V->Prop
 |.lst ds,v=>∃a vs,v=.ref a/\H a=U (.lst vs)/\ah F ds vs
 |d,v=>Is F d v
def g7(x:DV)(δ:aH)(K:D->Prop):Prop:=match x with
 |.p d=>K d
 |.o k=>match δ.mu[k]? with
  |some (some (.lst ds))=>K (.lst ds)
  |some (some (.al _ ds))=>K (.lst ds)
  |_=>False
 |.w _=>False
 |.t _ _=>False
theorem iL.of{F H:Hp}(s:aL F H):∀{d:D}{v:V},Is F d v->iL F H d v
 |.lst _,_,h=>by
  erw[Is] at h;let⟨a,vs,e,h1,h2⟩:=h;exact⟨a,vs,e,s _ _ h1,h2⟩
 |.tup _,_,h=>h
 |.non,_,h=>h
 |.bl _,_,h=>h
 |.int _,_,h=>h
 |.str _,_,h=>h
theorem iL.is{F H:Hp}(s:aL F H):∀{d:D}{v:V},iL F H d v->Is H d v
 |.lst _,_,h=>by
  let⟨a,vs,e,h1,h2⟩:=h;erw[Is];exact⟨a,vs,e,h1,h2.same s⟩
 |.tup _,_,h=>Is.same s h
 |.non,_,h=>Is.same s h
 |.bl _,_,h=>Is.same s h
 |.int _,_,h=>Is.same s h
 |.str _,_,h=>Is.same s h
theorem jB{F H:Hp}{ad:-M}{δ:aH}{σ:St}{x:DV}{v:V}{K:D->Prop}(S:SR F ad δ σ H)(hv:dB F ad x v)(h:g7 x δ K):∃d,K d/\iL F H d v:=by
 cases x with
 |p d=>exact⟨d,h,iL.of S.sub hv⟩
 |o k =>
  unfold g7 at h;dsimp only at h;split at h
  .rename_i ds e
   let⟨a,e1,rfl⟩:=hv;let⟨a',o,e2,e3,vs,rfl,h4⟩:=S.mu k _ e;rw[e1] at e2;cases e2;exact⟨_,h,a,vs,Y,e3,h4⟩
  .rename_i ds e
   let⟨a,e1,rfl⟩:=hv;let⟨a',o,e2,e3,_,vs,rfl,h4⟩:=S.mu k _ e;rw[e1] at e2;cases e2;exact⟨_,h,a,vs,Y,e3,h4⟩
  .exact h.elim
 |w _=>exact h.elim
 |t _ _=>calc h.elim
def kJ:-DV->aH->(-D->Prop)->Prop
 |[],_,K=>K []
 |x::xs,δ,K=>g7 x δ λd=>kJ xs δ λds=>K (d::ds)
def iM(F H:Hp):-D->-V->Prop
 |[],vs=>vs=[]
 |d::ds,vs=>∃v r,vs=v::r/\iL F H d v/\iM F H ds r
theorem vn{F H:Hp}{ad:-M}{δ:aH}{σ:St}(S:SR F ad δ σ H):∀{xs:-DV}{vs:-V}{K:-D->Prop},cX F ad xs vs->kJ xs δ K->∃ds,K ds/\iM F H ds vs
 |[],_,_,hv,h=>⟨[],h,hv⟩
 |x::xs,_,_,⟨v,r,rfl,h1,h2⟩,h=>by
  let⟨d,h',rd⟩:=jB S h1 h;let⟨ds,qQ,pT⟩:=vn S h2 h';calc⟨d::ds,qQ,v,r,Y,rd,pT⟩
abbrev Made(F H:Hp)(K:D->Prop)(Q:VK):Prop:=∀z v H',K z->aL H H'->Is (Nw F H H') z v->Q v H'
inductive y0 (g:D->D->(D->Prop)->Prop) (x y:V) (H:Hp) (Q:VK):Prop
 |mk (F:Hp) (d e:D) (K:D->Prop) (s:aL F H) (rd:iL F H d x) (re:iL F H e y) (q:g d e K) (md:Made F H K Q)
inductive EY (g:-D->(D->Prop)->Prop) (xs:-V) (H:Hp) (Q:VK):Prop
 |mk (F:Hp) (ds:-D) (K:D->Prop) (s:aL F H) (rd:iM F H ds xs) (q:g ds K) (md:Made F H K Q)
def fy(X:Cx)(f:O->O->Sem O)(g:D->D->(D->Prop)->Prop):Prop :=
 eB X f λx y H Q=>y0 g x y H Q
def EZ(X:Cx)(g:D->D->(D->Prop)->Prop):Prop :=
 sD X λx y H Q=>y0 g x y H Q
def cU(X:Cx)(f:O)(g:-D->(D->Prop)->Prop):Prop :=
 gZ X f λxs H Q=>EY g xs H Q
def d2(f g:WE)(op:D->D->(D->Prop)->Prop):WE:=fun δ K=>f δ λx δ1=>g δ1 λy δ2=>g7 x δ2 λd=>g7 y δ2 λe=>op d e λz=>K (.p z) δ2
def d1(f:WE)(op:D->(D->Prop)->Prop):WE:=fun δ K=>f δ λx δ1=>g7 x δ1 λd=>op d λz=>K (.p z) δ1
def dN(f:WA)(op:-D->(D->Prop)->Prop):WE:=fun δ K=>f δ λxs δ1=>kJ xs δ1 λds=>op ds λz=>K (.p z) δ1
def dC(d:D):WE:=fun δ K=>K (.p d) δ
def ae(i:Nat):WE:=fun δ K=>match δ.sl[i]? with
 |some (some x)=>K x δ
 |_=>False
def ag:WA:=fun δ K=>K [] δ
def aq(f:WE)(g:WA):WA:=fun δ K=>f δ λx δ1=>g δ1 λxs δ2=>K (x::xs) δ2
section
variable{X:Cx}{a b c:J}{f g h:WE}{fa:WA}{pos:y}
theorem tj{e:J}{d:D}{v:V}(h:JE X e (tC v))(hi:∀F,Is F d v):JE X e (tD (dC d)):=h.weak fun σ H Q ⟨F,ad,δ,K,S,q,k⟩↦k _ _ q _ _ _ _ .refl S (hi F)
theorem bN{i j pos}:JE X (.Constant (.int i) j pos) (tD (dC (.int i))):=tj ot λ_=>Y
theorem j5{i j pos}:JE X (.Constant (.bool i) j pos) (tD (dC (.bl i))):=tj Kr λ_=>Y
theorem y6{j pos}:JE X (.Constant .none j pos) (tD (dC .non)):=tj Ks λ_=>Y
theorem vo{x j pos}:JE X (.Constant (.str x) j pos) (tD (dC (.str x))):=tj Kt λ_=>Y
theorem NN{x:R}{i:Int}{u:O}{pos:y}(hg:Gl X x)(hm:X.mg x=U u)(r:RelV (.int i) u)(hd: ~~~(bV x)):JE X (.Name x pos) (tD (dC (.int i))):=tj (Ku hg hm r hd) λ_=>Y
theorem dv(i:Nat){x:R}{pos:y}(hN:‹X.N[i]?=U x›)(hv:rV X.env.scope x:=by first|exact q1t Y|exact q2f (q1t Y)|calc q2f (q2f Y))
  (hd: ~~~(bV x)) (gD: ~~~((x==("__classdict__" : R))=ι)):JE X (.Name x pos) (tD (ae i)) :=
 (DD hN hv hd gD).weak fun σ H Q ⟨F,ad,δ,K,S,q,k⟩↦by
  unfold ae at q;split at q
  .rename_i x e
   let⟨v,e1,h1⟩:=S.sl i x e;exact⟨v,e1,k _ _ q _ _ _ _ .refl S h1⟩
  .calc q.elim
theorem vp{r:R2}{ta tb:TE}{op:D->D->(D->Prop)->Prop}(hr:∀x y H Q,(y0 op x y H Q)->r x y H Q):∀σ H Q,tD (d2 f g op) σ H Q->sg r (tD f) (tD g) σ H Q:=by
 ext σ H Q ⟨F,ad,δ,K,S,q,k⟩;calc⟨F,ad,δ,_,S,q,λx δ1 h1 v1 F1 aV H1 E1 S1 V1=>⟨F1,aV,δ1,_,S1,h1,λy δ2 h2 v2 F2 cq H2 E2 S2 V2=>hr _ _ _ _ ?_⟩⟩;let⟨d,h3,rd⟩:=jB S2 (V1.ext E2) h2;let⟨e,h4,re⟩:=jB S2 V2 h3;calc⟨F2,d,e,_,S2.sub,rd,re,h4,λz v H' hz sm is=>k _ _ hz _ _ _ _ ((E1.trans E2).trans (Ext.al S2 sm)) (S2.al sm) is⟩
theorem kK{op:Operator}{o:D->D->(D->Prop)->Prop}(ho:fy X (binaryOp op) o)(ha:JE X a (tD f))(hb:JE X b (tD g)):JE X (.BinOp a op b pos) (tD (d2 f g o)) :=
 (si ho ha hb).weak (vp (ta:=tD f) (tb:=tD g) λ_ _ _ _ h=>h)
theorem mI{op:CmpOp}{o:D->D->(D->Prop)->Prop}(ho:fy X (compareOp op) o)(ha:JE X a (tD f))(hb:JE X b (tD g))(hm:behindInMarks op b=ι):JE X (.Compare a [op] [b] pos) (tD (d2 f g o)) :=
 (Lq ho ha hb hm).weak (vp (ta:=tD f) (tb:=tD g) λ_ _ _ _ h=>h)
theorem eD{o:D->D->(D->Prop)->Prop}(ho:EZ X o)(ha:JE X a (tD f))(hb:JE X b (tD g))(hs:D7 b):JE X (.Subscript a b pos) (tD (d2 f g o)) :=
 (D8 ho ha hb hs).weak (vp (ta:=tD f) (tb:=tD g) λ_ _ _ _ h=>h)
theorem bB:JA X [] (b8 ag):=cK.weak fun σ H Q ⟨F,ad,δ,K,S,q,k⟩↦k _ _ q _ _ _ _ .refl S Y
theorem pU:∀σ H Q,b8 (aq f fa) σ H Q->oy (tD f) (b8 fa) σ H Q:=by
 ext σ H Q ⟨F,ad,δ,K,S,q,k⟩;calc⟨F,ad,δ,_,S,q,λx δ1 h1 v1 F1 aV H1 E1 S1 V1=>⟨F1,aV,δ1,_,S1,h1,λxs δ2 h2 vs F2 cq H2 E2 S2 V2=>k _ _ h2 _ _ _ _ (E1.trans E2) S2 ⟨v1,vs,Y,V1.ext E2,V2⟩⟩⟩
theorem g8{e:J}{es:-J}(ha:JE X e (tD f))(hr:JA X es (b8 fa))(hs:‹cj X e es›):JA X (e::es) (b8 (aq f fa)):=(jw ha hr hs).weak pU
theorem bP{es:-J}{c j p}(ha:JE X (.Constant c j p) (tD f))(hr:JA X es (b8 fa)):JA X (.Constant c j p::es) (b8 (aq f fa)):=(yK ha hr).weak pU
theorem ba{es:-J}{x p}(ha:JE X (.Name x p) (tD f))(hr:JA X es (b8 fa)):JA X (.Name x p::es) (b8 (aq f fa)):=(pR ha hr).weak pU
theorem cY{es:-J}{x y k p}(ha:JE X (.Call x y k p) (tD f))(hr:JA X es (b8 fa)):JA X (.Call x y k p::es) (b8 (aq f fa)):=(mG ha hr).weak pU
theorem y7{es:-J}{x p}(ha:JE X (.List x p) (tD f))(hr:JA X es (b8 fa)):JA X (.List x p::es) (b8 (aq f fa)):=(yL ha hr).weak pU
theorem mJ{es:-J}{x k p}(ha:JE X (.Tuple x k p) (tD f))(hr:JA X es (b8 fa)):JA X (.Tuple x k p::es) (b8 (aq f fa)):=(yM ha hr).weak pU
theorem cz{es:-J}{x k p}(ha:JE X (.Subscript x k p) (tD f))(hr:JA X es (b8 fa)):JA X (.Subscript x k p::es) (b8 (aq f fa)):=(yN ha hr).weak pU
theorem E5{r:-V->Hp->VK->Prop}{op:-D->(D->Prop)->Prop}(hr:∀xs H Q,(EY op xs H Q)->r xs H Q):∀σ H Q,tD (dN fa op) σ H Q->uY r (b8 fa) σ H Q:=by
 ext σ H Q ⟨F,ad,δ,K,S,q,k⟩;calc⟨F,ad,δ,_,S,q,λxs δ1 h1 vs F1 aV H1 E1 S1 V1=>hr _ _ _ ?_⟩;let⟨ds,h2,pT⟩:=vn S1 V1 h1;calc⟨F1,ds,_,S1.sub,pT,h2,λz v H' hz sm is=>k _ _ hz _ _ _ _ (E1.trans (Ext.al S1 sm)) (S1.al sm) is⟩
theorem iN{x:R}{p:y}{e:J}{es:-J}{id:String}{o:-D->(D->Prop)->Prop}(hc:cU X (.builtin id) o)(hg:Gl X x)(hm:X.mg x=Z)(hv:bootBuiltins x=U (.builtin id))(ha:JA X (e::es) (b8 fa))(hn:x≠"__name__" := by decide)(dP: ~~~(bV x))
  (he:‹cj X e es›) (cR:‹cD X pos es›):JE X (.Call (.Name x p) (e::es) [] pos) (tD (dN fa o)) :=
 (uZ hc hg hm hv ha hn dP he cR).weak (E5 λ_ _ _ h=>h)
theorem E6{x:R}{p:y}{e:J}{es:-J}{T:String}{o:-D->(D->Prop)->Prop}(hc:cU X (.type T) o)(hg:Gl X x)(hm:X.mg x=Z)(hv:bootBuiltins x=U (.type T))(ha:JA X (e::es) (b8 fa))(hn:x≠"__name__" := by decide)(dP: ~~~(bV x))
  (he:‹cj X e es›) (cR:‹cD X pos es›):JE X (.Call (.Name x p) (e::es) [] pos) (tD (dN fa o)) :=
 (pG hc hg hm hv ha hn dP he cR).weak (E5 λ_ _ _ h=>h)
end
noncomputable def E7(k:Nat)(ds:-D):Option DV->Option DV
 |some (.o j)=>if j=k then U (.p (.lst ds)) else U (.o j)
 |some (.t d j)=>if j=k then Z else U (.t d j)
 |s=>s
noncomputable def aH.fix(δ:aH)(k:Nat)(ds:-D):aH:=⟨δ.sl.map (E7 k ds),δ.mu.set k Z⟩
def mK(x:DV)(δ:aH)(K:D->aH->Prop):Prop:=match x with
 |.p d=>K d δ
 |.o k=>match δ.mu[k]? with
  |some (some (.lst ds))=>K (.lst ds) (δ.fix k ds)
  |_=>False
 |.w _=>False
 |.t _ _=>False
def jC:-DV->aH->(-D->aH->Prop)->Prop
 |[],δ,K=>K [] δ
 |x::xs,δ,K=>mK x δ λd δ1=>jC xs δ1 λds δ2=>K (d::ds) δ2
section
variable{F F' H H':Hp}{ad aG:-M}{δ δ':aH}{σ σ':St}
theorem SR.fixed{k:Nat}{a:M}{vs:-V}{ds:-D}(S:SR F ad δ σ H)(hk:δ.mu[k]?=U (U (.lst ds)))(ha:ad[k]?=U a)(ho:H a=U (.lst vs))(hi:ah F ds vs):SR (upd F a (.lst vs)) ad (δ.fix k ds) σ H:=by
 let S1:=S.fix hk ha ho;let sm:aL F (upd F a (.lst vs)):=(Ext.fix (o:=.lst vs) S hk ha).same;calc⟨S1.sub,S1.off,S1.cf,S1.inj,S1.mu,λi x e=>?_,by rw[S.len];unfold aH.fix;rw[pN],S1.tab,S1.nt⟩;unfold aH.fix at e;rw[My] at e;let⟨s,e1,e2⟩:=Ws.mp e
 match s,e2 with
 |none,e2=>cases e2
 |some (.p d),e2 =>
  cases(show U (DV.p d)=U x from e2)
  exact S1.sl i _ e1
 |some (.w d),e2 =>
  cases(show U (DV.w d)=U x from e2)
  exact S1.sl i _ e1
 |some (.t d j),e2 =>
  let e3:(if j=k then Z else U (DV.t d j))=U x:=e2
  by_cases c:j=k
  .rw[Wm c] at e3;cases e3
  .rw[Vw c] at e3;cases e3;exact S1.sl i _ e1
 |some (.o j),e2 =>
  let e3:(if j=k then U (DV.p (.lst ds)) else U (DV.o j))=U x:=e2;clear e2;let⟨v,h1,a',h2,h3⟩:=S.sl i _ e1
  by_cases c:j=k
  .rw[Wm c] at e3
   subst c;cases e3
   rw[ha] at h2;cases h2;calc⟨v,h1,?_⟩;show Is _ (.lst ds) v;erw[Is];exact⟨a,vs,h3,b_,hi.same sm⟩
  .rw[Vw c] at e3
   cases e3
   calc⟨v,h1,a',h2,h3⟩
theorem tu{x:DV}{v:V}{K:D->aH->Prop}(S:SR F ad δ σ H)(hv:dB F ad x v)(h:mK x δ K):∃d δ' F',K d δ'/\Ext F ad δ.mu H F' ad δ'.mu H/\SR F' ad δ' σ H/\Is F' d v:=by
 cases x with
 |p d=>exact⟨d,δ,F,h,.refl,S,hv⟩
 |o k =>
  unfold mK at h;dsimp only at h;split at h
  .rename_i ds e
   let⟨a,e1,rfl⟩:=hv;let⟨a',o,e2,e3,vs,rfl,h4⟩:=S.mu k _ e;rw[e1] at e2;cases e2;calc⟨_,_,_,h,Ext.fix S e e1,S.fixed e e1 e3 h4,?_⟩;erw[Is];exact⟨a,vs,Y,b_,h4.same (Ext.fix (o:=.lst vs) S e e1).same⟩
  .exact h.elim
 |w _=>exact h.elim
 |t _ _=>calc h.elim
theorem vq:∀{xs:-DV}{vs:-V}{δ:aH}{F:Hp}{K:-D->aH->Prop},SR F ad δ σ H->cX F ad xs vs->jC xs δ K->∃ds δ' F',K ds δ'/\Ext F ad δ.mu H F' ad δ'.mu H/\SR F' ad δ' σ H/\ah F' ds vs
 |[],_,δ,F,_,S,hv,h=>⟨[],δ,F,h,.refl,S,by erw[ah];calc hv⟩
 |x::xs,_,δ,F,_,S,⟨v,r,e,h1,h2⟩,h=>by
  subst e;let⟨d,δ1,F1,h',E1,S1,i1⟩:=tu S h1 h;let⟨ds,δ2,F2,qQ,E2,S2,i2⟩:=vq S1 (h2.ext E1) h';calc⟨d::ds,δ2,F2,qQ,E1.trans E2,S2,.cons (i1.same E2.same) i2⟩
end
def bt(fa:WA):WE:=fun δ K=>fa δ λxs δ1=>jC xs δ1 λds δ2=>↑ds<=1000/\K (.p (.tup ds)) δ2
def bX(fa:WA):WE:=fun δ K=>fa δ λxs δ1=>jC xs δ1 λds δ2=>↑ds<=1000/\K (.p (.lst ds)) δ2
def oK(fa:WA):WE:=fun δ K=>fa δ λxs δ1=>jC xs δ1 λds δ2=>↑ds<=1000/\K (.o ↑δ2.mu) ⟨δ2.sl,δ2.mu++[U (.lst ds)]⟩
section
variable{X:Cx}{a b c:J}{es:-J}{f g h:WE}{fa:WA}{t u:WT}{pos:y}
theorem kL{n:Nat}(h:n<=1000):n<=sizeLine:=X0 (qM h)
theorem qR{x1}(ha:JA X es (b8 fa)):JE X (.Tuple es x1 pos) (tD (bt fa)):=(LY ha).weak fun σ H Q ⟨F,ad,δ,K,S,q,k⟩ =>
 ⟨F,ad,δ,_,S,q,λxs δ1 h1 vs F1 aV H1 E1 S1 V1=>by
  let⟨ds,δ2,F2,⟨hl,h2⟩,E2,S2,i2⟩:=vq S1 V1 h1;calc⟨kL (by rw[↑i2];calc hl),λp hp=>?_⟩;let sm:aL H1 (upd H1 p (.tup vs)):=de hp;calc k _ _ h2 _ _ _ _ ((E1.trans E2).trans (Ext.al S2 sm)) (S2.al sm) ?_;show Is _ (.tup ds) _;erw[Is];rw[Nw.upd S2.sub hp];refine⟨p,vs,Y,b_,i2.same λb o e=>?_⟩
  rw[aZ (dJ (S2.sub b o e) hp)];calc e⟩
theorem j6(ha:JA X es (b8 fa)):JE X (.List es pos) (tD (bX fa)):=(x4 ha).weak fun σ H Q ⟨F,ad,δ,K,S,q,k⟩ =>
 ⟨F,ad,δ,_,S,q,λxs δ1 h1 vs F1 aV H1 E1 S1 V1=>by
  let⟨ds,δ2,F2,⟨hl,h2⟩,E2,S2,i2⟩:=vq S1 V1 h1;calc⟨kL (by rw[↑i2];calc hl),λp hp=>?_⟩;let sm:aL H1 (upd H1 p (.lst vs)):=de hp;calc k _ _ h2 _ _ _ _ ((E1.trans E2).trans (Ext.al S2 sm)) (S2.al sm) ?_;show Is _ (.lst ds) _;erw[Is];rw[Nw.upd S2.sub hp];refine⟨p,vs,Y,b_,i2.same λb o e=>?_⟩
  rw[aZ (dJ (S2.sub b o e) hp)];calc e⟩
theorem y8(ha:JA X es (b8 fa)):JE X (.List es pos) (tD (oK fa)):=(x4 ha).weak fun σ H Q ⟨F,ad,δ,K,S,q,k⟩ =>
 ⟨F,ad,δ,_,S,q,λxs δ1 h1 vs F1 aV H1 E1 S1 V1=>by
  let⟨ds,δ2,F2,⟨hl,h2⟩,E2,S2,i2⟩:=vq S1 V1 h1;calc⟨kL (by rw[↑i2];calc hl),λp hp=>?_⟩;let oi:∀{je},eC F2 je (.lst ds) (.lst vs):=λ{je}=>⟨vs,Y,i2⟩;refine k _ _ h2 _ _ _ _ ((E1.trans E2).trans (Ext.own S2 hp)) (S2.own hp oi) ⟨p,?_,Y⟩
  rw[<-S2.cf,Vs (Ek _),Xn];rfl⟩
def qS(x:DV)(P:Bool->Prop):Prop:=match x with
 |.p (.bl b)=>P b
 |_=>False
def dT(f:WE):WT:=fun δ K=>f δ λx δ1=>qS x λb=>K b δ1
def gH(t u:WT):WT:=fun δ K=>t δ λb δ1=>if b=θ then u δ1 K else K ι δ1
def mL(t u:WT):WT:=fun δ K=>t δ λb δ1=>if b=θ then K θ δ1 else u δ1 K
def dj(t:WT):WT:=fun δ K=>t δ λb δ1=>K (!b) δ1
def lN(t:WT)(f g:WE):WE:=fun δ K=>t δ λb δ1=>if b=θ then f δ1 K else g δ1 K
def j7(f g:WE):WE:=fun δ K=>f δ λx δ1=>qS x λb=>if b=θ then g δ1 K else K (.p (.bl ι)) δ1
def y9(f:WE):WE:=fun δ K=>f δ λx δ1=>qS x λb=>K (.p (.bl (!b))) δ1
theorem tw{F:Hp}{ad:-M}{x:DV}{v:V}{P:Bool->Prop}(hv:dB F ad x v)(h:qS x P):∃b,v=.bl b/\P b:=by
 unfold qS at h;split at h
 .rename_i b
  exact⟨b,hv,h⟩
 .calc h.elim
theorem jD(ha:JE X a (tD f))(he:‹∀whole,isTrue a X.env whole=(do let v <- whole;standAt a.pos;holding [v] (truthy v))›):JT X a (cS (dT f)) :=
 (Ky ha he).weak fun σ H Q ⟨F,ad,δ,K,S,q,k⟩↦⟨F,ad,δ,_,S,q,λx δ1 h1 v F1 aV H1 E1 S1 V1=>by
  let⟨b,rfl,h2⟩:=tw V1 h1
  calc⟨b,Y,k _ _ h2 _ _ _ E1 S1⟩⟩
theorem e_{op:CmpOp}{o:D->D->(D->Prop)->Prop}(ho:fy X (compareOp op) o)(ha:JE X a (tD f))(hb:JE X b (tD g))(hm:behindInMarks op b=ι):JT X (.Compare a [op] [b] pos) (cS (dT (d2 f g o))) :=
 (Ls ho ha hb hm).weak fun σ H Q ⟨F,ad,δ,K,S,q,k⟩↦vp (ta:=tD f) (tb:=tD g) (λ_ _ _ _ h=>h) σ H _ ⟨F,ad,δ,_,S,q,λx δ1 h1 v F1 aV H1 E1 S1 V1=>by
  let⟨b,rfl,h2⟩:=tw V1 h1
  calc⟨b,Y,k _ _ h2 _ _ _ E1 S1⟩⟩
theorem mM(ha:JT X a (cS t)):JT X (.UnaryOp .Not a pos) (cS (dj t)):=(KH ha).weak fun σ H Q ⟨F,ad,δ,K,S,q,k⟩↦⟨F,ad,δ,_,S,q,λb δ1 h1 F1 aV H1 E1 S1=>k _ _ h1 _ _ _ E1 S1⟩
theorem NO:∀σ H Q,cS (gH t u) σ H Q->rZ (cS t) (cS u) σ H Q:=fun σ H Q ⟨F,ad,δ,K,S,q,k⟩↦⟨F,ad,δ,_,S,q,λb δ1 h1 F1 aV H1 E1 S1=>by
 cases b with
 |true =>
  rw[Wm Y] at h1 ⊢;exact⟨F1,aV,δ1,_,S1,h1,λb δ2 h2 F2 cq H2 E2 S2=>k _ _ h2 _ _ _ (E1.trans E2) S2⟩
 |false =>
  rw[Vw WQ] at h1 ⊢
  calc k _ _ h1 _ _ _ E1 S1⟩
theorem NP:∀σ H Q,cS (mL t u) σ H Q->DE (cS t) (cS u) σ H Q:=fun σ H Q ⟨F,ad,δ,K,S,q,k⟩↦⟨F,ad,δ,_,S,q,λb δ1 h1 F1 aV H1 E1 S1=>by
 cases b with
 |false =>
  rw[Vw WQ] at h1 ⊢;exact⟨F1,aV,δ1,_,S1,h1,λb δ2 h2 F2 cq H2 E2 S2=>k _ _ h2 _ _ _ (E1.trans E2) S2⟩
 |true =>
  rw[Wm Y] at h1 ⊢
  calc k _ _ h1 _ _ _ E1 S1⟩
theorem JW.weak{e:J}{t t':TT}(h:JW X e t)(k:∀σ H Q,t' σ H Q->t σ H Q):JW X e t':=⟨λwh pins s σ H Q I q=>h wh pins s σ H Q I (k σ H Q q)⟩
theorem y_(ha:JT X a (cS t)):JW X (.BoolOp .And [a] pos) (cS t):=Kz ha
theorem vt(ha:JT X a (cS t)):JW X (.BoolOp .Or [a] pos) (cS t):=KC ha
theorem vv{rest:-J}(ha:JT X a (cS t))(hb:JW X (.BoolOp .And (b::rest) pos) (cS u)):JW X (.BoolOp .And (a::b::rest) pos) (cS (gH t u)):=(KD ha hb).weak NO
theorem tE{rest:-J}(ha:JT X a (cS t))(hb:JW X (.BoolOp .Or (b::rest) pos) (cS u)):JW X (.BoolOp .Or (a::b::rest) pos) (cS (mL t u)):=(KG ha hb).weak NP
theorem vw{op}(ha:JE X a (tD f)):JE X (.BoolOp op [a] pos) (tD f):=KN ha
theorem tF{rest:-J}(ha:JE X a (tD f))(hb:JE X (.BoolOp .And (b::rest) pos) (tD g)):JE X (.BoolOp .And (a::b::rest) pos) (tD (j7 f g)) :=
 (KO ha hb).weak fun σ H Q ⟨F,ad,δ,K,S,q,k⟩=>⟨F,ad,δ,_,S,q,λx δ1 h1 v F1 aV H1 E1 S1 V1=>by
  let⟨b,rfl,h2⟩:=tw V1 h1;refine⟨b,Y,?_⟩
  cases b with
  |true =>
   rw[Wm Y] at h2 ⊢;exact⟨F1,aV,δ1,_,S1,h2,λx δ2 h3 v F2 cq H2 E2 S2 V2=>k _ _ h3 _ _ _ _ (E1.trans E2) S2 V2⟩
  |false =>
   rw[Vw WQ] at h2 ⊢
   calc k _ _ h2 _ _ _ _ E1 S1 Y⟩
theorem NQ(ha:JE X a (tD f)):JE X (.UnaryOp .Not a pos) (tD (y9 f)) :=
 (KP ha).weak fun σ H Q ⟨F,ad,δ,K,S,q,k⟩↦⟨F,ad,δ,_,S,q,λx δ1 h1 v F1 aV H1 E1 S1 V1=>by
  let⟨b,rfl,h2⟩:=tw V1 h1
  calc⟨b,Y,k _ _ h2 _ _ _ _ E1 S1 Y⟩⟩
theorem za(hc:JT X c (cS t))(ha:JE X a (tD f))(hb:JE X b (tD g)):JE X (.IfExp c a b pos) (tD (lN t f g)) :=
 (KR hc ha hb).weak fun σ H Q ⟨F,ad,δ,K,S,q,k⟩↦⟨F,ad,δ,_,S,q,λb δ1 h1 F1 aV H1 E1 S1=>by
  cases b with
  |true =>
   rw[Wm Y] at h1 ⊢;exact⟨F1,aV,δ1,_,S1,h1,λx δ2 h3 v F2 cq H2 E2 S2 V2=>k _ _ h3 _ _ _ _ (E1.trans E2) S2 V2⟩
  |false =>
   rw[Vw WQ] at h1 ⊢
   calc⟨F1,aV,δ1,_,S1,h1,λx δ2 h3 v F2 cq H2 E2 S2 V2=>k _ _ h3 _ _ _ _ (E1.trans E2) S2 V2⟩⟩
end
structure KS where
 nx:aH->Prop
 rt:DV->aH->Prop
 bk:aH->Prop:=λ_=>False
 ct:aH->Prop:=λ_=>False
abbrev WS:=KS->aH->Prop
def Cn(F:Hp)(ad:-M)(mu:-(Option OV))(H:Hp)(P:aH->Prop)(R:St->Hp->Prop):Prop:=∀δ',P δ'->∀F' aG σ' H',Ext F ad mu H F' aG δ'.mu H'->SR F' aG δ' σ' H'->R σ' H'
class kM where
 ok:Nat->Int->Prop
 kp:-M->-(Option OV)->Hp->Prop
 st:∀{F ad mu H F' aG cL H'},Ext F ad mu H F' aG cL H'->kp ad mu H->kp aG cL H'
instance (priority:=low) NR:kM:=⟨λ_ _=>False,λ_ _ _=>True,λ_ _=>trivial⟩
section
variable[kM]
structure vx(F:Hp)(ad:-M)(mu:-(Option OV))(H:Hp)(K:KS)(D:Ends):Prop where
 nx:Cn F ad mu H K.nx D.nx
 bk:Cn F ad mu H K.bk D.bk
 ct:Cn F ad mu H K.ct D.ct
 rt:∀x δ',K.rt x δ'->∀v F' aG σ' H',Ext F ad mu H F' aG δ'.mu H'->SR F' aG δ' σ' H'->dB F' aG x v->D.rt v H'
 kp:kM.kp ad mu H
theorem Cn.ext{F F' H H':Hp}{ad aG:-M}{mu cL:-(Option OV)}{P:aH->Prop}{R:St->Hp->Prop}(c:Cn F ad mu H P R)(e:Ext F ad mu H F' aG cL H'):Cn F' aG cL H' P R:=fun δ' h _ _ _ _ E S=>c δ' h _ _ _ _ (e.trans E) S
theorem vx.ext{F F' H H':Hp}{ad aG:-M}{mu cL:-(Option OV)}{K:KS}{D:Ends}(c:vx F ad mu H K D)(e:Ext F ad mu H F' aG cL H'):vx F' aG cL H' K D :=
 ⟨c.nx.ext e,c.bk.ext e,c.ct.ext e,λx δ' h _ _ _ _ _ E S V=>c.rt x δ' h _ _ _ _ _ (e.trans E) S V,kM.st e c.kp⟩
inductive dZ (G:WS) (D:Ends) (σ:St) (H:Hp):Prop
 |mk (F:Hp) (ad:-M) (δ:aH) (K:KS) (S:SR F ad δ σ H) (q:G K δ) (k:vx F ad δ.mu H K D)
def aw(G G':WS):WS:=λK δ=>G {K with nx:=G' K} δ
def cA:WS:=λK δ=>K.nx δ
def aM(i:Nat)(f:WE):WS:=λK δ=>f δ λx δ1=>K.nx ⟨δ1.sl.set i (U x),δ1.mu⟩
def iw(f:WE):WS:=λK δ=>f δ λ_ δ1=>K.nx δ1
def aJ(f:WE):WS:=λK δ=>f δ λx δ1=>K.rt x δ1
def bh(t:WT)(G G':WS):WS:=λK δ=>t δ λb δ1=>if b=θ then G K δ1 else G' K δ1
section
variable{X:Cx}{e c:J}{st:o}{rest:-o}{f:WE}{t:WT}{G G':WS}{pos:y}
theorem fU:dM X [] (dZ cA):=mi.weak λD σ H ⟨F,ad,δ,K,S,q,k⟩↦k.nx _ q _ _ _ _ .refl S
theorem cB(h:JS X st (dZ G)):dM X [st] (dZ G):=xA h
theorem cg(h:JS X st (dZ G))(r:dM X rest (dZ G')):dM X (st::rest) (dZ (aw G G')) :=
 (uQ h r).weak λD σ H ⟨F,ad,δ,K,S,q,k⟩↦⟨F,ad,δ,_,S,q,⟨fun δ' h _ _ _ _ E S'=>⟨_,_,δ',K,S',h,k.ext E⟩,k.bk,k.ct,k.rt,k.kp⟩⟩
theorem NS{i:Nat}:∀D σ H,dZ (aM i f) D σ H->kA (tD f) (uR i) D σ H:=λD σ H ⟨F,ad,δ,K,S,q,k⟩↦⟨F,ad,δ,_,S,q,λx δ1 h1 v F1 aV H1 E1 S1 V1=>k.nx _ h1 _ _ _ _ E1 (S1.set V1)⟩
theorem iO{i:Nat}{x:R}{pos':y}(hN:X.N.Nodup)(hi:X.N[i]?=U x)(hx:Loc X.env.scope x)(he:JE X e (tD f))(hs:‹swapsWith e (U (.Name x pos')) pos.line X.env=pure ι›)
  (hf:autoParam (gB X x) qz1._auto_1):JS X (.Assign [.Name x pos'] e pos) (dZ (aM i f)):=(xI hN hi hx he hs hf).weak NS
theorem mN(he:JE X e (tD f))(hs:‹swapsWith e Z pos.line X.env=pure ι›):JS X (.Expr e pos) (dZ (iw f)) :=
 (KY he hs).weak λD σ H ⟨F,ad,δ,K,S,q,k⟩↦⟨F,ad,δ,_,S,q,λx δ1 h1 v F1 aV H1 E1 S1 V1=>k.nx _ h1 _ _ _ _ E1 S1⟩
theorem d3(he:JE X e (tD f)):JS X (.Return (U e) pos) (dZ (aJ f)) :=
 (DF he).weak λD σ H ⟨F,ad,δ,K,S,q,k⟩↦⟨F,ad,δ,_,S,q,λx δ1 h1 v F1 aV H1 E1 S1 V1=>k.rt _ _ h1 _ _ _ _ _ E1 S1 V1⟩
theorem fV{a b:-o}(hc:JT X c (cS t))(ha:dM X a (dZ G))(hb:dM X b (dZ G')):JS X (.If c a b pos) (dZ (bh t G G')) :=
 (KZ hc ha hb).weak λD σ H ⟨F,ad,δ,K,S,q,k⟩↦⟨F,ad,δ,_,S,q,λb δ1 h1 F1 aV H1 E1 S1=>by
  cases b with
  |true =>
   rw[Wm Y] at h1 ⊢;exact⟨F1,aV,δ1,K,S1,h1,k.ext E1⟩
  |false =>
   rw[Vw WQ] at h1 ⊢
   calc⟨F1,aV,δ1,K,S1,h1,k.ext E1⟩⟩
def lO:WS:=λ_ _=>False
abbrev WG:=DV->aH->(aH->Prop)->Prop
inductive jf (g:WG) (v:V) (σ:St) (H:Hp) (Q:St->Hp->Prop):Prop
 |mk (F:Hp) (ad:-M) (δ:aH) (x:DV) (K:aH->Prop) (S:SR F ad δ σ H) (V:dB F ad x v) (q:g x δ K) (k:Cn F ad δ.mu H K Q)
abbrev pV:=-D->aH->(aH->Prop)->Prop
def mO(g:pV):jZ:=λvs σ H Q=>∃F ad δ ds K,SR F ad δ σ H/\ah F ds vs/\g ds δ K/\Cn F ad δ.mu H K Q
def bF(i:Nat):WG:=λx δ K=>K ⟨δ.sl.set i (U x),δ.mu⟩
def jE:pV:=λds δ K=>match ds with
 |[]=>K δ
 |_=>False
def fG(g:WG)(g':pV):pV:=λds δ K=>match ds with
 |d::r=>g (.p d) δ fun δ1=>g' r δ1 K
 |[]=>False
theorem JG.weak{tg:J}{t t':TG}(h:JG X tg t)(k:∀v σ H Q,t' v σ H Q->t v σ H Q):JG X tg t':=⟨λpins s σ H v u Q I r q=>h pins s σ H v u Q I r (k v σ H Q q)⟩
theorem i9.weak{ts:-J}{t t':jZ}(h:i9 X ts t)(k:∀v σ H Q,t' v σ H Q->t v σ H Q):i9 X ts t':=⟨λpins s σ H v u Q I r q=>h pins s σ H v u Q I r (k v σ H Q q)⟩
theorem jF{i:Nat}{x:R}(hN:X.N.Nodup)(hi:X.N[i]?=U x)(hx:Loc X.env.scope x)(hf:autoParam (gB X x) qz1._auto_1):JG X (.Name x pos) (jf (bF i)) :=
 (xD hN hi hx hf).weak λv σ H Q ⟨F,ad,δ,x,K,S,V,q,k⟩↦k _ q _ _ _ _ .refl (S.set V)
theorem vy:i9 X [] (mO jE):=i_.weak λvs σ H Q ⟨F,ad,δ,ds,K,S,V,q,k⟩↦by
 unfold jE at q;split at q
 .erw[ah] at V
  exact⟨V,k _ q _ _ _ _ .refl S⟩
 .calc q.elim
theorem pW{es:-J}{g:WG}{g':pV}(h1:JG X e (jf g))(h2:i9 X es (mO g'))(hs:‹(assignEach (e::es) X.env).map (·.2)=assign e X.env::(assignEach es X.env).map (·.2)›):i9 X (e::es) (mO (fG g g')) :=
 (xF h1 h2 hs).weak λvs σ H Q ⟨F,ad,δ,ds,K,S,V,q,k⟩↦by
  unfold fG at q;split at q
  .rename_i d r
   erw[ah] at V;let⟨v,r',e,i1,i2⟩:=V;exact⟨v,r',e,F,ad,δ,.p d,_,S,i1,q,fun δ' h _ _ _ _ E S'=>⟨_,_,δ',r,K,S',i2.same E.same,h,k.ext E⟩⟩
  .calc q.elim
def j8(n:Nat)(g:pV):WG:=λx δ K=>g7 x δ λd=>match d with
 |.tup ds=>↑ds=n/\g ds δ K
 |.lst ds=>↑ds=n/\g ds δ K
 |_=>False
theorem JG.or{tg:J}{t t':TG}(h:JG X tg t)(h':JG X tg t'):JG X tg (λv σ H Q=>t v σ H Q\/t' v σ H Q):=⟨λpins s σ H v u Q I r q=>q.elim (λq=>h pins s σ H v u Q I r q) λq=>h' pins s σ H v u Q I r q⟩
theorem vz{es:-J}{k:Nat}{g:pV}{n:Nat}(hc:X.calm=θ)(h:i9 X es (mO g))(hn:‹↑(assignEach es X.env)=n›)(iD:‹(assignEach es X.env).findIdx? (·.1)=Z›):JG X (.Tuple es k pos) (jf (j8 n g)) :=
 ((DG hc h hn iD).or (NM hc h hn iD)).weak λv σ H Q ⟨F,ad,δ,x,K,S,V,q,k⟩↦by
  let⟨d,q,rd⟩:=jB S V q;split at q
  .rename_i ds
   let vA:Is F (.tup ds) v:=rd;erw[Is] at vA;let⟨a,vs,e,h1,h2⟩:=vA;exact .inl ⟨a,vs,e,bO.of (S.sub _ _ h1),by rw[↑h2];calc q.1,F,ad,δ,ds,K,S,h2,q.2,k⟩
  .rename_i ds
   let⟨a,vs,e,h1,h2⟩:=rd;exact .inr ⟨a,vs,e,bE.of h1,by rw[↑h2];calc q.1,F,ad,δ,ds,K,S,h2,q.2,k⟩
  .calc q.elim
def hZ(f:WE)(g:WG):WS:=λK δ=>f δ λx δ1=>g x δ1 K.nx
theorem E8{tg:J}{g:WG}(he:JE X e (tD f))(hg:JG X tg (jf g))(hs:‹swapsWithSole [tg] e pos.line X.env=pure ι›)(hw:‹swappedStores [tg] e X.env=pure Z›)
  (h1:‹(assignEach [tg] X.env).map (·.2)=[assign tg X.env]›):JS X (.Assign [tg] e pos) (dZ (hZ f g)) :=
 (xH he hg hs hw h1).weak λD σ H ⟨F,ad,δ,K,S,q,k⟩↦⟨F,ad,δ,_,S,q,λx δ1 h1 v F1 aV H1 E1 S1 V1=>⟨F1,aV,δ1,x,K.nx,S1,V1,h1,k.nx.ext E1⟩⟩
end
end
structure mP where
 items:-D
 bJ:aH->Prop
abbrev WI:=aH->(mP->aH->Prop)->Prop
def pX(F:Hp)(ad:-M)(it:mP)(J:It):Prop:=∀(F':Hp)(aG:-M)(δ:aH)(σ:St)(H:Hp),aL F F'->(∀(k:Nat)(a:M),ad[k]?=U a->aG[k]?=U a)->SR F' aG δ σ H->it.bJ δ →
 J.stop ↑it.items H/\∀(i:Nat)(d:D),it.items[i]?=U d->J.go i H/\∀x H',J.qF i H x H'->aL H H'/\Is (Nw F' H H') d x
inductive jg (w:WI) (σ:St) (H:Hp) (R:It->Hp->Prop):Prop
 |mk (F:Hp) (ad:-M) (δ:aH) (K:mP->aH->Prop) (S:SR F ad δ σ H) (q:w δ K) (k:∀it δ',K it δ'->∀J F' aG H',Ext F ad δ.mu H F' aG δ'.mu H'->SR F' aG δ' σ H'->pX F' aG it J->R J H')
noncomputable def vB(n:Nat):Option DV->Option DV->Option DV
 |none,_=>Z
 |some _,some (.o k)=>if k<n then U (.o k) else Z
 |some _,some (.t d k)=>if k<n then U (.t d k) else Z
 |some _,s=>s
noncomputable def gf(n:Nat):-(Option DV)->-(Option DV)->-(Option DV)
 |s0::r0,s::r=>vB n s0 s::gf n r0 r
 |[],_::r=>Z::gf n [] r
 |_,[]=>[]
noncomputable def aH.trim(δ0 δ:aH):aH:=⟨gf ↑δ0.mu δ0.sl δ.sl,δ.mu.take ↑δ0.mu⟩
theorem zb{n:Nat}:∀(l0 l:-(Option DV)),↑(gf n l0 l)=↑l
 |_::r0,_::r=>by rw[gf,Em,Em,zb r0 r]
 |[],_::r=>by rw[gf,Em,Em,zb [] r]
 |[],[]=>Y
 |_::_,[]=>Y
theorem zc{n:Nat}:∀{l0 l:-(Option DV)}{i:Nat}{x:DV},(gf n l0 l)[i]?=U (U x)->l[i]?=U (U x)/\∀k,x=.o k\/(∃d,x=.t d k)->k<n
 |s0::r0,s::r,0,x,h=>by
  let h:vB n s0 s=U x:=by simpa[gf] using h
  match s0,s,h with
  |none,_,h=>cases h
  |some _,none,h=>cases h
  |some _,some (.p d),h=>cases(show U (DV.p d)=U x from h);exact⟨Y,λk e=>by rcases e with e|⟨_,e⟩<;>cases e⟩
  |some _,some (.w d),h=>cases(show U (DV.w d)=U x from h);exact⟨Y,λk e=>by rcases e with e|⟨_,e⟩<;>cases e⟩
  |some _,some (.t d k),h =>
   let h:(if k<n then U (DV.t d k) else Z)=U x:=h
   by_cases c:k<n
   .rw[Wm c] at h;cases h;exact⟨Y,λk' e=>by rcases e with e|⟨_,e⟩<;>cases e;calc c⟩
   .rw[Vw c] at h;cases h
  |some _,some (.o k),h =>
   let h:(if k<n then U (DV.o k) else Z)=U x:=h
   by_cases c:k<n
   .rw[Wm c] at h;cases h;exact⟨Y,λk' e=>by rcases e with e|⟨_,e⟩<;>cases e;calc c⟩
   .rw[Vw c] at h;cases h
 |s0::r0,s::r,i+1,x,h=>by
  let h:(gf n r0 r)[i]?=U (U x):=by simpa[gf] using h
  simpa using zc h
 |[],s::r,0,x,h=>by simp[gf] at h
 |[],s::r,i+1,x,h=>by
  let h:(gf n [] r)[i]?=U (U x):=by simpa[gf] using h
  simpa using zc h
 |[],[],i,x,h=>by simp[gf] at h
 |_::_,[],i,x,h=>by simp[gf] at h
section
variable{F F' H H':Hp}{ad aG:-M}{δ δ' δ0:aH}{σ σ' τ:St}{mu cL:-(Option OV)}{l:M}{o:HO}
theorem Lv.take{n:Nat}{a:M}(h:Lv (ad.take n) (mu.take n) a):Lv ad mu a:=by
 let⟨k,ov,e1,e2⟩:=h
 let hk:k<n:=by
  let:=(sG.mp e1).1;rw[WM] at this;symm
 rw[WV hk] at e1 e2;calc⟨k,ov,e1,e2⟩
theorem SR.trim(S:SR F ad δ σ H):SR F (ad.take ↑δ0.mu) (δ0.trim δ) σ H:=by
 let tk:∀{k:Nat}{a:M},(ad.take ↑δ0.mu)[k]?=U a->k<↑δ0.mu/\ad[k]?=U a:=λ{k a} e=>by
  let hk:k<↑δ0.mu:=by
   let:=(sG.mp e).1;rw[WM] at this;symm
  rw[WV hk] at e;exact⟨hk,e⟩
 let tm:∀{k:Nat}{w:Option OV},(δ.mu.take ↑δ0.mu)[k]?=U w->k<↑δ0.mu/\δ.mu[k]?=U w:=λ{k w} e=>by
  let hk:k<↑δ0.mu:=by
   let:=(sG.mp e).1;rw[WM] at this;symm
  rw[WV hk] at e;exact⟨hk,e⟩
 refine⟨S.sub,λa x=>S.off a x.take,?_,λk l a w w' e1 e2 e3 e4=>S.inj k l a w w' (tk e1).2 (tk e2).2 (tm e3).2 (tm e4).2,λk ov e=>?_,λi x e=>?_,?_,S.tab,S.nt⟩
 .show ↑(ad.take _)=↑(δ.mu.take _)
  rw[WM,WM,S.cf]
 .let⟨a,o,e1,e2,h⟩:=S.mu k ov (tm e).2
  exact⟨a,o,by rw[WV (tm e).1];calc e1,e2,h⟩
 .let⟨e1,e2⟩:=zc e
  let⟨v,h1,h2⟩:=S.sl i x e1;exact⟨v,h1,h2.pre λk a h3 z=>by rw[WV (e2 k z)];calc h3⟩
 .show ↑σ=↑(gf _ _ _)
  rw[zb];calc S.len
theorem Ext.trim{n:Nat}(e:Ext F ad mu H F' aG cL H')(hn:↑ad=n):Ext F ad mu H F' (aG.take n) (cL.take n) H' :=
 ⟨e.same,e.new,e.keep,λk a h=>by rw[WV (by rw[<-hn];calc(sG.mp h).1)];calc e.pre k a h,λa x=>e.cb a x.take,e.hX⟩
theorem SR.other(S:SR F ad δ σ H)(hf:F l=Z)(hl:¬ Lv ad δ.mu l)(tk:aS.ok (upd H l o)):SR F ad δ σ (upd H l o):=by
 refine⟨λa u e=>?_,S.off,S.cf,S.inj,λk ov e=>?_,S.sl,S.len,tk,S.nt⟩
 .rw[aZ (dJ e hf)];exact S.sub a u e
 .let⟨a,u,e1,e2,h⟩:=S.mu k ov e
  calc⟨a,u,e1,by rw[aZ λz=>hl (by subst z;calc⟨k,ov,e1,e⟩)];calc e2,h⟩
theorem Ext.other(e:Ext F ad mu H F' aG cL H')(hl:H l=Z):Ext F ad mu H F' aG cL (upd H' l o) :=
 ⟨e.same,e.new,λa u h n t=>by rw[aZ (dJ h hl)];calc e.keep a u h n t,e.pre,e.cb,λa u h=>by rw[aZ (dJ h hl)];calc e.hX a u h⟩
theorem SR.adopt(S:SR F ad δ σ H)(hf:F l=Z)(ho:H l=U o)(hl:¬ Lv ad δ.mu l)(no:∀ps,o≠.tbl ps:=by ext _ z;cases z):SR (upd F l o) ad δ σ H:=by
 let sm:aL F (upd F l o):=de hf
 refine⟨λa u e=>?_,λa x=>?_,S.cf,S.inj,λk ov e=>?_,λi x e=>?_,S.len,S.tab,λa ha=>by
  let⟨ps,q⟩:=aS.tb S.tab ha;rw[aZ λz=>by subst z;rw[ho] at q;calc no ps (WJ q)]
  calc S.nt a ha⟩
 .by_cases c:a=l
  .subst c;rw[b_] at e;cases e;exact ho
  .rw[aZ c] at e;exact S.sub a u e
 .rw[aZ λz=>hl (by subst z;calc x)];exact S.off a x
 .let⟨a,u,e1,e2,h⟩:=S.mu k ov e
  exact⟨a,u,e1,e2,h.same sm⟩
 .let⟨v,e1,h⟩:=S.sl i x e
  calc⟨v,e1,h.same sm⟩
theorem Ext.adopt(e:Ext F ad mu H F' aG cL H')(hl:H l=Z)(hf:F' l=Z):Ext F ad mu H (upd F' l o) aG cL H' :=
 ⟨e.same.trans (de hf),λa u h=>by
  by_cases c:a=l
  .subst c;exact .inr (.inl hl)
  .rw[aZ c] at h;calc e.new a u h,e.keep,e.pre,e.cb,e.hX⟩
theorem SR.cM{ov:OV}(S:SR F ad δ σ H)(hf:F l=Z)(ho:H l=U o)(hl:¬ Lv ad δ.mu l)(h:eC F l ov o):SR F (ad++[l]) ⟨δ.sl,δ.mu++[U ov]⟩ σ H:=by
 let old:∀{k:Nat}{w:OV},(δ.mu++[U ov])[k]?=U (U w)->(k<↑δ.mu/\δ.mu[k]?=U (U w))\/(k=↑δ.mu/\w=ov):=λ{k w} e=>by
  by_cases c:k<↑δ.mu
  .rw[ML c] at e;exact .inl ⟨c,e⟩
  .let hl:=(sG.mp e).1
   rw[MJ,XI] at hl;let ek:k=↑δ.mu:=by symm
   subst ek;rw[Vs (Ek _),Xn] at e;exact .inr ⟨Y,by simpa using e.symm⟩
 let pre:∀{k:Nat},k<↑δ.mu->(ad++[l])[k]?=ad[k]?:=λ{k} c=>ML (by rw[S.cf];calc c);let last:(ad++[l])[↑δ.mu]?=U l:=by rw[<-S.cf,Vs (Ek _),Xn];rfl
 refine⟨S.sub,λa x=>?_,by rw[MJ,MJ,S.cf];rfl,λk k' a w w' e1 e2 e3 e4=>?_,λk w e=>?_,λi x e=>?_,S.len,S.tab,S.nt⟩
 .let⟨k,w,e1,e2⟩:=x
  rcases old e2 with⟨c,e3⟩|⟨c,e3⟩
  .rw[pre c] at e1;exact S.off a ⟨k,w,e1,e3⟩
  .subst c;rw[last] at e1;cases e1;exact hf
 .rcases old e3 with⟨c,q⟩|⟨c,q⟩
  .rw[pre c] at e1
   rcases old e4 with⟨c',q'⟩|⟨c',q'⟩
   .rw[pre c'] at e2;exact S.inj k k' a w w' e1 e2 q q'
   .subst c';rw[last] at e2;cases e2;exact absurd ⟨k,w,e1,q⟩ hl
  .subst c;rw[last] at e1;cases e1
   rcases old e4 with⟨c',q'⟩|⟨c',q'⟩
   .rw[pre c'] at e2;exact absurd ⟨k',w',e2,q'⟩ hl
   .exact c'.symm
 .rcases old e with⟨c,q⟩|⟨c,q⟩
  .let⟨a,u,e1,e2,h'⟩:=S.mu k w q
   exact⟨a,u,by rw[pre c];calc e1,e2,h'⟩
  .subst c;subst q;exact⟨l,o,last,ho,h⟩
 .let⟨v,e1,h'⟩:=S.sl i x e
  calc⟨v,e1,h'.pre λk a e2 _=>by rw[ML (sG.mp e2).1];calc e2⟩
theorem Ext.cM{ov:OV}(e:Ext F ad mu H F' aG cL H')(hl:H l=Z)(hm:↑aG=↑cL):Ext F ad mu H F' (aG++[l]) (cL++[U ov]) H' :=
 ⟨e.same,e.new,e.keep,λk a h=>by rw[ML (sG.mp (e.pre k a h)).1];calc e.pre k a h,λa x=>by
  let⟨k,w,e1,e2⟩:=x
  by_cases c:k<↑cL
  .rw[ML c] at e2
   rw[ML (by rw[hm];calc c)] at e1;exact e.cb a ⟨k,w,e1,e2⟩
  .let iP:=(sG.mp e2).1
   rw[MJ,XI] at iP;let ek:k=↑aG:=by rw[hm];symm
   subst ek;rw[Vs (Ek _),Xn] at e1;let:l=a:=by simpa using e1
   subst this;calc .inr hl,e.hX⟩
theorem SR.back{sl:-(Option DV)}(S0:SR F ad δ σ H)(e:Ext F ad δ.mu H F' aG cL H')(S:SR F' aG ⟨sl,cL⟩ τ H'):SR F' aG ⟨δ.sl,cL⟩ σ H' :=
 ⟨S.sub,S.off,S.cf,S.inj,S.mu,λi x q=>let⟨v,h1,h2⟩:=S0.sl i x q;⟨v,h1,h2.ext e⟩,S0.len,S.tab,S.nt⟩
noncomputable def dE(cp:-(Option Nat))(sl:-(Option DV)):-(Option DV):=cp.map λo=>match o with
 |some i=>(sl[i]?).join
 |none=>Z
theorem SR.tG{cp:-(Option Nat)}(S:SR F ad δ σ H):SR F ad ⟨dE cp δ.sl,δ.mu⟩ (ir cp σ) H:=by
 calc⟨S.sub,S.off,S.cf,S.inj,S.mu,λj x e=>?_,by unfold ir dE;rw[pN,pN],S.tab,S.nt⟩;unfold dE at e;rw[My] at e;let⟨o,e1,e2⟩:=Ws.mp e
 match o,e2 with
 |none,e2=>cases e2
 |some i,e2 =>
  let e2:(δ.sl[i]?).join=U x:=e2
  cases q:δ.sl[i]? with
  |none=>rw[q] at e2;cases e2
  |some z =>
   rw[q] at e2;let e3:z=U x:=e2;subst e3;let⟨v,h1,h2⟩:=S.sl i x q;calc⟨v,?_,h2⟩;unfold ir;rw[My,e1];show U ((σ[i]?).join)=U (U v);rw[h1];rfl
end
def kN(δ0:aH)(bJ:aH->Prop)(g:WG)(b:WS)(K:KS):-D->aH->Prop
 |[],δ=>bJ δ/\K.nx δ
 |d::r,δ=>bJ δ/\g (.p d) δ fun δ1=>b {nx:=fun δ2=>kN δ0 bJ g b K r (δ0.trim δ2),ct:=fun δ2=>kN δ0 bJ g b K r (δ0.trim δ2),bk:=K.nx,rt:=K.rt} δ1
def eg(w:WI)(g:WG)(b:WS):WS:=λK δ=>w δ λit δ1=>kN δ1 it.bJ g b K it.items δ1
def jh(δ0:aH)(bJ:aH->Prop)(g:WG)(t:WT)(f:WE)(K:-D->aH->Prop):-D->-D->aH->Prop
 |[],acc,δ=>bJ δ/\K acc δ
 |d::r,acc,δ=>bJ δ/\g (.p d) δ fun δ1=>t δ1 λb δ2=>if b=θ then f δ2 λx δ3=>mK x δ3 λe δ4=>↑acc<1000/\jh δ0 bJ g t f K r (acc++[e]) (δ0.trim δ4) else jh δ0 bJ g t f K r acc (δ0.trim δ2)
def eE(w:WI)(cp:-(Option Nat))(g:WG)(t:WT)(f:WE):WE:=fun δ K=>w δ λit δ1=>jh ⟨dE cp δ1.sl,δ1.mu⟩ it.bJ g t f (λacc δ'=>K (.p (.lst acc)) ⟨δ1.sl,δ'.mu⟩) it.items [] ⟨dE cp δ1.sl,δ1.mu⟩
def mQ(w:WI)(cp:-(Option Nat))(g:WG)(t:WT)(f:WE):WE:=fun δ K=>w δ λit δ1=>jh ⟨dE cp δ1.sl,δ1.mu⟩ it.bJ g t f (λacc δ'=>K (.o ↑δ'.mu) ⟨δ1.sl,δ'.mu++[U (.lst acc)]⟩) it.items [] ⟨dE cp δ1.sl,δ1.mu⟩
section
variable{X:Cx}{tg iter elt:J}{body:-o}{w:WI}{g:WG}{b:WS}{pos:y}{ifs:-J}{t:WT}{f:WE}{scope:a}
theorem tH[kM](hp:PassesOwn (G X.prog X.w) X.A X.env X.xe)(hc:X.calm=θ)(hi:JI X tg iter (jg w))(hg:JG X tg (jf g))(hb:dM X body (dZ b))(hs:‹∀x,foldedSetIterable iter X.env x=pure x›):
  JS X (.For tg iter body [] pos) (dZ (eg w g b)):=(DL hp hc hi hg hb hs).weak λD σ H ⟨F,ad,δ,K,S,q,k⟩=>by
 calc⟨F,ad,δ,_,S,q,λit δ1 h1 J F1 aV H1 E1 S1 I1=>?_⟩;let k1:=k.ext E1;calc⟨λi m σ' H'=>∃F' aG δ',i+m=↑it.items/\Ext F1 aV δ1.mu H1 F' aG δ'.mu H'/\SR F' aG δ' σ' H'/\kN δ1 it.bJ g b K (it.items.drop i) δ',⟨↑it.items,F1,aV,δ1,⋯,.refl,S1,h1⟩,?_⟩;ext i m σ' H' ⟨F',aG,δ',hm,E',S',h⟩
 by_cases fX:i<↑it.items
 .rw[Zd fX] at h
  let⟨ck,h⟩:=h;let⟨go,yl⟩:=(I1 F' aG δ' σ' H' E'.same E'.pre S' ck).2 i _ (pM fX);calc .inr ⟨go,fun σ2 H2=>∃F2 cq δ2,Ext F1 aV δ1.mu H1 F2 cq δ2.mu H2/\SR F2 cq δ2 σ2 H2/\kN δ1 it.bJ g b K (it.items.drop (i+1)) δ2,fun σ2 H2 ⟨F2,cq,δ2,e1,e2,e3⟩↦⟨m-1,⋯,F2,cq,δ2,⋯,e1,e2,e3⟩,λx H2 y=>?_⟩;let⟨sm,is⟩:=yl x H2 y;let E2:=E'.trans (Ext.al S' sm);calc⟨_,aG,δ',.p _,_,S'.al sm,is,h,fun δ3 h3 F3 qT σ3 H3 E3 S3=>?_⟩;let tI:=E2.trans E3;refine⟨F3,qT,δ3,_,S3,h3,⟨fun δ4 h4 F4 vC σ4 H4 E4 S4=>⟨F4,_,_,(tI.trans E4).trim S1.cf,S4.trim,h4⟩,k1.nx.ext tI,fun δ4 h4 F4 vC σ4 H4 E4 S4=>⟨F4,_,_,(tI.trans E4).trim S1.cf,S4.trim,h4⟩,(k1.ext tI).rt,(k1.ext tI).kp⟩⟩
 .let ei:i=↑it.items:=by symm
  subst ei;rw[q0K (Ek _)] at h;let⟨ck,h⟩:=h;calc .inl ⟨(I1 F' aG δ' σ' H' E'.same E'.pre S' ck).1,k1.nx _ h _ _ _ _ E' S'⟩
def dm:WT:=fun δ K=>K θ δ
theorem JF.weak{ifs:-J}{t t':TT}(h:JF X ifs t)(k:∀σ H Q,t' σ H Q->t σ H Q):JF X ifs t':=⟨λpins s σ H Q I q=>h pins s σ H Q I (k σ H Q q)⟩
theorem zd:JF X [] (cS dm):=pQ.weak fun σ H Q ⟨F,ad,δ,K,S,q,k⟩↦k _ _ q _ _ _ .refl S
theorem ze{c:J}(h:JT X c (cS t)):JF X [c] (cS t):=MP h
theorem E9{J:It}{l:M}{F1:Hp}{aV:-M}{δ1:aH}{σ:St}{H1:Hp}{it:mP}{cp:-(Option Nat)}{Q:VK}{K:-D->aH->Prop}(S1:SR F1 aV δ1 σ H1)(I1:pX F1 aV it J)(hl:H1 l=Z)
  (h:jh ⟨dE cp δ1.sl,δ1.mu⟩ it.bJ g t f K it.items [] ⟨dE cp δ1.sl,δ1.mu⟩)
  (fin:∀acc δ' F' aG τ H' ys,K acc δ'->Ext F1 aV δ1.mu H1 F' aG δ'.mu H'->SR F' aG δ' τ H'->H' l=U (.lst ys)->F' l=Z->¬ Lv aG δ'.mu l->ah F' acc ys->Q (.ref l) H') :
  Er J (jf g) (cS t) (tD f) l (ir cp σ) (upd H1 l (.lst [])) Q:=by
 let f1:F1 l=Z:=by
  cases q:F1 l with
  |none=>rfl
  |some u=>rw[S1.sub l u q] at hl;cases hl
 let nl:∀{ad mu},(∀a,Lv ad mu a->Lv aV δ1.mu a\/H1 a=Z)->True:=λ_=>trivial
 let l1:¬ Lv aV δ1.mu l:=λ⟨k,ov,e1,e2⟩↦by
  let⟨a,o,e3,e4,_⟩:=S1.mu k ov e2;rw[e1] at e3;cases e3;rw[hl] at e4;cases e4
 let S0:SR F1 aV ⟨dE cp δ1.sl,δ1.mu⟩ (ir cp σ) (upd H1 l (.lst [])):=S1.tG.other f1 l1 (aS.same S1.tab (de hl));calc⟨λi m τ H'=>∃F' aG δ' acc ys,i+m=↑it.items/\Ext F1 aV δ1.mu H1 F' aG δ'.mu H'/\SR F' aG δ' τ H'/\H' l=U (.lst ys)/\F' l=Z/\¬ Lv aG δ'.mu l/\ah F' acc ys/\jh ⟨dE cp δ1.sl,δ1.mu⟩ it.bJ g t f K (it.items.drop i) acc δ',⟨↑it.items,F1,aV,_,[],[],⋯,Ext.refl.other hl,S0,b_,f1,l1,.nil,h⟩,?_⟩;ext i m τ H' ⟨F',aG,δ',acc,ys,hm,E',S',iP,mR,oM,ia,h⟩
 by_cases fX:i<↑it.items
 .rw[Zd fX] at h
  let⟨ck,h⟩:=h;let⟨go,yl⟩:=(I1 F' aG δ' τ H' E'.same E'.pre S' ck).2 i _ (pM fX)
  let step:∀{F2:Hp}{cq:-M}{zf:-(Option OV)}{H2:Hp},Ext F' aG δ'.mu H' F2 cq zf H2->H2 l=U (.lst ys)/\F2 l=Z/\¬ Lv cq zf l/\ah F2 acc ys:=λ{F2 cq zf H2} e=>by
   refine⟨e.keep _ _ iP oM (λz=>by let⟨ps,q⟩:=aS.tb S1.tab z;rw[hl] at q;cases q),?_,λz=>?_,ia.same e.same⟩
   .cases q:F2 l with
    |none=>rfl
    |some u =>
     rcases e.new l u q with z|z|z
     .rw[mR] at z;cases z
     .rw[iP] at z;cases z
     .exact absurd z oM
   .rcases e.cb l z with z|z
    .exact oM z
    .rw[iP] at z;cases z
  refine .inr ⟨go,fun τ2 H2=>∃F2 cq δ2 mS vD,Ext F1 aV δ1.mu H1 F2 cq δ2.mu H2/\SR F2 cq δ2 τ2 H2/\H2 l=U (.lst vD)/\F2 l=Z/\¬ Lv cq δ2.mu l/\ah F2 mS vD/\jh ⟨dE cp δ1.sl,δ1.mu⟩ it.bJ g t f K (it.items.drop (i+1)) mS δ2,
   fun τ2 H2 ⟨F2,cq,δ2,mS,vD,r⟩↦⟨m-1,⋯,F2,cq,δ2,mS,vD,⋯,r⟩,λx H2 y=>?_⟩
  let⟨sm,is⟩:=yl x H2 y;let X2:=Ext.al S' sm;calc⟨_,aG,δ',.p _,_,S'.al sm,is,h,fun δ3 h3 F3 qT σ3 H3 X3 S3=>?_⟩;calc⟨F3,qT,δ3,_,S3,h3,λbb δ4 h4 F4 vC H4 X4 S4=>?_⟩;let zg:=(X2.trans X3).trans X4
  cases bb with
  |false =>
   dsimp only at h4 ⊢;rw[Vw WQ] at h4 ⊢;let⟨a1,a2,a3,a4⟩:=step zg;exact⟨F4,_,_,acc,ys,(E'.trans zg).trim S1.cf,S4.trim (δ0:=⟨dE cp δ1.sl,δ1.mu⟩),a1,a2,λz=>a3 z.take,a4,h4⟩
  |true =>
   dsimp only at h4 ⊢;rw[Wm Y] at h4 ⊢;calc⟨F4,vC,δ4,_,S4,h4,λy δ5 h5 v F5 VB H5 X5 S5 V5=>?_⟩;let⟨e,δ6,F6,⟨hlen,h6⟩,X6,S6,i6⟩:=tu S5 V5 h5;let E_:=(zg.trans X5).trans X6;let⟨a1,a2,a3,a4⟩:=step E_;calc⟨ys,a1,qM (by rw[↑a4];symm),F6,_,_,acc++[e],ys++[v],?_,(S6.other a2 a3 (aS.put S6.tab a1 (.inl ⟨_,Y⟩))).trim (δ0:=⟨dE cp δ1.sl,δ1.mu⟩),b_,a2,λz=>a3 z.take,a4.snoc i6,h6⟩;exact((E'.trans E_).other hl).trim S1.cf
 .let ei:i=↑it.items:=by symm
  subst ei;rw[q0K (Ek _)] at h;let⟨ck,h⟩:=h;calc .inl ⟨(I1 F' aG δ' τ H' E'.same E'.pre S' ck).1,fin _ _ _ _ _ _ _ h E' S' iP mR oM ia⟩
theorem Fb{cp:-(Option Nat)}:∀σ H Q,tD (eE w cp g t f) σ H Q->sM (jg w) cp (λ_=>jf g) (λ_=>cS t) (λ_=>tD f) σ H Q:=fun σ H Q ⟨F,ad,δ,K,S,q,k⟩=>by
 calc⟨F,ad,δ,_,S,q,λit δ1 h1 J F1 aV H1 E1 S1 I1=>λd l hl=>?_⟩;calc E9 S1 I1 hl h1 λacc δ' F' aG τ H' ys hk E' S' iP mR oM ia=>?_;let sm:aL F' (upd F' l (.lst ys)):=de mR;calc k _ _ hk _ _ _ _ (E1.trans (E'.adopt hl mR)) (SR.back (sl:=δ'.sl) S1 (E'.adopt hl mR) (S'.adopt mR iP oM)) ?_;show Is _ (.lst acc) _;erw[Is];calc⟨l,ys,Y,b_,ia.same sm⟩
theorem NT{cp:-(Option Nat)}:∀σ H Q,tD (mQ w cp g t f) σ H Q->sM (jg w) cp (λ_=>jf g) (λ_=>cS t) (λ_=>tD f) σ H Q:=fun σ H Q ⟨F,ad,δ,K,S,q,k⟩=>by
 calc⟨F,ad,δ,_,S,q,λit δ1 h1 J F1 aV H1 E1 S1 I1=>λd l hl=>?_⟩;calc E9 S1 I1 hl h1 λacc δ' F' aG τ H' ys hk E' S' iP mR oM ia=>?_;let S2:=S'.cM (ov:=.lst acc) mR iP oM ⟨ys,Y,ia⟩;let E2:=E'.cM (ov:=.lst acc) hl S'.cf;calc k _ _ hk _ _ _ _ (E1.trans E2) (SR.back (sl:=δ'.sl) S1 E2 S2) ⟨l,?_,Y⟩;rw[<-S'.cf,Vs (Ek _),Xn];rfl
theorem vE(cp:-(Option Nat))(Nb:-R)(hc:X.calm=θ)(hi:JI X tg iter (jg w))(hg:∀d,JG (cC X scope Nb d) tg (jf g))(hf:∀d,JF (cC X scope Nb d) ifs (cS t))(he:∀d,JE (cC X scope Nb d) elt (tD f))
  (hk:‹scope.kind=.function›) (ho:autoParam (kF X.N X.env.scope scope Nb cp=θ) qz2._auto_1) (hs:‹∀x,foldedSetIterable iter X.env x=pure x›) :
  JE X (.ListComp elt [⟨tg,iter,ifs,0⟩] scope pos) (tD (eE w cp g t f)):=(Ey cp Nb hc hi hg hf he hk ho hs).weak Fb
theorem Fd(cp:-(Option Nat))(Nb:-R)(hc:X.calm=θ)(hi:JI X tg iter (jg w))(hg:∀d,JG (cC X scope Nb d) tg (jf g))(hf:∀d,JF (cC X scope Nb d) ifs (cS t))(he:∀d,JE (cC X scope Nb d) elt (tD f))
  (hk:‹scope.kind=.function›) (ho:autoParam (kF X.N X.env.scope scope Nb cp=θ) qz2._auto_1) (hs:‹∀x,foldedSetIterable iter X.env x=pure x›) :
  JE X (.ListComp elt [⟨tg,iter,ifs,0⟩] scope pos) (tD (mQ w cp g t f)):=(Ey cp Nb hc hi hg hf he hk ho hs).weak NT
theorem NU[kM](cp:-(Option Nat))(Nb:-R){i:Nat}{x:R}{pos' hW:y}(hN:X.N.Nodup)(hi:X.N[i]?=U x)(hx:Loc X.env.scope x)(hc:X.calm=θ)(hit:JI X tg iter (jg w))(hg:∀d,JG (cC X scope Nb d) tg (jf g))(hf:∀d,JF (cC X scope Nb d) ifs (cS t))(he:∀d,JE (cC X scope Nb d) elt (tD f))
  (hk:‹scope.kind=.function›) (ho:autoParam (kF X.N X.env.scope scope Nb cp=θ) qz2._auto_1) (hs:‹∀x,foldedSetIterable iter X.env x=pure x›)
  (sQ:‹swapsWith (.ListComp elt [⟨tg,iter,ifs,0⟩] scope pos) (U (.Name x pos')) hW.line X.env=pure θ›)
  (me:autoParam (gB X x) qz1._auto_1) :
  JS X (.Assign [.Name x pos'] (.ListComp elt [⟨tg,iter,ifs,0⟩] scope pos) hW) (dZ (aM i (eE w cp g t f))) :=
 (M6 cp Nb hN hi hx hc hit hg hf he hk ho hs sQ me).weak λD σ H ⟨F,ad,δ,K,S,q,k⟩↦Fb σ H _ ⟨F,ad,δ,_,S,q,λx δ1 h1 v F1 aV H1 E1 S1 V1=>k.nx _ h1 _ _ _ _ E1 (S1.set V1)⟩
end
inductive RV where
 |p (d:D)|n (ds:-D)|a (j:Nat)|t (d:D) (ds:-D)
def pY(F' H H':Hp)(d:D)(ds:-D)(v:V):Prop:=∃a b u vs,v=.ref a/\F' a=U (.tup [u,.ref b])/\Is F' d u/\H b=Z/\H' b=U (.lst vs)/\F' b=Z/\ah F' ds vs
abbrev GD:=-DV->-OV->(RV->-OV->Prop)->Prop
structure zh(F:Hp)(ad:-M)(H:Hp)(r:RV)(ows:-OV)(v:V)(F' H':Hp):Prop where
 sub:aL F' H'
 same:aL F F'
 new:∀a o,F' a=U o->F a=U o\/H a=Z
 keep:∀a o,H a=U o->a∉ad->a∉aS.ad->H' a=U o
 tab:aS.ok H'
 nt:∀a∈aS.ad,F' a=Z
 len:↑ows=↑ad
 own:∀(j:Nat)(ow:OV),ows[j]?=U ow->∃a o,ad[j]?=U a/\H' a=U o/\eC F' a ow o
 off:∀a∈ad,F' a=Z
 res:match r with
  |.p d=>Is F' d v
  |.n ds=>∃a vs,v=.ref a/\H a=Z/\H' a=U (.lst vs)/\F' a=Z/\ah F' ds vs
  |.a j=>∃a,ad[j]?=U a/\v=.ref a
  |.t d ds=>pY F' H H' d ds v
inductive mT (G:GD) (n:Nat) (vs:-V) (H:Hp) (Q:VK) (_:XK):Prop
 |mk (hl:↑vs=n) (F:Hp) (ad:-M) (ys:-DV) (av:-OV) (K:RV->-OV->Prop) (S:SR F ad ⟨ys.map U,av.map U⟩ (vs.map U) H) (g:G ys av K) (k:∀r ows,K r ows->∀v F' H',zh F ad H r ows v F' H'->Q v H')
def gI(n:Nat)(K:RV->-OV->Prop)(x:DV)(δ:aH):Prop:=∃ows,δ.mu.take n=ows.map U/\↑ows=n/\match x with
 |.p d=>K (.p d) ows
 |.o k=>if k<n then K (.a k) ows else match δ.mu[k]? with
  |some (some (.lst ds))=>K (.n ds) ows\/K (.p (.lst ds)) ows
  |_=>False
 |.w _=>False
 |.t d k=>n<=k/\match δ.mu[k]? with
  |some (some (.lst ds))=>K (.t d ds) ows
  |_=>False
noncomputable def iQ(n:Nat)(K:RV->-OV->Prop):KS where
 nx:=gI n K (.p .non)
 rt:=gI n K
section
variable{F F' H H':Hp}{ad aG:-M}{σ σ':St}
theorem tJ{α:Type}{l:-α}{i:Nat}{x:α}(h:(l.map U)[i]?=U (U x)):l[i]?=U x:=by
 rw[My] at h;let⟨y,e,q⟩:=Ws.mp h;cases q;calc e
theorem tK{α:Type}{l:-α}{i:Nat}{x:α}(h:l[i]?=U x):(l.map U)[i]?=U (U x):=by
 rw[My,h];rfl
theorem SR.start{ys:-DV}{mu:-(Option OV)}{vs:-V}{N:-R}(S:SR F ad ⟨ys.map U,mu⟩ (vs.map U) H):SR F ad ⟨ys.map U++Vv (↑N-↑vs) Z,mu⟩ (start N vs) H:=by
 let hl:↑vs=↑ys:=by
  let:=S.len;rw[pN] at this;rw[this];rw[pN]
 refine⟨S.sub,S.off,S.cf,S.inj,S.mu,λi x e=>?_,?_,S.tab,S.nt⟩
 .let hi:i<↑ys:=by
   by_cases c:i<↑ys
   .exact c
   .rw[Vs (by rw[pN];symm),Zp] at e
    split at e
    .cases e
    .cases e
  rw[ML (by rw[pN];calc hi)] at e;let⟨v,h1,h2⟩:=S.sl i x e;exact⟨v,by unfold L2.start;rw[ML (by rw[pN,hl];calc hi)];calc h1,h2⟩
 .unfold L2.start
  rw[MJ,MJ,ZH,ZH,pN,pN,hl]
theorem vF{av:-OV}{δ:aH}{x:DV}{v:V}{K:RV->-OV->Prop}{Q:VK}{sl:-(Option DV)}{τ:St}(S0:SR F ad ⟨sl,av.map U⟩ τ H)(E:Ext F ad (av.map U) H F' aG δ.mu H')(S:SR F' aG δ σ' H')(V:dB F' aG x v)
  (h:gI ↑av K x δ) (k:∀r ows,K r ows->∀v F' H',zh F ad H r ows v F' H'->Q v H'):Q v H':=by
 let⟨ows,tk,hl,h⟩:=h;let al:↑ad=↑av:=by let:=S0.cf;rwa [pN] at this
 let lv:∀(j:Nat)(a:M),ad[j]?=U a->∃ow,ows[j]?=U ow/\δ.mu[j]?=U (U ow)/\Lv aG δ.mu a:=λj a e=>by
  let hj:j<↑av:=by rw[<-al];exact(sG.mp e).1
  let h1:(δ.mu.take ↑av)[j]?=U (U (ows[j]'(by rw[hl];calc hj))):=by
   rw[tk,My,pM (by rw[hl];calc hj)];rfl
  rw[WV hj] at h1;exact⟨_,pM (by rw[hl];calc hj),h1,j,_,E.pre j a e,h1⟩
 let jG:∀a∈ad,F' a=Z:=λa ha=>by
  let⟨j,e⟩:=Wt.mp ha;let⟨_,_,_,l⟩:=lv j a e;exact S.off a l
 let base:∀{F2:Hp},aL F' F2->aL F2 H'->(∀a o,F2 a=U o->F' a=U o\/(H a=Z/\¬ a∈ad))->(∀a∈ad,F2 a=Z)->(∀a∈aS.ad,F2 a=Z)->∀{r:RV},(match r with
   |.p d=>Is F2 d v
   |.n ds=>∃a vs,v=.ref a/\H a=Z/\H' a=U (.lst vs)/\F2 a=Z/\ah F2 ds vs
   |.a j=>∃a,ad[j]?=U a/\v=.ref a
   |.t d ds=>pY F2 H H' d ds v)->zh F ad H r ows v F2 H':=λ{F2} s1 s2 n2 o2 NV {r} res=>by
  refine⟨s2,E.same.trans s1,λa o e=>?_,λa o e n t=>?_,S.tab,NV,by rw[hl,al],λj ow e=>?_,o2,res⟩
  .rcases n2 a o e with e|⟨e,_⟩
   .rcases E.new a o e with z|z|⟨j,ov,z,_⟩
    .exact .inl z
    .exact .inr z
    .rw[jG a (Wt.mpr ⟨j,z⟩)] at e;cases e
   .exact .inr e
  .exact E.keep a o e (λ⟨j,ov,z,_⟩↦n (Wt.mpr ⟨j,z⟩)) t
  .let hj:j<↑ad:=by rw[al,<-hl];exact(sG.mp e).1
   let⟨zi,e1,e2,_⟩:=lv j _ (pM hj);rw[e] at e1;cases e1;let⟨a,o,e3,e4,h5⟩:=S.mu j _ e2;rw[E.pre j _ (pM hj)] at e3;cases e3
   exact⟨_,o,pM hj,e4,h5.same s1⟩
 let fresh:∀{i:Nat}{ds:-D}{a:M},¬ i<↑av->aG[i]?=U a->δ.mu[i]?=U (U (.lst ds))->∃vs,H' a=U (.lst vs)/\ah F' ds vs/\a∉ad/\F' a=Z/\H a=Z:=λ{i ds a} c e1 em=>by
  let⟨a',o,e2,e3,vs,rfl,h4⟩:=S.mu i _ em;rw[e1] at e2;cases e2
  let na:a∉ad:=λz=>by
   let⟨j,e⟩:=Wt.mp z;let⟨ow,_,e5,_⟩:=lv j a e;let:i=j:=S.inj i j a _ _ e1 (E.pre j a e) em e5;subst this;exact c (by rw[<-al];calc(sG.mp e).1)
  calc⟨vs,e3,h4,na,S.off a ⟨i,_,e1,em⟩,?_⟩;rcases E.cb a ⟨i,_,e1,em⟩ with⟨j,ov,z,_⟩|z
  .exact absurd (Wt.mpr ⟨j,z⟩) na
  .exact z
 cases x with
 |p d=>exact k _ _ h _ _ _ (base (F2:=F') (λ_ _ e=>e) S.sub (λ_ _ e=>.inl e) jG S.nt V)
 |w _=>exact h.elim
 |t d i =>
  let⟨a,b,u,rfl,e0,e2,e1⟩:=V;let⟨c,h⟩:=h;split at h
  .rename_i ds em
   let⟨vs,e3,h4,na,fa,ha⟩:=fresh ⋯ e1 em;exact k _ _ h _ _ _ (base (F2:=F') (λ_ _ e=>e) S.sub (λ_ _ e=>.inl e) jG S.nt ⟨a,b,u,vs,Y,e0,e2,ha,e3,fa,h4⟩)
  .exact h.elim
 |o i =>
  dsimp only at h;let⟨a,e1,rfl⟩:=V
  by_cases c:i<↑av
  .rw[Wm c] at h
   let ei:ad[i]?=U a:=by
    let:=E.pre i _ (pM (by rw[al];calc c));rw[e1] at this;rw[pM (by rw[al];calc c)];exact this.symm
   exact k _ _ h _ _ _ (base (F2:=F') (λ_ _ e=>e) S.sub (λ_ _ e=>.inl e) jG S.nt ⟨a,ei,Y⟩)
  .rw[Vw c] at h
   split at h
   .rename_i ds em
    let⟨vs,e3,h4,na,fa,ha⟩:=fresh c e1 em;rcases h with h|h
    .exact k _ _ h _ _ _ (base (F2:=F') (λ_ _ e=>e) S.sub (λ_ _ e=>.inl e) jG S.nt ⟨a,vs,Y,ha,e3,fa,h4⟩)
    .refine k _ _ h _ _ _ (base (F2:=upd F' a (.lst vs)) (de fa) (λb o e=>?_) (λb o e=>?_) (λb hb=>?_) (λb hb=>?_) ?_)
     .by_cases z:b=a
      .subst z;rw[b_] at e;cases e;exact e3
      .rw[aZ z] at e;exact S.sub b o e
     .by_cases z:b=a
      .subst z;exact .inr ⟨ha,na⟩
      .rw[aZ z] at e;exact .inl e
     .rw[aZ λz=>na (by subst z;calc hb)];exact jG b hb
     .let⟨ps,q⟩:=aS.tb S.tab hb
      rw[aZ λz=>by subst z;rw[e3] at q;cases q];exact S.nt b hb
     .show Is _ (.lst ds) _
      exact⟨a,vs,Y,b_,h4.same (de fa)⟩
   .calc h.elim
end
theorem fS.NW{P:l}{w:ω}{K:El}{mg:R->Option O}{base:I}{x qual:R}{st:o}{f:M}{fd:FuncData}{N ps:-R}{k:Nat}{G:GD}(F:fS K x qual st f fd)(S:mx N ps (cn st))
  (d_:∀(bc:O)(A:q)(outer:-t)(s:ο)(H:Hp)(E:XK),aY k (A.deeper (envOfC qual (cn st) ⇑s f bc)) →
   ∃B:WS,dM (eK eM P w K mg base N qual (cn st) f bc A outer s H E).jY (fE st) (dZ B)/\∀ys av K',↑ys=↑ps->G ys av K'->B (iQ ↑av K') ⟨ys.map U++Vv (↑N-↑ps) Z,av.map U⟩) :
  bW P w K mg base eM (k+1) f fd ps (mT G ↑ps) :=
 F.u7 S (λvs H Q E h=>h.1) λbc A outer s H vs Q E hr h=>by
  let⟨hl,Fz,ad,ys,av,K',S0,g,kk⟩:=h;let⟨B,jb,hb⟩:=d_ bc A outer s H E hr
  let hy:↑ys=↑ps:=by
   let:=S0.len;rw[pN] at this;rw[<-hl,this];rw[pN]
  refine⟨_,jb,Fz,ad,⟨ys.map U++Vv (↑N-↑ps) Z,av.map U⟩,iQ ↑av K',by rw[<-hl];calc S0.start,hb ys av K' hy g,⟨fun δ' h F' aG σ' H' E' S'=>?_,fun δ' h=>h.elim,fun δ' h=>h.elim,λy δ' h v F' aG σ' H' E' S' V=>?_,trivial⟩⟩
  .exact vF (σ':=σ') S0 E' S' (x:=.p .non) (v:=.non) Y h kk
  .calc vF (σ':=σ') S0 E' S' V h kk
noncomputable def passes(mu:-(Option OV)):-DV->Nat->Option (-DV×-(Nat×OV))
 |[],_=>U ([],[])
 |.p d::xs,j=>match passes mu xs j with
  |some r=>U (.p d::r.1,r.2)
  |none=>Z
 |.o k::xs,j=>match mu[k]? with
  |some (some ov)=>match passes mu xs (j+1) with
   |some r=>U (.o j::r.1,(k,ov)::r.2)
   |none=>Z
  |_=>Z
 |.w a::xs,j=>match passes mu xs j with
  |some r=>U (.w a::r.1,r.2)
  |none=>Z
 |.t _ _::_,_=>Z
noncomputable def cV(mu:-(Option OV)):-(Nat×OV)->-OV->-(Option OV)
 |(k,_)::r,ow::ows=>cV (mu.set k (U ow)) r ows
 |_,_=>mu
noncomputable def jH:-(Nat×OV)->Bool
 |[]=>θ
 |(k,_)::r => !(r.any λe=>e.1==k)&&jH r
def mU(δ:aH)(bH:-(Nat×OV))(K:DV->aH->Prop)(r:RV)(ows:-OV):Prop:=match r with
 |.p d=>K (.p d) ⟨δ.sl,cV δ.mu bH ows⟩
 |.n ds=>K (.p (.lst ds)) ⟨δ.sl,cV δ.mu bH ows⟩
 |.t d ds=>K (.p (.tup [d,.lst ds])) ⟨δ.sl,cV δ.mu bH ows⟩
 |.a j=>match bH[j]? with
  |some ko=>K (.o ko.1) ⟨δ.sl,cV δ.mu bH ows⟩
  |none=>False
def tL(δ:aH)(bH:-(Nat×OV))(K:DV->aH->Prop)(r:RV)(ows:-OV):Prop:=match r with
 |.n ds=>K (.o ↑(cV δ.mu bH ows)) ⟨δ.sl,cV δ.mu bH ows++[U (.lst ds)]⟩
 |_=>False
def ay(n:Nat)(G:GD)(fa:WA):WE:=fun δ K=>fa δ λxs δ1=>match passes δ1.mu xs 0 with
 |some r=>(jH r.2=θ/\↑r.1=n)/\G r.1 (r.2.map (·.2)) (mU δ1 r.2 K)
 |none=>False
def tM(n:Nat)(G:GD)(fa:WA):WE:=fun δ K=>fa δ λxs δ1=>match passes δ1.mu xs 0 with
 |some r=>(jH r.2=θ/\↑r.1=n)/\G r.1 (r.2.map (·.2)) (tL δ1 r.2 K)
 |none=>False
section
variable{F F' H H':Hp}{ad aG:-M}{δ:aH}{σ σ':St}
theorem qU{mu:-(Option OV)}(hm:∀(k:Nat) (ov:OV),mu[k]?=U (U ov)->∃a o,ad[k]?=U a/\H a=U o/\eC F a ov o):∀{xs:-DV}{vs:-V}{j:Nat}{r:-DV×-(Nat×OV)},passes mu xs j=U r->cX F ad xs vs →
  ∃as:-M,↑as=↑r.2/\(∀(i:Nat)(ko:Nat×OV),r.2[i]?=U ko->mu[ko.1]?=U (U ko.2)/\∃a o,as[i]?=U a/\ad[ko.1]?=U a/\H a=U o/\eC F a ko.2 o) ∧
   ∀(pre:-M),pre.length=j->∃_u:Unit,↑vs=↑r.1/\∀(i:Nat)(y:DV),r.1[i]?=U y->∃v,vs[i]?=U v/\dB F (pre++as) y v
 |[],vs,j,r,h,hv=>by
  cases h
  let:vs=[]:=hv;subst this;exact⟨[],Y,λi ko e=>by simp at e,λpre _=>⟨(),Y,λi y e=>by simp at e⟩⟩
 |.p d::xs,_,j,r,h,⟨v,t,e,h1,h2⟩=>by
  subst e;unfold passes at h;split at h
  .rename_i r' hr
   cases h
   let⟨as,l,b,c⟩:=qU hm hr h2;refine⟨as,l,b,λpre hp=>⟨(),?_,λi y e=>?_⟩⟩
   .let⟨_,c1,_⟩:=c pre hp
    rw[Em,Em,c1]
   .let⟨_,_,c2⟩:=c pre hp
    cases i with
    |zero=>cases(show U (DV.p d)=U y by simpa using e);exact⟨v,Y,h1⟩
    |succ i=>simpa using c2 i y e⁻¹
  .cases h
 |.w d::xs,_,j,r,h,⟨v,t,e,h1,h2⟩=>by
  subst e;unfold passes at h;split at h
  .rename_i r' hr
   cases h
   let⟨as,l,b,c⟩:=qU hm hr h2;refine⟨as,l,b,λpre hp=>⟨(),?_,λi y e=>?_⟩⟩
   .let⟨_,c1,_⟩:=c pre hp
    rw[Em,Em,c1]
   .let⟨_,_,c2⟩:=c pre hp
    cases i with
    |zero=>cases(show U (DV.w d)=U y by simpa using e);exact⟨v,Y,h1⟩
    |succ i=>simpa using c2 i y e⁻¹
  .cases h
 |.o k::xs,_,j,r,h,⟨v,t,e,h1,h2⟩=>by
  subst e;unfold passes at h;split at h
  .rename_i ov hk
   split at h
   .rename_i r' hr
    cases h
    let⟨as,l,b,c⟩:=qU hm hr h2;let⟨a,e1,rfl⟩:=h1;let⟨a',o,e2,e3,e4⟩:=hm k ov hk;rw[e1] at e2;cases e2;refine⟨a::as,by rw[Em,Em,l],λi ko e=>?_,λpre hp=>⟨(),?_,λi y e=>?_⟩⟩
    .cases i with
     |zero=>cases(show U (k,ov)=U ko by simpa using e);exact⟨hk,a,o,Y,e1,e3,e4⟩
     |succ i=>simpa using b i ko e⁻¹
    .let⟨_,c1,_⟩:=c (pre++[a]) (by rw[MJ,hp];rfl)
     rw[Em,Em,c1]
    .let⟨_,_,c2⟩:=c (pre++[a]) (by rw[MJ,hp];rfl)
     cases i with
     |zero =>
      cases(show U (DV.o j)=U y by simpa using e)
      calc⟨_,Y,a,?_,Y⟩;rw[Vs ⋯,hp,Xn];rfl
     |succ i =>
      let⟨v',c3,c4⟩:=c2 i y e⁻¹;exact⟨v',by simpa using c3,by rw[Yj] at c4;calc c4⟩
   .cases h
  .cases h
theorem zj:∀{bH:-(Nat×OV)},jH bH=θ->∀(i j:Nat)(k:Nat)(a b:OV),bH[i]?=U (k,a)->bH[j]?=U (k,b)->i=j
 |[],_,i,j,k,a,b,e,_=>by simp at e
 |(k',ov)::r,h,i,j,k,a,b,e1,e2=>by
  unfold jH at h;erw[WZ,ZD] at h
  let no:∀(m:Nat)(c:OV),r[m]?=U (k',c)->False:=λm c e=>by
   let:=Yh.mp h.1 _ (Wt.mpr ⟨m,e⟩);exact this (by simp)
  cases i with
  |zero =>
   cases(show U (k',ov)=U (k,a) by simpa using e1)
   cases j with
   |zero=>rfl
   |succ j=>exact(no j b e2⁻¹).elim
  |succ i =>
   cases j with
   |zero=>cases(show U (k',ov)=U (k,b) by simpa using e2);exact(no i a e1⁻¹).elim
   |succ j=>rw[zj h.2 i j k a b e1⁻¹ e2⁻¹]
theorem zk:∀(bH:-(Nat×OV))(ows:-OV)(mu:-(Option OV)),↑(cV mu bH ows)=↑mu
 |(k,_)::r,ow::ows,mu=>by rw[cV,zk r ows,Xq]
 |[],_,_=>Y
 |_::_,[],_=>Y
theorem tN:∀(bH:-(Nat×OV))(ows:-OV)(mu:-(Option OV))(l:Nat),(∀ko∈bH,ko.1≠l)->(cV mu bH ows)[l]?=mu[l]?
 |(k,_)::r,ow::ows,mu,l,h=>by
  rw[cV,tN r ows _ l λko hk=>h ko (Vu _ hk),Xh (h _ Wo)]
 |[],_,_,_,_=>Y
 |_::_,[],_,_,_=>Y
theorem zm:∀{bH:-(Nat×OV)}{ows:-OV}{mu:-(Option OV)}{i:Nat}{ko:Nat×OV}{ow:OV},jH bH=θ->bH[i]?=U ko->ows[i]?=U ow->ko.1<↑mu->(cV mu bH ows)[ko.1]?=U (U ow)
 |(k,ov)::r,zi::ows,mu,0,ko,ow,h,e1,e2,hl=>by
  cases(show U (k,ov)=U ko by simpa using e1)
  cases(show U zi=U ow by simpa using e2)
  unfold jH at h;erw[WZ,ZD] at h;rw[cV,tN r ows _ k λko hk z=>absurd z⁻¹ (Yh.mp h.1 ko hk),Xm hl]
 |(k,ov)::r,zi::ows,mu,i+1,ko,ow,h,e1,e2,hl=>by
  unfold jH at h;erw[WZ,ZD] at h;rw[cV];exact zm h.2 e1⁻¹ e2⁻¹ (by rw[Xq];calc hl)
 |[],_,_,i,_,_,_,e1,_,_=>by simp at e1
 |_::_,[],_,i,_,_,_,_,e2,_=>by simp at e2
theorem Fe{xs:-DV}{vs:-V}{r:-DV×-(Nat×OV)}{G:GD}{n:Nat}{Q:VK}{E:XK}{K:RV->-OV->Prop}(S:SR F ad δ σ H)(V:cX F ad xs vs)(hn:↑vs=n)(hp:passes δ.mu xs 0=U r)(nd:jH r.2=θ)(g:G r.1 (r.2.map (·.2)) K)
  (fin:∀res ows v F' H',K res ows->Ext F ad δ.mu H F' ad (cV δ.mu r.2 ows) H'->SR F' ad ⟨δ.sl,cV δ.mu r.2 ows⟩ σ H'->(match res with
   |.p d=>Is F' d v
   |.n ds=>∃a vs,v=.ref a/\H a=Z/\H' a=U (.lst vs)/\F' a=Z/\ah F' ds vs
   |.a j=>∃ko a,r.2[j]?=U ko/\ad[ko.1]?=U a/\v=.ref a
   |.t d ds=>pY F' H H' d ds v)->Q v H'):mT G n vs H Q E:=by
 let⟨as,al,b,c⟩:=qU S.mu hp V;let⟨_,c1,c2⟩:=c [] Y
 let ji:∀(i:Nat)(a:M),as[i]?=U a->Lv ad δ.mu a/\∃ko,r.2[i]?=U ko/\ad[ko.1]?=U a/\δ.mu[ko.1]?=U (U ko.2):=λi a e=>by
  let hi:i<↑r.2:=by rw[<-al];exact(sG.mp e).1
  let⟨m1,a',o,e1,e2,_,_⟩:=b i _ (pM hi);rw[e] at e1;cases e1;exact⟨⟨_,_,e2,m1⟩,_,pM hi,e2,m1⟩
 refine⟨hn,F,as,r.1,r.2.map (·.2),K,⟨S.sub,λa ⟨i,ov,e1,e2⟩↦S.off a (ji i a e1).1,by rw[al];rw[pN,pN],λi j a ov ow e1 e2 _ _=>?_,λi ov e=>?_,λi y e=>?_,?_,S.tab,S.nt⟩,g,λres ows hk v F' H' P=>?_⟩
 .let⟨_,ko,k1,k2,k3⟩:=ji i a e1
  let⟨_,kp,p1,p2,p3⟩:=ji j a e2;let:ko.1=kp.1:=S.inj _ _ a _ _ k2 p2 k3 p3;exact zj nd i j ko.1 ko.2 kp.2 k1 (by rw[this];calc p1)
 .let e:=tJ e
  rw[My] at e;let⟨ko,e1,rfl⟩:=Ws.mp e;let⟨_,a,o,e2,_,e4,e5⟩:=b i ko e1;exact⟨a,o,e2,e4,e5⟩
 .let⟨v,e1,e2⟩:=c2 i y (tJ e)
  exact⟨v,tK e1,by simpa using e2⟩
 .show ↑(vs.map U)=↑(r.1.map U)
  rw[pN,pN,c1]
 .let ol:↑ows=↑r.2:=by rw[P.len,al]
  let ju:∀(l:Nat)(ow:OV),(cV δ.mu r.2 ows)[l]?=U (U ow)->(∃(i:Nat)(ko:Nat×OV),r.2[i]?=U ko/\ko.1=l/\ows[i]?=U ow)\/((∀ko∈r.2,ko.1≠l)/\δ.mu[l]?=U (U ow)):=λl ow e=>by
   by_cases z:∃ko∈r.2,ko.1=l
   .let⟨ko,hk,rfl⟩:=z
    let⟨i,hi⟩:=Wt.mp hk;let lP:i<↑ows:=by rw[ol];exact(sG.mp hi).1
    let:=zm (mu:=δ.mu) nd hi (pM lP) (sG.mp (b i ko hi).1).1;rw[e] at this;cases this
    exact .inl ⟨i,ko,hi,Y,pM lP⟩
   .let z':∀ko∈r.2,ko.1≠l:=λko hk q=>z ⟨ko,hk,q⟩
    rw[tN _ _ _ _ z'] at e;exact .inr ⟨z',e⟩
  let mV:∀(l:Nat)(ow:OV)(a:M),ad[l]?=U a->(cV δ.mu r.2 ows)[l]?=U (U ow)->Lv ad δ.mu a:=λl ow a e1 e2=>by
   rcases ju l ow e2 with⟨i,ko,hi,rfl,_⟩|⟨_,q⟩
   .exact⟨_,_,e1,(b i ko hi).1⟩
   .exact⟨_,_,e1,q⟩
  let tO:∀a,a∈as->Lv ad δ.mu a:=λa ha=>by
   let⟨i,e⟩:=Wt.mp ha;exact(ji i a e).1
  let ex:Ext F ad δ.mu H F' ad (cV δ.mu r.2 ows) H':=by
   refine⟨P.same,λa o e=>?_,λa o e n t=>P.keep a o e (λz=>n (tO a z)) t,λ_ _ e=>e,λa ⟨l,ow,e1,e2⟩↦.inl (mV l ow a e1 e2),λa o e=>?_⟩
   .rcases P.new a o e with z|z
    .exact .inl z
    .exact .inr (.inl z)
   .by_cases z:a∈as
    .let⟨i,e1⟩:=Wt.mp z
     let hi:i<↑ows:=by rw[P.len];exact(sG.mp e1).1
     let⟨a',o',e2,e3,_⟩:=P.own i _ (pM hi);rw[e1] at e2;cases e2;exact⟨o',e3⟩
    .by_cases t:a∈aS.ad
     .let⟨ps,q⟩:=aS.tb P.tab t
      exact⟨_,q⟩
     .exact⟨o,P.keep a o e z t⟩
  let pZ:∀a,Lv ad δ.mu a->F' a=Z:=λa l=>by
   by_cases z:a∈as
   .exact P.off a z
   .cases q:F' a with
    |none=>rfl
    |some u =>
     rcases P.new a u q with y|y
     .rw[S.off a l] at y;cases y
     .let⟨k,ov,e1,e2⟩:=l
      let⟨a',o,e3,e4,_⟩:=S.mu k ov e2;rw[e1] at e3;cases e3;rw[y] at e4;cases e4
  let sr:SR F' ad ⟨δ.sl,cV δ.mu r.2 ows⟩ σ H':=by
   refine⟨P.sub,λa ⟨l,ow,e1,e2⟩↦pZ a (mV l ow a e1 e2),by rw[S.cf];calc(zk _ _ _).symm,λk l a ov ow e1 e2 e3 e4=>?_,λl ow e=>?_,λi y e=>?_,S.len,P.tab,P.nt⟩
   .let h3:∃w,δ.mu[k]?=U (U w):=by
     rcases ju k ov e3 with⟨i,ko,hi,rfl,_⟩|⟨_,q⟩
     .exact⟨_,(b i ko hi).1⟩
     .exact⟨_,q⟩
    let h4:∃w,δ.mu[l]?=U (U w):=by
     rcases ju l ow e4 with⟨i,ko,hi,rfl,_⟩|⟨_,q⟩
     .exact⟨_,(b i ko hi).1⟩
     .exact⟨_,q⟩
    let⟨_,h3⟩:=h3;let⟨_,h4⟩:=h4;exact S.inj k l a _ _ e1 e2 h3 h4
   .rcases ju l ow e with⟨i,ko,hi,rfl,ho⟩|⟨z,q⟩
    .let⟨_,a,o,e1,e2,_,_⟩:=b i ko hi
     let⟨a',o',e3,e4,h5⟩:=P.own i ow ho;rw[e1] at e3;cases e3;exact⟨a,o',e2,e4,h5⟩
    .let⟨a,o,e1,e2,h⟩:=S.mu l ow q
     refine⟨a,o,e1,P.keep a o e2 (λy=>?_) (λt=>?_),h.same P.same⟩
     .let⟨i,e3⟩:=Wt.mp y
      let⟨_,ko,k1,k2,k3⟩:=ji i a e3;exact z ko (Wt.mpr ⟨i,k1⟩) (S.inj _ _ a _ _ k2 e1 k3 q)
     .let⟨ps,q2⟩:=aS.tb S.tab t
      rw[e2] at q2;cases q2
      exact h.kind ps Y
   .let⟨v,e1,h⟩:=S.sl i y e
    exact⟨v,e1,h.ext ex⟩
  calc fin res ows v F' H' hk ex sr ?_;let h8:=P.res
  cases res with
  |p d=>exact h8
  |n ds=>exact h8
  |t d ds=>exact h8
  |a j =>
   let⟨a,e1,e2⟩:=h8;let⟨_,ko,k1,k2,_⟩:=ji j a e1;calc⟨ko,a,k1,k2,e2⟩
end
section
variable{X:Cx}{fa:WA}{G:GD}{pos:y}
theorem zo{F1 F2 H1 H2:Hp}{aV:-M}{δ1:aH}{σ:St}{xs:-DV}{vs:-V}{r:-DV×-(Nat×OV)}{ows:-OV}{a:M}(S1:SR F1 aV δ1 σ H1)(V1:cX F1 aV xs vs)(hp:passes δ1.mu xs 0=U r)(n1:H1 a=Z):¬ Lv aV (cV δ1.mu r.2 ows) a:=λ⟨k,ov,e1,e2⟩↦by
 let c:∃ov,δ1.mu[k]?=U (U ov):=by
  by_cases y:∃ko∈r.2,ko.1=k
  .let⟨ko,j9,rfl⟩:=y
   let⟨as,_,b,_⟩:=qU S1.mu hp V1;let⟨i,hi⟩:=Wt.mp j9;exact⟨_,(b i ko hi).1⟩
  .rw[tN _ _ _ _ λko j9 q=>y ⟨ko,j9,q⟩] at e2
   exact⟨_,e2⟩
 let⟨NX,c⟩:=c;let⟨a',o,e3,e4,_⟩:=S1.mu k NX c;rw[e1] at e3;cases e3;rw[n1] at e4;cases e4
theorem cX.length{F:Hp}{ad:-M}:∀{xs:-DV}{vs:-V},cX F ad xs vs->↑vs=↑xs
 |[],vs,h=>by let h:vs=[]:=h;rw[h];rfl
 |x::xs,vs,⟨v,r,e,_,h2⟩=>by rw[e,Em,Em,cX.length h2]
theorem qV{mu:-(Option OV)}:∀{xs:-DV}{j:Nat}{r:-DV×-(Nat×OV)},passes mu xs j=U r->↑r.1=↑xs
 |[],j,r,h=>by cases h;rfl
 |.p d::xs,j,r,h=>by
  unfold passes at h;split at h
  .rename_i r' hr;cases h;rw[Em,Em,qV hr]
  .cases h
 |.w d::xs,j,r,h=>by
  unfold passes at h;split at h
  .rename_i r' hr;cases h;rw[Em,Em,qV hr]
  .cases h
 |.o k::xs,j,r,h=>by
  unfold passes at h;split at h
  .split at h
   .rename_i r' hr;cases h;rw[Em,Em,qV hr]
   .cases h
  .cases h
section
variable{k:Nat}{f:M}{fd:FuncData}{ps:-R}{x:R}{p:y}{e:J}{es:-J}{n:Nat}
theorem NY{E:XK}{F F1 H H1:Hp}{ad aV:-M}{δ δ1:aH}{σ:St}{K:DV->aH->Prop}{Q:VK}{xs:-DV}{vs:-V}(kk:∀x δ',K x δ'->∀v F' aG H',Ext F ad δ.mu H F' aG δ'.mu H'->SR F' aG δ' σ H'->dB F' aG x v->Q v H')(h1:match passes δ1.mu xs 0 with
 |some r=>(jH r.2=θ/\↑r.1=n)/\G r.1 (r.2.map (·.2)) (mU δ1 r.2 K)
 |none=>False)(E1:Ext F ad δ.mu H F1 aV δ1.mu H1)(S1:SR F1 aV δ1 σ H1)(V1:cX F1 aV xs vs):mT G n (vs++[]) H1 Q E:=by
 split at h1
 .rename_i r hp
  let⟨⟨nd,hn⟩,h1⟩:=h1;rw[mE];calc Fe S1 V1 (by rw[↑V1,<-qV hp,hn]) hp nd h1 λres ows v F2 H2 hk E2 S2 fH=>?_;unfold mU at hk
  cases res with
  |p d=>exact kk _ _ hk _ _ _ _ (E1.trans E2) S2 fH
  |n ds =>
   let⟨a,us,rfl,n1,n2,n3,n4⟩:=fH;calc kk _ _ hk _ _ _ _ (E1.trans (E2.adopt (o:=.lst us) n1 n3)) (S2.adopt n3 n2 (zo (F2:=F2) (H2:=H2) S1 V1 hp n1)) ?_;show Is _ (.lst ds) _;exact⟨a,us,Y,b_,n4.same (de n3)⟩
  |t d ds =>
   let⟨a,b,u,us,rfl,m1,m2,n1,n2,n3,n4⟩:=fH;calc kk _ _ hk _ _ _ _ (E1.trans (E2.adopt (o:=.lst us) n1 n3)) (S2.adopt n3 n2 (zo (F2:=F2) (H2:=H2) S1 V1 hp n1)) ?_;show Is _ (.tup [d,.lst ds]) _;let sm:aL F2 (upd F2 b (.lst us)):=de n3;exact⟨a,_,Y,sm _ _ m1,u,_,Y,m2.same sm,.ref b,_,Y,⟨b,us,Y,b_,n4.same sm⟩,Y⟩
  |a j =>
   let⟨ko,a,h1,h2,h3⟩:=fH;dsimp only at hk;rw[h1] at hk;exact kk _ _ hk _ _ _ _ (E1.trans E2) S2 ⟨a,h2,h3⟩
 .calc h1.elim
theorem NZ{E:XK}:∀σ H Q,tD (ay n G fa) σ H Q->x5 (mT G n) [] E (b8 fa) σ H Q:=fun σ H Q ⟨F,ad,δ,K,S,q,kk⟩ ↦
 ⟨F,ad,δ,_,S,q,λxs δ1 h1 vs F1 aV H1 E1 S1 V1=>NY kk h1 E1 S1 V1⟩
theorem N0{E:XK}:∀σ H Q,tD (tM n G fa) σ H Q->x5 (mT G n) [] E (b8 fa) σ H Q:=fun σ H Q ⟨F,ad,δ,K,S,q,kk⟩=>by
 calc⟨F,ad,δ,_,S,q,λxs δ1 h1 vs F1 aV H1 E1 S1 V1=>?_⟩;split at h1
 .rename_i r hp
  let⟨⟨nd,hn⟩,h1⟩:=h1;rw[mE];refine Fe S1 V1 (by rw[↑V1,<-qV hp,hn]) hp nd h1 λres ows v F2 H2 hk E2 S2 fH=>?_
  cases res with
  |p d=>exact hk.elim
  |n ds =>
   let⟨a,us,rfl,n1,n2,n3,n4⟩:=fH;let oi:∀{ax},eC F2 ax (.lst ds) (.lst us):=λ{ax}=>⟨us,Y,n4⟩;calc kk _ _ hk _ _ _ _ (E1.trans (E2.cM (ov:=.lst ds) n1 S2.cf)) (S2.cM n3 n2 (zo (F2:=F2) (H2:=H2) S1 V1 hp n1) oi) ⟨a,?_,Y⟩;let:↑aV=↑(cV δ1.mu r.2 ows):=S2.cf;rw[<-this,Vs (Ek _),Xn];rfl
  |a j=>exact hk.elim
  |t d ds=>exact hk.elim
 .calc h1.elim
theorem N3(Fn:bW X.prog X.w X.K X.mg X.base eM k f fd ps (mT G n))(hr:aY k X.A)(hg:Gl X x)(hm:X.mg x=U (.ref f))(hk:Xy X.K (.ref f)=θ)(hb:Binds X.K fd ps [])
  (ha:JA X (e::es) (b8 fa)) (dP: ~~~(bV x)) (he:‹cj X e es›) (cR:‹cD X pos es›) :
  JE X (.Call (.Name x p) (e::es) [] pos) (tD (ay n G fa)):=(uX Fn hr hg hm hk hb .nil pP ha dP he cR).weak NZ
theorem N4(Fn:bW X.prog X.w X.K X.mg X.base eM k f fd ps (mT G n))(hr:aY k X.A)(hg:Gl X x)(hm:X.mg x=U (.ref f))(hk:Xy X.K (.ref f)=θ)(hb:Binds X.K fd ps [])
  (ha:JA X (e::es) (b8 fa)) (dP: ~~~(bV x)) (he:‹cj X e es›) (cR:‹cD X pos es›) :
  JE X (.Call (.Name x p) (e::es) [] pos) (tD (tM n G fa)):=(uX Fn hr hg hm hk hb .nil pP ha dP he cR).weak N0
end
end
end L2
namespace PySem
open Sem (wp)
open AutoSeq1 (wpAny_loadPart')
theorem N5(l:M)(items:Array O)(n:Nat)(dct:Option M)(sl:Array (Option O)):
  Meets (Builtin.«enumerate.__new__» ⟨[.type "enumerate",.ref l],[]⟩) (λ_ R s=>s.heap.get? l=U {cls:=.type "tuple",dict:=dct,data:=.seq items n,slots:=sl} ∧
   R (.ok (.ret (.ref (s.heap.push {cls:=.type "tuple_iterator",data:=.fields #[.ref l,.int 0 0]}).objs.size)))
    {s with heap:=(s.heap.push {cls:=.type "tuple_iterator",data:=.fields #[.ref l,.int 0 0]}).push {cls:=.type "enumerate",data:=.fields #[.none,.bool ι,.ref ⇑s,rawInt 0,.none,.none]}}) :=
 .of_wp λprog w A R s h=>by
  let⟨hp,g,d,tk,os⟩:=s;let⟨hl,h⟩:=h;let zp:=sub_enumerate;let hL:Heap.IsTuple (q2y ⟨hp,g,d,tk,os⟩) l items:=⟨_,hl,Y,n,Y⟩
  wp_walk using XQ hl
  calc wpAny_stack_any λst=>MK ?_;split
  .rename_i c _ _ _ _ _
   cases(c==Z3 "enumerate")
   .wp_walk using XQ hl,YR hL
    exact⟨_,Y,h⟩
   .wp_walk using XQ hl,YR hL
    exact⟨_,Y,h⟩
  .wp_walk using XQ hl,YR hL
   calc⟨_,Y,h⟩
section
variable{prog:l}{w:g}{A:q}{E:bg}{s:B}
theorem N6{l:M}{items:Array O}{Q:bg}(hL:s.heap.IsTuple l items)
  (h:∀h',IsEnum h' (⇑s+1) ⇑s 0 .none->h'.IsTupleIter ⇑s l 0->h'.objs.size=⇑s+2 →
   (∀b o,s.heap.get? b=U o->h'.get? b=U o)->Q (.ref (⇑s+1)) {s with heap:=h'}) :
  L (G prog w) A (call (.type "enumerate") [.ref l]) Q E s:=by
 let⟨⟨c,dct,dt,sl⟩,hl,hc,n,hd⟩:=hL;subst hc hd
 refine callType_new F.called_enumerate (by decide) (F.typeCall_enumerate_1 _) (F.newCall_enumerate_1 _) (λobj=>F.args_object_init_2 obj _) F.entry_enumerate_new
  (N5 l items n dct sl) ⟨hl,?_⟩
 let hz:(s.heap.push {cls:=.type "tuple_iterator",data:=.fields #[.ref l,.int 0 0]}).objs.size=⇑s+1:=Xo ..;rw[hz]
 let he:IsEnum ((s.heap.push {cls:=.type "tuple_iterator",data:=.fields #[.ref l,.int 0 0]}).push
   {cls:=.type "enumerate",data:=.fields #[.none,.bool ι,.ref ⇑s,rawInt 0,.none,.none]}) (⇑s+1) ⇑s 0 .none:=by
  let:=Vt (s.heap.push {cls:=.type "tuple_iterator",data:=.fields #[.ref l,.int 0 0]})
   (o:={cls:=.type "enumerate",data:=.fields #[.none,.bool ι,.ref ⇑s,rawInt 0,.none,.none]}) Y
  rw[hz] at this;exact this
 calc⟨⟨_,he,Y⟩,h _ he ⟨_,u6 _ (Vt _ Y),Y,Y⟩ (by rw[Xo,hz]) λb o x=>u6 _ (u6 _ x)⟩
theorem N7{it l:M}{i:Nat}{items:Array O}{x:O}{Q:bg}(hit:s.heap.IsTupleIter it l i)(hl:s.heap.IsTuple l items)(hx:items[i]?=U x)
  (hQ:∀h',h'.IsTupleIter it l (i+1)->Za it s.heap h'->Q x {s with heap:=h'}):L (G prog w) A (XB (.ref it)) Q E s:=by
 let⟨o,ho,hc,hd⟩:=id hit;let⟨ol,zq,_,nl,zr⟩:=hl;let nn:¬ ((W5 l==WN)=θ):=WQ;calc qL (XW (name:=XA "__next__") hit.typeIs Yr (Yq Yr hit.typeIs ZZ ?_ (ZT _)));show L _ _ (field (.ref it) 0 >>= _) _ _ s;calc qL (XG ho hd (x:=.ref l) Y ?_);calc qL (XG ho hd (x:=.int i 0) Y ?_);calc qL (Ye zq zr ?_);erw[Ww,hx];calc qL (q2Z ho hd (by simp) (MK ⟨x,Y,MK (hQ _ ⟨_,Y0 _ ho (Obj.isFreed_of_fields (q1F hd _)),(Obj.cls_mapFields ..).trans hc,?_⟩ (W_ ..))⟩));rw[q1F hd];simp[rawInt]
theorem N8{it l:M}{i:Nat}{items:Array O}{Q:bg}(hh:A.handled=Z)(hit:s.heap.IsTupleIter it l i)(hl:s.heap.IsTuple l items)(hx:items[i]?=Z)
  (hE:∀h' e,Heap.ExtBut it s.heap h'->(∃o,h'.get? e=U o/\o.cls=.type "StopIteration")->E (.ref e) {s with heap:=h'}):L (G prog w) A (XB (.ref it)) Q E s:=by
 let⟨o,ho,hc,hd⟩:=id hit;let⟨ol,zq,_,nl,zr⟩:=hl;let nn:¬ ((W5 l==WN)=θ):=WQ;calc qL (XW (name:=XA "__next__") hit.typeIs Yr (Yq Yr hit.typeIs ZZ ?_ (ZT _)));show L _ _ (field (.ref it) 0 >>= _) _ _ s;calc qL (XG ho hd (x:=.ref l) Y ?_);calc qL (XG ho hd (x:=.int i 0) Y ?_);calc qL (Ye zq zr ?_);erw[Ww,hx];calc qL (q0L (qL (q2Z ho hd (by simp) ?_)));calc qL ?_;calc qL (m:=firstArgMember _ _) (wpAny_of_eq (a:=WN) (by first|rfl|(erw[firstArgMember];rfl)) (Yi ?_ (by size_fits)));refine qL (wpAny_handled ?_)
 first|rw[show A.in1.handled=Z from hh]|rw[hh]
 calc qL (MK (wpAny_throw (hE _ _ (((W_ ..).extBut.push _).push _) ⟨_,Vt _ Y,Y⟩)))
theorem zt(hh:A.handled=Z)(it l:M)(g6:l≠it)(items:Array O):Draws prog w A it [it,l] items.size (λi v=>items[i]?=U v) (λi h=>h.IsTupleIter it l i/\h.IsTuple l items) where
 live:=λ_ _ st=>let⟨o,ho,_⟩:=st.1;⟨o,ho⟩
 frame:=λ_ _ _ st hk=>⟨st.1.at λo e=>hk it (by simp) o e,st.2.at λo e=>hk l (by simp) o e⟩
 item:=λi s Q E hi st hQ=>N7 st.1 st.2 (x:=items[i]) (by simp[hi]) λh' zu vh=>hQ _ h' s.toks (by simp[hi]) ⟨zu,st.2.extBut vh.extBut g6⟩ vh
 done:=λs Q E st hE=>N8 hh st.1 st.2 (by simp) hE
end
end PySem
namespace L2
open PySem PySem.Spec PyProof.Rows
noncomputable def tP(K:El)(a:M):It :=
 ⟨λi H=>∃xs x,bO K H a xs/\xs[i]?=U x,λi H x H'=>∃T v,x=.ref T/\H T=Z/\H'=upd H T (.tup [.int (i:Nat),v])/\∀xs,bO K H a xs->xs[i]?=U v,λi H=>∃xs,bO K H a xs/\↑xs=i⟩
theorem N9{P:l}{w:g}{K:El}{elts:-J}{x1}{tp:Ε}(a e it:M)(g6:e≠it)(N_:a≠e)(Ff:a≠it):
  Turn P w K (.Tuple elts x1 tp) (tP K a) [e,it] e (λi h=>(∃old,IsEnum h e it (i:Nat) old)/\h.IsTupleIter it a i) where
 mem:=by simp
 obj:=λi h st b hb=>by
  let⟨⟨old,he⟩,o,hi,hc,hd⟩:=st;rcases MN.mp hb with rfl|hb
  .exact⟨_,he,λv z=>by cases z⟩
  .let z:b=it:=by simpa using hb
   subst z;exact⟨o,hi,λv z=>by rw[hd] at z;cases z⟩
 keep:=λi h h' st k=>by
  let⟨⟨old,he⟩,hi⟩:=st;exact⟨⟨old,k e (by simp) _ he⟩,hi.at λo q=>k it (by simp) o q⟩
 item:=by
  ext X hP hw hK hc i pins s σ H E I hf st hg;subst hP hw hK;let⟨⟨old,he⟩,hi⟩:=st;let⟨xs,x,hq,hx⟩:=hg;let⟨au,rv,p,hz⟩:=I.tuple hq;let⟨u,hu,ru⟩:=rv.get hx;let D:=zt (prog:=X.prog) (w:=X.w) (A:=X.A.in1) (by rw[Yc];calc I.ok.hd hc) it a Ff au.toArray;let lP:i<au.toArray.size:=by rw[yA];exact(sG.mp hu).1
  refine wpAny_pyNext_enum_itemD D he ⟨hi,p⟩ lP g6 (by simp[g6,YN N_]) λy h1 tk py lL sR sS hsz hk=>⟨_,Y,?_⟩
  let ey:y=u:=by
   rw[Y1,hu] at py;cases py;rfl
  subst ey;calc q0a lL λh2 vb d6=>?_;let hT:⇑s≠e:=Yo (MM he);let l6:h2.get? ⇑s=U {cls:=.type "tuple",data:=.seq #[.int i tk,y]}:=(d6.2 _ hT).trans sS
  let k2:∀b o,b∉[e,it]->s.heap.get? b=U o->h2.get? b=U o:=λb o hb q=>by
   let mF:b≠e:=λz=>hb (by simp[z]);let gG:b≠it:=λz=>hb (by simp[z]);exact(d6.2 _ mF).trans (hk b o mF gG q)
  let hn:H ⇑s=Z:=I.aX.fresh (Ek _);refine⟨.ref ⇑s,upd H ⇑s (.tup [.int i,x]),I.fF (ch:=[e,it]) (t':=tk+1) hf k2 (Ek _) ?_,Y,⟨_,x,Y,hn,Y,λys hy=>by rw[I.eJ hy hq];calc hx⟩,⟨⟨y,?_⟩,?_⟩,λb hb=>?_⟩
  .exact⟨by show 2<=sizeLine;decide,[.int i tk,y],.cons ⟨_,Y⟩ (.cons ru .nil),_,l6,Y,_,Y⟩
  .let e3:((i:Int)+1)=(((i+1:Nat)):Int):=by symm
   exact vb
  .exact sR.1.at λo q=>(d6.2 _ (YN g6)).trans q
  .let:b<⇑s:=by
    let⟨o,q,_⟩:=hi;rcases MN.mp hb with rfl|hb
    .exact MM he
    .let z:b=it:=by simpa using hb
     subst z;exact MM q
   rw[aZ (Wv this)];exact(hf b hb).1
 done:=by
  ext X hP hw hK hc i pins s σ H E I hf st hg;subst hP hw hK;let⟨⟨old,he⟩,hi⟩:=st;let⟨xs,hq,hx⟩:=hg;let⟨au,rv,p,hz⟩:=I.tuple hq;let D:=zt (prog:=X.prog) (w:=X.w) (A:=X.A.in1) (by rw[Yc];calc I.ok.hd hc) it a Ff au.toArray;let lP:au.toArray.size=i:=by rw[yA,<-↑rv];exact hx
  calc wpAny_pyNext_enum_endD D he (by rw[lP];calc⟨hi,p⟩) λh1 eb=>⟨Y,?_⟩;let⟨f0,f1,f2,f3,f4,f5⟩:=hf it (by simp);exact I.turned (t':=s.toks) (λb o hb q=>eb b o hb q) f0 f1 f3 f4 f5
 self:=λA i s Q E st h=>by
  let⟨⟨old,he⟩,hi⟩:=st;calc Yk he h
section
variable{X:Cx}{elts:-J}{x1:Nat}{tp:y}{tg:J}
def Oa(K:El)(ta:TA):TI:=fun σ H R=>ta σ H λvs H1=>∃a,vs=[.ref a]/\(((∃xs,bE K H1 a xs)/\R (qP K a) H1)\/((∃xs,bO K H1 a xs)/\R (tP K a) H1))
theorem Ob{a:J}{ta:TA}{p pos:y}(hg:Gl X "enumerate")(hm:X.mg "enumerate" = Z)(ha:JA X [a] ta)(hs:‹starEach [a] X.env=[(ι,eval a X.env)]›):
  JI X (.Tuple elts x1 tp) (.Call (.Name "enumerate" p) [a] [] pos) (Oa X.K ta):=by
 calc⟨?_⟩;ext pins s σ H R I h;calc Call_ (mf I hg hm EA (Xv (br (ha pos pins s σ H _ I h) λus s1 ⟨vs,H1,I1,r1,q1⟩=>?_) hs Y));let⟨l,e,q⟩:=q1;subst e;let⟨u,rfl,rx⟩:=vals1 r1;cases rx
 let fp:∀b∈[⇑s1+1,⇑s1],bD X pins H1 b:=λb hb=>by
  let hb':⇑s1<=b:=by
   rcases MN.mp hb with rfl|hb
   .exact ZR _
   .let z:b=⇑s1:=by simpa using hb
    rw[z];exact Ek _
  exact I1.gE hb' (I1.aX.fresh hb')
 rcases q with⟨⟨xs,hq⟩,q⟩|⟨⟨xs,hq⟩,q⟩
 .let⟨au,rv,p,hz⟩:=I1.list hq
  calc q1d p.isList λh' he hi hsz hk=>?_;let I2:Inv X pins σ H1 {s1 with heap:=h'}:=I1.kept (t':=s1.toks) hk;calc Yk he ?_;exact⟨_,_,_,_,H1,Y,I2,Ez l (⇑s1+1) ⇑s1 (q0v _),⟨⟨_,he⟩,hi⟩,fp,q⟩
 .let⟨au,rv,p,hz⟩:=I1.tuple hq
  let Fg:l<⇑s1:=by let⟨o,e,_⟩:=p;exact MM e
  calc N6 p λh' he hi hsz hk=>?_;let I2:Inv X pins σ H1 {s1 with heap:=h'}:=I1.kept (t':=s1.toks) hk;calc Yk he ?_;calc⟨_,_,_,_,H1,Y,I2,N9 l (⇑s1+1) ⇑s1 (q0v _) (Wv (XD Fg)) (Wv Fg),⟨⟨_,he⟩,hi⟩,fp,q⟩
def zv(K:El)(tl:TE):TI:=fun σ H R=>tl σ H λx H1=>∃a,x=.ref a/\(((∃xs,bE K H1 a xs)/\R (DI K a) H1)\/((∃xs,bO K H1 a xs)/\R (DJ K a) H1))
theorem Oc{l:J}{tl:TE}(hl:JE X l tl):JI X tg l (zv X.K tl):=by
 calc⟨?_⟩;ext pins s σ H R I h;calc br (hl pins s σ H _ I h) ?_;ext v s1 ⟨x,H1,I1,r1,q1⟩;let⟨a,e,q⟩:=q1;subst e;cases r1
 let fp:∀b∈[⇑s1],bD X pins H1 b:=λb hb=>by
  let e:b=⇑s1:=by simpa using hb
  subst e;exact I1.gE (Ek _) (I1.aX.fresh (Ek _))
 rcases q with⟨⟨xs,hq⟩,q⟩|⟨⟨xs,hq⟩,q⟩
 .let⟨au,rv,p,hz⟩:=I1.list hq
  exact Yx p.isList ⟨⇑s1,[⇑s1],_,_,H1,Y,I1.kept (t':=s1.toks) λb o e=>u6 _ e,K6 a _,⟨_,Vt _ Y,Y,Y⟩,fp,q⟩
 .let⟨au,rv,p,hz⟩:=I1.tuple hq
  calc YR (show s1.heap.IsTuple a au.toArray from p) ⟨⇑s1,[⇑s1],_,_,H1,Y,I1.kept (t':=s1.toks) λb o e=>u6 _ e,K7 a _,⟨_,Vt _ Y,Y,Y⟩,fp,q⟩
end
variable[aS]
noncomputable def cG(lo:Int)(n:Nat):-D:=(WL n).map λi:Nat=>D.int (lo+i)
noncomputable def lQ:Nat->-D->-D
 |_,[]=>[]
 |i,d::r=>.tup [.int i,d]::lQ (i+1) r
noncomputable def cN:-D->-D->-D
 |a::r,b::s=>.tup [a,b]::cN r s
 |_,_=>[]
def mW(x:DV)(δ:aH)(K:mP->Prop):Prop:=match x with
 |.p (.lst ds)=>K ⟨ds,λ_=>True⟩
 |.p (.tup ds)=>K ⟨ds,λ_=>True⟩
 |.o k=>match δ.mu[k]? with
  |some (some (.lst ds))=>K ⟨ds,fun δ'=>δ'.mu[k]?=U (U (.lst ds))⟩
  |_=>False
 |_=>False
def bQ(f:WE):WI:=fun δ K=>f δ λx δ1=>mW x δ1 λit=>K it δ1
def kP(fa:WA):WI:=fun δ K=>fa δ λxs δ1=>match xs with
 |[.p (.int j)]=>(-(2 ^ 62)<=j/\j<2 ^ 62)/\K ⟨cG 0 j.toNat,λ_=>True⟩ δ1
 |_=>False
def zw(fa:WA):WI:=fun δ K=>fa δ λxs δ1=>match xs with
 |[.p (.int i),.p (.int j)]=>(-(2 ^ 62)<=i/\i<2 ^ 62 /\ -(2 ^ 62)<=j/\j<2 ^ 62)/\K ⟨cG i (j-i).toNat,λ_=>True⟩ δ1
 |_=>False
def mX(fa:WA):WI:=fun δ K=>fa δ λxs δ1=>match xs with
 |[x]=>mW x δ1 λit=>K ⟨lQ 0 it.items,it.bJ⟩ δ1
 |_=>False
def zx(x:DV)(δ:aH)(K:mP->Prop):Prop:=match x with
 |.p (.lst ds)=>K ⟨ds,λ_=>True⟩
 |.o k=>match δ.mu[k]? with
  |some (some (.lst ds))=>K ⟨ds,fun δ'=>δ'.mu[k]?=U (U (.lst ds))⟩
  |_=>False
 |_=>False
theorem mY{lo:Int}{n i:Nat}{d:D}(h:(cG lo n)[i]?=U d):i<n/\d=.int (lo+i):=by
 unfold cG at h;rw[My] at h;let⟨j,e,rfl⟩:=Ws.mp h;let hj:=(sG.mp e).1;rw[W6] at hj;rw[X7 hj] at e;cases e
 calc⟨hj,Y⟩
theorem mZ(lo:Int)(n:Nat):↑(cG lo n)=n:=by unfold cG;rw[pN,W6]
theorem vG:∀(ds:-D)(i:Nat),↑(lQ i ds)=↑ds
 |[],_=>Y
 |d::r,i=>by rw[lQ,Em,Em,vG r]
theorem vH:∀{ds:-D}{k i:Nat}{d:D},(lQ k ds)[i]?=U d->∃e,ds[i]?=U e/\d=.tup [.int ((k+i:Nat):Int),e]
 |[],k,i,d,h=>by simp[lQ] at h
 |e::r,k,0,d,h=>by
  cases(show U (D.tup [.int (k:Nat),e])=U d by simpa[lQ] using h)
  exact⟨e,Y,Y⟩
 |e::r,k,i+1,d,h=>by
  let⟨e',h1,h2⟩:=vH (ds:=r) (k:=k+1) (i:=i) (d:=d) (by simpa[lQ] using h);calc⟨e',by simpa using h1,by rw[h2];congr 4;symm⟩
theorem Fh:∀{as bs:-D}{i:Nat}{d:D},(cN as bs)[i]?=U d->∃a b,as[i]?=U a/\bs[i]?=U b/\d=.tup [a,b]
 |[],_,i,d,h=>by simp[cN] at h
 |_::_,[],i,d,h=>by simp[cN] at h
 |a::r,b::s,0,d,h=>by
  cases(show U (D.tup [a,b])=U d by simpa[cN] using h)
  exact⟨a,b,Y,Y,Y⟩
 |a::r,b::s,i+1,d,h=>by
  let⟨x,y,h1,h2,h3⟩:=Fh (as:=r) (bs:=s) (i:=i) (d:=d) (by simpa[cN] using h);calc⟨x,y,by simpa using h1,by simpa using h2,h3⟩
theorem vI:∀(as bs:-D),↑(cN as bs)=min ↑as bs.length
 |[],_=>by simp[cN]
 |_::_,[]=>by simp[cN]
 |a::r,b::s=>by rw[cN,Em,Em,Em,vI r s];symm
section
variable{X:Cx}{tg l a b:J}{f:WE}{fa:WA}{F H:Hp}{ad:-M}{δ:aH}{σ:St}
theorem JI.weak{iter:J}{w w':TI}(h:JI X tg iter w)(k:∀σ H R,w' σ H R->w σ H R):JI X tg iter w':=⟨λpins s σ H R I q=>h pins s σ H R I (k σ H R q)⟩
theorem m8{ds:-D}{vs:-V}(h:ah F ds vs){i:Nat}{d:D}(e:ds[i]?=U d):∃v,vs[i]?=U v/\Is F d v:=by
 let hl:=↑h;let hi:i<↑vs:=by rw[hl];exact(sG.mp e).1
 let⟨d',e1,h1⟩:=h.get (pM hi);rw[e] at e1;cases e1;calc⟨_,pM hi,h1⟩
theorem Fi{x:DV}{v:V}{K:mP->Prop}(S:SR F ad δ σ H)(V1:dB F ad x v)(h:zx x δ K):∃a it,v=.ref a/\K it/\(∃vs,H a=U (.lst vs)) ∧
  ∀(F':Hp)(aG:-M)(δ':aH)(σ':St)(H':Hp),aL F F'->(∀(k:Nat)(a:M),ad[k]?=U a->aG[k]?=U a)->SR F' aG δ' σ' H'->it.bJ δ'->∃vs,H' a=U (.lst vs)/\ah F' it.items vs:=by
 unfold zx at h;split at h
 .rename_i ds
  let V2:Is F (.lst ds) v:=V1;erw[Is] at V2;let⟨a,vs,rfl,h1,h2⟩:=V2;exact⟨a,_,Y,h,⟨vs,S.sub _ _ h1⟩,λF' aG δ' σ' H' s _ S' _=>⟨vs,S'.sub _ _ (s _ _ h1),h2.same s⟩⟩
 .rename_i k
  split at h
  .rename_i ds e
   let⟨a,e1,rfl⟩:=V1;let⟨a',o,e2,e3,vs,rfl,h4⟩:=S.mu k _ e;rw[e1] at e2;cases e2;calc⟨a,_,Y,h,⟨vs,e3⟩,λF' aG δ' σ' H' _ pre S' ck=>?_⟩;let⟨VC,o,e5,e6,ws,rfl,h7⟩:=S'.mu k _ ck;rw[pre k a e1] at e5;cases e5;exact⟨ws,e6,h7⟩
  .exact h.elim
 .calc h.elim
theorem zy{x:DV}{v:V}{K:mP->Prop}(S:SR F ad δ σ H)(V1:dB F ad x v)(h:mW x δ K):∃a it,v=.ref a/\K it ∧
  (((∃vs,H a=U (.lst vs))/\∀(F':Hp)(aG:-M)(δ':aH)(σ':St)(H':Hp),aL F F'->(∀(k:Nat)(a:M),ad[k]?=U a->aG[k]?=U a)->SR F' aG δ' σ' H'->it.bJ δ'->∃vs,H' a=U (.lst vs)/\ah F' it.items vs) ∨
  ((∃vs,H a=U (.tup vs))/\∀(F':Hp)(aG:-M)(δ':aH)(σ':St)(H':Hp),aL F F'->(∀(k:Nat)(a:M),ad[k]?=U a->aG[k]?=U a)->SR F' aG δ' σ' H'->it.bJ δ'->∃vs,H' a=U (.tup vs)/\ah F' it.items vs)):=by
 unfold mW at h;split at h
 .rename_i ds
  let⟨a,it,e,k,r⟩:=Fi (x:=.p (.lst ds)) S V1 h;exact⟨a,it,e,k,.inl r⟩
 .rename_i ds
  let V2:Is F (.tup ds) v:=V1;erw[Is] at V2;let⟨a,vs,rfl,h1,h2⟩:=V2;exact⟨a,_,Y,h,.inr ⟨⟨vs,S.sub _ _ h1⟩,λF' aG δ' σ' H' s _ S' _=>⟨vs,S'.sub _ _ (s _ _ h1),h2.same s⟩⟩⟩
 .rename_i k
  let⟨a,it,e,k,r⟩:=Fi (x:=.o k) S V1 h;exact⟨a,it,e,k,.inl r⟩
 .calc h.elim
theorem qW(hl:JE X l (tD f)):JI X tg l (jg (bQ f)):=(Oc hl).weak fun σ H R ⟨F,ad,δ,K,S,q,k⟩=>⟨F,ad,δ,_,S,q,λx δ1 h1 v F1 aV H1 E1 S1 V1=>by
 let⟨a,it,rfl,hk,r⟩:=zy S1 V1 h1;calc⟨a,Y,?_⟩;rcases r with⟨⟨vs,e⟩,r⟩|⟨⟨vs,e⟩,r⟩
 .refine .inl ⟨⟨vs,bE.of e⟩,k _ _ hk _ _ _ _ E1 S1 λF' aG δ' σ' H' s pre S' ck=>?_⟩
  let⟨ws,e1,e2⟩:=r F' aG δ' σ' H' s pre S' ck;calc⟨⟨ws,bE.of e1,by rw[↑e2];calc Ek _⟩,λi d ed=>?_⟩;let⟨w,e3,e4⟩:=m8 e2 ed;calc⟨⟨ws,w,bE.of e1,e3⟩,?_⟩;ext y j4 ⟨eh,hy⟩;subst eh;calc⟨λ_ _ e=>e,?_⟩;let:=hy ws (bE.of e1);rw[e3] at this;cases this;rw[Nw.refl S'.sub];exact e4
 .refine .inr ⟨⟨vs,bO.of e⟩,k _ _ hk _ _ _ _ E1 S1 λF' aG δ' σ' H' s pre S' ck=>?_⟩
  let⟨ws,e1,e2⟩:=r F' aG δ' σ' H' s pre S' ck;calc⟨⟨ws,bO.of e1,by rw[↑e2];calc Ek _⟩,λi d ed=>?_⟩;let⟨w,e3,e4⟩:=m8 e2 ed;calc⟨⟨ws,w,bO.of e1,e3⟩,?_⟩;ext y j4 ⟨eh,hy⟩;subst eh;calc⟨λ_ _ e=>e,?_⟩;let:=hy ws (bO.of e1);rw[e3] at this;cases this
  rw[Nw.refl S'.sub];calc e4⟩
theorem zz{F H:Hp}{T:M}{d e:D}{x y:V}(s:aL F H)(hT:H T=Z)(h1:Is F d x)(h2:Is F e y):Is (Nw F H (upd H T (.tup [x,y]))) (.tup [d,e]) (.ref T):=by
 rw[Nw.upd s hT]
 let hF:F T=Z:=by
  cases q:F T with
  |none=>rfl
  |some u=>rw[s T u q] at hT;cases hT
 let sm:aL F (upd F T (.tup [x,y])):=de hF;erw[Is];calc⟨T,_,Y,b_,.cons (h1.same sm) (.cons (h2.same sm) .nil)⟩
theorem Od{elts:-J}{x1:Nat}{tp p pos:Ε}(hg:Gl X "enumerate")(hm:X.mg "enumerate" = Z)(ha:JA X [a] (b8 fa))(hs:‹starEach [a] X.env=[(ι,eval a X.env)]›):
  JI X (.Tuple elts x1 tp) (.Call (.Name "enumerate" p) [a] [] pos) (jg (mX fa)):=(Ob hg hm ha hs).weak fun σ H R ⟨F,ad,δ,K,S,q,k⟩=>⟨F,ad,δ,_,S,q,λxs δ1 h1 vs F1 aV H1 E1 S1 V1=>by
 match xs,h1,V1 with
 |[x],g1,⟨v,r,e,W1,W2⟩ =>
  subst e;let W3:r=[]:=W2;subst W3;let⟨a,it,rfl,hk,r⟩:=zy S1 W1 g1;calc⟨a,Y,?_⟩;rcases r with⟨⟨vs,e⟩,r⟩|⟨⟨vs,e⟩,r⟩
  .refine .inl ⟨⟨vs,bE.of e⟩,k _ _ hk _ _ _ _ E1 S1 λF' aG δ' σ' H' s pre S' ck=>?_⟩
   let⟨ws,e1,e2⟩:=r F' aG δ' σ' H' s pre S' ck;calc⟨⟨ws,bE.of e1,by rw[↑e2,vG];calc Ek _⟩,λi d ed=>?_⟩;let⟨d',zA,rfl⟩:=vH ed;let⟨w,e3,e4⟩:=m8 e2 zA;calc⟨⟨ws,w,bE.of e1,e3⟩,?_⟩;ext y j4 ⟨T,v,ey,hT,eh,hy⟩;subst eh ey;let:=hy ws (bE.of e1);rw[e3] at this;cases this;calc⟨de hT,?_⟩;rw[Xi];exact zz S'.sub hT Y e4
  .refine .inr ⟨⟨vs,bO.of e⟩,k _ _ hk _ _ _ _ E1 S1 λF' aG δ' σ' H' s pre S' ck=>?_⟩
   let⟨ws,e1,e2⟩:=r F' aG δ' σ' H' s pre S' ck;calc⟨⟨ws,bO.of e1,by rw[↑e2,vG]⟩,λi d ed=>?_⟩;let⟨d',zA,rfl⟩:=vH ed;let⟨w,e3,e4⟩:=m8 e2 zA;calc⟨⟨ws,w,bO.of e1,e3⟩,?_⟩;ext y j4 ⟨T,v,ey,hT,eh,hy⟩;subst eh ey;let:=hy ws (bO.of e1);rw[e3] at this;cases this;calc⟨de hT,?_⟩;rw[Xi];exact zz S'.sub hT Y e4
 |[],h1,_=>exact h1.elim
 |_::_::_,h1,_=>calc h1.elim⟩
theorem Fj{F1:Hp}{aV:-M}{lo:Int}{n:Nat}:pX F1 aV ⟨cG lo n,λ_=>True⟩ (r_ lo n):=λF' aG δ' σ' H' s pre S' _=>by
 calc⟨by show n<=↑(cG lo n);rw[mZ];calc Ek _,λi d ed=>?_⟩;let⟨hi,rfl⟩:=mY ed;calc⟨hi,?_⟩;ext x j4 ⟨eh,ex⟩;subst eh ex;calc⟨λ_ _ e=>e,Y⟩
theorem zB{p pos:y}(hg:Gl X "range")(hm:X.mg "range" = Z)(ha:JA X [a] (b8 fa))(hs:‹starEach [a] X.env=[(ι,eval a X.env)]›):JI X tg (.Call (.Name "range" p) [a] [] pos) (jg (kP fa)) :=
 (La hg hm ha hs).weak fun σ H R ⟨F,ad,δ,K,S,q,k⟩↦⟨F,ad,δ,_,S,q,λxs δ1 h1 vs F1 aV H1 E1 S1 V1=>by
  split at h1
  .rename_i j
   let⟨v,r,e,V1,V2⟩:=V1;let V2:r=[]:=V2;let V1:v=.int j:=V1;subst V2 V1 e;exact⟨j,Y,h1.1.1,h1.1.2,k _ _ h1.2 _ _ _ _ E1 S1 Fj⟩
  .calc h1.elim⟩
theorem Oe{p pos:y}(hg:Gl X "range")(hm:X.mg "range" = Z)(ha:JA X [a,b] (b8 fa))(hs:‹starEach [a,b] X.env=[(ι,eval a X.env),(ι,eval b X.env)]›)(d6:‹starEach [b] X.env=[(ι,eval b X.env)]›):
  JI X tg (.Call (.Name "range" p) [a,b] [] pos) (jg (zw fa)) :=
 (Lb hg hm ha hs d6).weak fun σ H R ⟨F,ad,δ,K,S,q,k⟩↦⟨F,ad,δ,_,S,q,λxs δ1 h1 vs F1 aV H1 E1 S1 V1=>by
  split at h1
  .rename_i i j
   let⟨v,r,e,V1,w,r2,e2,V2,V3⟩:=V1;let V3:r2=[]:=V3;let V1:v=.int i:=V1;let V2:w=.int j:=V2;subst V3 V1 V2 e2 e;exact⟨i,j,Y,h1.1,k _ _ h1.2 _ _ _ _ E1 S1 Fj⟩
  .calc h1.elim⟩
end
end L2
namespace L2
open PySem PySem.Spec PyProof.Rows
mutual
noncomputable def aI:D->D->Bool
 |.non,.non=>θ
 |.bl a,.bl b=>a==b
 |.bl a,.int b=>(if a then 1 else 0)==b
 |.int a,.bl b=>a==(if b then 1 else 0)
 |.int a,.int b=>a==b
 |.str a,.str b=>a==b
 |.tup a,.tup b=>cZ a b
 |.lst a,.lst b=>cZ a b
 |_,_=>ι
noncomputable def cZ:-D->-D->Bool
 |[],[]=>θ
 |a::r,b::s=>aI a b&&cZ r s
 |_,_=>ι
end
mutual
theorem fI:∀d:D,aI d d=θ
 |.non=>by simp[aI]
 |.bl a=>by simp[aI]
 |.int a=>by simp[aI]
 |.str a=>by simp[aI]
 |.tup a=>by erw[aI];exact zC a
 |.lst a=>by erw[aI];calc zC a
theorem zC:∀ds:-D,cZ ds ds=θ
 |[]=>by simp[cZ]
 |d::r=>by erw[cZ,fI d,zC r,q1o]
end
mutual
theorem Is.inj {H:Hp}:∀{d e:D}{v:V},Is H d v->Is H e v->d=e
 |.non,e,v,h,q=>by cases e<;>erw[Is] at h q<;>first|rfl|(subst h;first|(let⟨_,_,z,_⟩:=q;cases z;done)|(cases q;done)|(cases q;rfl))
 |.bl a,e,v,h,q=>by cases e<;>erw[Is] at h q<;>(subst h;first|(let⟨_,_,z,_⟩:=q;cases z;done)|(cases q;done)|(cases q;rfl))
 |.int a,e,v,h,q=>by cases e<;>erw[Is] at h q<;>(subst h;first|(let⟨_,_,z,_⟩:=q;cases z;done)|(cases q;done)|(cases q;rfl))
 |.str a,e,v,h,q=>by cases e<;>erw[Is] at h q<;>(subst h;first|(let⟨_,_,z,_⟩:=q;cases z;done)|(cases q;done)|(cases q;rfl))
 |.tup a,e,v,h,q=>by
  erw[Is] at h;let⟨p,vs,rfl,h1,h2⟩:=h
  cases e with
  |tup b =>
   erw[Is] at q;let⟨p',ws,z,q1,q2⟩:=q;cases z
   rw[h1] at q1;cases q1;rw[ah.inj h2 q2]
  |lst b =>
   erw[Is] at q;let⟨p',ws,z,q1,q2⟩:=q;cases z
   rw[h1] at q1;cases q1
  |non=>erw[Is] at q;cases q
  |bl _=>erw[Is] at q;cases q
  |int _=>erw[Is] at q;cases q
  |str _=>erw[Is] at q;cases q
 |.lst a,e,v,h,q=>by
  erw[Is] at h;let⟨p,vs,rfl,h1,h2⟩:=h
  cases e with
  |lst b =>
   erw[Is] at q;let⟨p',ws,z,q1,q2⟩:=q;cases z
   rw[h1] at q1;cases q1;rw[ah.inj h2 q2]
  |tup b =>
   erw[Is] at q;let⟨p',ws,z,q1,q2⟩:=q;cases z
   rw[h1] at q1;cases q1
  |non=>erw[Is] at q;cases q
  |bl _=>erw[Is] at q;cases q
  |int _=>erw[Is] at q;cases q
  |str _=>erw[Is] at q;cases q
theorem ah.inj {H:Hp}:∀{ds es:-D}{vs:-V},ah H ds vs->ah H es vs->ds=es
 |[],es,vs,h,q=>by
  erw[ah] at h;subst h
  cases es with
  |nil=>rfl
  |cons _ _=>erw[ah] at q;let⟨_,_,z,_⟩:=q;cases z
 |d::ds,es,vs,h,q=>by
  erw[ah] at h;let⟨v,r,rfl,h1,h2⟩:=h
  cases es with
  |nil=>erw[ah] at q;cases q
  |cons e es =>
   erw[ah] at q;let⟨v',r',z,q1,q2⟩:=q;cases z
   rw[Is.inj h1 q1,ah.inj h2 q2]
end
theorem tQ:∀{ds es:-D},↑ds≠↑es->cZ ds es=ι
 |[],[],h=>absurd Y h
 |[],_::_,_=>by simp[cZ]
 |_::_,[],_=>by simp[cZ]
 |d::r,e::s,h=>by erw[cZ];rw[tQ (λz=>h (by rw[Em,Em,z])),q2U]
noncomputable def p9(ds es:-D)(j:Nat):Bool:=match ds[j]?,es[j]? with
 |some a,some b=>aI a b
 |_,_=>θ
theorem tR:∀{ds es:-D},↑ds=↑es->(WL ↑ds).all (p9 ds es)=cZ ds es
 |[],[],_=>by simp[cZ]
 |[],_::_,h=>by simp at h
 |_::_,[],h=>by simp at h
 |d::r,e::s,h=>by
  let ih:=tR (ds:=r) (es:=s) h⁻¹;rw[Em,List.range_succ_eq_map,List.all_cons,List.all_map];erw[cZ];rw[<-ih];rfl
section
variable{X:Cx}{pins:aC}{σ:St}{H:Hp}{s:B}
theorem vJ{vs:-V}{au:-O}(r:Vals vs au){j:Nat}(h:j<au.toArray.size):∃v,vs[j]?=U v/\RelV v au.toArray[j]:=by
 let hj:j<↑au:=by simpa using h
 let hv:j<↑vs:=by rw[↑r];exact hj
 let⟨u,e,ru⟩:=r.get (pM hv)
 let:au.toArray[j]=u:=by
  let:=(sG.mp e).2;simpa using this
 rw[this];calc⟨_,pM hv,ru⟩
theorem dF(I:Inv X pins σ H s){a:M}{vs:-V}(h:H a=U (.lst vs)):∃au:-O,Vals vs au/\s.heap.IsList a au.toArray:=by
 let⟨au,r,p,_⟩:=I.list (bE.of h);calc⟨au,r,p.isList⟩
theorem dG(I:Inv X pins σ H s){a:M}{vs:-V}(h:H a=U (.tup vs)):∃au:-O,Vals vs au/\s.heap.IsTuple a au.toArray:=by
 let⟨au,r,p,_⟩:=I.tuple (bO.of h);calc⟨au,r,p⟩
theorem in1_units(A:q):A.in1.units=A.units+1:=rfl
theorem zD(I:Inv X pins σ H s):∀(n:Nat){A:q}{d e:D}{v u:V}{x y:O},dep d<=n->A.units+n<cLine->Is H d v->Is H e u->RelV v x->RelV u y->q0D A s x y (aI d e)/\q20 A s x y (aI d e):=by
 ext n
 induction n with
 |zero =>
  ext A d e v u x y hd hu hv hw rv ru;let nz:A.units<cLine:=by symm
  cases d with
  |tup ds=>simp[dep] at hd
  |lst ds=>simp[dep] at hd
  |non =>
   cases(show v=.non from hv);cases rv
   cases e with
   |non=>cases(show u=.non from hw);cases ru;erw[aI];exact⟨q0T _,SeqAt.RcAt.none_none⟩
   |bl b=>cases(show u=.bl b from hw);cases ru;erw[aI];exact⟨SeqAt.EqAt.none_bool _,SeqAt.RcAt.none_bool _⟩
   |int b=>cases(show u=.int b from hw);let⟨t,rfl⟩:=ru;erw[aI];exact⟨SeqAt.EqAt.none_int _ _,SeqAt.RcAt.none_int _ _⟩
   |str b=>cases(show u=.str b from hw);let⟨t,rfl⟩:=ru;erw[aI];exact⟨SeqAt.EqAt.none_str _ _,SeqAt.RcAt.none_str _ _⟩
   |tup es=>erw[Is] at hw;let⟨a,vs,rfl,h1,_⟩:=hw;cases ru;let⟨_,_,p⟩:=dG I h1;erw[aI];exact⟨SeqAt.EqAt.none_tuple p nz,SeqAt.RcAt.none_tuple p nz⟩
   |lst es=>erw[Is] at hw;let⟨a,vs,rfl,h1,_⟩:=hw;cases ru;let⟨_,_,p⟩:=dF I h1;erw[aI];exact⟨SeqAt.EqAt.none_list p nz,SeqAt.RcAt.none_list p nz⟩
  |bl b0 =>
   cases(show v=.bl b0 from hv);cases rv
   cases e with
   |non=>cases(show u=.non from hw);cases ru;erw[aI];exact⟨SeqAt.EqAt.bool_none _,SeqAt.RcAt.bool_none _⟩
   |bl b=>cases(show u=.bl b from hw);cases ru;erw[aI];exact⟨SeqAt.EqAt.bool_bool _ _,SeqAt.RcAt.bool_bool _ _⟩
   |int b=>cases(show u=.int b from hw);let⟨t,rfl⟩:=ru;erw[aI];exact⟨SeqAt.EqAt.bool_int _ _ _,SeqAt.RcAt.bool_int _ _ _⟩
   |str b=>cases(show u=.str b from hw);let⟨t,rfl⟩:=ru;erw[aI];exact⟨SeqAt.EqAt.bool_str _ _ _,SeqAt.RcAt.bool_str _ _ _⟩
   |tup es=>erw[Is] at hw;let⟨a,vs,rfl,h1,_⟩:=hw;cases ru;let⟨_,_,p⟩:=dG I h1;erw[aI];exact⟨SeqAt.EqAt.bool_tuple _ p nz,SeqAt.RcAt.bool_tuple _ p nz⟩
   |lst es=>erw[Is] at hw;let⟨a,vs,rfl,h1,_⟩:=hw;cases ru;let⟨_,_,p⟩:=dF I h1;erw[aI];exact⟨SeqAt.EqAt.bool_list _ p nz,SeqAt.RcAt.bool_list _ p nz⟩
  |int b0 =>
   cases(show v=.int b0 from hv);let⟨t0,rfl⟩:=rv
   cases e with
   |non=>cases(show u=.non from hw);cases ru;erw[aI];exact⟨SeqAt.EqAt.int_none _ _,SeqAt.RcAt.int_none _ _⟩
   |bl b=>cases(show u=.bl b from hw);cases ru;erw[aI];exact⟨SeqAt.EqAt.int_bool _ _ _,SeqAt.RcAt.int_bool _ _ _⟩
   |int b=>cases(show u=.int b from hw);let⟨t,rfl⟩:=ru;erw[aI];exact⟨q1A _ _ _ _,SeqAt.RcAt.int_int _ _ _ _⟩
   |str b=>cases(show u=.str b from hw);let⟨t,rfl⟩:=ru;erw[aI];exact⟨q1y _ _ _ _,SeqAt.RcAt.int_str _ _ _ _⟩
   |tup es=>erw[Is] at hw;let⟨a,vs,rfl,h1,_⟩:=hw;cases ru;let⟨_,_,p⟩:=dG I h1;erw[aI];exact⟨SeqAt.EqAt.int_tuple _ _ p nz,SeqAt.RcAt.int_tuple _ _ p nz⟩
   |lst es=>erw[Is] at hw;let⟨a,vs,rfl,h1,_⟩:=hw;cases ru;let⟨_,_,p⟩:=dF I h1;erw[aI];exact⟨SeqAt.EqAt.int_list _ _ p nz,SeqAt.RcAt.int_list _ _ p nz⟩
  |str b0 =>
   cases(show v=.str b0 from hv);let⟨t0,rfl⟩:=rv
   cases e with
   |non=>cases(show u=.non from hw);cases ru;erw[aI];exact⟨SeqAt.EqAt.str_none _ _,SeqAt.RcAt.str_none _ _⟩
   |bl b=>cases(show u=.bl b from hw);cases ru;erw[aI];exact⟨SeqAt.EqAt.str_bool _ _ _,SeqAt.RcAt.str_bool _ _ _⟩
   |int b=>cases(show u=.int b from hw);let⟨t,rfl⟩:=ru;erw[aI];exact⟨q1z _ _ _ _,SeqAt.RcAt.str_int _ _ _ _⟩
   |str b=>cases(show u=.str b from hw);let⟨t,rfl⟩:=ru;erw[aI];exact⟨SeqAt.EqAt.str_str _ _ _ _,SeqAt.RcAt.str_str _ _ _ _⟩
   |tup es=>erw[Is] at hw;let⟨a,vs,rfl,h1,_⟩:=hw;cases ru;let⟨_,_,p⟩:=dG I h1;erw[aI];exact⟨SeqAt.EqAt.str_tuple _ _ p nz,SeqAt.RcAt.str_tuple _ _ p nz⟩
   |lst es=>erw[Is] at hw;let⟨a,vs,rfl,h1,_⟩:=hw;cases ru;let⟨_,_,p⟩:=dF I h1;erw[aI];exact⟨SeqAt.EqAt.str_list _ _ p nz,SeqAt.RcAt.str_list _ _ p nz⟩
 |succ n ih =>
  ext A d e v u x y hd hu hv hw rv ru;let nz:A.units<cLine:=by symm
  let step:∀{ds es:-D}{vs us:-V}{au bz:-O}(r1:Vals vs au)(r2:Vals us bz),bq ds<=n->ah H ds vs->ah H es us →
    ∀(j:Nat)(h1:j<au.toArray.size)(h2:j<bz.toArray.size),q0D A.in1 s au.toArray[j] bz.toArray[j] (p9 ds es j):=λ{ds es vs us au bz} r1 r2 hl i1 i2 j h1 h2=>by
   let⟨v1,e1,q1⟩:=vJ r1 h1;let⟨v2,e2,q2⟩:=vJ r2 h2;let⟨d1,f1,g1⟩:=i1.get e1;let⟨d2,f2,g2⟩:=i2.get e2;unfold p9;rw[f1,f2];exact(ih (WU (yO f1) hl) (by rw[in1_units];symm) g1 g2 q1 q2).1
  cases d with
  |tup ds =>
   let hl:bq ds<=n:=by erw[dep] at hd;symm
   let zE:=hv;erw[Is] at hv;let⟨a,vs,rfl,h1,i1⟩:=hv;cases rv
   let⟨au,r1,p1⟩:=dG I h1
   cases e with
   |tup es =>
    let zF:=hw;erw[Is] at hw;let⟨b,us,rfl,h2,i2⟩:=hw;cases ru
    let⟨bz,r2,p2⟩:=dG I h2
    let rc:q20 A s (.ref a) (.ref b) (aI (.tup ds) (.tup es)):=by
     let:=SeqAt.RcAt.tuples p1 p2 nz (step r1 r2 hl i1 i2);let l1:au.toArray.size=↑ds:=by rw[yA,<-↑r1,↑i1]
     let l2:bz.toArray.size=↑es:=by rw[yA,<-↑r2,↑i2]
     rw[l1,l2] at this
     let eb:((WL (min ↑ds ↑es)).all (p9 ds es)&&↑ds==↑es)=aI (.tup ds) (.tup es):=by
      erw[aI]
      by_cases c:↑ds=↑es
      .rw[<-c,q15,tR c];simp
      .rw[tQ c];simp[c]
     rw[eb] at this;exact this
    refine⟨?_,rc⟩
    by_cases c:a=b
    .subst c
     let:=Is.inj zE zF;rw[this,fI];exact q0T _
    .exact q1G c rc
   |lst es =>
    erw[Is] at hw;let⟨b,us,rfl,h2,i2⟩:=hw;cases ru
    let⟨bz,r2,p2⟩:=dF I h2;erw[aI];exact⟨SeqAt.EqAt.tuple_list p1 p2 nz,SeqAt.RcAt.tuple_list p1 p2 nz⟩
   |non=>cases(show u=.non from hw);cases ru;erw[aI];exact⟨SeqAt.EqAt.tuple_none p1 nz,SeqAt.RcAt.tuple_none p1 nz⟩
   |bl b=>cases(show u=.bl b from hw);cases ru;erw[aI];exact⟨SeqAt.EqAt.tuple_bool _ p1 nz,SeqAt.RcAt.tuple_bool _ p1 nz⟩
   |int b=>cases(show u=.int b from hw);let⟨t,rfl⟩:=ru;erw[aI];exact⟨SeqAt.EqAt.tuple_int _ _ p1 nz,SeqAt.RcAt.tuple_int _ _ p1 nz⟩
   |str b=>cases(show u=.str b from hw);let⟨t,rfl⟩:=ru;erw[aI];exact⟨SeqAt.EqAt.tuple_str _ _ p1 nz,SeqAt.RcAt.tuple_str _ _ p1 nz⟩
  |lst ds =>
   let hl:bq ds<=n:=by erw[dep] at hd;symm
   let zE:=hv;erw[Is] at hv;let⟨a,vs,rfl,h1,i1⟩:=hv;cases rv
   let⟨au,r1,p1⟩:=dF I h1
   cases e with
   |lst es =>
    let zF:=hw;erw[Is] at hw;let⟨b,us,rfl,h2,i2⟩:=hw;cases ru
    let⟨bz,r2,p2⟩:=dF I h2;let l1:au.toArray.size=↑ds:=by rw[yA,<-↑r1,↑i1]
    let l2:bz.toArray.size=↑es:=by rw[yA,<-↑r2,↑i2]
    let rc:q20 A s (.ref a) (.ref b) (aI (.lst ds) (.lst es)):=by
     by_cases c:↑ds=↑es
     .let:=SeqAt.RcAt.lists p1 p2 (by rw[l1,l2];calc c) nz (step r1 r2 hl i1 i2)
      rw[l1,tR c] at this;erw[aI];exact this
     .erw[aI];rw[tQ c]
      exact SeqAt.RcAt.lists_lengths p1 p2 (by rw[l1,l2];simpa using c) nz
    refine⟨?_,rc⟩
    by_cases c:a=b
    .subst c
     let:=Is.inj zE zF;rw[this,fI];exact q0T _
    .exact q1G c rc
   |tup es =>
    erw[Is] at hw;let⟨b,us,rfl,h2,i2⟩:=hw;cases ru
    let⟨bz,r2,p2⟩:=dG I h2;erw[aI];exact⟨SeqAt.EqAt.list_tuple p1 p2 nz,SeqAt.RcAt.list_tuple p1 p2 nz⟩
   |non=>cases(show u=.non from hw);cases ru;erw[aI];exact⟨SeqAt.EqAt.list_none p1 nz,SeqAt.RcAt.list_none p1 nz⟩
   |bl b=>cases(show u=.bl b from hw);cases ru;erw[aI];exact⟨SeqAt.EqAt.list_bool _ p1 nz,SeqAt.RcAt.list_bool _ p1 nz⟩
   |int b=>cases(show u=.int b from hw);let⟨t,rfl⟩:=ru;erw[aI];exact⟨SeqAt.EqAt.list_int _ _ p1 nz,SeqAt.RcAt.list_int _ _ p1 nz⟩
   |str b=>cases(show u=.str b from hw);let⟨t,rfl⟩:=ru;erw[aI];exact⟨SeqAt.EqAt.list_str _ _ p1 nz,SeqAt.RcAt.list_str _ _ p1 nz⟩
  |non=>exact ih (by simp[dep]) ⋯ hv hw rv ru
  |bl b0=>exact ih (by simp[dep]) ⋯ hv hw rv ru
  |int b0=>exact ih (by simp[dep]) ⋯ hv hw rv ru
  |str b0=>calc ih (by simp[dep]) ⋯ hv hw rv ru
theorem Of(I:Inv X pins σ H s){A:q}{d e:D}{v u:V}{x y:O}(hd:dep d<=60)(hu:A.units+61<cLine)(hv:Is H d v)(hw:Is H e u)(rv:RelV v x)(ru:RelV u y):SeqAt.RcNeAt A s x y (!aI d e):=by
 let nz:A.units<cLine:=by symm
 let step:∀{ds es:-D}{vs us:-V}{au bz:-O}(r1:Vals vs au)(r2:Vals us bz),bq ds<=59->ah H ds vs->ah H es us →
   ∀(j:Nat)(h1:j<au.toArray.size)(h2:j<bz.toArray.size),q0D A.in1 s au.toArray[j] bz.toArray[j] (p9 ds es j):=λ{ds es vs us au bz} r1 r2 hl i1 i2 j h1 h2=>by
  let⟨v1,e1,q1⟩:=vJ r1 h1;let⟨v2,e2,q2⟩:=vJ r2 h2;let⟨d1,f1,g1⟩:=i1.get e1;let⟨d2,f2,g2⟩:=i2.get e2;unfold p9;rw[f1,f2];exact(zD I 59 (WU (yO f1) hl) (by rw[in1_units];symm) g1 g2 q1 q2).1
 cases d with
 |tup ds =>
  let hl:bq ds<=59:=by erw[dep] at hd;symm
  erw[Is] at hv;let⟨a,vs,rfl,h1,i1⟩:=hv;cases rv
  let⟨au,r1,p1⟩:=dG I h1
  cases e with
  |tup es =>
   erw[Is] at hw;let⟨b,us,rfl,h2,i2⟩:=hw;cases ru
   let⟨bz,r2,p2⟩:=dG I h2;let:=SeqAt.RcNeAt.tuples p1 p2 nz (step r1 r2 hl i1 i2);let l1:au.toArray.size=↑ds:=by rw[yA,<-↑r1,↑i1]
   let l2:bz.toArray.size=↑es:=by rw[yA,<-↑r2,↑i2]
   rw[l1,l2] at this
   let eb:((WL (min ↑ds ↑es)).all (p9 ds es)&&↑ds==↑es)=aI (.tup ds) (.tup es):=by
    erw[aI]
    by_cases c:↑ds=↑es
    .rw[<-c,q15,tR c];simp
    .rw[tQ c];simp[c]
   rw[eb] at this;exact this
  |lst es=>erw[Is] at hw;let⟨b,us,rfl,h2,i2⟩:=hw;cases ru;let⟨bz,r2,p2⟩:=dF I h2;erw[aI];exact SeqAt.RcNeAt.tuple_list p1 p2 nz
  |non=>cases(show u=.non from hw);cases ru;erw[aI];exact SeqAt.RcNeAt.tuple_none p1 nz
  |bl b=>cases(show u=.bl b from hw);cases ru;erw[aI];exact SeqAt.RcNeAt.tuple_bool _ p1 nz
  |int b=>cases(show u=.int b from hw);let⟨t,rfl⟩:=ru;erw[aI];exact SeqAt.RcNeAt.tuple_int _ _ p1 nz
  |str b=>cases(show u=.str b from hw);let⟨t,rfl⟩:=ru;erw[aI];exact SeqAt.RcNeAt.tuple_str _ _ p1 nz
 |lst ds =>
  let hl:bq ds<=59:=by erw[dep] at hd;symm
  erw[Is] at hv;let⟨a,vs,rfl,h1,i1⟩:=hv;cases rv
  let⟨au,r1,p1⟩:=dF I h1
  cases e with
  |lst es =>
   erw[Is] at hw;let⟨b,us,rfl,h2,i2⟩:=hw;cases ru
   let⟨bz,r2,p2⟩:=dF I h2;let l1:au.toArray.size=↑ds:=by rw[yA,<-↑r1,↑i1]
   let l2:bz.toArray.size=↑es:=by rw[yA,<-↑r2,↑i2]
   by_cases c:↑ds=↑es
   .let:=SeqAt.RcNeAt.lists p1 p2 (by rw[l1,l2];calc c) nz (step r1 r2 hl i1 i2)
    rw[l1,tR c] at this;erw[aI];exact this
   .erw[aI];rw[tQ c]
    exact SeqAt.RcNeAt.lists_lengths p1 p2 (by rw[l1,l2];simpa using c) nz
  |tup es=>erw[Is] at hw;let⟨b,us,rfl,h2,i2⟩:=hw;cases ru;let⟨bz,r2,p2⟩:=dG I h2;erw[aI];exact SeqAt.RcNeAt.list_tuple p1 p2 nz
  |non=>cases(show u=.non from hw);cases ru;erw[aI];exact SeqAt.RcNeAt.list_none p1 nz
  |bl b=>cases(show u=.bl b from hw);cases ru;erw[aI];exact SeqAt.RcNeAt.list_bool _ p1 nz
  |int b=>cases(show u=.int b from hw);let⟨t,rfl⟩:=ru;erw[aI];exact SeqAt.RcNeAt.list_int _ _ p1 nz
  |str b=>cases(show u=.str b from hw);let⟨t,rfl⟩:=ru;erw[aI];exact SeqAt.RcNeAt.list_str _ _ p1 nz
 |non =>
  cases(show v=.non from hv);cases rv
  cases e with
  |non=>cases(show u=.non from hw);cases ru;erw[aI];exact SeqAt.RcNeAt.none_none
  |bl b=>cases(show u=.bl b from hw);cases ru;erw[aI];exact SeqAt.RcNeAt.none_bool _
  |int b=>cases(show u=.int b from hw);let⟨t,rfl⟩:=ru;erw[aI];exact SeqAt.RcNeAt.none_int _ _
  |str b=>cases(show u=.str b from hw);let⟨t,rfl⟩:=ru;erw[aI];exact SeqAt.RcNeAt.none_str _ _
  |tup es=>erw[Is] at hw;let⟨a,vs,rfl,h1,_⟩:=hw;cases ru;let⟨_,_,p⟩:=dG I h1;erw[aI];exact SeqAt.RcNeAt.none_tuple p nz
  |lst es=>erw[Is] at hw;let⟨a,vs,rfl,h1,_⟩:=hw;cases ru;let⟨_,_,p⟩:=dF I h1;erw[aI];exact SeqAt.RcNeAt.none_list p nz
 |bl b0 =>
  cases(show v=.bl b0 from hv);cases rv
  cases e with
  |non=>cases(show u=.non from hw);cases ru;erw[aI];exact SeqAt.RcNeAt.bool_none _
  |bl b=>cases(show u=.bl b from hw);cases ru;erw[aI];exact SeqAt.RcNeAt.bool_bool _ _
  |int b=>cases(show u=.int b from hw);let⟨t,rfl⟩:=ru;erw[aI];exact SeqAt.RcNeAt.bool_int _ _ _
  |str b=>cases(show u=.str b from hw);let⟨t,rfl⟩:=ru;erw[aI];exact SeqAt.RcNeAt.bool_str _ _ _
  |tup es=>erw[Is] at hw;let⟨a,vs,rfl,h1,_⟩:=hw;cases ru;let⟨_,_,p⟩:=dG I h1;erw[aI];exact SeqAt.RcNeAt.bool_tuple _ p nz
  |lst es=>erw[Is] at hw;let⟨a,vs,rfl,h1,_⟩:=hw;cases ru;let⟨_,_,p⟩:=dF I h1;erw[aI];exact SeqAt.RcNeAt.bool_list _ p nz
 |int b0 =>
  cases(show v=.int b0 from hv);let⟨t0,rfl⟩:=rv
  cases e with
  |non=>cases(show u=.non from hw);cases ru;erw[aI];exact SeqAt.RcNeAt.int_none _ _
  |bl b=>cases(show u=.bl b from hw);cases ru;erw[aI];exact SeqAt.RcNeAt.int_bool _ _ _
  |int b=>cases(show u=.int b from hw);let⟨t,rfl⟩:=ru;erw[aI];exact SeqAt.RcNeAt.int_int _ _ _ _
  |str b=>cases(show u=.str b from hw);let⟨t,rfl⟩:=ru;erw[aI];exact SeqAt.RcNeAt.int_str _ _ _ _
  |tup es=>erw[Is] at hw;let⟨a,vs,rfl,h1,_⟩:=hw;cases ru;let⟨_,_,p⟩:=dG I h1;erw[aI];exact SeqAt.RcNeAt.int_tuple _ _ p nz
  |lst es=>erw[Is] at hw;let⟨a,vs,rfl,h1,_⟩:=hw;cases ru;let⟨_,_,p⟩:=dF I h1;erw[aI];exact SeqAt.RcNeAt.int_list _ _ p nz
 |str b0 =>
  cases(show v=.str b0 from hv);let⟨t0,rfl⟩:=rv
  cases e with
  |non=>cases(show u=.non from hw);cases ru;erw[aI];exact SeqAt.RcNeAt.str_none _ _
  |bl b=>cases(show u=.bl b from hw);cases ru;erw[aI];exact SeqAt.RcNeAt.str_bool _ _ _
  |int b=>cases(show u=.int b from hw);let⟨t,rfl⟩:=ru;erw[aI];exact SeqAt.RcNeAt.str_int _ _ _ _
  |str b=>cases(show u=.str b from hw);let⟨t,rfl⟩:=ru;erw[aI];exact SeqAt.RcNeAt.str_str _ _ _ _
  |tup es=>erw[Is] at hw;let⟨a,vs,rfl,h1,_⟩:=hw;cases ru;let⟨_,_,p⟩:=dG I h1;erw[aI];exact SeqAt.RcNeAt.str_tuple _ _ p nz
  |lst es=>erw[Is] at hw;let⟨a,vs,rfl,h1,_⟩:=hw;cases ru;let⟨_,_,p⟩:=dF I h1;erw[aI];calc SeqAt.RcNeAt.str_list _ _ p nz
end
variable[aS]
noncomputable def intsOf:-D->Option (-Int)
 |[]=>U []
 |.int i::r=>match intsOf r with
  |some ns=>U (i::ns)
  |none=>Z
 |_=>Z
theorem lR:∀ns:-Int,intsOf (ns.map D.int)=U ns
 |[]=>Y
 |n::r=>by show(match intsOf (r.map D.int) with|some ns=>U (n::ns)|none=>Z)=_;rw[lR r]
theorem qX:∀{ds:-D}{ns:-Int},intsOf ds=U ns->ds=ns.map D.int
 |[],ns,h=>by cases h;rfl
 |.int i::r,ns,h=>by
  unfold intsOf at h;split at h
  .rename_i ms e;cases h;rw[Wx,qX e]
  .cases h
 |.non::r,ns,h=>by cases h
 |.bl _::r,ns,h=>by cases h
 |.str _::r,ns,h=>by cases h
 |.tup _::r,ns,h=>by cases h
 |.lst _::r,ns,h=>by cases h
theorem oN{F:Hp}:∀{ns:-Int}{vs:-V},ah F (ns.map D.int) vs->vs=ns.map V.int
 |[],vs,h=>by erw[Yp,ah] at h;exact h
 |n::r,vs,h=>by
  erw[Wx,ah] at h;let⟨v,t,rfl,h1,h2⟩:=h;let h1:v=.int n:=h1;rw[oN h2,h1];rfl
theorem qY{F:Hp}:∀{ns:-Int},ah F (ns.map D.int) (ns.map V.int)
 |[]=>.nil
 |n::r=>.cons (show _=_ from Y) qY
theorem qZ{F:Hp}:∀{as bs:-D}{us vs:-V},ah F as us->ah F bs vs->ah F (as++bs) (us++vs)
 |[],bs,us,vs,h,q=>by erw[ah] at h;subst h;exact q
 |a::r,bs,us,vs,h,q=>by
  erw[ah] at h;let⟨v,t,rfl,h1,h2⟩:=h;calc .cons h1 (qZ h2 q)
theorem zG{F:Hp}:∀{as:-D}{us:-V}(n:Nat),ah F as us->ah F (as.take n) (us.take n)
 |as,us,0,_=>by rw[ZC,ZC];exact .nil
 |[],us,n+1,h=>by erw[ah] at h;subst h;exact .nil
 |a::r,us,n+1,h=>by
  erw[ah] at h;let⟨v,t,rfl,h1,h2⟩:=h;calc .cons h1 (zG n h2)
theorem Fl{F:Hp}:∀{as:-D}{us:-V}(n:Nat),ah F as us->ah F (as.drop n) (us.drop n)
 |as,us,0,h=>h
 |[],us,n+1,h=>by erw[ah] at h;subst h;exact .nil
 |a::r,us,n+1,h=>by
  erw[ah] at h;let⟨v,t,rfl,h1,h2⟩:=h;calc Fl n h2
theorem Fm{F:Hp}:∀{as:-D}{us:-V}(n:Nat){d:D}{v:V},ah F as us->Is F d v->ah F (as.set n d) (us.set n v)
 |[],us,n,d,v,h,_=>by erw[ah] at h;subst h;exact .nil
 |a::r,us,0,d,v,h,q=>by
  erw[ah] at h;let⟨w,t,rfl,h1,h2⟩:=h;exact .cons q h2
 |a::r,us,n+1,d,v,h,q=>by
  erw[ah] at h;let⟨w,t,rfl,h1,h2⟩:=h;calc .cons h1 (Fm n h2 q)
theorem Fp{F:Hp}:∀{as:-D}{us:-V}(n:Nat),ah F as us->ah F (as.eraseIdx n) (us.eraseIdx n)
 |[],us,n,h=>by erw[ah] at h;subst h;exact .nil
 |a::r,us,0,h=>by
  erw[ah] at h;let⟨w,t,rfl,h1,h2⟩:=h;exact h2
 |a::r,us,n+1,h=>by
  erw[ah] at h;let⟨w,t,rfl,h1,h2⟩:=h;calc .cons h1 (Fp n h2)
theorem p_{F H:Hp}{p:M}{ds:-D}{vs:-V}(s:aL F H)(hp:H p=Z)(h:ah F ds vs):Is (Nw F H (upd H p (.lst vs))) (.lst ds) (.ref p):=by
 rw[Nw.upd s hp];erw[Is];calc⟨p,vs,Y,b_,h.same (de (s.free hp))⟩
theorem zH{F H:Hp}{p:M}{ds:-D}{vs:-V}(s:aL F H)(hp:H p=Z)(h:ah F ds vs):Is (Nw F H (upd H p (.tup vs))) (.tup ds) (.ref p):=by
 rw[Nw.upd s hp];erw[Is];calc⟨p,vs,Y,b_,h.same (de (s.free hp))⟩
theorem tT{F H:Hp}{d:D}{v:V}(s:aL F H)(h:Is F d v):Is (Nw F H H) d v:=by rw[Nw.refl s];calc h
def qa:D->D->(D->Prop)->Prop
 |.int i,.int j,K=>K (.int (i+j))
 |.lst a,.lst b,K=>↑a+↑b<=1000/\K (.lst (a++b))
 |.tup a,.tup b,K=>(a≠[]/\↑a+↑b<=1000)/\K (.tup (a++b))
 |.str a,.str b,K=>↑a+↑b<=1000/\K (.str (a++b))
 |_,_,_=>False
def oI(f:Int->Int->D):D->D->(D->Prop)->Prop
 |.int i,.int j,K=>K (f i j)
 |_,_,_=>False
def dQ(C:Int->Int->Prop)(f:Int->Int->D):D->D->(D->Prop)->Prop
 |.int i,.int j,K=>C i j/\K (f i j)
 |_,_,_=>False
def fJ:D->D->(D->Prop)->Prop
 |.int i,.int j,K=>mw i j/\K (.int (i*j))
 |.lst a,.int j,K=>(-(2 ^ 63)<=j/\j<2 ^ 63/\↑a*j.toNat<=1000)/\K (.lst (Vv j.toNat a).flatten)
 |_,_,_=>False
section
variable{X:Cx}
theorem vK{f:O->O->Sem O}{g:Int->Int->V}{h:Int->Int->D}(op:eB X f (ml g))(hg:∀F i j,Is F (h i j) (g i j)):fy X f (oI h):=by
 ext pins s σ H x y v u Q I rx ry ⟨F,d,e,K,sub,rd,re,q,md⟩;unfold oI at q;split at q
 .rename_i i j
  exact op pins s σ H x y v u Q I rx ry ⟨i,j,rd,re,md _ _ _ q (λ_ _ e=>e) (hg _ i j)⟩
 .calc q.elim
theorem zI{f:O->O->Sem O}{C:Int->Int->Prop}{g:Int->Int->V}{h:Int->Int->D}(op:eB X f (rI C g))(hg:∀F i j,Is F (h i j) (g i j)):fy X f (dQ C h):=by
 ext pins s σ H x y v u Q I rx ry ⟨F,d,e,K,sub,rd,re,q,md⟩;unfold dQ at q;split at q
 .rename_i i j
  exact op pins s σ H x y v u Q I rx ry ⟨i,j,rd,re,q.1,md _ _ _ q.2 (λ_ _ e=>e) (hg _ i j)⟩
 .calc q.elim
theorem vL:fy X (binaryOp .Add) qa:=by
 ext pins s σ H x y v u Q I rx ry ⟨F,d,e,K,sub,rd,re,q,md⟩;unfold qa at q;split at q
 .rename_i i j
  exact DM pins s σ H x y v u Q I rx ry ⟨i,j,rd,re,md _ _ _ q (λ_ _ e=>e) Y⟩
 .rename_i as bs
  let⟨a,us,rfl,h1,h2⟩:=rd;let⟨b,ws,rfl,h3,h4⟩:=re;refine Ei pins s σ H _ _ v u Q I rx ry ⟨a,b,us,ws,Y,Y,h1,h3,kL (by rw[↑h2,↑h4];calc q.1),λp hp=>md _ _ _ q.2 (de hp) (p_ sub hp (qZ h2 h4))⟩
 .rename_i as bs
  let c5:Is F (.tup as) x:=rd;let h9:Is F (.tup bs) y:=re;erw[Is] at c5 h9;let⟨a,us,rfl,h1,h2⟩:=c5;let⟨b,ws,rfl,h3,h4⟩:=h9;let ne:us≠[]:=λz=>q.1.1 (Zr.mp (by rw[<-↑h2,z];rfl));calc Ms pins s σ H _ _ v u Q I rx ry ⟨a,b,us,ws,Y,Y,bO.of (sub _ _ h1),bO.of (sub _ _ h3),ne,kL (by rw[↑h2,↑h4];calc q.1.2),λz=>?_,λz p hp=>md _ _ _ q.2 (de hp) (zH sub hp (qZ h2 h4))⟩;let:bs=[]:=Zr.mp (by rw[<-↑h4,z];rfl);subst this;calc md _ _ _ q.2 (λ_ _ e=>e) (tT sub ?_);rw[mE];exact rd
 .rename_i as bs
  let c5:x=.str as:=rd;let h9:y=.str bs:=re;subst c5 h9;exact Lx pins s σ H _ _ v u Q I rx ry ⟨as,bs,Y,Y,kL q.1,md _ _ _ q.2 (λ_ _ e=>e) Y⟩
 .calc q.elim
theorem Fs:fy X (binaryOp .Sub) (oI λi j=>.int (i-j)):=vK Lf λ_ _ _=>Y
theorem Ft:fy X (binaryOp .Mult) fJ:=by
 ext pins s σ H x y v u Q I rx ry ⟨F,d,e,K,sub,rd,re,q,md⟩;unfold fJ at q;split at q
 .rename_i i j
  exact Lg pins s σ H x y v u Q I rx ry ⟨i,j,rd,re,q.1,md _ _ _ q.2 (λ_ _ e=>e) Y⟩
 .rename_i as j
  let⟨a,us,rfl,h1,h2⟩:=rd;refine MG pins s σ H _ _ v u Q I rx ry ⟨a,j,us,Y,re,h1,q.1.1,q.1.2.1,kL (by rw[↑h2];calc q.1.2.2),λp hp=>md _ _ _ q.2 (de hp) (p_ sub hp ?_)⟩
  let:∀k:Nat,ah F (Vv k as).flatten (Vv k us).flatten:=λk=>by
   induction k with
   |zero=>exact .nil
   |succ k ih=>rw[Xs,Xs,Yy,Yy];exact qZ h2 ih
  exact this _
 .calc q.elim
theorem Og:fy X (binaryOp .Mod) (dQ (λ_ j=>0<j) λi j=>.int (i%j)):=zI xR λ_ _ _=>Y
theorem Oh:fy X (binaryOp .Pow) (dQ d8 λi j=>.int (i ^ j.toNat)):=zI Lh λ_ _ _=>Y
def oEq:D->D->(D->Prop)->Prop:=λd e K=>dep d<=60/\K (.bl (aI d e))
def jj:D->D->(D->Prop)->Prop:=λd e K=>dep d<=60/\K (.bl (!aI d e))
theorem jI(hu:X.A.units+64<cLine):fy X (compareOp .Eq) oEq:=by
 ext pins s σ H x y v u Q I rx ry ⟨F,d,e,K,sub,rd,re,q,md⟩;calc(zD I 60 q.1 ⋯ (rd.is sub) (re.is sub) rx ry).2 _ _ _ _ ⟨.bl _,H,I,Y,md _ _ _ q.2 (λ_ _ e=>e) Y⟩
theorem oO(hu:X.A.units+64<cLine):fy X (compareOp .NotEq) jj:=by
 ext pins s σ H x y v u Q I rx ry ⟨F,d,e,K,sub,rd,re,q,md⟩;calc Of I q.1 ⋯ (rd.is sub) (re.is sub) rx ry _ _ _ _ ⟨.bl _,H,I,Y,md _ _ _ q.2 (λ_ _ e=>e) Y⟩
def oLt:D->D->(D->Prop)->Prop
 |.int i,.int j,K=>K (.bl (S (i<j)))
 |.tup a,.tup b,K=>match intsOf a,intsOf b with
  |some ns,some ms=>K (.bl (HT.lexLt ns ms))
  |_,_=>False
 |_,_,_=>False
theorem Fu(hu:X.A.units+64<cLine):fy X (compareOp .Lt) oLt:=by
 ext pins s σ H x y v u Q I rx ry ⟨F,d,e,K,sub,rd,re,q,md⟩;unfold oLt at q;split at q
 .rename_i i j
  exact Ll pins s σ H x y v u Q I rx ry ⟨i,j,rd,re,md _ _ _ q (λ_ _ e=>e) Y⟩
 .rename_i as bs
  split at q
  .rename_i ns ms e1 e2
   rw[qX e1] at rd;rw[qX e2] at re;let c5:Is F (.tup (ns.map D.int)) x:=rd;let h9:Is F (.tup (ms.map D.int)) y:=re;erw[Is] at c5 h9;let⟨a,us,rfl,h1,h2⟩:=c5;let⟨b,ws,rfl,h3,h4⟩:=h9;rw[oN h2] at h1;rw[oN h4] at h3;exact Mq ⋯ pins s σ H _ _ v u Q I rx ry ⟨a,b,ns,ms,Y,Y,bO.of (sub _ _ h1),bO.of (sub _ _ h3),md _ _ _ q (λ_ _ e=>e) Y⟩
  .exact q.elim
 .calc q.elim
theorem Fv:fy X (compareOp .LtE) (oI λi j=>.bl (S (i<=j))):=vK Lm λ_ _ _=>Y
theorem Fw:fy X (compareOp .Gt) (oI λi j=>.bl (S (j<i))):=vK Ln λ_ _ _=>Y
theorem Oi:fy X (compareOp .GtE) (oI λi j=>.bl (S (j<=i))):=vK Lo λ_ _ _=>Y
def kQ:D->D->(D->Prop)->Prop
 |.non,.non,K=>K (.bl θ)
 |.bl _,.non,K=>K (.bl ι)
 |.int _,.non,K=>K (.bl ι)
 |.str _,.non,K=>K (.bl ι)
 |.tup _,.non,K=>K (.bl ι)
 |.lst _,.non,K=>K (.bl ι)
 |_,_,_=>False
theorem Oj{F H:Hp}{d e:D}{x y:V}{K:D->Prop}(rd:iL F H d x)(re:iL F H e y)(q:kQ d e K):y=.non/\K (.bl (S (x=.non))):=by
 unfold kQ at q;split at q
 .let:x=.non:=rd;let h2:y=.non:=re;subst this;exact⟨h2,q⟩
 .rename_i b;let:x=.bl b:=rd;let h2:y=.non:=re;subst this;exact⟨h2,q⟩
 .rename_i b;let:x=.int b:=rd;let h2:y=.non:=re;subst this;exact⟨h2,q⟩
 .rename_i b;let:x=.str b:=rd;let h2:y=.non:=re;subst this;exact⟨h2,q⟩
 .rename_i b;let rd:Is F (.tup b) x:=rd;erw[Is] at rd;let⟨a,_,rfl,_⟩:=rd;exact⟨re,q⟩
 .rename_i b;let⟨a,_,rfl,_⟩:=rd;exact⟨re,q⟩
 .calc q.elim
theorem Ol:fy X (compareOp .Is) kQ:=by
 ext pins s σ H x y v u Q I rx ry ⟨F,d,e,K,sub,rd,re,q,md⟩;let⟨h1,h2⟩:=Oj rd re q;calc Lp pins s σ H x y v u Q I rx ry ⟨h1,md _ _ _ h2 (λ_ _ e=>e) Y⟩
def iy(neg:Bool):D->D->(D->Prop)->Prop
 |d,.lst es,K=>bq es<=55/\K (.bl (if neg then !(es.any λe=>aI e d) else es.any λe=>aI e d))
 |d,.tup es,K=>bq es<=55/\K (.bl (if neg then !(es.any λe=>aI e d) else es.any λe=>aI e d))
 |_,_,_=>False
noncomputable def iz(H:Hp)(d:D)(u:O):Bool:=by
 classical calc if ∃e v,Is H e v/\RelV v u/\aI e d=θ then θ else ι
theorem Fy{H:Hp}{d e:D}{v:V}{u:O}(h:Is H e v)(r:RelV v u):iz H d u=aI e d:=by
 unfold iz;split
 .rename_i z
  let⟨e',v',h',r',q⟩:=z;let:v'=v:=r'.inj r;subst this;rw[Is.inj h h'];exact q.symm
 .rename_i z
  cases q:aI e d with
  |false=>rfl
  |true=>calc absurd ⟨e,v,h,r,q⟩ z
theorem tU{H:Hp}{d:D}:∀{es:-D}{vs:-V}{us:-O},ah H es vs->Vals vs us->us.any (iz H d)=es.any λe=>aI e d
 |[],vs,us,h,r=>by erw[ah] at h;subst h;cases r;rfl
 |e::es,vs,us,h,r=>by
  erw[ah] at h;let⟨v,t,rfl,h1,h2⟩:=h
  cases r with
  |cons r1 r2=>rw[YC,YC,Fy h1 r1,tU h2 r2]
theorem tV{pins:aC}{σ:St}{H:Hp}{s:B}(I:Inv X pins σ H s){A:q}(hu:A.units+60<cLine){d:D}{x:V}{w:O}(hd:Is H d x)(rd:RelV x w):∀{es:-D}{vs:-V}{us:-O},bq es<=55->ah H es vs->Vals vs us->∀u∈us,q0D A s u w (iz H d u)
 |[],vs,us,_,h,r=>by erw[ah] at h;subst h;cases r;ext u hu;cases hu
 |e::es,vs,us,hp,h,r=>by
  erw[ah] at h;let⟨v,t,rfl,h1,h2⟩:=h;erw[bq] at hp
  cases r with
  |cons r1 r2 =>
   ext u hu';rcases MN.mp hu' with rfl|hu'
   .rw[Fy h1 r1];exact(zD I 55 ⋯ ⋯ h1 hd r1 rd).1
   .calc tV I hu hd rd ⋯ h2 r2 u hu'
theorem zJ(hu:X.A.units+64<cLine):fy X (compareOp .In) (iy ι):=by
 ext pins s σ H x y v u Q I rx ry ⟨F,d,e,K,sub,rd,re,q,md⟩;unfold iy at q;split at q
 .rename_i es
  let⟨a,vs,rfl,h1,h2⟩:=re;cases ry
  let⟨au,r,p⟩:=dF I h1;let gG:=h2.same sub;calc SeqAt.in_listAt (iz H d) p (λw hw=>tV I (by rw[in1_units];symm) (rd.is sub) rx q.1 gG r w hw⁻¹) ⟨.bl _,H,I,Y,?_⟩;rw[show au.toArray.any (iz H d)=au.any (iz H d) by simp,tU gG r];exact md _ _ _ q.2 (λ_ _ e=>e) Y
 .rename_i es
  let h9:Is F (.tup es) y:=re;erw[Is] at h9;let⟨a,vs,rfl,h1,h2⟩:=h9;cases ry
  let⟨au,r,p⟩:=dG I (sub _ _ h1);let gG:=h2.same sub;calc SeqAt.in_tupleAt (iz H d) p (λw hw=>tV I (by rw[in1_units];symm) (rd.is sub) rx q.1 gG r w hw⁻¹) ⟨.bl _,H,I,Y,?_⟩;rw[show au.toArray.any (iz H d)=au.any (iz H d) by simp,tU gG r];exact md _ _ _ q.2 (λ_ _ e=>e) Y
 .calc q.elim
theorem zK(hu:X.A.units+64<cLine):fy X (compareOp .NotIn) (iy θ):=by
 ext pins s σ H x y v u Q I rx ry ⟨F,d,e,K,sub,rd,re,q,md⟩;unfold iy at q;split at q
 .rename_i es
  let⟨a,vs,rfl,h1,h2⟩:=re;cases ry
  let⟨au,r,p⟩:=dF I h1;let gG:=h2.same sub;calc SeqAt.notIn_listAt (iz H d) p (λw hw=>tV I (by rw[in1_units];symm) (rd.is sub) rx q.1 gG r w hw⁻¹) ⟨.bl _,H,I,Y,?_⟩;rw[show au.toArray.any (iz H d)=au.any (iz H d) by simp,tU gG r];exact md _ _ _ q.2 (λ_ _ e=>e) Y
 .rename_i es
  let h9:Is F (.tup es) y:=re;erw[Is] at h9;let⟨a,vs,rfl,h1,h2⟩:=h9;cases ry
  let⟨au,r,p⟩:=dG I (sub _ _ h1);let gG:=h2.same sub;calc SeqAt.notIn_tupleAt (iz H d) p (λw hw=>tV I (by rw[in1_units];symm) (rd.is sub) rx q.1 gG r w hw⁻¹) ⟨.bl _,H,I,Y,?_⟩;rw[show au.toArray.any (iz H d)=au.any (iz H d) by simp,tU gG r];exact md _ _ _ q.2 (λ_ _ e=>e) Y
 .calc q.elim
def aR:D->D->(D->Prop)->Prop
 |.lst ds,.int i,K=>match dX ds i with
  |some d=>K d
  |none=>False
 |.tup ds,.int i,K=>match dX ds i with
  |some d=>K d
  |none=>False
 |.str z,.int i,K=>↑z<=1000/\match dX z.cps.toList i with
  |some c=>K (.str ⟨#[c]⟩)
  |none=>False
 |_,_,_=>False
theorem FA{F:Hp}{ds:-D}{vs:-V}{i:Int}{d:D}(h:ah F ds vs)(e:dX ds i=U d):∃v,dX vs i=U v/\Is F d v:=by
 unfold dX at e ⊢;rw[↑h]
 cases q:jc ↑ds i with
 |none=>rw[q] at e;cases e
 |some j =>
  rw[q] at e;calc m8 h (show ds[j]?=U d from e)
theorem eF:EZ X aR:=by
 ext value slice pins s σ H x y v u Q I rx ry ⟨F,d,e,K,sub,rd,re,q,md⟩ hs;unfold aR at q;split at q
 .rename_i ds i
  split at q
  .rename_i d' e1
   let⟨a,vs,rfl,h1,h2⟩:=rd;let⟨w,e2,h3⟩:=FA h2 e1;exact D9 value slice pins s σ H _ _ v u Q I rx ry ⟨a,vs,i,w,Y,re,bE.of h1,e2,md _ _ _ q (λ_ _ e=>e) (tT sub h3)⟩ hs
  .exact q.elim
 .rename_i ds i
  split at q
  .rename_i d' e1
   let c5:Is F (.tup ds) x:=rd;erw[Is] at c5;let⟨a,vs,rfl,h1,h2⟩:=c5;let⟨w,e2,h3⟩:=FA h2 e1;exact Mt value slice pins s σ H _ _ v u Q I rx ry ⟨a,vs,i,w,Y,re,bO.of (sub _ _ h1),e2,md _ _ _ q (λ_ _ e=>e) (tT sub h3)⟩ hs
  .exact q.elim
 .rename_i z i
  let⟨hz,q⟩:=q;split at q
  .rename_i c e1
   let c5:x=.str z:=rd;subst c5;exact Mu value slice pins s σ H _ _ v u Q I rx ry ⟨z,i,c,Y,re,kL hz,e1,md _ _ _ q (λ_ _ e=>e) Y⟩ hs
  .exact q.elim
 .calc q.elim
noncomputable def cutD(ds:-D)(lo hi:Option Int):-D:=(ds.drop (HT.bA ↑ds 0 lo)).take (HT.bA ↑ds ↑ds hi-HT.bA ↑ds 0 lo)
theorem FC{F:Hp}{ds:-D}{vs:-V}(h:ah F ds vs)(lo hi:Option Int):ah F (cutD ds lo hi) (di vs lo hi):=by
 unfold cutD di;rw[↑h];calc zG _ (Fl _ h)
abbrev WO:=aH->(Option Int->aH->Prop)->Prop
def vM(f:WO):TO:=fun σ H Q=>∃F ad δ K,SR F ad δ σ H/\f δ K/\∀o δ',K o δ'->∀F' aG H',Ext F ad δ.mu H F' aG δ'.mu H'->SR F' aG δ' σ H'->Q o H'
def gg:WO:=fun δ K=>K Z δ
def j_(f:WE):WO:=fun δ K=>f δ λx δ1=>match x with
 |.p (.int i)=>K (U i) δ1
 |_=>False
theorem Om:PO X Z (vM gg):=λpins s σ H Q I ⟨F,ad,δ,K,S,q,k⟩↦D4 pins s σ H Q I (k _ _ q _ _ _ .refl S)
theorem zL{e:J}{f:WE}(h:JE X e (tD f)):PO X (U e) (vM (j_ f)):=λpins s σ H Q I ⟨F,ad,δ,K,S,q,k⟩↦u3 h pins s σ H Q I ⟨F,ad,δ,_,S,q,λx δ1 h1 v F1 aV H1 E1 S1 V1=>by
 split at h1
 .rename_i i
  exact⟨i,V1,k _ _ h1 _ _ _ E1 S1⟩
 .calc h1.elim⟩
def gJ:D->(D->Prop)->Prop
 |.int i,K=>K (.int (-(i:Int)))
 |_,_=>False
theorem vN{e:J}{f:WE}{pos:y}(he:JE X e (tD f)):JE X (.UnaryOp .USub e pos) (tD (d1 f gJ)) :=
 (Le Lj he).weak fun σ H Q ⟨F,ad,δ,K,S,q,k⟩↦⟨F,ad,δ,_,S,q,λx δ1 h1 v F1 aV H1 E1 S1 V1=>by
  let⟨d,h4,rd⟩:=jB S1 V1 h1;unfold gJ at h4;split at h4
  .rename_i i
   exact⟨i,rd,k _ _ h4 _ _ _ _ E1 S1 Y⟩
  .calc h4.elim⟩
def zM(f g h:WE)(o o':D->D->(D->Prop)->Prop):WE:=fun δ K=>f δ λx δ1=>g δ1 λy δ2=>g7 x δ2 λd=>g7 y δ2 λe=>o d e λz=>match z with
 |.bl true=>h δ2 λw δ3=>g7 y δ3 λe'=>g7 w δ3 λc=>o' e' c λz'=>K (.p z') δ3
 |.bl false=>K (.p (.bl ι)) δ2
 |_=>False
theorem Oo{a b c:J}{f g h:WE}{op pC:CmpOp}{o o':D->D->(D->Prop)->Prop}{pos:Ε}(ho:fy X (compareOp op) o)(c_:fy X (compareOp pC) o')(ha:JE X a (tD f))(hb:JE X b (tD g))(hc:JE X c (tD h))
  (hm:autoParam (lastMarks [op,pC] [b,c]=ι) qz6._auto_1):JE X (.Compare a [op,pC] [b,c] pos) (tD (zM f g h o o')) :=
 (Lw ho c_ ha hb hc hm).weak fun σ H Q ⟨F,ad,δ,K,S,q,k⟩=>by
  calc⟨F,ad,δ,_,S,q,λx δ1 h1 v1 F1 aV H1 E1 S1 V1=>⟨F1,aV,δ1,_,S1,h1,λy δ2 h2 v2 F2 cq H2 E2 S2 V2=>?_⟩⟩;let⟨d,h3,rd⟩:=jB S2 (V1.ext E2) h2;let⟨e,h4,re⟩:=jB S2 V2 h3;calc⟨F2,d,e,_,S2.sub,rd,re,h4,λz v H' hz sm is=>?_⟩;let S3:=S2.al sm;let E3:=Ext.al S2 sm;split at hz
  .refine⟨θ,is,?_⟩
   rw[Wm Y];calc⟨_,cq,δ2,_,S3,hz,λw δ4 h5 v4 F4 vC H4 E4 S4 V4=>?_⟩;let⟨d',h6,vA⟩:=jB S4 ((V2.ext E3).ext E4) h5;let⟨e',h7,Oq⟩:=jB S4 V4 h6;exact⟨F4,d',e',_,S4.sub,vA,Oq,h7,λz v H' hz sm is=>k _ _ hz _ _ _ _ ((((E1.trans E2).trans E3).trans E4).trans (Ext.al S4 sm)) (S4.al sm) is⟩
  .refine⟨ι,is,?_⟩
   rw[Vw WQ];exact k _ _ hz _ _ _ _ ((E1.trans E2).trans E3) S3 Y
  .calc hz.elim
end
noncomputable def sortI(ns:-Int):-Int:=ns.mergeSort λa b=>S (a<=b)
theorem sortI_perm(ns:-Int):(sortI ns).Perm ns:=List.mergeSort_perm ns _
theorem zN(ns:-Int):(sortI ns).Pairwise (· <= ·):=by
 let:=List.pairwise_mergeSort (le:=λa b:Int=>S (a<=b)) (λa b c h1 h2=>by simp at *;symm) (λa b=>by simp;symm) ns;calc this.imp λh=>by simpa using h
theorem FD:∀{as bs:-Int},as.Perm bs->as.Pairwise (· <= ·)->bs.Pairwise (· <= ·)->as=bs
 |[],bs,p,_,_=>p.nil_eq
 |a::as,[],p,_,_=>absurd p.length_eq (by simp)
 |a::as,b::bs,p,s,t=>by
  let e:a=b:=by
   let h1:a<=b:=by
    let hb:b∈a::as:=p.mem_iff.mpr (Wo ..);rcases MN.mp hb with h|h
    .omega
    .exact (Ys.mp s).1 b h
   let h2:b<=a:=by
    let ha:a∈b::bs:=p.mem_iff.mp (Wo ..);rcases MN.mp ha with h|h
    .omega
    .exact (Ys.mp t).1 a h
   symm
  subst e;rw[FD (List.perm_cons a |>.mp p) (Ys.mp s).2 (Ys.mp t).2]
theorem zO{as bs:-Int}(p:as.Perm bs)(s:as.Pairwise (· <= ·)):as=sortI bs:=FD (p.trans (sortI_perm bs).symm) s (zN bs)
theorem FE(ns:-Int):↑(sortI ns)=↑ns:=(sortI_perm ns).length_eq
def bY:-D->(D->Prop)->Prop
 |[.lst ds],K=>K (.int ↑ds)
 |[.tup ds],K=>K (.int ↑ds)
 |[.str z],K=>↑z<=1000/\K (.int ↑z)
 |_,_=>False
def tW:-D->(D->Prop)->Prop
 |[.lst ds],K=>K (.tup ds)
 |[.tup ds],K=>K (.tup ds)
 |_,_=>False
def oP:-D->(D->Prop)->Prop
 |[.lst ds],K=>match intsOf ds with
  |some ns=>↑ns<64/\K (.lst ((sortI ns).map D.int))
  |none=>False
 |_,_=>False
def jJ:-D->(D->Prop)->Prop
 |[.lst ds],K=>match intsOf ds with
  |some ns=>((∀x∈ns,0<=x/\x<=1000000000)/\↑ns<=1000)/\K (.int ns.sum)
  |none=>False
 |_,_=>False
noncomputable def q9:-D->Option (-Bool)
 |[]=>U []
 |.bl b::r=>match q9 r with
  |some bs=>U (b::bs)
  |none=>Z
 |_=>Z
theorem FF:∀bs:-Bool,q9 (bs.map D.bl)=U bs
 |[]=>Y
 |n::r=>by show(match q9 (r.map D.bl) with|some ns=>U (n::ns)|none=>Z)=_;rw[FF r]
theorem FG:∀{ds:-D}{bs:-Bool},q9 ds=U bs->ds=bs.map D.bl
 |[],ns,h=>by cases h;rfl
 |.bl i::r,ns,h=>by
  unfold q9 at h;split at h
  .rename_i ms e;cases h;rw[Wx,FG e]
  .cases h
 |.non::r,ns,h=>by cases h
 |.int _::r,ns,h=>by cases h
 |.str _::r,ns,h=>by cases h
 |.tup _::r,ns,h=>by cases h
 |.lst _::r,ns,h=>by cases h
theorem FH{F:Hp}:∀{bs:-Bool}{vs:-V},ah F (bs.map D.bl) vs->vs=bs.map V.bl
 |[],vs,h=>by erw[Yp,ah] at h;exact h
 |n::r,vs,h=>by
  erw[Wx,ah] at h;let⟨v,t,rfl,h1,h2⟩:=h;let h1:v=.bl n:=h1;rw[FH h2,h1];rfl
def m9:-D->(D->Prop)->Prop
 |[.lst ds],K=>match q9 ds with
  |some bs=>K (.bl (bs.all id))
  |none=>False
 |_,_=>False
def q_:-D->(D->Prop)->Prop
 |[.int i,.int j],K=>K (.int (min i j))
 |_,_=>False
def vO:-D->(D->Prop)->Prop
 |[.int i,.int j],K=>K (.int (max i j))
 |_,_=>False
section
variable{X:Cx}
theorem c5{F H:Hp}{d:D}{xs:-V}(h:iM F H [d] xs):∃v,xs=[v]/\iL F H d v:=by
 let⟨v,r,rfl,h1,h2⟩:=h;let h2:r=[]:=h2;subst h2;calc⟨v,Y,h1⟩
theorem FI{F H:Hp}{d e:D}{xs:-V}(h:iM F H [d,e] xs):∃v w,xs=[v,w]/\iL F H d v/\iL F H e w:=by
 let⟨v,r,rfl,h1,h2⟩:=h;let⟨w,rfl,h3⟩:=c5 h2;calc⟨v,w,Y,h1,h3⟩
theorem rf:cU X (.builtin "len") bY:=by
 ext pins s σ H xs us Q I r ⟨F,ds,K,sub,rd,q,md⟩;unfold bY at q;split at q
 .let⟨v,rfl,a,vs,rfl,h1,h2⟩:=c5 rd
  exact Ea pins s σ H _ us Q I r ⟨a,vs,Y,.inl (bE.of h1),by rw[↑h2];calc md _ _ _ q (λ_ _ e=>e) Y⟩
 .rename_i es
  let⟨v,rfl,h⟩:=c5 rd;let h:Is F (.tup es) v:=h;erw[Is] at h;let⟨a,vs,rfl,h1,h2⟩:=h;exact Ea pins s σ H _ us Q I r ⟨a,vs,Y,.inr (bO.of (sub _ _ h1)),by rw[↑h2];calc md _ _ _ q (λ_ _ e=>e) Y⟩
 .rename_i z
  let⟨v,rfl,h⟩:=c5 rd;let h:v=.str z:=h;subst h;exact Mz pins s σ H _ us Q I r ⟨z,Y,kL q.1,md _ _ _ q.2 (λ_ _ e=>e) Y⟩
 .calc q.elim
theorem Ot:cU X (.type "tuple") tW:=by
 ext pins s σ H xs us Q I r ⟨F,ds,K,sub,rd,q,md⟩;unfold tW at q;split at q
 .let⟨v,rfl,a,vs,rfl,h1,h2⟩:=c5 rd
  exact Eb pins s σ H _ us Q I r ⟨a,vs,Y,.inl ⟨bE.of h1,λl hl=>md _ _ _ q (de hl) (zH sub hl h2)⟩⟩
 .rename_i es
  let⟨v,rfl,h⟩:=c5 rd;let h0:Is F (.tup es) v:=h;let h:Is F (.tup es) v:=h;erw[Is] at h;let⟨a,vs,rfl,h1,h2⟩:=h;exact Eb pins s σ H _ us Q I r ⟨a,vs,Y,.inr ⟨bO.of (sub _ _ h1),md _ _ _ q (λ_ _ e=>e) (tT sub h0)⟩⟩
 .calc q.elim
theorem FJ:cU X (.builtin "sorted") oP:=by
 ext pins s σ H xs us Q I r ⟨F,ds,K,sub,rd,q,md⟩;unfold oP at q;split at q
 .rename_i es
  split at q
  .rename_i ns e
   let⟨v,rfl,a,vs,rfl,h1,h2⟩:=c5 rd;rw[qX e] at h2;rw[oN h2] at h1;calc EV pins s σ H _ us Q I r ⟨a,ns,Y,bE.of h1,q.1,λl bx pm pw hl=>?_⟩;rw[zO pm pw];exact md _ _ _ q.2 (de hl) (p_ sub hl qY)
  .exact q.elim
 .calc q.elim
theorem Ou(hc:X.calm=θ):cU X (.builtin "sum") jJ:=by
 ext pins s σ H xs us Q I r ⟨F,ds,K,sub,rd,q,md⟩;unfold jJ at q;split at q
 .rename_i es
  split at q
  .rename_i ns e
   let⟨v,rfl,a,vs,rfl,h1,h2⟩:=c5 rd;rw[qX e] at h2;rw[oN h2] at h1;exact NJ hc pins s σ H _ us Q I r ⟨a,ns,Y,bE.of h1,q.1.1,q.1.2,md _ _ _ q.2 (λ_ _ e=>e) Y⟩
  .exact q.elim
 .calc q.elim
theorem Ov(hc:X.calm=θ):cU X (.builtin "all") m9:=by
 ext pins s σ H xs us Q I r ⟨F,ds,K,sub,rd,q,md⟩;unfold m9 at q;split at q
 .rename_i es
  split at q
  .rename_i bs e
   let⟨v,rfl,a,vs,rfl,h1,h2⟩:=c5 rd;rw[FG e] at h2;rw[FH h2] at h1;exact ND hc pins s σ H _ us Q I r ⟨a,bs,Y,bE.of h1,md _ _ _ q (λ_ _ e=>e) Y⟩
  .exact q.elim
 .calc q.elim
theorem Ox(hc:X.calm=θ):cU X (.builtin "min") q_:=by
 ext pins s σ H xs us Q I r ⟨F,ds,K,sub,rd,q,md⟩;unfold q_ at q;split at q
 .rename_i i j
  let⟨v,w,rfl,h1,h2⟩:=FI rd;let h1:v=.int i:=h1;let h2:w=.int j:=h2;subst h1 h2;calc Lz hc pins s σ H _ us Q I r ⟨i,j,Y,?_⟩;let:(if j<i then j else i)=min i j:=by split<;>symm
  rw[this];exact md _ _ _ q (λ_ _ e=>e) Y
 .calc q.elim
theorem Oy(hc:X.calm=θ):cU X (.builtin "max") vO:=by
 ext pins s σ H xs us Q I r ⟨F,ds,K,sub,rd,q,md⟩;unfold vO at q;split at q
 .rename_i i j
  let⟨v,w,rfl,h1,h2⟩:=FI rd;let h1:v=.int i:=h1;let h2:w=.int j:=h2;subst h1 h2;calc Ly hc pins s σ H _ us Q I r ⟨i,j,Y,?_⟩;let:(if j>i then j else i)=max i j:=by split<;>symm
  rw[this];exact md _ _ _ q (λ_ _ e=>e) Y
 .calc q.elim
def vP(fa:WA):WE:=fun δ K=>fa δ λxs δ1=>match xs with
 |[.p (.int j)]=>(0<=j/\j<=1000)/\K (.p (.lst (cG 0 j.toNat))) δ1
 |_=>False
theorem m_(n:Nat):cG 0 n=(bp n).map D.int:=by
 unfold cG bp;rw[WC];calc XC λi _=>?_;show D.int (0+(i:Int))=D.int (i:Int);rw[q0J]
theorem Oz{a:J}{fa:WA}{p1 p2 q1 q2:y}(hc:X.calm=θ)(zP:Gl X "list")(hl:X.mg "list" = Z)(zQ:bootBuiltins "list" = U (.type "list"))(qb:Gl X "range")(hr:X.mg "range" = Z)(qc:bootBuiltins "range" = U (.type "range"))(ha:JA X [a] (b8 fa))
  (he:‹starEach [a] X.env=[(ι,eval a X.env)]›) (zR:‹starEach [.Call (.Name "range" p2) [a] [] q2] X.env=[(ι,eval (.Call (.Name "range" p2) [a] [] q2) X.env)]›):JE X (.Call (.Name "list" p1) [.Call (.Name "range" p2) [a] [] q2] [] q1) (tD (vP fa)) :=
 (pG (NI hc) zP hl zQ (mG (pG ER qb hr qc ha (he:=he)) cK) (he:=zR)).weak fun σ H Q ⟨F,ad,δ,K,S,q,k⟩=>⟨F,ad,δ,_,S,q,λxs δ1 h1 vs F1 aV H1 E1 S1 V1=>by
  split at h1
  .rename_i j
   let⟨v,r,e,W1,W2⟩:=V1;let W2:r=[]:=W2;let W1:v=.int j:=W1;subst W2 W1 e;calc⟨j,Y,λrr zS=>⟨rr,j.toNat,Y,by rw[b_,Int.toNat_of_nonneg h1.1.1],⋯,λl hl=>?_⟩⟩;let s1:aL H1 (upd H1 rr (.rng 0 j)):=de zS;let S2:=S1.al s1;let E2:=Ext.al S1 s1;calc k _ _ h1.2 _ _ _ _ ((E1.trans E2).trans (Ext.al S2 (de hl))) (S2.al (de hl)) ?_;let:Is (Nw (Nw F1 H1 (upd H1 rr (.rng 0 j))) (upd H1 rr (.rng 0 j)) (upd (upd H1 rr (.rng 0 j)) l (.lst ((bp j.toNat).map V.int)))) (.lst ((bp j.toNat).map D.int)) (.ref l):=p_ S2.sub hl qY;rw[m_];exact this
  .calc h1.elim⟩
def cO(T:String):D->(D->Prop)->Prop:=λd K=>K (.bl (bf (cF d) T))
theorem iA{T:String}{t:R}{a:J}{f:WE}{p p2 pos:y}(hk:∀d:D,Xp X.K (.type (cF d)) (.type T)=U (bf (cF d) T))(hg:Gl X "isinstance")(hm:X.mg "isinstance" = Z)(OA:Gl X t)(OB:X.mg t=Z)(OC:bootBuiltins t=U (.type T))(ha:JE X a (tD f))
  (sS:t≠"__name__" := by decide) (l6: ~~~(bV t)) (he:‹starEach [a,.Name t p2] X.env=(ι,eval a X.env)::starEach [.Name t p2] X.env›):JE X (.Call (.Name "isinstance" p) [a,.Name t p2] [] pos) (tD (d1 f (cO T))) :=
 (uZ Nd hg hm PyProof.Rows.boot_isinstance (jw ha (pR (Kv OA OB OC (v:=.ty T) Y sS l6) cK) he) (he:=he)).weak fun σ H Q ⟨F,ad,δ,K,S,q,k⟩↦⟨F,ad,δ,_,S,q,λx δ1 h1 v F1 aV H1 E1 S1 V1=>by
  let⟨d,h2,rd⟩:=jB S1 V1 h1
  calc⟨v,.ty T,.type T,.type (cF d),_,Y,Y,Is.ty (rd.is S1.sub),hk d,k _ _ h2 _ _ _ _ E1 S1 Y⟩⟩
theorem zT{K:El}:∀d:D,Xp K (.type (cF d)) (.type "int")=U (bf (cF d) "int"):=λd=>Nh _ (sU d)
theorem tX{K:El}:∀d:D,Xp K (.type (cF d)) (.type "bool")=U (bf (cF d) "bool"):=λd=>Ng _ (sU d)
theorem FK{K:El}:∀d:D,Xp K (.type (cF d)) (.type "str")=U (bf (cF d) "str"):=λd=>Ni _ (sU d)
theorem zU{K:El}:∀d:D,Xp K (.type (cF d)) (.type "tuple")=U (bf (cF d) "tuple"):=λd=>kit_tuple _ (sU d)
theorem zV{K:El}:∀d:D,Xp K (.type (cF d)) (.type "list")=U (bf (cF d) "list"):=λd=>Nj _ (sU d)
def fK(x:DV)(δ:aH)(K:Nat->(-D->OV)->-D->Prop):Prop:=match x with
 |.o k=>match δ.mu[k]? with
  |some (some (.lst ds))=>K k OV.lst ds
  |some (some (.al a ds))=>K k (OV.al a) ds
  |_=>False
 |_=>False
theorem oQ{F H:Hp}{ad:-M}{δ:aH}{σ:St}{x:DV}{v:V}{K:Nat->(-D->OV)->-D->Prop}(S:SR F ad δ σ H)(V1:dB F ad x v)(h:fK x δ K):∃k B ds a vs,x=.o k/\K k B ds/\v=.ref a/\ad[k]?=U a/\H a=U (.lst vs)/\ah F ds vs/\δ.mu[k]?=U (U (B ds))/\∀{F' es us},ah F' es us->eC F' a (B es) (.lst us):=by
 unfold fK at h;split at h
 .rename_i k
  split at h
  .rename_i ds e
   let⟨a,e1,rfl⟩:=V1;let⟨a',o,e2,e3,vs,rfl,h4⟩:=S.mu k _ e;rw[e1] at e2;cases e2;exact⟨k,_,ds,a,vs,Y,h,Y,e1,e3,h4,e,λi=>⟨_,Y,i⟩⟩
  .rename_i b ds e
   let⟨a,e1,rfl⟩:=V1;let⟨a',o,e2,e3,z,vs,rfl,h4⟩:=S.mu k _ e;rw[e1] at e2;cases e2;exact⟨k,_,ds,a,vs,Y,h,Y,e1,e3,h4,e,λi=>⟨z,_,Y,i⟩⟩
  .exact h.elim
 .calc h.elim
def h_(f:WE)(fa:WA):WE:=fun δ K=>f δ λx δ1=>fK x δ1 λ_ _ _=>fa δ1 λys δ2=>match ys with
 |[y]=>mK y δ2 λd δ3=>fK x δ3 λk B ds=>↑ds<1000/\K (.p .non) ⟨δ3.sl,δ3.mu.set k (U (B (ds++[d])))⟩
 |_=>False
theorem vQ{f:WE}{fa:WA}{K0:El}:∀σ H Q,tD (h_ f fa) σ H Q->u4 K0 "list" Ef (tD f) (b8 fa) σ H Q:=fun σ H Q ⟨F,ad,δ,K,S,q,k⟩=>⟨F,ad,δ,_,S,q,λx δ1 h1 v F1 aV H1 E1 S1 V1=>by
 let⟨k0,B0,FL,a,vs,rfl,h2,rfl,e1,e2,i1,m1,nh⟩:=oQ S1 V1 h1;refine⟨.inl ⟨Y,vs,bE.of e2⟩,F1,aV,δ1,_,S1,h2,λys δ2 h3 us F2 cq H2 E2 S2 V2=>?_⟩
 match ys,h3,V2 with
 |[y],g3,⟨u,r,e,W1,W2⟩ =>
  let W3:r=[]:=W2;subst W3 e;let⟨d,δ3,F3,h4,E3,S3,i3⟩:=tu S2 W1 g3;let⟨k1,B,ds,b,ws,ek,h5,eb,e3,e4,i4,m4,tY⟩:=oQ (x:=.o k0) S3 ((V1.ext E2).ext E3) h4;cases ek
  let tZ:a=b:=by injection eb
  subst tZ;let oi:=tY (F':=F3) (i4.snoc i3);calc⟨a,ws,u,Y,Y,e4,qM (by rw[↑i4];symm),?_⟩;exact k _ _ h5.2 _ _ _ _ (((E1.trans E2).trans E3).trans (Ext.put S3 m4 e3)) (S3.put m4 e3 oi) Y
 |[],g3,_=>exact g3.elim
 |_::_::_,g3,_=>calc g3.elim⟩
def qd(f:WE)(fa:WA):WE:=fun δ K=>f δ λx δ1=>fK x δ1 λ_ _ _=>fa δ1 λys δ2=>match ys with
 |[.p (.lst es)]=>fK x δ2 λk B ds=>↑ds+↑es<=1000/\K (.p .non) ⟨δ2.sl,δ2.mu.set k (U (B (ds++es)))⟩
 |_=>False
theorem OD{f:WE}{fa:WA}{K0:El}:∀σ H Q,tD (qd f fa) σ H Q->u4 K0 "list" Eg (tD f) (b8 fa) σ H Q:=fun σ H Q ⟨F,ad,δ,K,S,q,k⟩=>⟨F,ad,δ,_,S,q,λx δ1 h1 v F1 aV H1 E1 S1 V1=>by
 let⟨k0,B0,FL,a,vs,rfl,h2,rfl,e1,e2,i1,m1,nh⟩:=oQ S1 V1 h1;calc⟨.inl ⟨Y,vs,bE.of e2⟩,F1,aV,δ1,_,S1,h2,λys δ2 h3 us F2 cq H2 E2 S2 V2=>?_⟩;split at h3
 .rename_i es
  let⟨u,r,e,W1,W2⟩:=V2;let W3:r=[]:=W2;let W4:Is F2 (.lst es) u:=W1;erw[Is] at W4;let⟨b,zs,rfl,z1,z2⟩:=W4;subst W3 e;let⟨k1,B,ds,b',ws,ek,h5,eb,e3,e4,i4,m4,tY⟩:=oQ (x:=.o k0) S2 (V1.ext E2) h3;cases ek
  let tZ:a=b':=by injection eb
  subst tZ;let oi:=tY (F':=F2) (qZ i4 z2);calc⟨a,b,ws,zs,Y,Y,e4,S2.sub _ _ z1,kL (by rw[↑i4,↑z2];calc h5.1),?_⟩;exact k _ _ h5.2 _ _ _ _ ((E1.trans E2).trans (Ext.put S2 m4 e3)) (S2.put m4 e3 oi) Y
 .calc h3.elim⟩
def zW(f:WE)(fa:WA):WE:=fun δ K=>f δ λx δ1=>fK x δ1 λ_ _ _=>fa δ1 λys δ2=>match ys with
 |[.p (.int i)]=>fK x δ2 λk B ds=>(-(2 ^ 63)<=i/\i<2 ^ 63)/\match seqIndex? i ↑ds with
  |some j=>match ds[j]? with
   |some d=>K (.p d) ⟨δ2.sl,δ2.mu.set k (U (B (ds.eraseIdx j)))⟩
   |none=>False
  |none=>False
 |_=>False
theorem OE{f:WE}{fa:WA}{K0:El}:∀σ H Q,tD (zW f fa) σ H Q->u4 K0 "list" Eh (tD f) (b8 fa) σ H Q:=fun σ H Q ⟨F,ad,δ,K,S,q,k⟩=>⟨F,ad,δ,_,S,q,λx δ1 h1 v F1 aV H1 E1 S1 V1=>by
 let⟨k0,B0,FL,a,vs,rfl,h2,rfl,e1,e2,i1,m1,nh⟩:=oQ S1 V1 h1;calc⟨.inl ⟨Y,vs,bE.of e2⟩,F1,aV,δ1,_,S1,h2,λys δ2 h3 us F2 cq H2 E2 S2 V2=>?_⟩;split at h3
 .rename_i i
  let⟨u,r,e,W1,W2⟩:=V2;let W3:r=[]:=W2;let W4:u=.int i:=W1;subst W3 W4 e;let⟨k1,B,ds,b',ws,ek,⟨h5,h6⟩,eb,e3,e4,i4,m4,tY⟩:=oQ (x:=.o k0) S2 (V1.ext E2) h3;cases ek
  let tZ:a=b':=by injection eb
  subst tZ;split at h6
  .rename_i j hj
   split at h6
   .rename_i d hd
    let⟨w,g1,g2⟩:=m8 i4 hd;let oi:=tY (F':=F2) (Fp j i4);calc⟨a,ws,i,j,w,Y,Y,e4,h5.1,h5.2,by rw[↑i4];calc hj,g1,?_⟩;exact k _ _ h6 _ _ _ _ ((E1.trans E2).trans (Ext.put S2 m4 e3)) (S2.put m4 e3 oi) g2
   .exact h6.elim
  .exact h6.elim
 .calc h3.elim⟩
def qe(f:WE):WE:=fun δ K=>f δ λx δ1=>fK x δ1 λk B ds=>match ds[↑ds-1]? with
 |some d=>K (.p d) ⟨δ1.sl,δ1.mu.set k (U (B ds.dropLast))⟩
 |none=>False
theorem OF{F:Hp}{ds:-D}{vs:-V}(h:ah F ds vs):ah F ds.dropLast vs.dropLast:=by
 rw[q00,q00,↑h];calc zG _ h
theorem OG{f:WE}{K0:El}:∀σ H Q,tD (qe f) σ H Q->sF K0 "list" sI (tD f) σ H Q:=fun σ H Q ⟨F,ad,δ,K,S,q,k⟩=>⟨F,ad,δ,_,S,q,λx δ1 h1 v F1 aV H1 E1 S1 V1=>by
 let⟨k0,B,ds,a,vs,rfl,h2,rfl,e1,e2,i1,m1,nh⟩:=oQ S1 V1 h1;calc⟨.inl ⟨Y,vs,bE.of e2⟩,?_⟩;split at h2
 .rename_i d hd
  let⟨w,g1,g2⟩:=m8 i1 hd;let oi:=nh (F':=F1) (OF i1);calc⟨a,vs,w,Y,Y,e2,by rw[↑i1];calc g1,?_⟩;exact k _ _ h2 _ _ _ _ (E1.trans (Ext.put S1 m1 e1)) (S1.put m1 e1 oi) g2
 .calc h2.elim⟩
def qf(f fo fi:WE):WS:=λK δ=>f δ λx δ1=>fo δ1 λo δ2=>fi δ2 λi δ3=>mK x δ3 λd δ4=>fK o δ4 λk B ds=>match i with
 |.p (.int j)=>match jc ↑ds j with
  |some m=>K.nx ⟨δ4.sl,δ4.mu.set k (U (B (ds.set m d)))⟩
  |none=>False
 |_=>False
theorem OH[kM]{f fo fi:WE}:∀D σ H,dZ (qf f fo fi) D σ H->kA (tD f) (r9 (tD fo) (tD fi) D_) D σ H:=λD σ H ⟨F,ad,δ,K,S,q,k⟩=>⟨F,ad,δ,_,S,q,λx δ1 h1 v F1 aV H1 E1 S1 V1=>⟨F1,aV,δ1,_,S1,h1,λo δ2 h2 ov F2 cq H2 E2 S2 V2=>⟨F2,cq,δ2,_,S2,h2,λi δ3 h3 iv F3 qT H3 E3 S3 V3=>by
 let⟨d,δ4,F4,h4,E4,S4,i4⟩:=tu S3 ((V1.ext E2).ext E3) h3;let⟨k0,B,ds,a,vs,rfl,h5,rfl,e1,e2,i1,m1,nh⟩:=oQ S4 ((V2.ext E3).ext E4) h4;split at h5
 .rename_i j
  split at h5
  .rename_i m hm
   let V3:iv=.int j:=V3;subst V3;let oi:=nh (F':=F4) (Fm m i1 i4);calc⟨a,vs,j,m,Y,Y,e2,by rw[↑i1];calc hm,?_⟩;exact k.nx _ h5 _ _ _ _ ((((E1.trans E2).trans E3).trans E4).trans (Ext.put S4 m1 e1)) (S4.put m1 e1 oi)
  .exact h5.elim
 .calc h5.elim⟩⟩⟩
end
end L2
namespace L2
open PySem PySem.Spec PyProof.Rows PySem.W
abbrev LK:=-Int
def kle(a b:LK):Prop:=HT.lexLt b a=ι
theorem vR:∀a:LK,HT.lexLt a a=ι
 |[]=>Y
 |x::r=>by rw[HT.oB,Wm Y];calc vR r
theorem vS:∀{a b:LK},HT.lexLt a b=ι->HT.lexLt b a=ι->a=b
 |[],[],_,_=>Y
 |[],_::_,h,_=>by cases h
 |_::_,[],_,h=>by cases h
 |x::r,y::s,h,q=>by
  rw[HT.oB] at h q
  by_cases c:x=y
  .subst c
   rw[Wm Y] at h q;rw[vS h q]
  .rw[Vw c] at h
   rw[Vw (λz=>c z.symm)] at q;simp at h q;symm
theorem zX:∀{a b c:LK},HT.lexLt a b=θ->HT.lexLt b c=θ->HT.lexLt a c=θ
 |[],[],_,h,_=>by cases h
 |[],_::_,[],_,q=>by cases q
 |[],_::_,_::_,_,_=>Y
 |_::_,[],_,h,_=>by cases h
 |_::_,_::_,[],_,q=>by cases q
 |x::r,y::s,z::t,h,q=>by
  rw[HT.oB] at h q ⊢
  by_cases c1:x=y
  .subst c1
   rw[Wm Y] at h
   by_cases c2:x=z
   .subst c2
    rw[Wm Y] at q ⊢;exact zX h q
   .rw[Vw c2] at q ⊢;exact q
  .rw[Vw c1] at h
   by_cases c2:y=z
   .subst c2
    rw[Vw c1];exact h
   .rw[Vw c2] at q
    let h1:x<y:=by simpa using h
    let h2:y<z:=by simpa using q
    rw[Vw ⋯];simp;symm
theorem kle_refl(a:LK):kle a a:=vR a
theorem vT{a b:LK}(h:HT.lexLt a b=θ):kle a b:=by
 unfold kle
 cases q:HT.lexLt b a with
 |false=>rfl
 |true=>let:=zX h q;rw[vR] at this;cases this
theorem kle_trans{a b c:LK}(h1:kle a b)(h2:kle b c):kle a c:=by
 unfold kle at *
 cases q:HT.lexLt c a with
 |false=>rfl
 |true =>
  cases q2:HT.lexLt a b with
  |true=>let:=zX q q2;rw[h2] at this;cases this
  |false =>
   let e:=vS q2 h1;subst e;rw[h2] at q;cases q
theorem FN{a b:LK}(h1:kle a b)(h2:kle b a):a=b:=vS h2 h1
section
variable{n:Nat}{k:Nat->LK}{I:B->Prop}{cmp:Nat->Nat->(Bool->B->Prop)->B->Prop}
def oR(n:Nat)(k:Nat->LK)(I:B->Prop)(cmp:Nat->Nat->(Bool->B->Prop)->B->Prop):Prop :=
 ∀(i j:Nat)(C:Bool->B->Prop)(s:B),i<n->j<n->I s->(∀s',I s'->C (HT.lexLt (k i) (k j)) s')->cmp i j C s
noncomputable def KA(k:Nat->LK)(p:Array Nat)(i:Nat):LK:=k (p.getD i 0)
structure c6(n:Nat)(p:Array Nat):Prop where
 perm:p.Perm (WL n).toArray
theorem c6.size{p:Array Nat}(h:c6 n p):p.size=n:=by let:=h.perm.size_eq;simpa using this
theorem c6.lt{p:Array Nat}(h:c6 n p){i:Nat}(hi:i<n):p.getD i 0<n:=by
 let hs:=h.size;let e:p.getD i 0=p[i]:=by simp[q22,hs,hi]
 rw[e];let:p[i]∈(WL n).toArray:=(h.perm.mem_iff).mp (Array.getElem_mem _);simpa using this
theorem t6{p q:Array Nat}{i j:Nat}(h:p[i]?=q[j]?):p.getD i 0=q.getD j 0:=by
 rw[Xu,Xu,h]
theorem vU{p:Array Nat}{i j:Nat}(hj:j<=p.size)(t:Nat):KA k (kas_rev p i j) t=if i<=t/\t<j then KA k p (i+j-1-t) else KA k p t:=by
 let e:=getElem?_mirror_all (xs:=p) (i:=i) hj t;unfold KA kas_rev
 by_cases c:i<=t/\t<j
 .rw[Wm c] at e ⊢;rw[t6 e]
 .rw[Vw c] at e ⊢;rw[t6 e]
theorem OI{p:Array Nat}{src d:Nat}(hs:src<p.size)(hd:d<=src)(t:Nat):
  KA k (bubble p src d) t=if t=src-d then KA k p src else if src-d<t/\t<=src then KA k p (t-1) else KA k p t:=by
 let e:=getElem?_bubble hs d hd t;unfold KA
 by_cases c:t=src-d
 .rw[Wm c] at e ⊢;rw[t6 e]
 .rw[Vw c] at e ⊢
  by_cases c2:src-d<t/\t<=src
  .rw[Wm c2] at e ⊢;rw[t6 e]
  .rw[Vw c2] at e ⊢;rw[t6 e]
def Up(k:Nat->LK)(p:Array Nat)(m:Nat):Prop:=∀i j,i<=j->j<m->kle (KA k p i) (KA k p j)
def Dn(k:Nat->LK)(p:Array Nat)(m:Nat):Prop:=∀i j,i<=j->j<m->kle (KA k p j) (KA k p i)
theorem Up.snoc{p:Array Nat}{m:Nat}(h:Up k p m)(hm:1<=m)(q:kle (KA k p (m-1)) (KA k p m)):Up k p (m+1):=λi j ib hj=>by
 by_cases c:j<m
 .exact h i j ib c
 .let e:j=m:=by symm
  subst e
  by_cases c2:i=j
  .subst c2;exact kle_refl _
  .calc kle_trans (h i (j-1) ⋯ ⋯) q
theorem Dn.snoc{p:Array Nat}{m:Nat}(h:Dn k p m)(hm:1<=m)(q:kle (KA k p m) (KA k p (m-1))):Dn k p (m+1):=λi j ib hj=>by
 by_cases c:j<m
 .exact h i j ib c
 .let e:j=m:=by symm
  subst e
  by_cases c2:i=j
  .subst c2;exact kle_refl _
  .calc kle_trans q (h i (j-1) ⋯ ⋯)
theorem Up.one{p:Array Nat}:Up k p 1:=λi j ib hj=>by
 let:i=j:=by symm
 subst this;calc kle_refl _
theorem Dn.one{p:Array Nat}:Dn k p 1:=λi j ib hj=>by
 let:i=j:=by symm
 subst this;calc kle_refl _
theorem c6.rev{p:Array Nat}(h:c6 n p)(i j:Nat):c6 n (kas_rev p i j):=⟨(mirror_perm _ _ _ _).trans h.perm⟩
theorem c6.OJ{p:Array Nat}(h:c6 n p)(i j:Nat):c6 n (bubble p i j):=⟨(bubble_perm _ _ _).trans h.perm⟩
theorem FO(hc:oR n k I cmp){p:Array Nat}(hp:c6 n p):∀(f m:Nat)(s:B)(Q:Nat->B->Prop),1<=m->m+f=n->Up k p m->I s →
  (∀m' s',m<=m'->m'<=n->Up k p m'->I s'->Q m' s')->(kas_asc p f m).kasWp cmp Q s
 |0,m,s,Q,h1,h2,up,hi,fin=>fin m s (Ek _) ⋯ up hi
 |f+1,m,s,Q,h1,h2,up,hi,fin=>by
  refine hc _ _ _ s (hp.lt ⋯) (hp.lt ⋯) hi λs' eV=>?_
  cases q:HT.lexLt (k (p.getD m 0)) (k (p.getD (m-1) 0)) with
  |true=>dsimp only;rw[Wm Y];exact fin m s' (Ek _) ⋯ up eV
  |false =>
   calc FO hc hp f (m+1) s' Q ⋯ ⋯ (up.snoc h1 q) eV λm' iI a b c d=>fin m' iI ⋯ b c d
def zY(k:Nat->LK)(p:Array Nat)(m q:Nat):Prop:=∀t,m-(q+1)<=t->t<m->KA k p t=KA k p (m-1)
theorem FP{p:Array Nat}{m q:Nat}(hs:m<=p.size)(hq:q+1<=m)(e:zY k p m q)(t:Nat):KA k (kas_rev p (m-(q+1)) m) t=KA k p t:=by
 rw[vU hs];split
 .rename_i c
  rw[e _ ⋯ ⋯,e t c.1 c.2]
 .rfl
theorem Dn.congr{p p':Array Nat}{m:Nat}(h:Dn k p m)(e:∀t,KA k p' t=KA k p t):Dn k p' m:=λi j a b=>by rw[e,e];calc h i j a b
theorem vV(hc:oR n k I cmp):∀(f:Nat)(p:Array Nat)(m q:Nat)(s:B)(Q:Array Nat×Nat×Nat->B->Prop),c6 n p->1<=m->m+f=n->q+1<=m->Dn k p m->zY k p m q->I s →
  (∀p' m' q' s',c6 n p'->m<=m'->m'<=n->q'+1<=m'->Dn k p' m'->zY k p' m' q'->I s'->Q (p',m',q') s')->(kas_desc f p m q).kasWp cmp Q s
 |0,p,m,q,s,Q,hp,h1,h2,hq,dn,es,hi,fin=>fin p m q s hp (Ek _) ⋯ hq dn es hi
 |f+1,p,m,q,s,Q,hp,h1,h2,hq,dn,es,hi,fin=>by
  calc hc _ _ _ s (hp.lt ⋯) (hp.lt ⋯) hi λs' eV=>?_;let sz:=hp.size
  cases c1:HT.lexLt (k (p.getD m 0)) (k (p.getD (m-1) 0)) with
  |true =>
   let st:kle (KA k p m) (KA k p (m-1)):=vT c1
   by_cases FQ:q>0
   .rw[Wm FQ]
    let e:=FP (k:=k) (p:=p) (m:=m) (q:=q) ⋯ hq es;calc vV hc f _ (m+1) 0 s' Q (hp.rev _ _) ⋯ ⋯ ⋯ ((dn.snoc h1 st).congr e) (λt a b=>?_) eV λp' m' q' iI a b c d e g i=>fin p' m' q' iI a ⋯ c d e g i;let:t=m+1-1:=by symm
    rw[this]
   .rw[Vw FQ]
    calc vV hc f p (m+1) 0 s' Q hp ⋯ ⋯ ⋯ (dn.snoc h1 st) (λt a b=>?_) eV λp' m' q' iI a b c d e g i=>fin p' m' q' iI a ⋯ c d e g i;let:t=m+1-1:=by symm
    rw[this]
  |false =>
   refine hc _ _ _ s' (hp.lt ⋯) (hp.lt ⋯) eV λs2 ni=>?_
   cases c2:HT.lexLt (k (p.getD (m-1) 0)) (k (p.getD m 0)) with
   |true=>dsimp only;rw[Wm Y];exact fin p m q s2 hp (Ek _) ⋯ hq dn es ni
   |false =>
    let eq:KA k p m=KA k p (m-1):=vS c1 c2;calc vV hc f p (m+1) (q+1) s2 Q hp ⋯ ⋯ ⋯ (dn.snoc h1 (by rw[eq];calc kle_refl _)) (λt a b=>?_) ni λp' m' q' iI a b c d e g i=>fin p' m' q' iI a ⋯ c d e g i;show KA k p t=KA k p m
    by_cases z:t=m
    .rw[z]
    .rw[es t ⋯ ⋯,eq]
theorem Dn.rev{p:Array Nat}{m:Nat}(h:Dn k p m)(hs:m<=p.size):Up k (kas_rev p 0 m) m:=λi j ib hj=>by
 rw[vU hs,vU hs,Wm ⟨W8 _,⋯⟩,Wm ⟨W8 _,hj⟩];calc h _ _ ⋯ ⋯
theorem FR(hc:oR n k I cmp){p:Array Nat}(hp:c6 n p){m:Nat}{s:B}{Q:Nat×Array Nat->B->Prop}(h1:1<=m)(hm:m<=n)(dn:Dn k p m)(hi:I s)
  (fin:∀p' m' s',c6 n p'->1<=m'->m'<=n->Up k p' m'->I s'->Q (m',p') s'):(kas_tail3 m n p).kasWp cmp Q s:=by
 unfold kas_tail3;rw[KasT.kasWp_bind];let sz:=hp.size;calc FO hc (hp.rev 0 m) (n-m) m s _ h1 ⋯ (dn.rev ⋯) hi λm' s' a b c d=>?_;calc fin _ m' s' (hp.rev 0 m) ⋯ b c d
theorem FT(hc:oR n k I cmp){p:Array Nat}(hp:c6 n p){m:Nat}{s:B}{Q:Nat×Array Nat->B->Prop}(h1:1<=m)(hm:m+1<=n)(dn:Dn k p (m+1))(hi:I s)
  (fin:∀p' m' s',c6 n p'->1<=m'->m'<=n->Up k p' m'->I s'->Q (m',p') s'):(kas_descPart m n p).kasWp cmp Q s:=by
 unfold kas_descPart;rw[KasT.kasWp_bind];refine vV hc (n-(m+1)) p (m+1) 0 s _ hp ⋯ ⋯ ⋯ dn (λt a b=>?_) hi λp' m' q' s' a b c d e g i=>?_
 .let:t=m+1-1:=by symm
  rw[this]
 .let sz:=a.size
  dsimp only
  by_cases hq:q'>0
  .rw[Wm hq]
   exact FR hc (a.rev _ _) ⋯ c (e.congr (FP ⋯ d g)) i fin
  .rw[Vw hq]
   calc FR hc a ⋯ c e i fin
theorem OK(hc:oR n k I cmp){p:Array Nat}(hp:c6 n p){s:B}{Q:Nat×Array Nat->B->Prop}(h1:1<=n)(hi:I s)
  (fin:∀p' m' s',c6 n p'->1<=m'->m'<=n->Up k p' m'->I s'->Q (m',p') s'):(kas_count n p).kasWp cmp Q s:=by
 unfold kas_count;rw[KasT.kasWp_bind];let sz:=hp.size
 let key:∀(f m:Nat)(s:B)(Q':Nat->B->Prop),1<=m->m+f=n->Up k p m->I s →
   (∀m' s',m<=m'->m'<=n->Up k p m'->(m'<n->HT.lexLt (KA k p m') (KA k p (m'-1))=θ)->I s'->Q' m' s')->(kas_asc p f m).kasWp cmp Q' s:=by
  ext f
  induction f with
  |zero=>ext m s Q' a b up hi fin;exact fin m s (Ek _) ⋯ up (λz=>absurd z ⋯) hi
  |succ f ih =>
   ext m s Q' a b up hi fin;refine hc _ _ _ s (hp.lt ⋯) (hp.lt ⋯) hi λs' eV=>?_
   cases q:HT.lexLt (k (p.getD m 0)) (k (p.getD (m-1) 0)) with
   |true=>dsimp only;rw[Wm Y];exact fin m s' (Ek _) ⋯ up (λ_=>q) eV
   |false =>
    exact ih (m+1) s' Q' ⋯ ⋯ (up.snoc a q) eV λm' iI a b c d e=>fin m' iI ⋯ b c d e
 refine key (n-1) 1 s _ (Ek _) ⋯ Up.one hi λm s' a b up nx eV=>?_
 by_cases c1:m=n
 .subst c1
  rw[Wm (by simp)];exact fin p m s' hp a (Ek _) up eV
 .rw[Vw c1⁻¹]
  let fX:m<n:=by symm
  let nx:=nx fX
  by_cases c2:m>1
  .rw[Wm c2]
   refine hc _ _ _ s' (hp.lt ⋯) (hp.lt ⋯) eV λs2 ni=>?_
   cases q:HT.lexLt (k (p.getD 0 0)) (k (p.getD (m-1) 0)) with
   |true=>dsimp only;exact fin p m s2 hp a b up ni
   |false =>
    let al:∀t,t<m->KA k p t=KA k p (m-1):=λt ht=>by
     refine FN (up t (m-1) ⋯ ⋯) (kle_trans q (up 0 t (W8 _) ht))
    let e:∀t,KA k (kas_rev p 0 m) t=KA k p t:=λt=>by
     rw[vU ⋯];split
     .rename_i c;rw[al _ ⋯,al t c.2]
     .rfl
    calc FT hc (hp.rev 0 m) ⋯ ⋯ (Dn.congr (p:=p) ?_ e) ni fin;calc Dn.snoc (λi j ib hj=>?_) ⋯ (vT nx);rw[al i ⋯,al j hj];exact kle_refl _
  .rw[Vw c2]
   let:m=1:=by symm
   subst this;calc FT hc hp ⋯ ⋯ (Dn.one.snoc (Ek _) (vT nx)) eV fin
theorem zZ(hc:oR n k I cmp){p:Array Nat}(hp:c6 n p){t:Nat}(ht:t<n)(up:Up k p t):∀(f l r:Nat)(s:B)(Q:Nat->B->Prop),l<=r->r<=t->r-l<=f →
  (∀i,i<l->kle (KA k p i) (KA k p t))->(∀i,r<=i->i<t->kle (KA k p t) (KA k p i))->I s →
  (∀l' s',l'<=t->(∀i,i<l'->kle (KA k p i) (KA k p t))->(∀i,l'<=i->i<t->kle (KA k p t) (KA k p i))->I s'->Q l' s')->(kas_place p t f l r).kasWp cmp Q s
 |0,l,r,s,Q,h1,h2,h3,lo,rh,hi,fin=>by
  let:l=r:=by symm
  subst this;exact fin l s h2 lo rh hi
 |f+1,l,r,s,Q,h1,h2,h3,lo,rh,hi,fin=>by
  unfold kas_place
  by_cases c:l ≥ r
  .rw[Wm c]
   let:l=r:=by symm
   subst this;exact fin l s h2 lo rh hi
  .rw[Vw c]
   refine hc _ _ _ s (hp.lt ht) (hp.lt ⋯) hi λs' eV=>?_
   cases q:HT.lexLt (k (p.getD t 0)) (k (p.getD ((l+r) / 2) 0)) with
   |true =>
    calc zZ hc hp ht up f l ((l+r) / 2) s' Q ⋯ ⋯ ⋯ lo (λi a b=>?_) eV fin;exact kle_trans (vT q) (up _ _ a b)
   |false =>
    calc zZ hc hp ht up f ((l+r) / 2+1) r s' Q ⋯ h2 ⋯ (λi a=>?_) rh eV fin;calc kle_trans (up i ((l+r) / 2) ⋯ ⋯) q
theorem FU(hc:oR n k I cmp):∀(f:Nat)(p:Array Nat)(t:Nat)(s:B)(Q:Array Nat->B->Prop),c6 n p->t+f=n->Up k p t->I s →
  (∀p' s',c6 n p'->Up k p' n->I s'->Q p' s')->(kas_bin f p t).kasWp cmp Q s
 |0,p,t,s,Q,hp,h2,up,hi,fin=>by
  let:t=n:=by symm
  subst this;exact fin p s hp up hi
 |f+1,p,t,s,Q,hp,h2,up,hi,fin=>by
  unfold kas_bin;rw[KasT.kasWp_bind];let sz:=hp.size;calc zZ hc hp ⋯ up t 0 t s _ (W8 _) (Ek _) ⋯ (λi a=>absurd a ⋯) (λi a b=>absurd b ⋯) hi λl s' hl lo rh eV=>?_;calc FU hc f _ (t+1) s' Q (hp.OJ _ _) ⋯ (λi j ib hj=>?_) eV fin;let kb:=λx=>OI (k:=k) (p:=p) (src:=t) (d:=t-l) ⋯ ⋯ x;let el:t-(t-l)=l:=by symm
  rw[kb i,kb j,el]
  by_cases c1:i=l
  .subst c1
   rw[Wm Y]
   by_cases c2:j=i
   .rw[Wm c2];exact kle_refl _
   .rw[Vw c2,Wm ⟨⋯,⋯⟩]
    exact rh (j-1) ⋯ ⋯
  .rw[Vw c1]
   by_cases c2:j=l
   .subst c2
    rw[Wm Y,Vw ⋯];exact lo i ⋯
   .rw[Vw c2]
    by_cases c3:l<i/\i<=t
    .rw[Wm c3,Wm ⟨⋯,⋯⟩]
     exact up _ _ ⋯ ⋯
    .rw[Vw c3]
     by_cases c4:l<j/\j<=t
     .rw[Wm c4];exact up _ _ ⋯ ⋯
     .rw[Vw c4];calc up _ _ ib ⋯
theorem FW(hc:oR n k I cmp){s:B}{Q:Array Nat->B->Prop}(h1:1<=n)(hi:I s)(fin:∀p s',c6 n p->Up k p n->I s'->Q p s'):(kas_sort n).kasWp cmp Q s:=by
 unfold kas_sort;rw[KasT.kasWp_bind];refine OK hc ⟨q0U _⟩ h1 hi λp m s' a b c d e=>?_
 by_cases q:m<n
 .rw[Wm q]
  let:max m 1=m:=by symm
  rw[this];exact FU hc (n-m) p m s' Q a ⋯ d e fin
 .rw[Vw q]
  let:m=n:=by symm
  subst this;calc fin p s' a d e
end
end L2
namespace L2
open PySem PySem.Spec PyProof.Rows
theorem FX{δ0:aH}{bJ:aH->Prop}{g:WG}{b:WS}{K:KS}(I:Nat->aH->Prop):∀(items:-D)(i:Nat)(δ:aH),I i δ →
  (∀j d δ (L:aH->Prop),items[j]?=U d->I (i+j) δ->(∀δ',I (i+j+1) δ'->L δ')->bJ δ/\g (.p d) δ fun δ1=>b {nx:=fun δ2=>L (δ0.trim δ2),ct:=fun δ2=>L (δ0.trim δ2),bk:=K.nx,rt:=K.rt} δ1) →
  (∀δ,I (i+↑items) δ->bJ δ/\K.nx δ)->kN δ0 bJ g b K items δ
 |[],i,δ,h,_,fin=>fin δ h
 |d::r,i,δ,h,st,fin=>by
  unfold kN;calc st 0 d δ (fun δ'=>kN δ0 bJ g b K r δ') Y h fun δ' hi=>?_;refine FX I r (i+1) _ hi (λj e δ L hj hI hL=>?_) fun δ hI=>?_
  .let e:i+1+j=i+(j+1):=by symm
   rw[e] at hI hL;exact st (j+1) _ δ L hj⁻¹ hI hL
  .exact fin δ (by rw[Em];let e:i+1+↑r=i+(↑r+1):=by symm
                   rw[e] at hI;calc hI)
theorem lS{δ0:aH}{bJ:aH->Prop}{g:WG}{b:WS}{K:KS}{items:-D}{δ:aH}(I:Nat->aH->Prop)(h0:I 0 δ)
  (st:∀j d δ (L:aH->Prop),items[j]?=U d->I j δ->(∀δ',I (j+1) δ'->L δ')->bJ δ/\g (.p d) δ fun δ1=>b {nx:=fun δ2=>L (δ0.trim δ2),ct:=fun δ2=>L (δ0.trim δ2),bk:=K.nx,rt:=K.rt} δ1)
  (fin:∀δ,I ↑items δ->bJ δ/\K.nx δ):kN δ0 bJ g b K items δ :=
 FX I items 0 δ h0 (λj d δ L hj hI hL=>by rw[Xi] at hI hL;calc st j d δ L hj hI hL) fun δ hI=>by rw[Xi] at hI;calc fin δ hI
def t7(δ0:aH)(bJ:aH->Prop)(g:WG)(t:WT)(f:WE)(d:D)(acc:-D)(δ:aH)(L:-D->aH->Prop):Prop :=
 bJ δ/\g (.p d) δ fun δ1=>t δ1 λb δ2=>if b=θ then f δ2 λx δ3=>mK x δ3 λe δ4=>↑acc<1000/\L (acc++[e]) (δ0.trim δ4) else L acc (δ0.trim δ2)
theorem FY{δ0:aH}{bJ:aH->Prop}{g:WG}{t:WT}{f:WE}{K:-D->aH->Prop}(I:Nat->-D->aH->Prop):∀(items:-D)(i:Nat)(acc:-D)(δ:aH),I i acc δ →
  (∀j d acc δ (L:-D->aH->Prop),items[j]?=U d->I (i+j) acc δ->(∀cP δ',I (i+j+1) cP δ'->L cP δ')->t7 δ0 bJ g t f d acc δ L) →
  (∀acc δ,I (i+↑items) acc δ->bJ δ/\K acc δ)->jh δ0 bJ g t f K items acc δ
 |[],i,acc,δ,h,_,fin=>fin acc δ h
 |d::r,i,acc,δ,h,st,fin=>by
  unfold jh;calc st 0 d acc δ (λcP δ'=>jh δ0 bJ g t f K r cP δ') Y h λcP δ' hi=>?_;refine FY I r (i+1) cP _ hi (λj e acc δ L hj hI hL=>?_) λacc δ hI=>?_
  .let e:i+1+j=i+(j+1):=by symm
   rw[e] at hI hL;exact st (j+1) _ acc δ L hj⁻¹ hI hL
  .exact fin acc δ (by rw[Em];let e:i+1+↑r=i+(↑r+1):=by symm
                       rw[e] at hI;calc hI)
theorem z6{δ0:aH}{bJ:aH->Prop}{g:WG}{t:WT}{f:WE}{K:-D->aH->Prop}{items:-D}{δ:aH}(I:Nat->-D->aH->Prop)(h0:I 0 [] δ)
  (st:∀j d acc δ (L:-D->aH->Prop),items[j]?=U d->I j acc δ->(∀cP δ',I (j+1) cP δ'->L cP δ')->t7 δ0 bJ g t f d acc δ L)
  (fin:∀acc δ,I ↑items acc δ->bJ δ/\K acc δ):jh δ0 bJ g t f K items [] δ :=
 FY I items 0 [] δ h0 (λj d acc δ L hj hI hL=>by rw[Xi] at hI hL;calc st j d acc δ L hj hI hL) λacc δ hI=>by rw[Xi] at hI;calc fin acc δ hI
theorem lT{δ0:aH}{bJ:aH->Prop}{g:WG}{t:WT}{f:WE}{K:-D->aH->Prop}{items:-D}(p:D->Bool)(fn:D->D)(hl:↑items<=1000)(hc:bJ δ0)
  (st:∀d∈items,∀acc (L:-D->aH->Prop),↑acc<1000->(p d=θ->L (acc++[fn d]) δ0)->(p d=ι->L acc δ0)->t7 δ0 bJ g t f d acc δ0 L)
  (fin:K ((items.filter p).map fn) δ0):jh δ0 bJ g t f K items [] δ0:=by
 refine z6 (λi acc δ=>δ=δ0/\acc=((items.take i).filter p).map fn) ⟨Y,Y⟩ ?_ ?_
 .ext j d acc δ L hj ⟨rfl,rfl⟩ hL
  let fX:=(sG.mp hj).1;let hm:d∈items:=WR hj
  let hn:↑(((items.take j).filter p).map fn)<1000:=by
   rw[pN];let:=List.length_filter_le p (items.take j);rw[WM] at this;symm
  let e:items.take (j+1)=items.take j++[d]:=by rw[Y9,hj];rfl
  refine st d hm _ L hn (λq=>hL _ _ ⟨Y,?_⟩) (λq=>hL _ _ ⟨Y,?_⟩)
  .rw[e,q1H,WK];simp[q5a,q]
  .rw[e,q1H,WK];simp[q5a,q]
 .ext acc δ ⟨rfl,rfl⟩
  rw[Xa (Ek _)];calc⟨hc,fin⟩
theorem iR{δ0:aH}{bJ:aH->Prop}{g:WG}{t:WT}{f:WE}{K:-D->aH->Prop}{items:-D}(fn:D->D)(hl:↑items<=1000)(hc:bJ δ0)
  (st:∀d∈items,∀acc (L:-D->aH->Prop),↑acc<1000->L (acc++[fn d]) δ0->t7 δ0 bJ g t f d acc δ0 L)
  (fin:K (items.map fn) δ0):jh δ0 bJ g t f K items [] δ0 :=
 lT (λ_=>θ) fn hl hc (λd hd acc L ha h _=>st d hd acc L ha (h Y)) (by rw[List.filter_eq_self.mpr λ_ _=>Y];calc fin)
end L2
namespace LJ
open PySem L2
theorem FZ:bootBuiltins "range" = U (.type "range"):=by decide +kernel
theorem OL:bootBuiltins "sum" = U (.builtin "sum"):=by decide +kernel
theorem OM:bootBuiltins "max" = U (.builtin "max"):=by decide +kernel
theorem ON:bootBuiltins "min" = U (.builtin "min"):=by decide +kernel
theorem t8:bootBuiltins "sorted" = U (.builtin "sorted"):=by decide +kernel
structure BT(mg:R->Option O):Prop where
 len:mg "len" = Z
 range:mg "range" = Z
 list:mg "list" = Z
 tuple:mg "tuple" = Z
 set:mg "set" = Z
 sorted:mg "sorted" = Z
 min:mg "min" = Z
 max:mg "max" = Z
 sum:mg "sum" = Z
 all:mg "all" = Z
 any:mg "any" = Z
 enumerate:mg "enumerate" = Z
 zip:mg "zip" = Z
 isinstance:mg "isinstance" = Z
 int:mg "int" = Z
 bool:mg "bool" = Z
 str:mg "str" = Z
 repr:mg "repr" = Z
end LJ
namespace L2
open PySem PySem.Spec PyProof.Rows
variable[aS]
def vW(X:Cx)(f:O)(g:-D->(-D->Prop)->Prop):Prop :=
 gZ X f λxs H Q=>∃F ds K,aL F H/\iM F H ds xs/\g ds K/\∀zs vs a,K zs->H a=Z->ah F zs vs->Q (.ref a) (upd H a (.lst vs))
def rj(fa:WA)(op:-D->(-D->Prop)->Prop):WE:=fun δ K=>fa δ λxs δ1=>kJ xs δ1 λds=>op ds λzs=>K (.o ↑δ1.mu) ⟨δ1.sl,δ1.mu++[U (.lst zs)]⟩
def vX:-D->(-D->Prop)->Prop
 |[.lst ds],K=>K ds
 |[.tup ds],K=>K ds
 |_,_=>False
def vY:-D->(-D->Prop)->Prop
 |[.lst ds],K=>match intsOf ds with
  |some ns=>↑ns<64/\K ((sortI ns).map D.int)
  |none=>False
 |_,_=>False
section
variable{X:Cx}{fa:WA}{pos:y}
theorem z9{F H:Hp}{ad:-M}{δ:aH}{σ:St}{p:M}(S:SR F ad δ σ H):dB F (ad++[p]) (.o ↑δ.mu) (.ref p) :=
 ⟨p,by rw[<-S.cf,Vs (Ek _),Xn];rfl,Y⟩
theorem F0{r:-V->Hp->VK->Prop}{op:-D->(-D->Prop)->Prop}(hr:∀xs H Q,(∃F ds K,aL F H/\iM F H ds xs/\op ds K/\∀zs vs a,K zs->H a=Z->ah F zs vs->Q (.ref a) (upd H a (.lst vs)))->r xs H Q):∀σ H Q,tD (rj fa op) σ H Q->uY r (b8 fa) σ H Q:=by
 ext σ H Q ⟨F,ad,δ,K,S,q,k⟩;calc⟨F,ad,δ,_,S,q,λxs δ1 h1 vs F1 aV H1 E1 S1 V1=>hr _ _ _ ?_⟩;let⟨ds,h2,pT⟩:=vn S1 V1 h1;calc⟨F1,ds,_,S1.sub,pT,h2,λzs us a hz hp is=>?_⟩;let oi:∀{je},eC F1 je (.lst zs) (.lst us):=λ{je}=>⟨us,Y,is⟩;calc k _ _ hz _ _ _ _ (E1.trans (Ext.own S1 hp)) (S1.own hp oi) (z9 S1)
theorem OO{x:R}{p:y}{e:J}{es:-J}{id:String}{o:-D->(-D->Prop)->Prop}(hc:vW X (.builtin id) o)(hg:Gl X x)(hm:X.mg x=Z)(hv:bootBuiltins x=U (.builtin id))(ha:JA X (e::es) (b8 fa))(hn:x≠"__name__" := by decide)(dP: ~~~(bV x))
  (he:‹cj X e es›) (cR:‹cD X pos es›):JE X (.Call (.Name x p) (e::es) [] pos) (tD (rj fa o)) :=
 (uZ hc hg hm hv ha hn dP he cR).weak (F0 λ_ _ _ h=>h)
theorem OP{x:R}{p:y}{e:J}{es:-J}{T:String}{o:-D->(-D->Prop)->Prop}(hc:vW X (.type T) o)(hg:Gl X x)(hm:X.mg x=Z)(hv:bootBuiltins x=U (.type T))(ha:JA X (e::es) (b8 fa))(hn:x≠"__name__" := by decide)(dP: ~~~(bV x))
  (he:‹cj X e es›) (cR:‹cD X pos es›):JE X (.Call (.Name x p) (e::es) [] pos) (tD (rj fa o)) :=
 (pG hc hg hm hv ha hn dP he cR).weak (F0 λ_ _ _ h=>h)
theorem OQ:vW X (.type "list") vX:=by
 ext pins s σ H xs us Q I r ⟨F,ds,K,sub,rd,q,md⟩;unfold vX at q;split at q
 .let⟨v,rfl,a,vs,rfl,h1,h2⟩:=c5 rd
  exact yn pins s σ H _ us Q I r ⟨a,vs,Y,.inl (bE.of h1),λl hl=>md _ _ _ q hl h2⟩
 .rename_i es
  let⟨v,rfl,h⟩:=c5 rd;let h:Is F (.tup es) v:=h;erw[Is] at h;let⟨a,vs,rfl,h1,h2⟩:=h;exact yn pins s σ H _ us Q I r ⟨a,vs,Y,.inr (bO.of (sub _ _ h1)),λl hl=>md _ _ _ q hl h2⟩
 .calc q.elim
theorem OR:vW X (.builtin "sorted") vY:=by
 ext pins s σ H xs us Q I r ⟨F,ds,K,sub,rd,q,md⟩;unfold vY at q;split at q
 .rename_i es
  split at q
  .rename_i ns e
   let⟨v,rfl,a,vs,rfl,h1,h2⟩:=c5 rd;rw[qX e] at h2;rw[oN h2] at h1;calc EV pins s σ H _ us Q I r ⟨a,ns,Y,bE.of h1,q.1,λl bx pm pw hl=>?_⟩;rw[zO pm pw];exact md _ _ _ q.2 hl qY
  .exact q.elim
 .calc q.elim
def z_(f g:WE):WE:=fun δ K=>f δ λx δ1=>g δ1 λy δ2=>g7 x δ2 λd=>g7 y δ2 λe=>match d,e with
 |.lst a,.lst b=>↑a+↑b<=1000/\K (.o ↑δ2.mu) ⟨δ2.sl,δ2.mu++[U (.lst (a++b))]⟩
 |_,_=>False
theorem OS{a b:J}{f g:WE}(ha:JE X a (tD f))(hb:JE X b (tD g)):JE X (.BinOp a .Add b pos) (tD (z_ f g)) :=
 (si Ei ha hb).weak fun σ H Q ⟨F,ad,δ,K,S,q,k⟩↦⟨F,ad,δ,_,S,q,λx δ1 h1 v1 F1 aV H1 E1 S1 V1=>⟨F1,aV,δ1,_,S1,h1,λy δ2 h2 v2 F2 cq H2 E2 S2 V2=>by
  let⟨d,h3,rd⟩:=jB S2 (V1.ext E2) h2;let⟨e,h4,re⟩:=jB S2 V2 h3;split at h4
  .rename_i as bs
   let⟨a,us,rfl,g1,g2⟩:=rd;let⟨b,ws,rfl,g3,g4⟩:=re;let oi:∀{je},eC F2 je (.lst (as++bs)) (.lst (us++ws)):=λ{je}=>⟨_,Y,qZ g2 g4⟩;exact⟨a,b,us,ws,Y,Y,g1,g3,kL (by rw[↑g2,↑g4];calc h4.1),λp hp=>k _ _ h4.2 _ _ _ _ ((E1.trans E2).trans (Ext.own S2 hp)) (S2.own hp oi) (z9 S2)⟩
  .calc h4.elim⟩⟩
theorem rk[kM]{st:o}:JS X st (dZ lO):=⟨λpins s D σ H I q=>by let⟨F,ad,δ,K,S,q,k⟩:=q;calc q.elim⟩
end
end L2
namespace LJS
open PySem PySem.SetTable PyProof.Rows
section
variable{prog:l}{w:g}{A:q}{S:M}{ks:-Int}
end
end LJS
namespace L2
open PySem PySem.Spec PyProof.Rows
section
variable{X:Cx}
end
end L2
namespace LJS
open PySem PySem.SetTable PyProof.Rows
section
variable{t:SetTable}{f:Nat->Int}{h:Int}
end
section
variable{hk:Nat->Int}{ad:Nat->M}{t:SetTable}{es:Array (Int×O)}{js:-Nat}
end
section
variable{prog:l}{w:g}{A:q}{E:bg}{s:B}{ad:Nat->M}{ks:Nat->-Int}{js:-Nat}{S:M}
end
section
variable{prog:l}{w:g}{A:q}{R:Result->B->Prop}{I S:M}{fp wr:-M}{G:Array GenState->Array GenState->Prop}{n:Nat}{P:Nat->O->Prop}{St:Nat->B->Prop}
end
section
variable{prog:l}{w:g}{A:q}{E:bg}{s:B}
end
end LJS
namespace L2
open PySem PySem.Spec PyProof.Rows
variable[aS]
section
variable{X:Cx}{fa:WA}
theorem F7{F:Hp}:∀{ps:-(Int×Int)}{vs:-V},ah F (ps.map λp=>D.tup [.int p.1,.int p.2]) vs->∃as:-M,vs=as.map V.ref/\↑as=↑ps/\∀(i:Nat)(a:M)(k:Int×Int),as[i]?=U a->ps[i]?=U k->F a=U (.tup [.int k.1,.int k.2])
 |[],vs,h=>by
  let h:vs=[]:=by simpa only [Yp,ah] using h
  subst h;exact⟨[],Y,Y,λi a k e=>by simp at e⟩
 |p::r,vs,h=>by
  rw[Wx] at h;erw[ah] at h;let⟨v,r',rfl,h1,h2⟩:=h;let⟨as,rfl,hl,g⟩:=F7 h2;erw[Is] at h1;let⟨a,us,rfl,e1,e2⟩:=h1;erw[ah,Is] at e2;let⟨_,_,rfl,rfl,_,_,rfl,rfl,rfl⟩:=e2;refine⟨a::as,Y,by rw[Em,Em,hl],λi b k eb ek=>?_⟩
  cases i with
  |zero =>
   cases(show U a=U b by simpa using eb)
   cases(show U p=U k by simpa using ek)
   exact e1
  |succ i=>calc g i b k eb⁻¹ ek⁻¹
end
end L2
namespace HT
open PySem PySem.Spec PyProof.Rows
section
variable{prog:l}{w:g}{A:q}{E:bg}{s:B}
theorem OT{t b:M}{ws:-O}{Q:bg}(ht:IsTup s.heap t #[])(hb:IsTup s.heap b ws.toArray)(h:Q (.ref b) s):L (G prog w) A (binaryOp .Add (.ref t) (.ref b)) Q E s:=by
 let⟨⟨cls,dd,data,sl⟩,ho,hc,n,hd⟩:=id ht;let⟨⟨sy,oC,data2,oE⟩,eG,g_,n2,hd2⟩:=id hb;simp only at hc hd g_ hd2;subst hc hd g_ hd2
 exact q1V ⟨_,ho,Y⟩ ⟨_,eG,Y⟩ q0u q1m Zz Zq (Zh _ _)
  (tuple_addW0 t b #[] ws.toArray n n2 dd oC sl oE Y) ⟨ho,eG,h⟩
theorem OU{t sl:M}{items:Array O}{vl vu:O}{lo hi:Option Int}{Q:bg}(ht:IsTup s.heap t items)(hs:s.heap.IsSliceOf sl vl vu .none)(pl:IsPart vl lo)(pu:IsPart vu hi)
  (hw:bA items.size 0 lo=0/\bA items.size items.size hi=items.size) (h:Q (.ref t) s):L (G prog w) A (getItem (.ref t) (.ref sl)) Q E s:=by
 let⟨os,pH,qI,sC⟩:=id hs;let yc:s.TypeIs (.ref sl) "slice" := ⟨os,pH,qI⟩;unfold getItem
 try with_reducible refine W9 ?_
 first|refine qL (MK ?_)|skip
 refine qL (q1W ht.typeIs (by decide) ?_)
 refine qL (XW (name:=XA "__getitem__") ht.typeIs Xc
  (Yq Xc ht.typeIs q1c ?_ (q1C _ _)))
 show L _ _ (Z9 (.ref t) >>= _) _ _ s;calc qL (tupleItemsOf_ ht ?_);calc qL (q1X yc ?_);rw[Wm (by decide)];calc qL (D3 hs pl pu ?_);show L _ _ (if(((bA items.size 0 lo:Nat):Int)==0&&(1:Int)==1&&(bA items.size items.size hi-bA items.size 0 lo)==items.size)=θ then _ else _) _ _ s;rw[Wm (by rw[hw.1,hw.2];simp)];unfold Builtin.Tuple.tupleIsExact;calc qL (qL (q1X ht.typeIs (MK ?_)));rw[Wm (by decide)];calc qL (q0L ?_);calc MK ⟨_,Y,MK h⟩
end
end HT
namespace L2
open PySem PySem.Spec PyProof.Rows
variable[aS]
section
variable{X:Cx}{e:J}{te:TE}{pos p2 p3 p4:y}
def OW(K:El):V->Option Int->Option Int->Hp->VK->Prop:=λx lo hi H Q=>∃a xs,x=.ref a/\bO K H a xs ∧
 (HT.bA ↑xs 0 lo=0/\HT.bA ↑xs ↑xs hi=↑xs->Q (.ref a) H)/\(¬ (HT.bA ↑xs 0 lo=0/\HT.bA ↑xs ↑xs hi=↑xs)->∀p,H p=Z->Q (.ref p) (upd H p (.tup (di xs lo hi))))
theorem OX:oF X (OW X.K):=by
 ext pins s σ H x v vl vu lo hi sl Q I rx hs pl pu h;let⟨a,xs,rfl,hx,q1,q2⟩:=h
 by_cases hw:HT.bA ↑xs 0 lo=0/\HT.bA ↑xs ↑xs hi=↑xs
 .cases rx
  let⟨au,r,ht,hz⟩:=I.tuple hx;let hlen:au.toArray.size=↑xs:=by rw[yA];exact r.length.symm
  calc⟨"tuple",_,Xc.lookup,ht.typeIs,?_⟩;exact HT.OU ht hs pl pu (by rw[hlen];calc hw) ⟨.ref a,H,I,Y,q1 hw⟩
 .calc Mp pins s σ H _ v vl vu lo hi sl Q I rx hs pl pu ⟨a,xs,Y,hx,hw,q2 hw⟩
theorem OY:eB X (binaryOp .Add) (λx y H Q=>∃a b ys,x=.ref a/\y=.ref b/\bO X.K H a []/\bO X.K H b ys/\Q (.ref b) H):=by
 ext pins s σ H x y v u Q I rx ry h;let⟨a,b,ys,rfl,rfl,ha,hb,q⟩:=h;cases rx
 cases ry
 let⟨au,r1,p1,_⟩:=I.tuple ha;let⟨bz,r2,p2,_⟩:=I.tuple hb;let:au=[]:=r1.fw.mpr Y;subst this;calc HT.OT p1 p2 ⟨.ref b,H,I,Y,q⟩
theorem OZ:eB X (compareOp .Is) (λx y H Q=>∃a b,x=.bl a/\y=.bl b/\Q (.bl (a==b)) H):=by
 ext pins s σ H x y v u Q I rx ry h;let⟨a,b,rfl,rfl,q⟩:=h;cases rx
 cases ry
 calc MK ⟨.bl (a==b),H,I,by cases a<;>cases b<;>rfl,q⟩
def cH:D->D->(D->Prop)->Prop
 |.int i,.int j,K=>K (.int (i+j))
 |.lst a,.lst b,K=>↑a+↑b<=1000/\K (.lst (a++b))
 |.tup a,.tup b,K=>↑a+↑b<=1000/\K (.tup (a++b))
 |.str a,.str b,K=>↑a+↑b<=1000/\K (.str (a++b))
 |_,_,_=>False
theorem vZ:fy X (binaryOp .Add) cH:=by
 ext pins s σ H x y v u Q I rx ry ⟨F,d,e,K,sub,rd,re,q,md⟩;unfold cH at q;split at q
 .exact vL pins s σ H x y v u Q I rx ry ⟨F,_,_,K,sub,rd,re,q,md⟩
 .exact vL pins s σ H x y v u Q I rx ry ⟨F,_,_,K,sub,rd,re,q,md⟩
 .rename_i as bs
  by_cases c:as=[]
  .subst c
   let c5:Is F (.tup []) x:=rd;let h9:Is F (.tup bs) y:=re;let O1:=h9;erw[Is] at c5 h9;let⟨a,us,rfl,h1,h2⟩:=c5;let⟨b,ws,rfl,h3,h4⟩:=h9;let:us=[]:=by simpa only [ah] using h2
   subst this;exact OY pins s σ H _ _ v u Q I rx ry ⟨a,b,ws,Y,Y,bO.of (sub _ _ h1),bO.of (sub _ _ h3),md _ _ _ q.2 (λ_ _ e=>e) (tT sub O1)⟩
  .exact vL pins s σ H x y v u Q I rx ry ⟨F,_,_,K,sub,rd,re,⟨⟨c,q.1⟩,q.2⟩,md⟩
 .exact vL pins s σ H x y v u Q I rx ry ⟨F,_,_,K,sub,rd,re,q,md⟩
 .calc q.elim
def qg:D->Option Int->Option Int->(D->Prop)->Prop
 |.lst ds,lo,hi,K=>K (.lst (cutD ds lo hi))
 |.tup ds,lo,hi,K=>K (.tup (cutD ds lo hi))
 |_,_,_,_=>False
def fL(f:WE)(l h:WO):WE:=fun δ K=>f δ λx δ1=>l δ1 λlo δ2=>h δ2 λhi δ3=>g7 x δ3 λd=>qg d lo hi λz=>K (.p z) δ3
theorem O3{ds:-D}{lo hi:Option Int}(h:HT.bA ↑ds 0 lo=0/\HT.bA ↑ds ↑ds hi=↑ds):cutD ds lo hi=ds:=by
 unfold cutD;rw[h.1,h.2,q0b,q16,Xa (Ek _)]
theorem F8{e:J}{f:WE}{lo hi:Option J}{l h:WO}{pos p2:y}(he:JE X e (tD f))(hl:PO X lo (vM l))(hh:PO X hi (vM h)):JE X (.Subscript e (.Slice lo hi Z p2) pos) (tD (fL f l h)) :=
 (yd (gF.or OX) he hl hh).weak fun σ H Q ⟨F,ad,δ,K,S,q,k⟩=>⟨F,ad,δ,_,S,q,λx δ1 h1 v F1 aV H1 E1 S1 V1=>⟨F1,aV,δ1,_,S1,h1,λlo δ2 h2 F2 cq H2 E2 S2=>⟨F2,cq,δ2,_,S2,h2,λhi δ3 h3 F3 qT H3 E3 S3=>by
  let⟨d,h4,rd⟩:=jB S3 ((V1.ext E2).ext E3) h3;let Aa:=(E1.trans E2).trans E3;unfold qg at h4;split at h4
  .rename_i ds
   let⟨a,vs,rfl,g1,g2⟩:=rd;calc .inl ⟨a,vs,Y,bE.of g1,λp hp=>?_⟩;exact k _ _ h4 _ _ _ _ (Aa.trans (Ext.al S3 (de hp))) (S3.al (de hp)) (p_ S3.sub hp (FC g2 _ _))
  .rename_i ds
   let c5:Is F3 (.tup ds) v:=rd;let O4:=c5;erw[Is] at c5;let⟨a,vs,rfl,g1,g2⟩:=c5;refine .inr ⟨a,vs,Y,bO.of (S3.sub _ _ g1),λhw=>?_,λ_ p hp=>?_⟩
   .rw[↑g2] at hw
    rw[O3 hw] at h4;exact k _ _ h4 _ _ _ _ Aa S3 O4
   .exact k _ _ h4 _ _ _ _ (Aa.trans (Ext.al S3 (de hp))) (S3.al (de hp)) (zH S3.sub hp (FC g2 _ _))
  .calc h4.elim⟩⟩⟩
def kR:D->D->(D->Prop)->Prop
 |.bl a,.bl b,K=>K (.bl (a==b))
 |d,e,K=>kQ d e K
theorem F9:fy X (compareOp .Is) kR:=by
 ext pins s σ H x y v u Q I rx ry ⟨F,d,e,K,sub,rd,re,q,md⟩;unfold kR at q;split at q
 .rename_i a b
  exact OZ pins s σ H x y v u Q I rx ry ⟨a,b,rd,re,md _ _ _ q (λ_ _ e=>e) Y⟩
 .calc Ol pins s σ H x y v u Q I rx ry ⟨F,_,_,K,sub,rd,re,q,md⟩
end
end L2
namespace L2
open PySem PySem.Spec PyProof.Rows
variable[aS]{X:Cx}
def v3(_ j:Int):Prop:=j≠0/\j.natAbs<10 ^ 40
theorem O5:fy X (binaryOp .FloorDiv) (dQ v3 λi j=>.int (i.fdiv j)):=zI (uT λi j _ _ _ _ _ hc q=>floordiv_int hc.1 q (.inl (PyProof.noPylong_of_log2 ((q5b (Int.natAbs_ne_zero.mpr hc.1)).mpr (Wr hc.2 (WU (by decide:10 ^ 40<=2 ^ 200) (Nat.pow_le_pow_right (by decide) (by decide)))))))) λ_ _ _=>Y
end L2
open L2
open Lean in
local macro_rules
 |`(tactic|simp![$ls,*] $[$loc:location]?)=>do
  let t:=("q2o dep:2 bq:2 W8 Nat.max_self Nat.max_zero Nat.zero_max Nat.reduceLeDiff aw aM dN rj aq ag d1 d2 dC ae kJ:2 g7:3 mK:3 jC:2 aH.fix E7:2 bt bX oK dT qS:1 gH mL dj lN j7 y9 cA iw aJ bh bF jE:1 fG:1 j8 hZ eg eE mQ dm bQ mW:3 kP zw mX zx:2 dE ay tM passes:4 jH:2 cV:1 mU:4 tL:1 aR:3 qa:4 cH:4 qg:2 fL kR:1 lO m9:1 fJ:2 oI:1 dQ:1 oEq jj oLt:2 kQ iy:2 bY:3 vX:2 tW:2 q_:1 vO:1 gJ:1 cO vP z_ gg j_ qf fK:1 h_ qd zW qe zM iQ t7 aH.trim gf:2 vB:3 Option.join_some Option.join_none Wx Yp q0w YU Xs q1f q0x Zs List.getElem?_nil Xk Xl Em YT q1e ZC List.take_nil List.any_nil YC Bool.not_false q0n q1o q3n q3i Xb Bool.true_eq_false ZN Yw true_and and_true and_self reduceCtorEq beq_self_eq_true Xi Nat.reduceAdd Nat.reduceLT Nat.reduceEqDiff Nat.reduceSub pN MJ".splitOn " ").map (·.splitOn ":")
  let m:List String->MacroM (Syntax.TSepArray [`Lean.Parser.Tactic.simpStar,`Lean.Parser.Tactic.simpErase,`Lean.Parser.Tactic.simpLemma] ","):=λl=>do
   let a←l.toArray.mapM λs=>`(Parser.Tactic.simpLemma|$(mkIdent s.toName):ident)
   pure ⟨(Syntax.SepArray.ofElems (sep:=",") ((a.push (←`(Parser.Tactic.simpLemma|↓reduceIte))).map (·.raw)++ls.getElems.map (·.raw))).elemsAndSeps⟩
  let a←m (t.map (·.head!))
  let d←m (t.flatMap fun|[x,n]=>(List.range n.toNat!).map λk=>s!"{x}.eq_{k+1}"|x=>x)
  if loc.isSome then `(tactic|simp only[$a,*] $[$loc]?) else `(tactic|first|((set_option backward.dsimp.useDefEqAttr false in dsimp only[$(⟨d.elemsAndSeps⟩),*]);try simp only[$a,*])|simp only[$a,*])
local macro_rules | `(tactic| simp! $[$l:location]?) => `(tactic| simp! [] $[$l]?)
set_option maxHeartbeats 8000000
namespace LJ
open PySem L2
variable[aS]
theorem F_{ns:-Int}{k:Int}(h0:0<=k)(h1:k<(↑ns:Int)):∃n,dX (ns.map D.int) k=U (.int n):=by
 let⟨i,rfl⟩:∃i:Nat,k=i:=⟨k.toNat,⋯⟩;let hi:i<↑ns:=by symm
 calc⟨ns[i],g5 ?_⟩;rw[My,pM hi];rfl
theorem df{α:Type}{x:α}{r:-α}:dX (x::r) 0=U x:=g5 (j:=0) Y
theorem cI{α:Type}{x y:α}{r:-α}:dX (x::y::r) 1=U y:=g5 (j:=1) Y
theorem at2{α:Type}{x y z:α}{r:-α}:dX (x::y::z::r) 2=U z:=g5 (j:=2) Y
theorem t_{a b A B:Int}(h0:0<=a)(h1:a<=A)(h2:0<=b)(h3:b<=B):0<=a*b/\a*b<=A*B :=
 ⟨Int.mul_nonneg h0 h2,Int.mul_le_mul h1 h3 h2 (Int.le_trans h0 h1)⟩
noncomputable def ic:-Int:=[2147483629,2147483587,2147483579,2147483563,2147483549,2147483543,2147483497,2147483489,2147483477,2147483423,2147483399,2147483353,2147483323]
theorem Ab(n:Int):∃q:Int,dX (ic.map D.int) (n%13)=U (.int q)/\0<q/\q<2147483648:=by
 let h0:0<=n%13:=XN _ (by decide);let h1:n%13<13:=Xj _ (by decide);generalize n%13=j at h0 h1;let⟨i,rfl⟩:∃i:Nat,j=i:=⟨j.toNat,⋯⟩;let hi:i<13:=by symm
 let hl:(ic.map D.int)[i]?=U (.int (ic[i]'(by show i<13;calc hi))):=by
  rw[My,pM (by show i<13;calc hi)];rfl
 calc⟨_,g5 hl,?_⟩;let all:∀q∈ic,0<q/\q<2147483648:=by decide
 calc all _ (Yb _)
theorem O6:jc 3 1=U 1:=rfl
theorem Ga:jc 3 2=U 2:=rfl
abbrev Sem(n m:Nat)(g:GD)(b:WS):Prop:=∀ys av K',↑ys=n->g ys av K'->b (iQ ↑av K') ⟨ys.map U++Vv m Z,av.map U⟩
theorem aP{A B:WS}{K:KS}{δ:aH}(h:∀N:aH->Prop,N=B K->A {K with nx:=N} δ):aw A B K δ:=h _ Y
theorem gh{t:WT}{G G':WS}{K:KS}{δ:aH}(h:∀A B:aH->Prop,A=G K->B=G' K->t δ λb δ1=>if b=θ then A δ1 else B δ1):bh t G G' K δ:=h _ _ Y Y
theorem qh{w:WI}{g:WG}{b:WS}{K:KS}{δ:aH}(h:∀g' b' K',g'=g->b'=b->K'=K->w δ λit δ1=>kN δ1 it.bJ g' b' K' it.items δ1):eg w g b K δ:=h _ _ _ Y Y Y
theorem iS{f:WE}{g:WA}{δ:aH}{K:-DV->aH->Prop}(h:∀K',K'=(λx δ1=>g δ1 λxs δ2=>K (x::xs) δ2)->f δ K'):aq f g δ K:=h _ Y
inductive Ac (ys:-DV) (av:-OV) (K:RV->-OV->Prop):Prop
 |mk (cell at_:Int) (_:ys=[.p (.int cell),.p (.int at_)]) (_:av=[]) (_:0<=at_) (_:at_<2 ^ 30) (_:∀z:Int,K (.p (.int z)) [])
def Ad:WS:=(aw (bh (dT (d2 (ae 0) (d2 (dC (.int 10)) (dC (.int 18)) (dQ d8 λi j=>.int (i ^ j.toNat))) (oI λi j=>.bl (S (j<=i))))) (aJ (ae 0)) cA) (aw (aM 2 (bX (aq (dC (.int 2147483629)) (aq (dC (.int 2147483587)) (aq (dC (.int 2147483579)) (aq (dC (.int 2147483563)) (aq (dC (.int 2147483549)) (aq (dC (.int 2147483543)) (aq (dC (.int 2147483497)) (aq (dC (.int 2147483489)) ag)))))))))) (aw (aM 2 (d2 (ae 2) (bX (aq (dC (.int 2147483477)) (aq (dC (.int 2147483423)) (aq (dC (.int 2147483399)) (aq (dC (.int 2147483353)) (aq (dC (.int 2147483323)) ag)))))) cH)) (aw (aM 3 (d2 (d2 (d2 (d2 (d2 (d2 (ae 0) (dC (.int 1000000007)) (dQ (λ_ j=>0<j) λi j=>.int (i%j))) (d2 (d2 (dC (.int 2)) (ae 1) fJ) (dC (.int 69069)) cH) fJ) (d2 (ae 1) (dC (.int 40503)) fJ) cH) (dC (.int 977)) cH) (dC (.int 3)) (dQ d8 λi j=>.int (i ^ j.toNat))) (d2 (ae 2) (d2 (ae 1) (dC (.int 13)) (dQ (λ_ j=>0<j) λi j=>.int (i%j))) aR) (dQ (λ_ j=>0<j) λi j=>.int (i%j)))) (aw (aM 4 (d2 (d2 (d2 (d2 (d2 (ae 3) (d2 (ae 1) (dC (.int 3)) cH) fJ) (d2 (ae 0) (dC (.int 65537)) (dQ (λ_ j=>0<j) λi j=>.int (i%j))) cH) (dC (.int 5)) cH) (dC (.int 5)) (dQ d8 λi j=>.int (i ^ j.toNat))) (d2 (ae 2) (d2 (d2 (ae 1) (dC (.int 5)) cH) (dC (.int 13)) (dQ (λ_ j=>0<j) λi j=>.int (i%j))) aR) (dQ (λ_ j=>0<j) λi j=>.int (i%j)))) (aw (aM 5 (d2 (d2 (d2 (d2 (ae 4) (d2 (ae 3) (dC (.int 1009)) (dQ (λ_ j=>0<j) λi j=>.int (i%j))) cH) (ae 1) cH) (dC (.int 3)) (dQ d8 λi j=>.int (i ^ j.toNat))) (d2 (ae 2) (d2 (d2 (ae 1) (dC (.int 7)) cH) (dC (.int 13)) (dQ (λ_ j=>0<j) λi j=>.int (i%j))) aR) (dQ (λ_ j=>0<j) λi j=>.int (i%j)))) (aJ (d2 (d2 (d2 (d2 (ae 3) (dC (.int 2147483647)) fJ) (ae 4) cH) (dC (.int 2147483647)) fJ) (ae 5) cH))))))))
theorem O7:Sem 2 4 Ac Ad:=by
 ext ys av K'-⟨cell,k,rfl,rfl,h0,h1,fin⟩;unfold Ad;let kU:∀(z:Int)(sl:-(Option DV)),gI 0 K' (.p (.int z)) ⟨sl,[]⟩:=λz sl=>⟨[],Y,Y,fin z⟩;simp! at ⊢;calc⟨⟨by decide,by decide,by decide⟩,?_⟩;split
 .exact kU _ _
 let⟨q1,e1,p1,b1⟩:=Ab k;let⟨q2,e2,p2,b2⟩:=Ab (k+5);let⟨q3,e3,p3,b3⟩:=Ab (k+7);erw[ic,Wx,Yp] at e1 e2 e3;erw[e1,e2,e3];let c0:0<=cell%1000000007:=XN _ (by decide);let c1:cell%1000000007<1000000007:=Xj _ (by decide);let m1:=t_ c0 (q32 c1) (show(0:Int)<=2*k+69069 by symm) (show 2*k+69069<=2147552717 by symm);refine⟨by decide,.inl ⟨by decide,by decide⟩,.inl ⟨⋯,⋯⟩,.inr ⟨by decide,by decide⟩,⟨by decide,by decide,?cp1⟩,by decide,p1,?_⟩
 case cp1 =>
  generalize cell%1000000007*(2*k+69069)=m at m1 ⊢;symm
 generalize(cell%1000000007*(2*k+69069)+k*40503+977) ^ (3:Int).toNat=x1;let o0:0<=x1%q1:=XN _ ⋯;let o1:x1%q1<q1:=Xj _ p1;let d0:0<=cell%65537:=XN _ (by decide);let d1:cell%65537<65537:=Xj _ (by decide);let m2:=t_ o0 (show x1%q1<=2147483648 by symm) (show(0:Int)<=k+3 by symm) (show k+3<=1073741827 by symm);refine⟨.inl ⟨⋯,⋯⟩,by decide,⟨by decide,by decide,?cp2⟩,by decide,p2,?_⟩
 case cp2 =>
  generalize x1%q1*(k+3)=m at m2 ⊢;symm
 let t0:0<=(x1%q1*(k+3)+cell%65537+5) ^ (5:Int).toNat%q2:=XN _ ⋯;let t1:(x1%q1*(k+3)+cell%65537+5) ^ (5:Int).toNat%q2<q2:=Xj _ p2;let u0:0<=x1%q1%1009:=XN _ (by decide);let u1:x1%q1%1009<1009:=Xj _ (by decide);generalize(x1%q1*(k+3)+cell%65537+5) ^ (5:Int).toNat%q2=m at t0 t1 ⊢;calc⟨by decide,⟨by decide,by decide,⋯⟩,by decide,p3,.inr ⟨by decide,by decide⟩,.inr ⟨by decide,by decide⟩,kU _ _⟩
noncomputable def iT(ns:-Int)(k z:Int):OV:=.lst [.lst (ns.map D.int),.int k,.int z]
structure bu(n:Int)(o:OV):Prop where
 out:∃ns k z,o=iT ns k z/\↑ns<=63/\0<=k/\k<=n
theorem bu.mono{n m:Int}{o:OV}(h:bu n o)(l:n<=m):bu m o:=by
 let⟨ns,k,z,e,h1,h2,h3⟩:=h.out;calc⟨ns,k,z,e,h1,h2,⋯⟩
inductive Ae (ys:-DV) (av:-OV) (K:RV->-OV->Prop):Prop
 |mk (n) (o) (_:ys=[.o 0]) (_:av=[o]) (_:bu n o) (_:∀o',bu n o'->K (.a 0) [o'])
def Af:WS:=(aw (qf (dC (.int 0)) (ae 0) (dC (.int 2))) (aJ (ae 0)))
theorem O8:Sem 1 0 Ae Af:=by
 ext ys av K'-⟨n,o,rfl,rfl,P,fin⟩;let⟨ns,k,z,rfl,h1,h2,h3⟩:=P.out;unfold Af iT;simp!;calc⟨[iT ns k 0],Y,Y,fin _ ⟨ns,k,0,Y,h1,h2,h3⟩⟩
inductive fz (ys:-DV) (av:-OV) (K:RV->-OV->Prop):Prop
 |mk (n m:Int) (o:OV) (_:ys=[.o 0,.p (.int m)]) (_:av=[o]) (_:bu n o) (_:n<2 ^ 30) (_:0<m) (_:m<10 ^ 40) (_:∀r o',0<=r->r<m->bu (n+1) o'->K (.p (.int r)) [o'])
def Ag:WS:=(aw (bh (dT (d2 (d2 (ae 0) (dC (.int 2)) aR) (ae 1) oLt)) (aw (aM 2 (d2 (ae 0) (dC (.int 1)) aR)) (aw (aM 3 (dC (.int 0))) (aw (bh (dT (d2 (ae 2) (dN (aq (d2 (ae 0) (dC (.int 0)) aR) ag) bY) oLt)) (aM 3 (d2 (d2 (ae 0) (dC (.int 0)) aR) (ae 2) aR)) (bh (dT (d2 (dN (aq (d2 (ae 0) (dC (.int 0)) aR) ag) bY) (dC (.int 0)) (oI λi j=>.bl (S (j<i))))) (aM 3 (d2 (d2 (d2 (ae 0) (dC (.int 0)) aR) (d2 (d2 (d2 (ae 2) (dC (.int 5)) fJ) (dC (.int 3)) cH) (dN (aq (d2 (ae 0) (dC (.int 0)) aR) ag) bY) (dQ (λ_ j=>0<j) λi j=>.int (i%j))) aR) (d2 (d2 (dC (.int 10)) (dC (.int 17)) (dQ d8 λi j=>.int (i ^ j.toNat))) (ae 2) cH) (dQ (λ_ j=>0<j) λi j=>.int (i%j)))) cA)) (aw (qf (d2 (ae 2) (dC (.int 1)) cH) (ae 0) (dC (.int 1))) (qf (ay 2 Ac (aq (ae 3) (aq (ae 2) ag))) (ae 0) (dC (.int 2))))))) cA) (aw (aM 4 (d2 (d2 (ae 0) (dC (.int 2)) aR) (ae 1) (dQ (λ_ j=>0<j) λi j=>.int (i%j)))) (aw (qf (d2 (d2 (ae 0) (dC (.int 2)) aR) (ae 1) (dQ v3 λi j=>.int (i.fdiv j))) (ae 0) (dC (.int 2))) (aJ (ae 4)))))
theorem O9:Sem 2 3 fz Ag:=by
 ext ys av K'-⟨n,m,o,rfl,rfl,P,hn,Gb,VD,fin⟩;let⟨ns,k,z,rfl,h1,h2,h3⟩:=P.out;unfold Ag iT
 let last:∀(k' z':Int)(sl:-(Option DV)),0<=k'->k'<=n+1->gI 1 K' (.p (.int (z'%m))) ⟨sl,[U (.lst [.lst (ns.map D.int),.int k',.int (z'.fdiv m)])]⟩:=λk' z' sl a b =>
  ⟨[iT ns k' (z'.fdiv m)],Y,Y,fin _ _ (XN _ ⋯) (Xj _ Gb) ⟨ns,k',_,Y,h1,a,b⟩⟩
 let O_:∀z,v3 z m:=λz=>⟨⋯,⋯⟩
 let rest:∀(k' z':Int)(s2 s3 s4:Option DV),0<=k'->k'<=n+1->(aw (aM 4 (d2 (d2 (ae 0) (dC (.int 2)) aR) (ae 1) (dQ (λ_ j=>0<j) λi j=>.int (i%j)))) (aw (qf (d2 (d2 (ae 0) (dC (.int 2)) aR) (ae 1) (dQ v3 λi j=>.int (i.fdiv j))) (ae 0) (dC (.int 2))) (aJ (ae 4)))) (iQ 1 K') ⟨[U (.o 0),U (.p (.int m)),s2,s3,s4],[U (.lst [.lst (ns.map D.int),.int k',.int z'])]⟩:=λk' z' s2 s3 s4 a b=>by
  simp![at2,Ga];exact⟨Gb,O_ _,last _ _ _ a b⟩
 calc aP λN hN=>?_;calc gh λA B hA hB=>?_;simp![at2] at ⊢;split
 .subst hA
  calc aP λN2 bR=>?_;simp![cI];subst bR;calc aP λN2 bR=>?_;simp!;subst bR;refine aP λN2 bR=>?_
  let go:∀(c:Int)(s4:Option DV),N2 ⟨[U (.o 0),U (.p (.int m)),U (.p (.int k)),U (.p (.int c)),s4],[U (.lst [.lst (ns.map D.int),.int k,.int z])]⟩:=λc s4=>by
   subst bR;simp![O6];calc⟨c,k,Y,Y,h2,⋯,λz'=>?_⟩;simp![Ga];subst hN;exact rest _ _ _ _ _ ⋯ ⋯
  calc gh λA B hA hB=>?_;simp![df] at ⊢;split
  .rename_i fX
   let⟨c,ec⟩:=F_ h2 (XE fX);subst hA;simp![df];rw[ec];exact go _ _
  .subst hB
   calc gh λA B hA hB=>?_;simp![df] at ⊢;split
   .rename_i nj
    let nj:=XE nj;let⟨c,ec⟩:=F_ (ns:=ns) (k:=(k*5+3)%(↑ns:Int)) (XN _ ⋯) (Xj _ nj);subst hA;simp![df];calc⟨.inr ⟨by decide,by decide⟩,nj,?_⟩;rw[ec];exact⟨⟨by decide,by decide,by decide⟩,by show(0:Int)<10 ^ 17+k;symm,go _ _⟩
   .subst hB
    exact go _ _
 .subst hB hN
  calc rest _ _ _ _ _ ⋯ ⋯
noncomputable def cW(p:Int×Int):D:=.tup [.int p.1,.int p.2]
structure dO(many:Int)(ps:-(Int×Int)):Prop where
 ends:∀p∈ps,0<=p.1/\p.1<p.2/\p.2<many
 mH:ps.Nodup
 jq:↑ps<=66
theorem dO.sub{many:Int}{ps qs:-(Int×Int)}(h:dO many ps)(s:qs.Sublist ps):dO many qs :=
 ⟨λp hp=>h.ends p (s.subset hp),h.mH.sublist s,WU s.length_le h.jq⟩
inductive Ah (ys:-DV) (av:-OV) (K:RV->-OV->Prop):Prop
 |mk (n kind many:Int) (o:OV) (_:ys=[.o 0,.p (.int kind),.p (.int many)]) (_:av=[o]) (_:bu n o) (_:n+100<2 ^ 30) (_:1<=many) (_:many<=12) (_:∀ps o',dO many ps->bu (n+67) o'->K (.n (ps.map cW)) [o'])
def Ai:WS:=(aw (aM 3 (oK ag)) (aw (eg (kP (aq (ae 2) ag)) (bF 4) (iw (qd (ae 3) (aq (eE (kP (aq (ae 4) ag)) [Z,U 4] (bF 0) dm (bt (aq (ae 0) (aq (ae 1) ag)))) ag)))) (aw (bh (dT (d2 (ae 1) (dC (.int 1)) oEq)) (aJ (mQ (zw (aq (dC (.int 1)) (aq (ae 2) ag))) [Z,U 0] (bF 0) dm (bt (aq (ay 2 fz (aq (ae 1) (aq (ae 0) ag))) (aq (ae 0) ag))))) cA) (aw (bh (dT (d2 (ae 1) (dC (.int 2)) oEq)) (aw (aM 5 (eE (kP (aq (d2 (ae 2) (dC (.int 1)) (oI λi j=>.int (i-j))) ag)) [Z] (bF 0) dm (bt (aq (ae 0) (aq (d2 (ae 0) (dC (.int 1)) cH) ag))))) (aJ (z_ (ae 5) (eE (bQ (ae 3)) [Z,U 2] (bF 0) (gH (dT (d2 (ae 0) (bt (aq (dC (.int 0)) (aq (d2 (ae 1) (dC (.int 1)) (oI λi j=>.int (i-j))) ag))) oEq)) (dT (d2 (ae 1) (dC (.int 2)) (oI λi j=>.bl (S (j<i)))))) (ae 0))))) cA) (aw (bh (dT (d2 (ae 1) (dC (.int 3)) oEq)) (aJ (ae 3)) cA) (aw (bh (dT (d2 (ae 1) (dC (.int 4)) oEq)) (aJ (mQ (bQ (ae 3)) [Z,U 0] (bF 0) (dT (d2 (ay 2 fz (aq (ae 1) (aq (dC (.int 4)) ag))) (dC (.int 0)) oEq)) (ae 0))) cA) (aw (bh (dT (d2 (ae 1) (dC (.int 5)) oEq)) (aw (aM 6 (ay 2 fz (aq (ae 0) (aq (d2 (ae 2) (dC (.int 1)) cH) ag)))) (aJ (mQ (bQ (ae 3)) [Z,U 6,U 0] (bF 0) (gH (dT (d2 (d2 (d2 (ae 0) (dC (.int 0)) aR) (ae 1) oLt) (d2 (d2 (ae 0) (dC (.int 1)) aR) (ae 1) oLt) oEq)) (dT (d2 (ay 2 fz (aq (ae 2) (aq (dC (.int 3)) ag))) (dC (.int 0)) (oI λi j=>.bl (S (j<i)))))) (ae 0)))) cA) (aJ (mQ (bQ (ae 3)) [Z,U 0] (bF 0) (dT (d2 (ay 2 fz (aq (ae 1) (aq (dC (.int 2)) ag))) (dC (.int 0)) oEq)) (ae 0))))))))))
theorem sub_snoc{α:Type}{zs ps:-α}{i:Nat}{x:α}(h:zs.Sublist (ps.take i))(e:ps[i]?=U x):(zs++[x]).Sublist (ps.take (i+1))/\zs.Sublist (ps.take (i+1)):=by
 let:ps.take (i+1)=ps.take i++[x]:=by rw[Y9,e];rfl
 rw[this];calc⟨h.append (q17 _),h.trans (List.sublist_append_left _ _)⟩
theorem Pa{α:Type}{l:-α}{c:α}(h:l.Nodup)(hc:∀x∈l,x=c):↑l<=1:=by
 match l,h,hc with
 |[],_,_=>exact W8 _
 |[_],_,_=>exact Ek _
 |x::y::r,h,hc =>
  let:=(Ys.mp h).1 y (Wo);calc absurd ((hc x Wo).trans (hc y (Vu _ Wo)).symm) this
theorem Aj{n:Int}{o:OV}{ps:-(Int×Int)}{t:WT}{K:-D->aH->Prop}{rest:-(Option DV)}{ev:Option OV}{bJ:aH->Prop}(hc:∀sl o',bJ ⟨sl,[U o',ev]⟩)(hw:↑ps<=66)(P:bu n o)(hn:n+70<2 ^ 30)
  (ht:∀(p:Int×Int)(i:Nat)(o':OV)(Q:Bool->aH->Prop),p∈ps->i<=66->bu (n+i) o'->(∀b kW,bu (n+i+1) kW->Q b ⟨U (.p (cW p))::rest,[U kW,ev]⟩)->t ⟨U (.p (cW p))::rest,[U o',ev]⟩ Q)
  (hr:gf 2 rest rest=rest)
  (fin:∀(zs:-(Int×Int)) o',zs.Sublist ps->bu (n+↑ps) o'->K (zs.map cW) ⟨Z::rest,[U o',ev]⟩) :
  jh ⟨Z::rest,[U o,ev]⟩ bJ (bF 0) t (ae 0) K (ps.map cW) [] ⟨Z::rest,[U o,ev]⟩:=by
 refine z6 (λi acc δ=>∃(zs:-(Int×Int))(o':OV),zs.Sublist (ps.take i)/\acc=zs.map cW/\bu (n+i) o'/\δ=⟨Z::rest,[U o',ev]⟩) ⟨[],o,q17 _,Y,P.mono ⋯,Y⟩ ?_ ?_
 .ext j d acc δ L hj ⟨zs,o',hz,rfl,P',rfl⟩ hL
  rw[My] at hj;let⟨p,hp,rfl⟩:=Ws.mp hj;let VE:j<↑ps:=(sG.mp hp).1;calc⟨hc _ _,?_⟩;show t ⟨U (.p (cW p))::rest,[U o',ev]⟩ _;refine ht p j o' _ (WR hp) ⋯ P' λb kW nk=>?_
  let hlen:↑(zs.map cW)<1000:=by
   rw[pN];let:=hz.length_le;rw[WM] at this;symm
  let P3:bu (n+((j+1:Nat):Int)) kW:=nk.mono ⋯
  cases b with
  |true =>
   rw[Wm Y];calc⟨hlen,hL _ _ ⟨zs++[p],kW,(sub_snoc hz hp).1,by rw[WK];rfl,P3,?_⟩⟩;show(⟨Z::gf 2 rest rest,_⟩:aH)=_;rw[hr];rfl
  |false =>
   rw[Vw (by decide)];calc hL _ _ ⟨zs,kW,(sub_snoc hz hp).2,Y,P3,?_⟩;show(⟨Z::gf 2 rest rest,_⟩:aH)=_;rw[hr];rfl
 .ext acc δ ⟨zs,o',hz,rfl,P',rfl⟩
  rw[pN] at P' hz;rw[Xa (Ek _)] at hz;calc⟨hc _ _,fin zs o' hz P'⟩
theorem Pb:Sem 3 4 Ah Ai:=by
 ext ys av K'-⟨n,kind,many,o,rfl,rfl,P,hn,m1,j3,fin⟩;let⟨mm,rfl⟩:∃mm:Nat,many=mm:=⟨many.toNat,⋯⟩;let Ak:mm<=12:=by symm
 unfold Ai;let cw:dO mm (jd mm):=⟨λp hp=>yU hp,EN mm,EO mm Ak⟩;calc aP λN hN=>?_;simp!;subst hN;calc aP λN hN=>?_;simp!;calc⟨⋯,?_⟩;refine lS (λi δ=>δ=⟨[U (.o 0),U (.p (.int kind)),U (.p (.int mm)),U (.o 1),Z,Z,Z],[U o,U (.lst ((jd i).map cW))]⟩) Y ?_ ?_
 .ext j d δ L hj rfl hL
  let⟨hj,rfl⟩:=mY hj;simp!;let e:(0+(j:Int))=j:=by symm
  rw[e];refine⟨⋯,?_⟩
  refine iR (λd=>match d with
   |.int a=>cW (a,j)
   |_=>.non) (by rw[mZ];symm) trivial ?_ ?_
  .ext d hd acc L' ha h
   let⟨i,hi⟩:=Wt.mp hd;let⟨hi,rfl⟩:=mY hi;simp!;exact⟨ha,h⟩
  .let e2:(jd j).map cW++(cG 0 (j:Int).toNat).map (λd=>match d with
    |.int a=>cW (a,j)
    |_=>.non)=(jd (j+1)).map cW:=by
    show _=(jd j++_).map cW;unfold cG;rw[WK,WC,WC];congr 1;calc XC λa _=>?_;simp[q1p]
   simp!;let VF:=EO j ⋯;calc⟨by rw[mZ];symm,?_⟩;rw[e2];exact hL _ Y
 .ext δ rfl
  calc⟨trivial,?_⟩;subst hN;let eL:((mm:Int)).toNat=mm:=by symm
  rw[mZ,eL];dsimp only
  let back:∀(ps:-(Int×Int))(o':OV)(sl:-(Option DV))(m:-(Option OV)),dO mm ps->bu (n+67) o'->gI 1 K' (.o (↑m+1)) ⟨sl,U o'::(m++[U (.lst (ps.map cW))])⟩:=λps o' sl m h1 h2=>by
   calc⟨[o'],Y,Y,?_⟩;show if ↑m+1<1 then _ else _;rw[Vw ⋯]
   let:(U o'::(m++[U (OV.lst (ps.map cW))]))[↑m+1]?=U (U (.lst (ps.map cW))):=by
    rw[Zs,Vs (Ek _),Xn];rfl
   dsimp only;rw[this];exact .inl (fin ps o' h1 h2)
  calc aP λN hN=>?_;simp![aI] at ⊢;split
  .refine⟨⋯,?_⟩
   refine z6 (λi acc δ=>∃(zs:-(Int×Int))(o':OV),↑zs=i/\(∀(q:Nat)(p:Int×Int),zs[q]?=U p->p.2=q+1/\0<=p.1/\p.1<p.2)/\acc=zs.map cW/\bu (n+i) o'/\δ=⟨[Z,U (.o 0)],[U o',U (.lst ((jd mm).map cW))]⟩) ⟨[],o,Y,λq p e=>by simp at e,Y,P.mono ⋯,Y⟩ ?_ ?_
   .ext j d acc δ L hj ⟨zs,o',hz,hq,rfl,P',rfl⟩ hL
    let⟨hj,rfl⟩:=mY hj;simp!;calc⟨n+j,1+j,o',Y,Y,P',⋯,⋯,⋯,λr kW r0 r1 nk=>?_⟩;simp!;refine⟨⋯,hL _ _ ⟨zs++[(r,1+(j:Int))],kW,by rw[MJ,hz];rfl,λq p e=>?_,by rw[WK];rfl,nk.mono ⋯,Y⟩⟩
    by_cases c:q<↑zs
    .rw[ML c] at e
     exact hq q p e
    .let hl:=(sG.mp e).1
     rw[MJ,XI] at hl;let:q=↑zs:=by symm
     subst this;rw[Vs (Ek _),Xn] at e;cases(show U (r,1+(j:Int))=U p by simpa using e)
     exact⟨by show 1+(j:Int)=_;symm,r0,r1⟩
   .ext acc δ ⟨zs,o',hz,hq,rfl,P',rfl⟩
    rw[mZ] at hz P';calc⟨trivial,?_⟩;refine back zs o' _ [_] ⟨λp hp=>?_,?_,⋯⟩ (P'.mono ⋯)
    .let⟨q,oz⟩:=Wt.mp hp
     let:=hq q p oz;let hl:=(sG.mp oz).1;symm
    .refine Yv.mpr λi j hi hj ib e=>?_
     let q1:=hq i _ (pM hi);let q2:=hq j _ (pM hj);rw[e] at q1;symm
  subst hN;calc aP λN hN=>?_;simp![aI] at ⊢;split
  .clear hN
   refine⟨⋯,?_⟩
   refine iR (λd=>match d with
    |.int a=>cW (a,a+1)
    |_=>.non) (by rw[mZ];symm) trivial ?_ ?_
   .ext d hd acc L' ha h
    let⟨i,hi⟩:=Wt.mp hd;let⟨hi,rfl⟩:=mY hi;simp!;exact⟨ha,h⟩
   .simp!
    refine lT (λd=>aI d (cW (0,mm-1))&&S ((2:Int)<mm)) id (by rw[pN];let:=cw.jq;symm) Y ?_ ?_
    .ext d hd acc L' ha h h'
     let⟨p,hp,rfl⟩:=Wq.mp hd;erw[cW] at h h';simp![cW] at ⊢;split
     .rename_i q1
      split
      .rename_i q2
       exact⟨ha,h (by rw[q1,q2];rfl)⟩
      .rename_i q2
       exact h' (by rw[q1,q2p _ |>.mp q2];rfl)
     .rename_i q1
      exact h' (by rw[q2p _ |>.mp q1];rfl)
    .simp!
     let er:(cG 0 ((mm:Int)-1).toNat).map (λd=>match d with
       |D.int a=>cW (a,a+1)
       |x=>D.non)=((WL (mm-1)).map λi:Nat=>((i:Int),(i:Int)+1)).map cW:=by
      unfold cG;rw[WC,WC];let:((mm:Int)-1).toNat=mm-1:=by symm
      rw[this];calc XC λa _=>?_;simp[q1p]
     let ef:(((jd mm).map cW).filter λd=>aI d (cW (0,mm-1))&&S ((2:Int)<mm))=((jd mm).filter λp=>aI (cW p) (cW (0,mm-1))&&S ((2:Int)<mm)).map cW:=by
      rw[q2G];rfl
     rw[er,q0i,ef,<-WK]
     let hf:∀p∈(jd mm).filter (λp=>aI (cW p) (cW (0,mm-1))&&S ((2:Int)<mm)),p=(0,(mm:Int)-1)/\(2:Int)<mm:=λp hp=>by
      let:=(X8.mp hp).2;simp[cW,aI,cZ] at this;let⟨a,b⟩:=p;simp at this ⊢;symm
     let h1:↑((jd mm).filter (λp=>aI (cW p) (cW (0,mm-1))&&S ((2:Int)<mm)))<=1:=Pa (cw.mH.sublist Ze) λp hp=>(hf p hp).1;refine⟨by rw[mZ,pN];symm,back _ o _ [_] ⟨λp hp=>?_,?_,?_⟩ (P.mono ⋯)⟩
     .rcases W7.mp hp with hp|hp
      .let⟨i,hi,rfl⟩:=Wq.mp hp
       let:=Xf.mp hi;exact⟨⋯,⋯,by show(i:Int)+1<mm;symm⟩
      .exact cw.ends p (X8.mp hp).1
     .refine ZA.mpr ⟨?_,cw.mH.sublist Ze,λa ha b hb e=>?_⟩
      .refine X1.mpr (ZI.imp λ{a b} ne e=>ne ?_)
       let:=congrArg q4J e;exact q1n this
      .subst e
       let⟨i,hi,rfl⟩:=Wq.mp ha;let:=hf _ hb;let h2:=congrArg q4J this.1;let h3:=congrArg Prod.snd this.1;simp at h2 h3;symm
     .rw[MJ,pN,W6];symm
  subst hN;calc aP λN hN=>?_;simp![aI] at ⊢;split
  .exact⟨[o],Y,Y,.inl (fin _ _ cw (P.mono ⋯))⟩
  subst hN;calc aP λN hN=>?_;simp![aI] at ⊢;split
  .refine Aj (λ_ _=>Y) cw.jq P ⋯ (λp i o' Q hp hi P' hQ=>?_) Y λzs o' hz P'=>?_
   .simp![aI]
    calc⟨n+i,4,o',Y,Y,P',⋯,⋯,⋯,λr kW r0 r1 nk=>?_⟩;simp!;exact hQ _ _ nk
   .exact back zs o' _ [_] (cw.sub hz) (P'.mono (by let:=cw.jq;symm))
  subst hN;calc aP λN hN=>?_;simp![aI] at ⊢;split
  .refine⟨n,mm+1,o,Y,Y,P,⋯,⋯,⋯,λhalf o1 r0 r1 P1=>?_⟩
   simp!;refine Aj (n:=n+1) (λ_ _=>Y) cw.jq P1 ⋯ (λp i o' Q hp hi P' hQ=>?_) Y λzs o' hz P'=>?_
   .simp![aI,cW,df,cI] at ⊢
    split
    .refine⟨n+1+i,3,o',Y,Y,P',⋯,⋯,⋯,λr kW r0 r1 nk=>?_⟩
     simp!;exact hQ _ _ nk
    .exact hQ _ _ (P'.mono ⋯)
   .exact back zs o' _ [_] (cw.sub hz) (P'.mono (by let:=cw.jq;symm))
  subst hN;simp![aI];refine Aj (λ_ _=>Y) cw.jq P ⋯ (λp i o' Q hp hi P' hQ=>?_) Y λzs o' hz P'=>?_
  .simp![aI]
   calc⟨n+i,2,o',Y,Y,P',⋯,⋯,⋯,λr kW r0 r1 nk=>?_⟩;simp!;exact hQ _ _ nk
  .calc back zs o' _ [_] (cw.sub hz) (P'.mono (by let:=cw.jq;symm))
theorem Gd{α:Type}:∀{l:-α}{j:Nat}(h:j<↑l),q6x (l[j]::l.eraseIdx j) l
 |x::r,0,h=>List.Perm.refl _
 |x::r,j+1,h=>by
  let hj:j<↑r:=by simpa using h
  show q6x (r[j]::x::r.eraseIdx j) (x::r);calc(List.Perm.swap x r[j] _).trans ((Gd hj).cons x)
theorem Ge{α β:Type}(f:α->β):∀(l:-α)(j:Nat),(l.map f).eraseIdx j=(l.eraseIdx j).map f
 |[],_=>Y
 |_::_,0=>Y
 |x::r,j+1=>by
  show f x::(r.map f).eraseIdx j=f x::(r.eraseIdx j).map f;rw[Ge f r j]
noncomputable def aN(y:Int×Int×Int):D:=.tup [.int y.1,.int y.2.1,.int y.2.2]
noncomputable def aK(m:Int)(ys:-(Int×Int×Int)):D:=.tup [.int m,.tup (ys.map aN)]
noncomputable def nq(y:Int×Int×Int):Int×Int:=(y.1,y.2.1)
theorem dO.perm{many:Int}{ps qs:-(Int×Int)}(h:dO many ps)(p:qs.Perm ps):dO many qs :=
 ⟨λx hx=>h.ends x (p.mem_iff.mp hx),p.nodup_iff.mpr h.mH,by rw[p.length_eq];calc h.jq⟩
inductive Al (ys:-DV) (av:-OV) (K:RV->-OV->Prop):Prop
 |mk (n dR most:Int) (o:OV) (_:ys=[.o 0,.p (.int dR),.p (.int most)]) (_:av=[o]) (_:bu n o) (_:n+400<2 ^ 30) (_:1<=dR) (_:dR<=12) (_:0<=most) (_:most<=30) (_:∀m ws o',a_ m ws->m<=dR->(↑ws:Int)<=most->bu (n+300) o'->K (.p (aK m ws)) [o'])
def Am:WS:=(aw (aM 3 (ay 2 fz (aq (ae 0) (aq (dC (.int 8)) ag)))) (aw (aM 4 (ay 2 fz (aq (ae 0) (aq (dC (.int 4)) ag)))) (aw (aM 5 (d2 (dC (.int 1)) (ay 2 fz (aq (ae 0) (aq (ae 1) ag))) cH)) (aw (aM 6 (tM 3 Ah (aq (ae 0) (aq (ae 3) (aq (ae 5) ag))))) (aw (aM 7 (oK ag)) (aw (eg (kP (aq (dN (aq (ae 2) (aq (dN (aq (ae 6) ag) bY) ag)) q_) ag)) (bF 8) (aw (hZ (zW (ae 6) (aq (ay 2 fz (aq (ae 0) (aq (dN (aq (ae 6) ag) bY) ag))) ag)) (j8 2 (fG (bF 9) (fG (bF 10) jE)))) (aw (aM 11 (d2 (bX (aq (dC (.int 7)) (aq (ay 2 fz (aq (ae 0) (aq (dC (.int 3)) ag))) (aq (d2 (d2 (dC (.int 10)) (dC (.int 9)) (dQ d8 λi j=>.int (i ^ j.toNat))) (ay 2 fz (aq (ae 0) (aq (dC (.int 2)) ag))) (oI λi j=>.int (i-j))) (aq (ay 2 fz (aq (ae 0) (aq (d2 (d2 (dC (.int 10)) (dC (.int 9)) (dQ d8 λi j=>.int (i ^ j.toNat))) (dC (.int 1)) cH) ag))) ag))))) (ae 4) aR)) (iw (h_ (ae 7) (aq (bt (aq (ae 9) (aq (ae 10) (aq (ae 11) ag)))) ag)))))) (aJ (bt (aq (ae 5) (aq (dN (aq (ae 7) ag) tW) ag))))))))))
theorem Pc:Sem 3 9 Al Am:=by
 ext ys av K'-⟨n,dR,most,o,rfl,rfl,P,hn,h1,Pd,s0,VG,fin⟩;unfold Am;calc aP λN hN=>?_;simp!;calc⟨n,8,o,Y,Y,P,⋯,⋯,⋯,λkind o1 _ _ P1=>?_⟩;simp!;subst hN;calc aP λN hN=>?_;simp!;calc⟨n+1,4,o1,Y,Y,P1,⋯,⋯,⋯,λeO o2 p0 p4 P2=>?_⟩;simp!;subst hN;calc aP λN hN=>?_;simp!;calc⟨n+1+1,dR,o2,Y,Y,P2,⋯,⋯,⋯,λmm o3 m0 mh P3=>?_⟩;simp!;subst hN;calc aP λN hN=>?_;simp!;refine⟨n+1+1+1,kind,1+mm,o3,Y,Y,P3,⋯,⋯,⋯,λps o4 v5 P4=>?_⟩
 simp!;subst hN;calc aP λN hN=>?_;simp!;subst hN;calc aP λN hN=>?_;let VH:=v5.jq;simp!;calc⟨⋯,?_⟩;let ek:(min most (↑ps:Int)).toNat=min most.toNat ↑ps:=by symm
 rw[ek];generalize hk:min most.toNat ↑ps=k
 refine lS (λi δ=>∃(qs:-(Int×Int))(ws:-(Int×Int×Int))(o':OV),↑qs+i=↑ps/\↑ws=i/\dO (1+mm) (ws.map nq++qs)/\(∀y∈ws,0<=y.2.2/\y.2.2<=1000000000)/\bu (n+70+4*i) o' ∧
  δ=⟨[U (.o 0),U (.p (.int dR)),U (.p (.int most)),U (.p (.int kind)),U (.p (.int eO)),U (.p (.int (1+mm))),U (.o 1),U (.o 2),Z,Z,Z,Z],[U o',U (.lst (qs.map cW)),U (.lst (ws.map aN))]⟩)
  ⟨ps,[],o4,⋯,Y,v5,λy hy=>absurd hy WD,P4.mono ⋯,Y⟩ ?_ ?_
 .ext j d δ L hj ⟨qs,ws,o',hq,hw,hp,hy,P',rfl⟩ hL
  let⟨hj,rfl⟩:=mY hj;let q0:0<↑qs:=by symm
  let Pe:=hp.jq;rw[MJ,pN] at Pe;calc⟨trivial,?_⟩;erw[bF,Xk,Xl];calc aP λN2 bR=>?_;simp!;calc⟨n+70+4*j,↑qs,o',Y,Y,P',⋯,⋯,⋯,λr o1 r0 r1 P1=>?_⟩;let⟨rn,rfl⟩:∃rn:Nat,r=rn:=⟨r.toNat,⋯⟩;let hr:rn<↑qs:=by symm
  let ix:seqIndex? (rn:Int) ↑qs=U rn:=NH hr;let eq:(qs.map cW)[rn]?=U (.tup [.int qs[rn].1,.int qs[rn].2]):=by rw[My,pM hr];rfl
  simp![ix,eq];calc⟨⟨⋯,⋯⟩,?_⟩;subst bR;calc aP λN2 bR=>?_;erw[aM,d2,bX];calc iS λK3 kX=>?_;simp!;subst kX;calc iS λK3 kX=>?_;simp!;calc⟨n+70+4*j+1,3,o1,Y,Y,P1,⋯,⋯,⋯,λa1 o2 VI VJ P2=>?_⟩;simp!;subst kX;calc iS λK3 kX=>?_;simp!;calc⟨⟨by decide,by decide,by decide⟩,n+70+4*j+1+1,2,o2,Y,Y,P2,⋯,⋯,⋯,λa2 o3 VL VM P3=>?_⟩;simp!;subst kX;calc iS λK3 kX=>?_;simp!;refine⟨⟨by decide,by decide,by decide⟩,n+70+4*j+1+1+1,10 ^ q0y 9+1,o3,Y,Y,P3,⋯,by decide,by decide,λa3 o4 VN Pf P4=>?_⟩
  simp!;subst kX;simp!;let e9:(10:Int) ^ q0y 9=1000000000:=by decide
  rw[e9] at Pf ⊢
  let⟨pr,Pg,Ph,Pj⟩:∃pr:Int,dX [D.int 7,D.int a1,D.int (1000000000-a2),D.int a3] eO=U (.int pr)/\0<=pr/\pr<=1000000000:=by
   let:eO=0\/eO=1\/eO=2\/eO=3:=by symm
   rcases this with rfl|rfl|rfl|rfl
   .exact⟨7,Y,⋯,⋯⟩
   .exact⟨a1,Y,⋯,⋯⟩
   .exact⟨1000000000-a2,Y,⋯,⋯⟩
   .exact⟨a3,Y,⋯,⋯⟩
  rw[Pg];show N2 _;subst bR;simp!;refine⟨⋯,hL _ ⟨qs.eraseIdx rn,ws++[(qs[rn].1,qs[rn].2,pr)],o4,?_,?_,?_,?_,P4.mono ⋯,?_⟩⟩
  .rw[List.length_eraseIdx_of_lt hr];symm
  .rw[MJ,hw];rfl
  .refine hp.perm ?_
   rw[WK,Yj];calc List.Perm.append_left _ ?_;exact Gd hr
  .ext y oG
   rcases W7.mp oG with h|h
   .exact hy y h
   .rw[WW.mp h];exact⟨Ph,Pj⟩
  .rw[WK,Ge];rfl
 .ext δ ⟨qs,ws,o',hq,hw,hp,hy,P',rfl⟩
  calc⟨trivial,?_⟩;subst hN;simp!;rw[mZ] at hw P';calc⟨[o'],Y,Y,?_⟩;refine fin (1+mm) ws o' ⟨⋯,⋯,⋯,λy oG=>?_,?_⟩ ⋯ ⋯ (P'.mono ⋯)
  .let:=hp.ends (nq y) (XU _ (Wq.mpr ⟨y,oG,Y⟩))
   let h2:=hy y oG;erw[nq] at this;symm
  .calc (ZA.mp hp.mH).1
end LJ
namespace L2
open PySem PySem.Spec PyProof.Rows
variable[aS]
section
variable{X:Cx}{fa:WA}
end
end L2
namespace LJ
open PySem L2
variable[aS]
noncomputable def Gf:D->Bool
 |.int _=>θ
 |_=>ι
noncomputable def v7:D->Int->Int->Bool
 |.int i,lo,hi=>S (lo<=i)&&S (i<=hi)
 |_,_,_=>ι
noncomputable def v8:D->Int->Bool
 |.tup ds,n=>(↑ds:Int)==n
 |_,_=>ι
theorem gK{K:RV->-OV->Prop}{d:D}{sl:-(Option DV)}(h:K (.p d) []):gI 0 K (.p d) ⟨sl,[]⟩:=⟨[],Y,Y,h⟩
inductive An (ys:-DV) (av:-OV) (K:RV->-OV->Prop):Prop
 |mk (d) (_:ys=[.p d]) (_:av=[]) (_:K (.p (.bl (Gf d))) [])
def Ao:WS:=(aJ (j7 (d1 (ae 0) (cO "int")) (y9 (d1 (ae 0) (cO "bool")))))
theorem Pk:Sem 1 0 An Ao:=by
 ext ys av K'-⟨d,rfl,rfl,k⟩;unfold Ao;simp!;cases d<;>erw[cF,bf]<;>calc gK k
inductive nv (ys:-DV) (av:-OV) (K:RV->-OV->Prop):Prop
 |mk (d) (lo) (hi) (_:ys=[.p d,.p (.int lo),.p (.int hi)]) (_:av=[]) (_:K (.p (.bl (v7 d lo hi))) [])
def Ap:WS:=(aJ (j7 (ay 1 An (aq (ae 0) ag)) (zM (ae 1) (ae 0) (ae 2) (oI λi j=>.bl (S (i<=j))) (oI λi j=>.bl (S (i<=j))))))
theorem Pl:Sem 3 0 nv Ap:=by
 ext ys av K'-⟨d,lo,hi,rfl,rfl,k⟩;unfold Ap;simp!;calc⟨d,Y,Y,?_⟩;cases d<;>simp![Gf,v7] at k ⊢ <;> first|exact gK k|skip
 rename_i i
 by_cases c:lo<=i
 .rw[Wu c] at k ⊢
  erw[Bool.true_and] at k;exact gK k
 .rw[Wn c] at k ⊢
  erw[q04] at k;calc gK k
inductive v9 (ys:-DV) (av:-OV) (K:RV->-OV->Prop):Prop
 |mk (d) (n) (_:ys=[.p d,.p (.int n)]) (_:av=[]) (_:K (.p (.bl (v8 d n))) [])
def Aq:WS:=(aJ (j7 (d1 (ae 0) (cO "tuple")) (d2 (dN (aq (ae 0) ag) bY) (ae 1) oEq)))
theorem Pm:Sem 2 0 v9 Aq:=by
 ext ys av K'-⟨d,n,rfl,rfl,k⟩;unfold Aq;simp!;cases d<;>simp![cF,bf,v8,aI] at k ⊢ <;> calc gK k
theorem jK{K:RV->-OV->Prop}{d:D}{sl:-(Option DV)}{mu:-(Option OV)}(h:K (.p d) []):gI 0 K (.p d) ⟨sl,mu⟩:=⟨[],Y,Y,h⟩
theorem Ar:∀{ds:-D}{d:D},d∈ds->dep d<=bq ds
 |a::r,d,h=>by
  erw[bq];rcases MN.mp h with rfl|h
  .omega
  .let:=Ar h;symm
theorem ny:bf "NoneType" "bool" = ι:=rfl
theorem nA:bf "NoneType" "int" = ι:=rfl
theorem nB:bf "NoneType" "str" = ι:=rfl
theorem nD:bf "NoneType" "tuple" = ι:=rfl
theorem nE:bf "NoneType" "list" = ι:=rfl
theorem lU:bf "bool" "bool" = θ:=rfl
theorem lV:bf "bool" "int" = θ:=rfl
theorem lW:bf "bool" "str" = ι:=rfl
theorem lX:bf "bool" "tuple" = ι:=rfl
theorem lY:bf "bool" "list" = ι:=rfl
theorem kY:bf "int" "bool" = ι:=rfl
theorem kZ:bf "int" "int" = θ:=rfl
theorem k6:bf "int" "str" = ι:=rfl
theorem k9:bf "int" "tuple" = ι:=rfl
theorem k_:bf "int" "list" = ι:=rfl
theorem ka:bf "str" "bool" = ι:=rfl
theorem kg:bf "str" "int" = ι:=rfl
theorem kh:bf "str" "str" = θ:=rfl
theorem ki:bf "str" "tuple" = ι:=rfl
theorem kj:bf "str" "list" = ι:=rfl
theorem nG:bf "tuple" "bool" = ι:=rfl
theorem nH:bf "tuple" "int" = ι:=rfl
theorem nJ:bf "tuple" "str" = ι:=rfl
theorem nK:bf "tuple" "tuple" = θ:=rfl
theorem nL:bf "tuple" "list" = ι:=rfl
theorem nM:bf "list" "bool" = ι:=rfl
theorem nN:bf "list" "int" = ι:=rfl
theorem nP:bf "list" "str" = ι:=rfl
theorem nQ:bf "list" "tuple" = ι:=rfl
theorem nR:bf "list" "list" = θ:=rfl
theorem As:∀{as:-D}{d:D},d∈cN as as->∃a,d=.tup [a,a]/\a∈as
 |[],d,h=>nomatch h
 |x::r,d,h=>by
  erw[cN] at h;rcases MN.mp h with rfl|h
  .exact⟨x,Y,Wo⟩
  .let⟨a,e,m⟩:=As h
   calc⟨a,e,Vu _ m⟩
theorem Au:∀l:-D,bq (l.map λ_=>D.bl θ)<=55
 |[]=>W8 _
 |_::r=>by
  rw[Wx];let:=Au r;erw[bq,dep];symm
end LJ
namespace L2
open PySem PySem.Spec PyProof.Rows
variable[aS]
def Gg:-D->(D->Prop)->Prop:=λds K=>∃ps:-(Int×Int),ds=[.lst (ps.map λp=>.tup [.int p.1,.int p.2])]/\↑ps<=30/\(∀p∈ps,0<=p.1/\p.1<p.2/\p.2<12)/\ps.Nodup/\K (.int ↑ps)
section
variable{X:Cx}{fa:WA}
theorem Pn{a:J}{p1 p2 q1 q2:y}(hc:X.calm=θ)(hu:X.A.units+64<cLine)(zP:Gl X "len")(hl:X.mg "len" = Z)(zQ:bootBuiltins "len" = U (.builtin "len"))(qb:Gl X "set")(hr:X.mg "set" = Z)(qc:bootBuiltins "set" = U (.type "set"))(ha:JA X [a] (b8 fa))
  (he:‹starEach [a] X.env=[(ι,eval a X.env)]›) (zR:‹starEach [.Call (.Name "set" p2) [a] [] q2] X.env=[(ι,eval (.Call (.Name "set" p2) [a] [] q2) X.env)]›):JE X (.Call (.Name "len" p1) [.Call (.Name "set" p2) [a] [] q2] [] q1) (tD (dN fa Gg)) :=
 (uZ (NC) zP hl zQ (mG (pG (Ny hc hu) qb hr qc ha (he:=he)) cK) (he:=zR)).weak fun σ H Q ⟨F,ad,δ,K,S,q,k⟩=>⟨F,ad,δ,_,S,q,λxs δ1 h1 vs F1 aV H1 E1 S1 V1=>by
  let⟨ds,⟨ps,rfl,d4,bd,mH,h2⟩,pT⟩:=vn S1 V1 h1;let⟨v,rfl,a,vs,rfl,g1,g2⟩:=c5 pT;let⟨as,rfl,hl,g⟩:=F7 g2;calc⟨a,as,ps,Y,bE.of g1,hl,λi b k' e1 e2=>S1.sub _ _ (g i b k' e1 e2),bd,mH,d4,λp hp=>⟨p,↑ps,Y,b_,⋯,?_⟩⟩;let s1:aL H1 (upd H1 p (kI p ↑ps)):=de hp
  calc k _ _ h2 _ _ _ _ (E1.trans (Ext.al S1 s1)) (S1.al s1) Y⟩
end
end L2
namespace LJ
open PySem L2
variable[aS]
theorem rm{i lo hi:Int}(h:lo<=i)(h':i<=hi):v7 (.int i) lo hi=θ:=by
 show(S (lo<=i)&&S (i<=hi))=θ;rw[Wu h,Wu h'];rfl
inductive Av (ys:-DV) (av:-OV) (K:RV->-OV->Prop):Prop
 |mk (m i j:Int) (_:ys=[.p (.int m),.p (.int i),.p (.int j)]) (_:av=[]) (_:0<=i) (_:i<j) (_:j<m) (_:K (.p (.bl θ)) [])
def Aw:WS:=(aJ (j7 (ay 3 nv (aq (ae 1) (aq (dC (.int 0)) (aq (d2 (ae 0) (dC (.int 1)) (oI λi j=>.int (i-j))) ag)))) (ay 3 nv (aq (ae 2) (aq (d2 (ae 1) (dC (.int 1)) cH) (aq (d2 (ae 0) (dC (.int 1)) (oI λi j=>.int (i-j))) ag))))))
theorem Po:Sem 3 0 Av Aw:=by
 ext ys av K'-⟨m,i,j,rfl,rfl,h1,h2,h3,k⟩;unfold Aw;simp!;calc⟨.int i,0,m-1,Y,Y,?_⟩;rw[rm h1 ⋯];simp!;calc⟨.int j,i+1,m-1,Y,Y,?_⟩;rw[rm ⋯ ⋯];simp!;calc gK k
structure Gh(m:Int)(y:Int×Int×Int):Prop where
 low:0<=y.1
 up:y.1<y.2.1
 most:y.2.1<m
 pr:0<=y.2.2/\y.2.2<=1000000000
inductive Ax (ys:-DV) (av:-OV) (K:RV->-OV->Prop):Prop
 |mk (m) (y) (_:Gh m y) (_:ys=[.p (.int m),.p (aN y)]) (_:av=[]) (_:K (.p (.bl θ)) [])
def Az:WS:=(aw (bh (dj (dT (ay 2 v9 (aq (ae 1) (aq (dC (.int 3)) ag))))) (aJ (dC (.bl ι))) cA) (aJ (j7 (ay 3 Av (aq (ae 0) (aq (d2 (ae 1) (dC (.int 0)) aR) (aq (d2 (ae 1) (dC (.int 1)) aR) ag)))) (ay 3 nv (aq (d2 (ae 1) (dC (.int 2)) aR) (aq (dC (.int 0)) (aq (dC (.int 1000000000)) ag)))))))
theorem Pp:Sem 2 0 Ax Az:=by
 ext ys av K'-⟨m,y,W,rfl,rfl,k⟩;unfold Az;calc aP λN hN=>?_;simp!;calc⟨aN y,3,Y,Y,?_⟩;rw[show v8 (aN y) 3=θ from Y];simp!;subst hN;simp![aN,df,cI,at2];calc⟨m,_,_,Y,Y,W.low,W.up,W.most,?_⟩;simp!;calc⟨_,0,1000000000,Y,Y,?_⟩;rw[rm W.pr.1 W.pr.2];simp!;calc gK k
theorem a_.way{m:Int}{ws:-(Int×Int×Int)}(W:a_ m ws){y:Int×Int×Int}(h:y∈ws):Gh m y :=
 let⟨a,b,c,d,e⟩:=W.ends y h
 ⟨a,⋯,⋯,d,e⟩
inductive AA (ys:-DV) (av:-OV) (K:RV->-OV->Prop):Prop
 |mk (m) (ws) (_:a_ m ws) (_:ys=[.p (.int m),.p (.tup (ws.map aN))]) (_:av=[]) (_:K (.p (.bl θ)) [])
def AB:WS:=(aw (bh (mL (dj (dT (d1 (ae 1) (cO "tuple")))) (dT (d2 (dN (aq (ae 1) ag) bY) (dC (.int 30)) (oI λi j=>.bl (S (j<i)))))) (aJ (dC (.bl ι))) cA) (aw (bh (dj (dT (dN (aq (eE (bQ (ae 1)) [Z,U 0] (bF 0) dm (ay 2 Ax (aq (ae 1) (aq (ae 0) ag)))) ag) m9))) (aJ (dC (.bl ι))) cA) (aJ (d2 (dN (aq (eE (bQ (ae 1)) [Z] (bF 0) dm (fL (ae 0) gg (j_ (dC (.int 2))))) ag) Gg) (dN (aq (ae 1) ag) bY) oEq))))
theorem Pq:Sem 2 0 AA AB:=by
 ext ys av K'-⟨m,ws,W,rfl,rfl,k⟩;let iU:=W.d4;let j3:=W.j3;unfold AB;calc aP λN hN=>?_;simp![cF,show bf "tuple" "tuple" = θ from rfl];rw[Vw (by rw[Wn ⋯];decide)];subst hN;calc aP λN hN=>?_;simp!;refine iR (λ_=>.bl θ) (by rw[pN];symm) trivial ?_ ?_
 .ext d hd acc L ha h
  let⟨y,hy,rfl⟩:=Wq.mp hd;simp!;calc⟨m,y,W.way hy,rfl,rfl,?_⟩;simp!;exact⟨ha,h⟩
 rw[show(ws.map aN).map (λ_=>D.bl θ)=(ws.map λ_=>θ).map D.bl by rw[WC,WC];rfl];simp![FF];rw[show(ws.map λ_=>θ).all id=θ from XS.mpr λb hb=>by let⟨_,_,rfl⟩:=Wq.mp hb;rfl];simp!;subst hN;simp!
 refine iR (λd=>match d with
  |.tup [a,b,_]=>.tup [a,b]
  |_=>.non) (by rw[pN];symm) trivial ?_ ?_
 .ext d hd acc L ha h
  let⟨y,hy,rfl⟩:=Wq.mp hd;let ec:cutD [D.int y.1,D.int y.2.1,D.int y.2.2] Z (U 2)=[D.int y.1,D.int y.2.1]:=by unfold cutD;rfl
  simp![aN,ec] at h ⊢;exact⟨ha,h⟩
 simp!;refine⟨ws.map nq,by rw[WC,WC];rfl,by rw[pN];calc iU,λp hp=>?_,W.unlike,?_⟩
 .let⟨y,hy,rfl⟩:=Wq.mp hp
  let Y:=W.way hy;let:=Y.most;exact⟨Y.low,Y.up,by show y.2.1<12;symm⟩
 rw[pN];simp![aI];calc gK k
inductive AD (ys:-DV) (av:-OV) (K:RV->-OV->Prop):Prop
 |mk (m) (ws) (_:a_ m ws) (_:ys=[.p (aK m ws)]) (_:av=[]) (_:K (.p (.bl θ)) [])
def AE:WS:=(aw (bh (dj (dT (ay 2 v9 (aq (ae 0) (aq (dC (.int 2)) ag))))) (aJ (dC (.bl ι))) cA) (aJ (j7 (ay 3 nv (aq (d2 (ae 0) (dC (.int 0)) aR) (aq (dC (.int 1)) (aq (dC (.int 12)) ag)))) (ay 2 AA (aq (d2 (ae 0) (dC (.int 0)) aR) (aq (d2 (ae 0) (dC (.int 1)) aR) ag))))))
theorem Pr:Sem 1 0 AD AE:=by
 ext ys av K'-⟨m,ws,W,rfl,rfl,k⟩;unfold AE;calc aP λN hN=>?_;simp!;calc⟨aK m ws,2,Y,Y,?_⟩;rw[show v8 (aK m ws) 2=θ from Y];simp!;subst hN;simp![aK,df,cI];calc⟨.int m,1,12,Y,Y,?_⟩;rw[rm W.m1 W.j3];simp!;calc⟨m,ws,W,Y,Y,?_⟩;simp!;calc gK k
noncomputable def bj(ns:-Int):D:=.lst (ns.map D.int)
noncomputable def km(fs:-Int)(i j:Nat):-Int:=fs.map λx=>if x=max (fs.getD i 0) (fs.getD j 0) then min (fs.getD i 0) (fs.getD j 0) else x
theorem Gi(fs:-Int)(i j:Nat):↑(km fs i j)=fs.length:=by unfold km;rw[pN]
theorem qi{ns:-Int}{i:Nat}(h:i<↑ns):dX (ns.map D.int) (i:Int)=U (.int (ns.getD i 0)):=by
 calc g5 ?_;rw[My,pM h,En,pM h];rfl
theorem cm{K:RV->-OV->Prop}{d:D}{sl:-(Option DV)}{mu:-(Option OV)}(h:K (.p d) []):gI 0 K (.p d) ⟨sl,mu⟩:=⟨[],Y,Y,h⟩
inductive ua (ys:-DV) (av:-OV) (K:RV->-OV->Prop):Prop
 |mk (fs:-Int) (i j:Nat) (_:ys=[.p (bj fs),.p (.int i),.p (.int j)]) (_:av=[]) (_:i<fs.length) (_:j<fs.length) (_:fs.length<=12) (_:K (.p (bj (km fs i j))) [])
def AF:WS:=(aw (aM 3 (dN (aq (d2 (ae 0) (ae 1) aR) (aq (d2 (ae 0) (ae 2) aR) ag)) vO)) (aw (aM 4 (dN (aq (d2 (ae 0) (ae 1) aR) (aq (d2 (ae 0) (ae 2) aR) ag)) q_)) (aJ (eE (bQ (ae 0)) [Z,U 4,U 3] (bF 0) dm (lN (dT (d2 (ae 0) (ae 2) oEq)) (ae 1) (ae 0))))))
theorem Pt:Sem 3 2 ua AF:=by
 ext ys av K'-⟨fs,i,j,rfl,rfl,hi,hj,Pd,k⟩;let a1:=qi hi;let a2:=qi hj;unfold AF bj;calc aP λN hN=>?_;simp![a1,a2];subst hN;calc aP λN hN=>?_;simp![a1,a2];subst hN;simp!
 refine iR (λd=>match d with
  |.int x=>.int (if x=max (fs.getD i 0) (fs.getD j 0) then min (fs.getD i 0) (fs.getD j 0) else x)
  |_=>.non) (by rw[pN];symm) trivial ?_ ?_
 .ext d hd acc L ha h
  let⟨x,_,rfl⟩:=Wq.mp hd;simp!;cases q:aI (.int x) (.int (max (fs.getD i 0) (fs.getD j 0)))
  .let:¬ x=max (fs.getD i 0) (fs.getD j 0):=λz=>by rw[z,fI] at q;cases q
   erw[this,Yw] at h;exact⟨ha,h⟩
  .let:x=max (fs.getD i 0) (fs.getD j 0):=by erw[aI] at q;exact XT q
   erw[this,ZN] at h;exact⟨ha,h⟩
 .refine cm ?_
  let e:(fs.map D.int).map (λd=>match d with
   |.int x=>D.int (if x=max (fs.getD i 0) (fs.getD j 0) then min (fs.getD i 0) (fs.getD j 0) else x)
   |_=>.non)=(km fs i j).map D.int:=by
   unfold km;rw[WC,WC];rfl
  rw[e];calc k
noncomputable def bS(ws:-(Int×Int×Int))(n:Int):Nat×Nat:=((ws.getD n.toNat (0,0,0)).1.toNat,(ws.getD n.toNat (0,0,0)).2.1.toNat)
noncomputable def lb(ws:-(Int×Int×Int))(fs:-Int)(ns:-Int):-Int:=ns.foldl (λfs n=>km fs (bS ws n).1 (bS ws n).2) fs
theorem Gj(ws:-(Int×Int×Int)):∀(ns:-Int)(fs:-Int),↑(lb ws fs ns)=fs.length
 |[],fs=>Y
 |n::r,fs=>by
  show↑(lb ws (km fs _ _) r)=_;rw[Gj ws r,Gi]
noncomputable def AG(m:Int)(ws:-(Int×Int×Int))(ns:-Int):-Int:=lb ws (bp m.toNat) ns
def Nums(ws:-(Int×Int×Int))(ns:-Int):Prop:=∀n∈ns,0<=n/\n<(↑ws:Int)
theorem jk{m:Int}{ws:-(Int×Int×Int)}(W:a_ m ws){n:Int}(h0:0<=n)(h1:n<(↑ws:Int)):∃y,ws.getD n.toNat (0,0,0)=y/\y∈ws/\dX (ws.map aN) n=U (aN y)/\∃i j:Nat,y.1=i/\y.2.1=j/\i<m.toNat/\j<m.toNat/\i<j:=by
 let⟨k,rfl⟩:∃k:Nat,n=k:=⟨n.toNat,⋯⟩;let hk:k<↑ws:=by symm
 refine⟨ws[k],?_,Yb hk,g5 ?_,?_⟩
 .rw[Ww,En,pM hk];rfl
 .rw[My,pM hk];rfl
 .let⟨a,b,c,_,_⟩:=W.ends _ (Yb hk)
  calc⟨ws[k].1.toNat,ws[k].2.1.toNat,⋯,⋯,⋯,⋯,⋯⟩
inductive AH (ys:-DV) (av:-OV) (K:RV->-OV->Prop):Prop
 |mk (m:Int) (ws:-(Int×Int×Int)) (ns:-Int) (_:a_ m ws) (_:Nums ws ns) (_:((ys=[.p (aK m ws),.p (bj ns)]/\av=[]/\K (.p (bj (AG m ws ns))) [])\/(ys=[.p (aK m ws),.o 0]/\av=[.lst (ns.map D.int)]/\K (.p (bj (AG m ws ns))) [.lst (ns.map D.int)])))
def v_:WS:=(aw (aM 2 (vP (aq (d2 (ae 0) (dC (.int 0)) aR) ag))) (aw (eg (bQ (ae 1)) (bF 3) (aw (aM 4 (d2 (d2 (ae 0) (dC (.int 1)) aR) (ae 3) aR)) (aM 2 (ay 3 ua (aq (ae 2) (aq (d2 (ae 4) (dC (.int 0)) aR) (aq (d2 (ae 4) (dC (.int 1)) aR) ag))))))) (aJ (ae 2))))
theorem Pu:Sem 2 3 AH v_:=by
 ext ys av K'-⟨m,ws,ns,W,hn,h⟩;let m1:=W.m1;let j3:=W.j3;let il:↑(bp m.toNat)=m.toNat:=by unfold bp;simp
 let core:∀(x:DV)(mu:-(Option OV))(bJ:aH->Prop)(K:KS),(∀sl,bJ ⟨sl,mu⟩)->(∀fs,fs=AG m ws ns->K.nx ⟨[U (.p (aK m ws)),U x,U (.p (bj fs)),Z,Z],mu⟩)->((∃d,x=.p d)\/∃k,x=.o k/\k<↑mu) →
   kN ⟨[U (.p (aK m ws)),U x,U (.p (bj (bp m.toNat))),Z,Z],mu⟩ bJ (bF 3) (aw (aM 4 (d2 (d2 (ae 0) (dC (.int 1)) aR) (ae 3) aR)) (aM 2 (ay 3 ua (aq (ae 2) (aq (d2 (ae 4) (dC (.int 0)) aR) (aq (d2 (ae 4) (dC (.int 1)) aR) ag)))))) K (ns.map D.int) ⟨[U (.p (aK m ws)),U x,U (.p (bj (bp m.toNat))),Z,Z],mu⟩:=by
  ext x mu bJ K hc hK hx;refine lS (λi δ=>δ=⟨[U (.p (aK m ws)),U x,U (.p (bj (lb ws (bp m.toNat) (ns.take i)))),Z,Z],mu⟩) Y ?_ ?_
  .ext j d δ L hj rfl hL
   rw[My] at hj;let⟨n,qj,rfl⟩:=Ws.mp hj;let⟨n0,n1⟩:=hn n (WR qj);let⟨y,ey,hy,ea,i,k,e1,e2,h1,h2,_⟩:=jk W n0 n1;calc⟨hc _,?_⟩;erw[bF,Xk,Xl];calc aP λN hN=>?_;simp![cI,aK,ea];subst hN;simp![df,cI,aN];let hlen:↑(lb ws (bp m.toNat) (ns.take j))=m.toNat:=by rw[Gj,il]
   refine⟨lb ws (bp m.toNat) (ns.take j),i,k,by rw[e1,e2],Y,⋯,⋯,⋯,?_⟩
   let ej:km (lb ws (bp m.toNat) (ns.take j)) i k=lb ws (bp m.toNat) (ns.take (j+1)):=by
    let:ns.take (j+1)=ns.take j++[n]:=by rw[Y9,qj];rfl
    rw[this];unfold lb;rw[q0j];show _=km _ (bS ws n).1 (bS ws n).2
    let:bS ws n=(i,k):=by
     unfold bS;rw[ey,e1,e2,Ww,Ww]
    rw[this]
   rw[ej]
   let eq:(aH.trim ⟨[U (.p (aK m ws)),U x,U (.p (bj (bp m.toNat))),Z,Z],mu⟩ ⟨[U (.p (aK m ws)),U x,U (.p (bj (lb ws (bp m.toNat) (ns.take (j+1))))),U (.p (.int n)),U (.p (aN y))],mu⟩)=⟨[U (.p (aK m ws)),U x,U (.p (bj (lb ws (bp m.toNat) (ns.take (j+1))))),Z,Z],mu⟩:=by
    unfold aH.trim;rw[q2o];rcases hx with⟨d,rfl⟩|⟨q,rfl,this⟩
    .rfl
    .erw[gf,vB,this,ZN]
   let:=hL _ Y;rw[<-eq] at this;exact this
  .ext δ rfl
   rw[pN,Xa (Ek _)];exact⟨hc _,hK _ Y⟩
 let rg:cG 0 m.toNat=(bp m.toNat).map D.int:=m_ m.toNat;rcases h with⟨rfl,rfl,k⟩|⟨rfl,rfl,k⟩
 .unfold v_
  calc aP λN hN=>?_;simp![df,aK];calc⟨⟨⋯,⋯⟩,?_⟩;subst hN;rw[rg];calc aP λN hN=>qh λg' b' K2 hg hb' hK=>?_;simp![bj];subst hg hb' hK;calc core (.p (bj ns)) [] _ _ (λ_=>trivial) (λfs e=>?_) (.inl ⟨_,Y⟩);subst e;show N _;subst hN;simp!;exact cm k
 .unfold v_
  calc aP λN hN=>?_;simp![df,aK];calc⟨⟨⋯,⋯⟩,?_⟩;subst hN;rw[rg];calc aP λN hN=>qh λg' b' K2 hg hb' hK=>?_;simp!;subst hg hb' hK;calc core (.o 0) [U (.lst (ns.map D.int))] _ _ (λ_=>Y) (λfs e=>?_) (.inr ⟨0,Y,Nat.zero_lt_one⟩);subst e;show N _;subst hN;simp!;calc⟨[.lst (ns.map D.int)],Y,Y,k⟩
inductive AI (ys:-DV) (av:-OV) (K:RV->-OV->Prop):Prop
 |mk (m:Int) (ws:-(Int×Int×Int)) (ns:-Int) (_:a_ m ws) (_:Nums ws ns) (_:↑ns<=1000) (_:ys=[.p (aK m ws),.p (bj ns)]) (_:av=[]) (_:K (.p (.int (ns.map λn=>(ws.getD n.toNat (0,0,0)).2.2).sum)) [])
def AJ:WS:=(aJ (dN (aq (eE (bQ (ae 1)) [Z,U 0] (bF 0) dm (d2 (d2 (d2 (ae 1) (dC (.int 1)) aR) (ae 0) aR) (dC (.int 2)) aR)) ag) jJ))
theorem Pw:Sem 2 0 AI AJ:=by
 ext ys av K'-⟨m,ws,ns,W,hn,hl,rfl,rfl,k⟩;unfold AJ bj;simp!
 refine iR (λd=>match d with
  |.int n=>.int (ws.getD n.toNat (0,0,0)).2.2
  |_=>.non) (by rw[pN];calc hl) trivial ?_ ?_
 .ext d hd acc L ha h
  let⟨n,jo,rfl⟩:=Wq.mp hd;let⟨n0,n1⟩:=hn n jo;let⟨y,ey,hy,ea,_⟩:=jk W n0 n1;simp![cI,at2,aK,ea,aN];erw[ey] at h;exact⟨ha,h⟩
 .let e:intsOf ((ns.map D.int).map λd=>match d with
   |.int n=>D.int (ws.getD n.toNat (0,0,0)).2.2
   |_=>.non)=U (ns.map λn=>(ws.getD n.toNat (0,0,0)).2.2):=by
   rw[WC];let:=lR (ns.map λn=>(ws.getD n.toNat (0,0,0)).2.2);rw[WC] at this;exact this
  simp![jJ,e];calc⟨⟨λx hx=>?_,hl⟩,cm k⟩;let⟨n,jo,rfl⟩:=Wq.mp hx;let⟨n0,n1⟩:=hn n jo;let⟨y,ey,hy,_⟩:=jk W n0 n1;rw[ey];calc⟨(W.ends y hy).2.2.2.1,(W.ends y hy).2.2.2.2⟩
theorem AK{n:Nat}{z:Int}(h:z∈bp n):0<=z/\z<(n:Int):=by
 unfold bp at h;let⟨i,hi,rfl⟩:=Wq.mp h;let:=Xf.mp hi;simp;symm
theorem AL(n:Nat):(bp n).Nodup:=by
 unfold bp;calc X1.mpr (ZI.imp λ{a b} ne e=>ne ?_);calc q1n e
theorem rp{H:Hp}{a:M}{o:HO}(h:H a=Z):aL H (upd H a o):=λb u e=>by rw[aZ (dJ e h)];calc e
structure wa(H:Hp)(p c:M)(at_ z:Int):Prop where
 lst:H p=U (.lst [.ref c,.int at_,.int z])
 cells:∃ns:-Int,H c=U (.lst (ns.map V.int))/\↑ns<=63
 pos:0<=at_
theorem wa.ne{H:Hp}{p c:M}{k z:Int}(P:wa H p c k z):c≠p:=by
 let⟨ns,h,_⟩:=P.cells;ext e;subst e;rw[P.lst] at h;let h':=WJ h;injection h' with qQ
 cases ns with
 |nil=>cases qQ
 |cons n r=>injection qQ with h1 _;cases h1
theorem Px{ns:-Int}{k:Int}(h0:0<=k)(h1:k<(↑ns:Int)):∃n,dX (ns.map V.int) k=U (.int n):=by
 let⟨i,rfl⟩:∃i:Nat,k=i:=⟨k.toNat,⋯⟩;let hi:i<↑ns:=by symm
 calc⟨ns[i],g5 ?_⟩;rw[My,pM hi];rfl
def Gk(K:El):Sp:=λvs H Q _=>∃(a:M)(ns:-Int),vs=[.ref a]/\bE K H a (ns.map V.int)/\↑ns<=63/\∀(p c:M)(H':Hp),aL H H'->H p=Z->wa H' p c 0 0->Q (.ref p) H'
def wc(K:El):Sp:=λvs H Q _=>∃(a:M)(ns:-Int),vs=[.ref a]/\bE K H a (ns.map V.int)/\↑ns<=63/\aS.ok H/\∀H',Q (.bl θ) H'
theorem AM(ns:-Int)(lo hi:Option Int):di (ns.map V.int) lo hi=((ns.drop (HT.bA ↑ns 0 lo)).take (HT.bA ↑ns ↑ns hi-HT.bA ↑ns 0 lo)).map V.int:=by
 unfold di;rw[pN,q1q,q1r]
theorem Py{H:Hp}{p c a:M}{n:Nat}(hT:aS.ok H)(N:wa H p c 0 0):∃(F:Hp)(ns:-Int),↑ns<=63/\SR F [p] ⟨Z::U (.o 0)::Vv n Z,[U (.lst [.lst (ns.map D.int),.int 0,.int 0])]⟩ (U (.ref a)::U (.ref p)::Vv n Z) H:=by
 let⟨ns,hc,hn⟩:=N.cells;let ne:=N.ne
 refine⟨upd (λ_=>Z) c (.lst (ns.map V.int)),ns,hn,⟨λb o e=>?_,λb ⟨k,ov,e1,e2⟩=>?_,Y,λk l a ov ow e1 e2 _ _=>?_,λk ov e=>?_,λi x e=>?_,by simp,hT,λb hb=>by
  let⟨ps,q⟩:=aS.tb hT hb
  rw[aZ λz=>by subst z;rw[hc] at q;cases q]⟩⟩
 .by_cases z:b=c
  .subst z;rw[b_] at e;cases e;exact hc
  .rw[aZ z] at e;cases e
 .cases k with
  |zero=>cases(show U p=U b by simpa using e1);rw[aZ (YN ne)]
  |succ k=>simp at e1
 .cases k with
  |zero =>
   cases l with
   |zero=>rfl
   |succ l=>simp at e2
  |succ k=>simp at e1
 .cases k with
  |zero =>
   cases(show OV.lst [.lst (ns.map D.int),.int 0,.int 0]=ov by simpa using e)
   calc⟨p,_,Y,N.lst,_,Y,?_⟩;calc .cons ?_ (.cons Y (.cons Y .nil));erw[Is];exact⟨c,_,Y,b_,qY⟩
  |succ k=>simp at e
 .cases i with
  |zero=>simp at e
  |succ i =>
   cases i with
   |zero =>
    cases(show DV.o 0=x by simpa using e)
    exact⟨_,Y,p,Y,Y⟩
   |succ i =>
    exfalso;let e:(Vv n (Z:Option DV))[i]?=U (U x):=by simpa using e
    rw[Zp] at e;split at e<;>cases e
theorem Pz{B:WS}{F:Hp}{ad:-M}{δ:aH}{σ:St}{H:Hp}{Q:VK}(S:SR F ad δ σ H)(h:B ⟨λ_=>False,λx _=>x=.p (.bl θ),λ_=>False,λ_=>False⟩ δ)(q:∀H',Q (.bl θ) H'):dZ B {nx:=λ_ H'=>Q .non H',rt:=Q} σ H :=
 ⟨F,ad,δ,_,S,h,⟨fun δ' h=>h.elim,fun δ' h=>h.elim,fun δ' h=>h.elim,λx δ' h v F' aG σ' H' E' S' V=>by
  let h:x=.p (.bl θ):=h;subst h;let V:v=.bl θ:=V;subst V
  calc q H',trivial⟩⟩
end LJ
namespace L2
open PySem PySem.Spec PyProof.Rows
def AN(Ts:-(M×Array O))(H:Hp):Prop:=∀b,(∃ps,Ts.lookup b=U ps/\H b=U (.tbl ps))\/(Ts.lookup b=Z/\(H b=Z\/∃o xs,H b=U (.frz o (.lst xs))))
theorem PA{P:l}{w:g}{K:El}{mg mb:R->Option O}{CX:j2}{k:Nat}{fa a:M}{fd:FuncData}{x:R}{sp:Sp}{s₁:B}{vs:-O}{ns:-Int}(Ts:-(M×Array O))
  (hT:∀b ps,Ts.lookup b=U ps->s₁.heap.get? b=U {cls:=.none,data:=.fields ps}/\isCodeTable s₁.heap b/\K.lookup b=Z)
  (KX:K.In s₁.heap) (ub:s₁.heap.Ns mainGlobals mg) (hb:s₁.heap.Ns builtinsNs mb) (PB:∀x:R,x≠"__name__" -> mb x=bootBuiltins x) (AO:s₁.heap.NoLimit) (hg:s₁.gens = #[])
  (ha:s₁.heap.get? a=U {cls:=.type "list",data:=.seq vs.toArray}) (hi:IntsAre vs ns) (hl:↑ns<=sizeLine) (hr:aY k callerA)
  (hB:∃bm ob,mg "__builtins__" = U (.ref bm)/\bm≠builtinsNs/\s₁.heap.get? bm=U ob/\ob.cls=.type "module" /\ ob.dict=U builtinsNs/\ob.data=.plain)
  (F:∀base:I,K.In base->base.Ns mainGlobals mg->(∀b ps,Ts.lookup b=U ps->base.BuiltinsAt mg b)->bW P w K mg base CX k fa fd [x] sp) (uc:∀(s:B)(u:O),BindsTo s fd ⟨[u],[]⟩ [(x,u)])
  (oA:∀H:Hp,AN Ts H->bE K H a (ns.map V.int)->sp [.ref a] H (λv _=>v=.bl θ) λ_ _ _=>False)
  (AQ:∀H e s',CX [] H s₁ (λ_ _ _=>False) e s'->False) :
  codeAny (G P w) callerA (.call (.ref fa) ⟨[.ref a],[]⟩) (λr s'=>r=.ok (.ret (.bool θ))/\OldK s₁.heap s'.heap/\s'.os=s₁.os/\AllBare s'.gens) s₁:=by
 let rv:=Ej hi;let AR:=↑hi
 let aT:Ts.lookup a=Z:=by
  cases q:Ts.lookup a with
  |none=>rfl
  |some ps =>
   let:=(hT a ps q).1;rw[ha] at this;let z:=congrArg Obj.cls (WJ this);cases(show Z3 "list" = WN from z)
 let core:∀H:Hp,AN Ts H->bE K H a (ns.map V.int)->dW P w H s₁.heap->(∀b,Ts.lookup b=Z->H b≠Z->b=a)->(H a≠Z->K.lookup a=Z) →
   codeAny (G P w) callerA (.call (.ref fa) ⟨[.ref a],[]⟩) (λr s'=>r=.ok (.ret (.bool θ))/\OldK s₁.heap s'.heap/\s'.os=s₁.os/\AllBare s'.gens) s₁:=by
  ext H hO hS aX hA hK;let gL:∀{b:M}{o:Q},s₁.heap.get? b=U o->H b=Z->(f6 s₁.heap H).get? b=U o:=λe n=>Kp e n
  let my:∀{b:M}{o:Q}{es:Array DictEntry}{ep:Nat},s₁.heap.get? b=U o->o.data=.dict es ep->H b=Z:=λ{b o es ep} e d=>by
   cases q:H b with
   |none=>rfl
   |some u =>
    cases t:Ts.lookup b with
    |some ps =>
     let:=(hT b ps t).1;rw[e] at this;cases this;cases d
    |none =>
     let e':b=a:=hA b t (by rw[q];simp);subst e';rw[ha] at e;cases e;let d':Data.seq vs.toArray _=Data.dict es ep:=d;cases d'
  let wd:∀{b:M}{m:R->Option O},s₁.heap.Ns b m->(f6 s₁.heap H).Ns b m:=λ{b m} ⟨o,es,ep,e,d,r⟩=>⟨o,es,ep,gL e (my e d),d,r⟩
  let Gm:K.In (f6 s₁.heap H):=λb o e=>gL (KX b o e) (by
   cases q:H b with
   |none=>rfl
   |some u =>
    cases t:Ts.lookup b with
    |some ps=>rw[(hT b ps t).2.2] at e;cases e
    |none =>
     let e':b=a:=hA b t (by rw[q];simp);subst e'
     rw[hK (by rw[q];simp)] at e;cases e)
  let PC:∀b ps,Ts.lookup b=U ps->(f6 s₁.heap H).BuiltinsAt mg b:=λb ps t=>by
   let⟨bm,ob,b1,b2,b3,b4,b5,b6⟩:=hB;refine⟨bm,ob,b1,b2,λz=>?_,λz=>?_,gL b3 ?_,b4,b5,b6⟩
   .let⟨o,es,ep,e1,e2,_⟩:=ub
    rw[z,e1] at b3;cases b3;rw[e2] at b6;cases b6
   .let:=(hT b ps t).1
    rw[z,this] at b3;cases b3;cases b6
   .cases q:H bm with
    |none=>rfl
    |some u =>
     cases t':Ts.lookup bm with
     |some eQ =>
      let:=(hT bm eQ t').1;rw[b3] at this;cases this;cases b6
     |none =>
      let e':bm=a:=hA bm t' (by rw[q];simp);rw[e',ha] at b3;cases b3;cases b6
  let hM:Mod K mg (f6 s₁.heap H):=⟨Gm,wd ub,⟨mb,wd hb,PB⟩,let⟨mc,h1,h2⟩:=AO;⟨mc,wd h1,h2⟩⟩;let e0:iG P w K mg (f6 s₁.heap H) callerA [] s₁ H:=⟨Y,hM,λb o e=>Kq e,ZY (Ko _ _),trivial,λb hb=>absurd (show b∈([]:-M) from hb) (by simp),aX,.of_eq hg⟩;refine Zw ((F _ Gm (wd ub) PC).run callerA [] s₁ H ⟨[.ref a],[]⟩ [.ref a] [.ref a] _ _ hr e0 (uc s₁ (.ref a)) (.cons Y .nil) (oA H hO hS)) λr s' h=>?_
  cases r with
  |error e=>exact(AQ H e s' h).elim
  |ok fl =>
   cases fl with
   |next=>exact Xt h
   |brk=>exact Xt h
   |cont=>exact Xt h
   |ret u =>
    let⟨v,H',os,bare,un,ud,r',q⟩:=h;let q':v=.bl θ:=q;subst q';obtain rfl:u=Y7 θ:=r'
    let all:∀b o,s₁.heap.get? b=U o->asItWas s₁.heap s'.heap b o/\∃o',s'.heap.get? b=U o':=λb o e=>by
     rcases hO b with⟨ps,t,z⟩|⟨t,z|⟨ob,xs,z⟩⟩
     .let⟨more,z2⟩:=un.fZ b ps z
      let e2:s'.heap.get? b=U {cls:=.none,data:=.fields (ps++more)}:=ud b _ z2;let e1:=(hT b ps t).1;rw[e] at e1;cases e1;exact⟨.inr (.inl ⟨(hT b ps t).2.1,Y,ps,more,Y,e2⟩),_,e2⟩
     .let e2:=un.keep b o e z (by ext z;calc absurd (show b∈([]:-M) from z) (by simp)) (by simp)
      exact⟨.inl e2,_,e2⟩
     .let z2:=un.fY b ob _ z
      let⟨e1,_⟩:=aX b _ z;let⟨e2,_⟩:=ud b _ z2;rw[e] at e1;cases e1;exact⟨.inl e2,_,e2⟩
    exact⟨Y,⟨λb o e=>(all b o e).1,λb o e=>(all b o e).2⟩,os,bare⟩
 let oS:∀(H:Hp) b ps,Ts.lookup b=U ps->aU P w H s₁.heap b (.tbl ps):=λH b ps t=>(hT b ps t).1
 cases hk:K.lookup a with
 |some o =>
  let e:=KX a o hk;rw[ha] at e;cases e
  let hv:∀b,(λb=>(Ts.lookup b).map HO.tbl:Hp) b=(Ts.lookup b).map HO.tbl:=λ_=>Y;refine core (λb=>(Ts.lookup b).map HO.tbl) (λb=>?_) (.inr ⟨_,vs.toArray,_,hk,Y,Y,Y,by rw[yA,AR];calc hl,by simpa using rv⟩) (λb u z=>?_) (λb t z=>?_) λz=>?_
  .cases t:Ts.lookup b with
   |some ps=>exact .inl ⟨ps,Y,by show(Ts.lookup b).map HO.tbl=_;rw[t];rfl⟩
   |none=>exact .inr ⟨Y,.inl (by show(Ts.lookup b).map HO.tbl=_;rw[t];rfl)⟩
  .let⟨ps,t,rfl⟩:=Ws.mp (show(Ts.lookup b).map HO.tbl=U u from z)
   exact oS _ b ps t
  .exact absurd (show(Ts.lookup b).map HO.tbl=Z by rw[t];rfl) z
  .exact absurd (show(Ts.lookup a).map HO.tbl=Z by rw[aT];rfl) z
 |none =>
  refine core (λb=>if b=a then U (.frz {cls:=.type "list",data:=.seq vs.toArray} (.lst (ns.map V.int))) else(Ts.lookup b).map HO.tbl) (λb=>?_) (.inl (.inr ⟨{cls:=.type "list",data:=.seq vs.toArray},Wm Y⟩)) (λb u z=>?_) (λb t z=>?_) λ_=>hk
  .by_cases hb:b=a
   .subst hb
    exact .inr ⟨aT,.inr ⟨_,_,Wm Y⟩⟩
   .cases t:Ts.lookup b with
    |some ps=>exact .inl ⟨ps,Y,(Vw hb).trans (by rw[t];rfl)⟩
    |none=>exact .inr ⟨Y,.inl ((Vw hb).trans (by rw[t];rfl))⟩
  .by_cases hb:b=a
   .let z':=(Wm hb).symm.trans z
    cases z'
    subst hb;exact⟨ha,by rw[pN];calc hl,vs,_,rv,ha⟩
   .let z':=(Vw hb).symm.trans z
    let⟨ps,t,rfl⟩:=Ws.mp z';exact oS _ b ps t
  .by_cases hb:b=a
   .exact hb
   .calc absurd ((Vw hb).trans (by rw[t];rfl)) z
theorem PD{l:q2H}{n k:Nat}{q:ψ}{loose:-R}{XP:(R->Option O)->I->Prop}{YP:ω->I->Prop}{d:DefRec}{K:ω->El}{CX:ω->j2}{sp:ω->Sp}{x:R}{Ts:ω->-(M×Array O)}
  (hn:l.most=U n) (uV:n<=sizeLine) (sJ:d.params.defaults=[]) (hr:aY k callerA)
  (hY:∀(w:ω)(h:I),YP w h->(K w).In h)
  (hT:∀(w:ω)(h:I),YP w h->∀b ps,(Ts w).lookup b=U ps->h.get? b=U {cls:=.none,data:=.fields ps}/\isCodeTable h b/\(K w).lookup b=Z)
  (F:∀(w:ω)(mg:R->Option O)(fa:M)(h:I),(K w).In h->h.Ns mainGlobals mg->mg d.name=U (.ref fa) →
   ∃fd:FuncData,(∀(s:B)(u:O),BindsTo s fd ⟨[u],[]⟩ [(x,u)]) ∧
    ∀base:I,(K w).In base->base.Ns mainGlobals mg->(∀b ps,(Ts w).lookup b=U ps->base.BuiltinsAt mg b)->bW l.prog w (K w) mg base (CX w) k fa fd [x] (sp w))
  (oA:∀(w:ω)(H:Hp)(a:M)(ns:-Int),↑ns<=n->AN (Ts w) H->bE (K w) H a (ns.map V.int)->sp w [.ref a] H (λv _=>v=.bl θ) λ_ _ _=>False)
  (AQ:∀(w:ω)(H:Hp)(s:B)(e:O)(s':B),CX w [] H s (λ_ _ _=>False) e s'->False) :
  PySem.W.WalkO q loose XP YP l.row.toRowW d [] (λf vs=>q2X f vs):=by
 calc Att.hU hn sJ λw s₀ s₁ mg mb fa o pm cd doc a vs ns G Y ho hd gD mD pK hints hlen hg=>?_;let KX:=hY w _ Y;let⟨fd,hb,hF⟩:=F w mg fa _ KX G.T.g mD;calc PA (Ts w) (hT w _ Y) KX G.T.g G.T.b G.T.builtins G.T.nolimit hg pK hints (WU hlen uV) hr G.T.bmain hF hb (λH hO hS=>oA w H a ns hlen hO hS) λH e s'=>AQ w H s₁ e s'
section
variable{X:Cx}{pins:aC}{σ:St}{H:Hp}{s:B}{h':I}
theorem Inv.grow{T c f:M}{ps more:Array O}{oc of:HO}{t':Nat}(I:Inv X pins σ H s)(hT:H T=U (.tbl ps))(k:∀b u,b≠T->s.heap.get? b=U u->h'.get? b=U u)(Gn:h'.get? T=U {cls:=.none,data:=.fields (ps++more)})
  (hc:⇑s<=c) (hf:⇑s<=f) (AS:c≠f) (PE:∀H2,aU X.prog X.w H2 h' c oc) (PF:∀H2,aU X.prog X.w H2 h' f of) :
  Inv X pins σ (upd (upd (upd H T (.tbl (ps++more))) c oc) f of) {s with heap:=h',toks:=t'}:=by
 let tl:T<⇑s:=(I.aX T _ hT).lt;let cT:c≠T:=Yo (Wr tl hc);let fT:f≠T:=Yo (Wr tl hf);let VO:H c=Z:=I.aX.fresh hc;let PG:H f=Z:=I.aX.fresh hf
 let old:∀b,b<⇑s->b≠T->upd (upd (upd H T (.tbl (ps++more))) c oc) f of b=H b:=λb hb nT=>by
  rw[aZ (Wv (Wr hb hf)),aZ (Wv (Wr hb hc)),aZ nT]
 let atT:upd (upd (upd H T (.tbl (ps++more))) c oc) f of T=U (.tbl (ps++more)):=by
  rw[aZ (YN fT),aZ (YN cT),b_]
 let lt:∀b u,H b=U u->b<⇑s:=λb u e=>(I.aX b u e).lt
 let et:∀b u,H b=U u->(∀qs,u≠.tbl qs)->upd (upd (upd H T (.tbl (ps++more))) c oc) f of b=U u:=λb u e n=>by
  rw[old b (lt b u e) (λz=>by subst z;rw[hT] at e;cases e;calc n _ Y)];exact e
 refine I.un (t':=t') ⟨λb o e n _ _=>k b o (λz=>by subst z;rw[hT] at n;cases n) e,λb o e n _ _=>⟨o.slots,k b o (λz=>by subst z;rw[hT] at n;cases n) e⟩,λb o e n _=>?_,λb o e _=>?_,λb xs e=>et b _ e (λ_ z=>by cases z),λb o u e=>et b _ e (λ_ z=>by cases z),λb qs e=>?_⟩ λb u e=>?_
 .rw[old b (MM e) (λz=>by subst z;rw[hT] at n;cases n)];exact n
 .by_cases z:b=T
  .subst z;exact⟨_,Gn⟩
  .exact⟨o,k b o z e⟩
 .by_cases z:b=T
  .subst z;rw[hT] at e;cases e;exact⟨more,atT⟩
  .exact⟨#[],by rw[old b (lt b _ e) z,e];simp⟩
 .by_cases z1:b=f
  .subst z1;rw[b_] at e;cases e;exact PF _
  .rw[aZ z1] at e
   by_cases z2:b=c
   .subst z2;rw[b_] at e;cases e;exact PE _
   .rw[aZ z2] at e
    by_cases z3:b=T
    .subst z3;rw[b_] at e;cases e;exact Gn
    .rw[aZ z3] at e
     refine aU.gA (I.aX b u e) (λd v hd q=>?_) (λd q=>et d _ q (λ_ z=>by cases z)) (λd xs q=>et d _ q (λ_ z=>by cases z))
     .refine k d v (λy=>?_) q
      subst y;rcases hd with y|y
      .exact z3 y.symm
      .rw[hT] at y;cases y
noncomputable def lZ(c:M)(q:R):HO:=.ext λh=>∃o vs tq,h.get? c=U o/\o.data=.fields vs/\vs[1]?=U (.str q tq)
theorem PH{P:l}{w:g}{H:Hp}{h:I}{c:M}{q:R}(e:h.CodeRec (.ref c) q):aU P w H h c (lZ c q):=by
 let⟨c',o,vs,tq,z,ho,hd,hq⟩:=e;cases z
 calc⟨⟨o,vs,tq,ho,hd,hq⟩,⟨o,ho⟩,λh1 h2 ⟨o,vs,tq,e1,e2,e3⟩ k↦⟨o,vs,tq,k o e1,e2,e3⟩⟩
theorem PJ{P:l}{w:g}{H:Hp}{h:I}{c:M}{q:R}(x:aU P w H h c (lZ c q)):h.CodeRec (.ref c) q:=by
 let⟨⟨o,vs,tq,ho,hd,hq⟩,_⟩:=x;calc⟨c,o,vs,tq,Y,ho,hd,hq⟩
end
end L2
namespace L2
open PySem PySem.Spec PyProof.Rows PySem.W
section
variable{X:Cx}{pins:aC}{σ:St}{H:Hp}{s:B}{params:Arguments}{body:J}{scope:a}{pos:y}{ie:-(R×M)}{cc T:M}{ps:Array O}{E:bg}{Q:bg}
noncomputable def iV(f:M)(name qual:R)(params:Arguments)(body:J)(scope:a)(ie:-(R×M))(pm cd:O):HO:=.ext λh=>∃ue,h.get? f=U {cls:=.type "function",data:=.func (kla_fn name qual params body scope ie pm cd ue)}
def eu(H:Hp)(T:M)(pos:y)(qual:R):Prop:=∃ps,H T=U (.tbl ps)/\TriplesOk ps.toList/\(codeAmong pos ps.toList=Z\/∃c,codeAmong pos ps.toList=U (.ref c)/\H c=U (lZ c qual))
theorem PK(I:Inv X pins σ H s)(hT:eu H T pos (X.env.qual++"<lambda>"))(AU:defaultsOf params X.env=([],[]))(oJ:closureFor scope X.env=pure ie)(jm:X.env.code=.ref cc)(C:CodeHd s.heap cc T)(PL:mainGlobals≠T)(hg:s.heap.Ns mainGlobals X.mg)(hb:s.heap.BuiltinsAt X.mg T)
  (h:∀f H' s' c,Inv X pins σ H' s'->eu H' T pos (X.env.qual++"<lambda>")->(∀b o,H b=U o->b≠T->H' b=U o)->H f=Z->H' f=U (iV f "<lambda>" (X.env.qual++"<lambda>") params body scope ie ((X.mg "__name__").getD .none) (.ref c))->H' c=U (lZ c (X.env.qual++"<lambda>"))->Q (.ref f) s') :
  L (G X.prog X.w) X.A (eval (.Lambda params body scope pos) X.env) Q E s:=by
 let⟨ps,hP,ht,hf⟩:=hT;let AV:s.heap.get? T=U {cls:=.none,data:=.fields ps}:=I.aX T _ hP;calc kla_eval AU ?_;rcases hf with Gp|⟨c,hf,we⟩
 .refine kla_makeFunction oJ I.ok.glob hg jm C AV ht Gp PL hb λc' ue h' tk hx wg fX AW PM=>?_
  let hsz:⇑s<=h'.objs.size:=X0 (Z4 wg fX);let tl:T<⇑s:=MM AV;let PN:T≠h'.objs.size:=Wv (Wr tl hsz);let PQ:T≠c':=Wv (Wr tl wg);let AS:c'≠h'.objs.size:=Wv fX;let Gq:(ps ++ #[rawInt pos.line,rawInt pos.col,W5 c']).toList=ps.toList++[rawInt pos.line,rawInt pos.col,W5 c']:=by simp
  let atT:upd (upd (upd H T (.tbl (ps ++ #[rawInt pos.line,rawInt pos.col,.ref c']))) c' (lZ c' (X.env.qual++"<lambda>"))) h'.objs.size (iV h'.objs.size "<lambda>" (X.env.qual++"<lambda>") params body scope ie ((X.mg "__name__").getD .none) (.ref c')) T=U (.tbl (ps ++ #[rawInt pos.line,rawInt pos.col,.ref c'])):=by
   rw[aZ PN,aZ PQ,b_]
  let atC:upd (upd (upd H T (.tbl (ps ++ #[rawInt pos.line,rawInt pos.col,.ref c']))) c' (lZ c' (X.env.qual++"<lambda>"))) h'.objs.size (iV h'.objs.size "<lambda>" (X.env.qual++"<lambda>") params body scope ie ((X.mg "__name__").getD .none) (.ref c')) c'=U (lZ c' (X.env.qual++"<lambda>")):=by
   rw[aZ AS,b_]
  refine h h'.objs.size _ _ c' (I.grow (t':=tk) (oc:=lZ c' (X.env.qual++"<lambda>")) (of:=iV h'.objs.size "<lambda>" (X.env.qual++"<lambda>") params body scope ie ((X.mg "__name__").getD .none) (.ref c')) hP (λb u nb e=>u6 _ (hx b u nb e)) (u6 _ PM) wg hsz AS (λ_=>PH (AW.push _)) λ_=>?_) ⟨_,atT,?_,.inr ⟨c',?_,atC⟩⟩ (λb o e nb=>?_) (I.aX.fresh hsz) b_ atC
  .exact⟨⟨ue,Vt _ Y⟩,⟨_,Vt _ Y⟩,λh1 h2 ⟨v,e⟩ k↦⟨v,k _ e⟩⟩
  .rw[Gq];exact TriplesOk_snoc _ _ _ _ ht
  .rw[Gq];exact codeAmong_snoc _ ht Gp
  .let bl:b<⇑s:=(I.aX b o e).lt
   rw[aZ (Wv (Wr bl hsz)),aZ (Wv (Wr bl wg)),aZ nb];exact e
 .refine kla_makeFunctionHit oJ I.ok.glob hg jm C AV ht hf hb λue h' tk hk hsz=>?_
  let hn:H h'.objs.size=Z:=I.aX.fresh hsz;refine h h'.objs.size _ _ c (I.laid (a:=h'.objs.size) (o:=iV h'.objs.size "<lambda>" (X.env.qual++"<lambda>") params body scope ie ((X.mg "__name__").getD .none) (.ref c)) (t':=tk) (λb u e=>u6 _ (hk b u e)) hsz ?_) ⟨ps,?_,ht,.inr ⟨c,hf,?_⟩⟩ (λb o e _=>?_) hn b_ ?_
  .exact⟨⟨ue,Vt _ Y⟩,⟨_,Vt _ Y⟩,λh1 h2 ⟨v,e⟩ k↦⟨v,k _ e⟩⟩
  .rw[aZ (dJ hP hn)];exact hP
  .rw[aZ (dJ we hn)];exact we
  .rw[aZ (dJ e hn)];exact e
  .rw[aZ (dJ we hn)];calc we
end
structure LD where
 A:q
 cl:-(R×M)
 f:M
 cd:O
 s:B
 H:Hp
@[reducible] noncomputable def nU (X:Cx) (qual:R) (scope:a) (Nb:-R) (d:LD):Cx where
 prog:=X.prog
 w:=X.w
 K:=X.K
 mg:=X.mg
 base:=X.base
 A:=d.A.deeper (envX qual scope ⇑d.s d.f d.cd d.cl)
 N:=Nb
 s₀:=d.s
 H₀:=d.H
 env:=envX qual scope ⇑d.s d.f d.cd d.cl
 outer:=X.stack
 stack:=envX qual scope ⇑d.s d.f d.cd d.cl::X.stack
 ex:=[]
 fn:=λ_=>ι
 calm:=true
 pn:=[]
 xe:=λ_ _=>False
noncomputable def wj(N:-R)(u_ scope:a)(x:R)(Nb:-R)(cp:-(Option Nat)):Bool :=
 kF N u_ scope (x::Nb) (Z::cp)&&(scope.names.all λy=>S (y.2≠.cell))&&S (scope.names.lookup x=U .local)&&cp.all (·.isSome)
section
variable{X:Cx}{pins:aC}{σ:St}{H:Hp}{s:B}{params:Arguments}{body:J}{scope:a}{cl:-(R×M)}{E:bg}{Q:VK}{name qual x:R}{f c:M}{pm:O}{A:q}{v:V}{u:O}{Nb:-R}{cp:-(Option Nat)}{t:TE}
theorem PR(I:Inv X pins σ H s)(hf:H f=U (iV f name qual params body scope cl pm (.ref c)))(hc:H c=U (lZ c qual))(hA:A.frames=U X.stack)(hh:A.handled=Z)(hd:A.depth<recursionLimit)
  (hk:scope.kind=.function) (ho:wj X.N X.env.scope scope x Nb cp=θ) (PS:scope.isCoroutine=ι) (AX:scope.isGenerator=ι)
  (qk:∀y c,cl.lookup y=U c->X.env.cells.lookup y=U c) (wk:∀y∈scope.names,y.2=.free->∃c,cl.lookup y.1=U c)
  (hb:∀(ct:O),bindArgs (kla_fn name qual params body scope cl pm (.ref c) ct) ⟨[u],[]⟩=pure [(x,u)]) (r:RelV v u)
  (J:JE (nU X qual scope (x::Nb) ⟨A,cl,f,.ref c,s,H⟩) body t) (h:t (U v::ir cp σ) H Q):L (G X.prog X.w) A (call (.ref f) [u]) (EP X pins σ Q) E s:=by
 unfold wj at ho;erw[WZ,XS,XH] at ho;let⟨⟨⟨ho,Gr⟩,hx⟩,cps⟩:=ho;let S:=x2J hk ho;let⟨⟨ct,PT⟩,_⟩:=I.aX f _ hf;let gD:=PJ (I.aX c _ hc);calc q1w (kla_callFunE hd PT Y PS AX Y gD ?_);rw[hb ct];calc MK (wpAny_newFunctionEnv (λy hy=>Gr y hy) (λy hy=>by rw[WW.mp hy];calc hx) (λh₁ ub sP=>?_) hk);let uf:∀b o,s.heap.get? b=U o->h₁.get? b=U o:=λb o e=>sP.extBut b o (Wv (MM e)) (u6 _ e);calc⟨I.nolimit.keeps uf,?_⟩;let e0:=I.pD;show codeAny _ _ (.expr body (envX qual scope ⇑s f (.ref c) cl)) _ _;let my:∀b:M,b∉(nU X qual scope (x::Nb) ⟨A,cl,f,.ref c,s,H⟩).ex:=λb z=>absurd (show b∈([]:-M) from z) (by simp)
 let mem:∀{y:R}{k:NameKind},scope.names.lookup y=U k->(y,k)∈scope.names:=λe=>Xr e
 let I1:Inv (nU X qual scope (x::Nb) ⟨A,cl,f,.ref c,s,H⟩) [] (U v::ir cp σ) H {s with heap:=h₁,toks:=s.toks+↑[(x,u)]}:=by
  refine⟨⟨e0.mod,hk,Y,Y,Ek _,λy z d h1 h2=>I.ok.inj y z d (qk y d h1) (qk z d h2),λy hy=>?_,λy d z _=>(by cases z),λ_=>hh,q06 hA,.inr ⟨Y,Y⟩,λb z=>absurd z (my b),e0.bs,e0.l9,λb _ _=>my b,λb z=>absurd z (my b),e0.eI,e0.om⟩,
   Y,e0.bare,Un.kept uf,⟨_,ub,λi y w h1 h2 h3=>?_⟩,λy d hy=>?_,e0.aX.fresh (Ek _),λy d hy=>I.cQ y d (qk y d hy),λp hp=>absurd (show p∈([]:aC) from hp) (by simp),e0.aX.kept uf,?_⟩
  .let hy:scope.names.lookup y=U .cell\/scope.names.lookup y=U .free:=hy
   rcases hy with hy|hy
   .exact absurd Y (Gr _ (mem hy))
   .exact wk _ (mem hy) Y
  .cases i with
   |zero =>
    cases(show U x=U y by simpa using h1)
    cases(show v=w by simpa using h2)
    exact⟨u,r,.inl ⟨hx,by simp⟩⟩
   |succ j =>
    let h1:Nb[j]?=U y:=by simpa using h1
    let h2:(ir cp σ)[j]?=U (U w):=by simpa using h2
    unfold ir at h2;rw[My] at h2;let⟨o,q1,q2⟩:=Ws.mp h2
    match o,q2 with
    |none,q2=>cases q2
    |some i',q2 =>
     let q2:(σ[i']?).join=U w:=q2;let⟨n1,n2⟩:=S.sL (j+1) i' y q1⁻¹ h1⁻¹
     let hs:σ[i']?=U (U w):=by
      cases q:σ[i']? with
      |none=>rw[q] at q2;cases q2
      |some z=>rw[q] at q2;cases(show z=U w from q2);rfl
     let kd:=S.free _ (mem n2) Y;let⟨m,hn,hl⟩:=I.loc;let⟨u',rv,lk⟩:=hl i' y w n1 hs (by rcases kd with z|z;calc .inr (.inl z);calc .inr (.inr z));calc⟨u',rv,?_⟩;rcases lk with⟨z,_⟩|⟨_,d,e1,o,e2,e3⟩
     .rcases kd with k|k<;>(rw[show X.env.kindOf y=U .local from z] at k;cases k)
     .let⟨d',e4⟩:=wk _ (mem n2) Y
      let:=qk _ _ e4;rw[e1] at this;cases this;exact .inr ⟨.inr n2,d,e4,o,uf _ _ e2,e3⟩
  .let⟨z,o,e2,e3⟩:=I.cell y d (qk y d hy)
   exact⟨z,o,uf _ _ e2,e3⟩
  .let:=S.len
   show↑(U v::ir cp σ)=↑(x::Nb);unfold ir;rw[Em,pN];simpa using this
 calc kla_codeExpr (Ym (J [] _ _ H Q I1 h) (λu' s' hs=>?_) λe s' hs=>hs.elim);let⟨w,H',J',rv,q⟩:=hs;calc I.after ⟨w,H',J'.os,J'.bare,J'.base,J'.aX,rv,q⟩
end
def iW(h:I)(k:LK)(v:O):Prop:=∃a o xs n,v=.ref a/\h.get? a=U o/\o.cls=.type "tuple" /\ o.data=.seq xs n/\IntsAre xs.toList k
section
variable{prog:l}{w:g}{A:q}{E:bg}{s:B}{Q:Bool->B->Prop}
theorem Gs{fin:Bool}:∀{us ws:-O}{ks ls:LK}(i:Nat),IntsAre us ks->IntsAre ws ls->fin=S (↑us<↑ws)->Q (HT.lexLt ks ls) s->KatLex prog w A θ fin Q (us.zip ws) i s
 |_,_,_,_,i,.nil,.nil,hf,h=>by
  rw[Zy];subst hf;exact h
 |_,_,_,_,i,.nil,.cons m u r,hf,h=>by
  rw[Zy];let:fin=θ:=by rw[hf];simp
  subst this;exact h
 |_,_,_,_,i,.cons n t r,.nil,hf,h=>by
  rw[q1B];let:fin=ι:=by rw[hf];simp
  subst this;exact h
 |_,_,_,_,i,.cons n t r,.cons m u r',hf,h=>by
  rw[YQ];refine kat_cons (q0t (kat_go (λe=>?_) λe=>?_))
  .let e:n=m:=XT e
   subst e;rw[HT.oB,Wm Y] at h;exact kat_yes (Gs (i+1) r r' (by rw[hf];simp) h)
  .let e:¬ n=m:=λz=>by subst z;simp at e
   rw[HT.oB,Vw e] at h;refine kat_no ?_
   cases q:(θ&&i==0) with
   |true=>exact oneLt_int h
   |false=>calc kat_one _ _ (ZX h)
theorem Gu{k l:LK}{x y:O}(hx:iW s.heap k x)(hy:iW s.heap l y)(h:Q (HT.lexLt k l) s):L (G prog w) A (keyLt' (tuples' θ) x y) Q E s:=by
 let⟨a,o,xs,n,rfl,h1,_,h2,h3⟩:=hx;let⟨b,o',ys,n',rfl,g1,_,g2,g3⟩:=hy;calc kat_lt h1 h2 g1 g2 (Gs 0 h3 g3 (by rw[Vx,Vx]) h)
theorem Gv{h:I}:∀{keys:-O}{ks:-LK},(∀k∈ks,k≠[])->↑keys=↑ks->(∀(i:Nat)(k:LK)(v:O),ks[i]?=U k->keys[i]?=U v->iW h k v)->∃fs,KatTups h keys fs/\fs.length=↑keys/\∀v∈fs,∃n t,v=YY n t
 |[],[],_,_,_=>⟨[],.nil,Y,λv hv=>nomatch hv⟩
 |[],_::_,_,hl,_=>by simp at hl
 |_::_,[],_,hl,_=>by simp at hl
 |v::keys,k::ks,g6,hl,ht=>by
  let⟨fs,t,hf,hi⟩:=Gv (h:=h) (keys:=keys) (ks:=ks) (λk hk=>g6 k (Vu _ hk)) hl⁻¹ λi k v e1 e2=>ht (i+1) k v e1⁻¹ e2⁻¹;let⟨a,o,xs,n,rfl,h1,hc,h2,h3⟩:=ht 0 k v Y Y;let hk:=g6 k Wo;generalize hx:xs.toList=xl at h3
  cases h3 with
  |nil=>exact absurd Y hk
  |cons m t' r =>
   let h0:xs[0]?=U (.int m t'):=by rw[<-W0,hx];rfl
   calc⟨.int m t'::fs,.cons h1 hc h2 h0 t,by rw[Em,Em,hf],λv hv=>?_⟩;rcases MN.mp hv with rfl|hv
   .exact⟨m,t',Y⟩
   .calc hi v hv
theorem Gw{M:Model}{keys:-O}{ks:-LK}{Q:SortKind->B->Prop}(h0:0<↑keys)(g6:∀k∈ks,k≠[])(hl:↑keys=↑ks)(ht:∀(i:Nat) (k:LK) (v:O),ks[i]?=U k->keys[i]?=U v->iW s.heap k v)(h:Q (tuples' θ) s):
  L M A (keyKind' keys.toArray) Q E s:=by
 let⟨fs,t,hf,hi⟩:=Gv g6 hl ht;refine kat_kind (T:=.type "int") t ⋯ (λv hv=>?_) (by decide) ?_
 .let⟨n,t',rfl⟩:=hi v hv
  exact .now
 .calc h
theorem getD_some{α:Type}{l:-α}{i:Nat}{d:α}(h:i<↑l):l[i]?=U (l.getD i d):=by
 rw[pM h,En,pM h];rfl
theorem PU{a kS:M}{e1:Nat}{vs keys:-O}{ks:-LK}{P:q3C->B->Prop}(hv:↑keys=↑vs)(iu:↑vs<64)(g6:∀k∈ks,k≠[])(hl:↑keys=↑ks)(ht:∀(i:Nat) (k:LK) (v:O),ks[i]?=U k->keys[i]?=U v->iW s.heap k v)
  (fin:∀st (p:Array Nat),(arrOf st).map (·.2)=WX (p.toList.map λi=>vs.getD i WN)->failedOf st=Z->c6 ↑vs p->Up (λi=>ks.getD i []) p ↑vs->L (ς prog w) A (ksk_tail a ι e1 (.ref kS) st) P E s) :
  L (ς prog w) A (ksk_end a ι vs.toArray e1 (.ref kS) (WX keys)) P E s:=by
 unfold ksk_end
 try dsimp only
 erw[Xb,Yw]
 by_cases h2:vs.toArray.size<2
 .rw[Wm h2,Wm h2]
  calc qL (MK ?_);rw[q2I];refine qL (MK ?_)
  try dsimp only
  rw[yA] at h2;refine fin _ (WL ↑vs).toArray ?_ Y ⟨q0U _⟩ λi j ib hj=>?_
  .let AY:arrOf (SortSt.mk' general' (keys.toArray.zip vs.toArray) #[] 7 Z)=(WX (WL ↑vs)).map (kas_item (keys.toArray.zip vs.toArray)):=by
    let e:=kas_range (keys.toArray.zip vs.toArray);rw[show(keys.toArray.zip vs.toArray).size=↑vs by simp[hv]] at e;rw[e]
   exact kat_snds hv AY
  .let:i=j:=by symm
   subst this;exact kle_refl _
 .rw[Vw h2,Vw h2]
  rw[yA] at h2;refine qL (Gw ⋯ g6 hl ht ?_)
  refine qL (Ym (kat_run (κ:=tuples' θ) (E:=E) (Q:=λeA s'=>s'=s/\∃p:Array Nat,arrOf eA=p.map (kas_item (keys.toArray.zip vs.toArray))/\failedOf eA=Z/\c6 ↑vs p/\Up (λi=>ks.getD i []) p ↑vs)
   (G:=λp s'=>s'=s/\c6 ↑vs p/\Up (λi=>ks.getD i []) p ↑vs) hv ⋯ iu (λp eA s' a1 a2 a3 a4=>⟨a4.1,p,a2,a3,a4.2.1,a4.2.2⟩) ?_) ?_ λ_ _ x=>x)
  .refine FW (k:=λi=>ks.getD i []) (I:=λs'=>s'=s) (λi j C s' hi hj e hC=>?_) ⋯ Y λp s' a1 a2 a3=>⟨a3,a1,a2⟩
   subst e;exact Gu (ht i _ _ (getD_some ⋯) (getD_some ⋯)) (ht j _ _ (getD_some ⋯) (getD_some ⋯)) (hC _ Y)
  .ext ⟨⟨⟩,eA⟩ s' ⟨rfl,p,a1,a2,a3,a4⟩
   try dsimp only
   calc fin eA p (kat_snds hv a1) a2 a3 a4
end
theorem bD.at{X:Cx}{pins:aC}{H H':Hp}{b:M}(f:bD X pins H b)(h:H' b=Z):bD X pins H' b:=⟨h,f.2⟩
section
variable{X:Cx}{pins:aC}{σ:St}{H:Hp}{s:B}{A:q}{E:bg}{a:M}{vs:-O}{f:O}
theorem Inv.gu{h':Α}{t':Nat}{b:M}(I:Inv X pins σ H s)(fb:bD X pins H b)(k:∀c o,c≠b->s.heap.get? c=U o->h'.get? c=U o):Inv X pins σ H {s with heap:=h',toks:=t'} :=
 I.turned k fb.1 fb.2.1 fb.2.2.2.1 fb.2.2.2.2.1 fb.2.2.2.2.2
theorem Inv.nV{b:M}{o:Q}(I:Inv X pins σ H s)(fb:bD X pins H b)(e:s.heap.get? b=U o)(hc:∀v,o.data≠.cell v):Inv X ((b,o)::pins) σ H s :=
 I.fu λp hp=>by
  rcases MN.mp hp with rfl|hp
  .exact⟨e,fb.1,fb.2.1,fb.2.2.1,hc⟩
  .calc I.pin p (WB _ hp)
theorem Inv.gM{p:M×Q}(I:Inv X (p::pins) σ H s):Inv X pins σ H s:=I.fu λq hq=>I.pin q (WB _ (Vu _ hq))
theorem bD.cons{b:M}{p:M×Q}(f:bD X pins H b)(n:p.1≠b):bD X (p::pins) H b :=
 ⟨f.1,f.2.1,f.2.2.1,f.2.2.2.1,f.2.2.2.2.1,λq hq=>by
  rcases W7.mp hq with z|z
  .exact f.2.2.2.2.2 q (XU _ z)
  .rcases MN.mp z with rfl|z
   .exact n
   .calc f.2.2.2.2.2 q (WB _ z)⟩
theorem wm{c:String}{xs:Array O}{n:Nat}:∀v,(seqObj c xs n).data≠.cell v:=λv z=>by cases z
theorem PV{P:-V->Hp->Prop}{n0:Nat}{R:q3C->B->Prop}(I:Inv X pins σ H s)(fa:bD X pins H a)(ha:s.heap.get? a=U (seqObj "list" vs.toArray n0))(iu:↑vs<64)(p0:P [] H)
  (ql:∀(dg:aC)(v:O)(kvs:-V)(H':Hp)(s':B),vs[↑kvs]?=U v->Inv X dg σ H' s'->P kvs H'->L (G X.prog X.w) A (call f [v]) (EP X dg σ λk j4=>P (kvs++[k]) j4) (λ_ _=>False) s')
  (fin:∀kvs H',↑kvs=↑vs->P kvs H'->∃ks:-LK,↑ks=↑vs/\(∀k∈ks,k≠[])/\(∀(i:Nat)(k:LK),ks[i]?=U k->∃t,kvs[i]?=U (.ref t)/\H' t=U (.tup (k.map V.int))) ∧
   ∀(p:Array Nat)(s':B)(c:Nat),c6 ↑vs p->Up (λi=>ks.getD i []) p ↑vs->Inv X pins σ H' s'->bD X pins H' a->s'.heap.get? a=U (seqObj "list" (WX (p.toList.map λi=>vs.getD i WN)) c)->R (.done (.ret .none)) s') :
  L (G X.prog X.w) A (ksk_tree a f ι) R E s:=by
 unfold ksk_tree;calc qL (q18 ha Y ?_);calc qL (Zi ha Y ?_ (by rw[yA,Xg];symm) (W8 _));let sb:=W_ s.heap a (WY λ_=>(#[]:Array O));let⟨e1,iC⟩:∃e1,(s.heap.update a (WY λ_=>(#[]:Array O))).get? a=U (seqObj "list" #[] e1):=⟨_,Zl ha λ_ => #[]⟩;let I1:Inv X pins σ H {s with heap:=s.heap.update a (WY λ_=>(#[]:Array O))}:=I.gu (t':=s.toks) fa λc o n e=>(sb.2 c n).trans e;calc qL (q08 iC Y ?_);calc qL (q09 ?_ (by show ↑vs<=_;rw[Xg];symm));calc qL (q0p ?_ (W8 _));calc W9 ?_;generalize PW:s.heap.update a (WY λ_=>(#[]:Array O))=g0 at iC I1
 show L _ _ (ksk_rest a f ι vs.toArray e1 (.ref (g0.push (seqObj "tuple" vs.toArray 0)).objs.size)) R E {s with heap:=(g0.push (seqObj "tuple" vs.toArray 0)).push (seqObj "list" #[] 0)};let I2:Inv X pins σ H {s with heap:=(g0.push (seqObj "tuple" vs.toArray 0))}:=I1.kept (h':=g0.push (seqObj "tuple" vs.toArray 0)) (t':=s.toks) λb u e=>u6 _ e;let eG:(g0.push (seqObj "tuple" vs.toArray 0)).get? a=U (seqObj "list" #[] e1):=u6 _ iC;generalize g0.push (seqObj "tuple" vs.toArray 0)=g1 at I2 eG;let fk:bD X pins H g1.objs.size:=I2.gE (Ek _) (I2.aX.fresh (Ek _));let I3:Inv X pins σ H {s with heap:=g1.push (seqObj "list" #[] 0)}:=I2.kept (h':=g1.push (seqObj "list" #[] 0)) (t':=s.toks) λb u e=>u6 _ e
 let ug:g1.objs.size≠a:=Yo (MM eG);let I4:=(I3.nV fk (Vt _ Y) wm).nV (fa.cons (p:=(g1.objs.size,seqObj "list" #[] 0)) ug) (u6 _ eG) wm;generalize g1.objs.size=kS at I4 ug fk;unfold ksk_rest;refine qL (q0L ?_)
 first
  |rw[List.forIn_toArray]
  |(rw[<-Z2];erw[List.toList_toArray])
  |rw[<-Z2]
 refine qL (ksk_fold (λi s'=>∃H' kvs ks e,Inv X ((a,seqObj "list" #[] e1)::(kS,seqObj "list" (WX ks) e)::pins) σ H' s'/\P kvs H'/\Vals kvs ks/\↑kvs=i) vs 0 _ ⟨H,[],[],0,I4,p0,.nil,Y⟩ ?step ?done)
 case step =>
  ext j x s' hx ⟨H',kvs,ks,e,J,pk,rv,hl⟩;rw[Xi] at hl;let hj:j<↑vs:=(sG.mp hx).1;calc qL (q1s (Ym (ql _ x kvs H' s' (by rw[hl];calc hx) J pk) (λu s2 hs=>?_) λ_ _ z=>z.elim));let⟨k,H2,J2,r2,p2⟩:=hs
  try dsimp only
  let pa:=J2.pin (a,seqObj "list" #[] e1) (WB _ (.head _));let oT:=J2.pin (kS,seqObj "list" (WX ks) e) (WB _ (.tail _ (.head _)));let lk:↑ks=j:=by rw[<-↑rv];exact hl
  calc qL (Zi oT.1 Y ?_ (by rw[yA,Xg];symm) (WU (ZY (q0O ..)) (by rw[yA,Xg];symm)));let s1:=W_ s2.heap kS (WY (·.push u));let ea:(WX ks).push u=WX (ks++[u]):=by simp
  let⟨c2,g_⟩:∃c2,(s2.heap.update kS (WY (·.push u))).get? kS=U (seqObj "list" (WX (ks++[u])) c2):=⟨_,by rw[<-ea];calc Zl oT.1 (·.push u)⟩;let J3:=J2.gM.gM;let J4:Inv X pins σ H2 {s2 with heap:=s2.heap.update kS (WY (·.push u))}:=J3.gu (t':=s2.toks) (fk.at oT.2.1) λc o n e=>(s1.2 c n).trans e;calc MK ⟨Y,H2,kvs++[k],ks++[u],c2,?_,p2,rv.append (.cons r2 .nil),by rw[MJ,hl,Xi];rfl⟩;exact(J4.nV (fk.at oT.2.1) g_ wm).nV ((fa.at pa.2.1).cons ug) ((s1.2 a ug.symm).trans pa.1) wm
 case done =>
  ext s' ⟨H',kvs,ks,e,J,pk,rv,hl⟩;rw[Xi] at hl;let pa:=J.pin (a,seqObj "list" #[] e1) (WB _ (.head _));let oT:=J.pin (kS,seqObj "list" (WX ks) e) (WB _ (.tail _ (.head _)));let lk:↑ks=↑vs:=by rw[<-↑rv];exact hl
  let⟨kk,k1,k2,k3,k4⟩:=fin kvs H' hl pk
  try dsimp only
  calc qL (q18 oT.1 Y ?_);refine PU (ks:=kk) lk iu k2 (by rw[lk,k1]) (λi k v e1 e2=>?_) λst p qm hf hp up=>?_
  .let⟨t,e3,e4⟩:=k3 i k e1
   let⟨u,e5,e6⟩:=rv.get e3;rw[e2] at e5;cases e5;cases e6
   let⟨au,r',it,_⟩:=J.tuple (bO.of e4);let⟨o,o1,o2,n,o3⟩:=it;exact⟨t,o,_,n,Y,o1,o2,o3,by simpa using intsAre_of r'⟩
  .let hz:↑(p.toList.map λi=>vs.getD i WN)=↑vs:=by rw[pN,Vx,hp.size]
   unfold ksk_tail
   try dsimp only
   rw[qm];calc qL (Zi oT.1 Y ?_ (by rw[yA,Xg];symm) (W8 _));calc qL (q0_ ?_);let s1:=W_ s'.heap kS (WY λ_=>(#[]:Array O));let na:(s'.heap.update kS (WY λ_=>(#[]:Array O))).get? a=U (seqObj "list" #[] e1):=(s1.2 a ug.symm).trans pa.1;calc qL (q08 na Y ?_);erw[Xb,Yw];calc qL (Zi na Y ?_ (W8 _) (WU (ZY (by rw[yA,hz])) (by rw[Xg];symm)));rw[hf];erw[bne_self_eq_false,Xb,Yw];let J1:Inv X pins σ H' {s' with heap:=s'.heap.update kS (WY λ_=>(#[]:Array O))}:=J.gM.gM.gu (t':=s'.toks) (fk.at oT.2.1) λc o n e=>(s1.2 c n).trans e;let s2:=W_ (s'.heap.update kS (WY λ_=>(#[]:Array O))) a (WY λ_=>WX (p.toList.map λi=>vs.getD i WN))
   let J2:Inv X pins σ H' {s' with heap:=(s'.heap.update kS (WY λ_=>(#[]:Array O))).update a (WY λ_=>WX (p.toList.map λi=>vs.getD i WN))}:=J1.gu (t':=s'.toks) (fa.at pa.2.1) λc o n e=>(s2.2 c n).trans e;let⟨c2,g_⟩:∃c2,((s'.heap.update kS (WY λ_=>(#[]:Array O))).update a (WY λ_=>WX (p.toList.map λi=>vs.getD i WN))).get? a=U (seqObj "list" (WX (p.toList.map λi=>vs.getD i WN)) c2):=⟨_,Zl na λ_=>WX (p.toList.map λi=>vs.getD i WN)⟩;calc MK (k4 p _ c2 hp up J2 (fa.at pa.2.1) g_)
end
section
variable{prog:l}{w:g}{A:q}{E:bg}{s:B}
theorem PX{Q:-O->B->Prop}{r:M}{a b c:Int}{t u v:Tok}{n:Nat}(hh:A.handled=Z)(hr:IsRange s.heap r a b c t u v)(qo:Builtin.Range.small a b c=θ)
  (hn:YI a b c=n) (hlen:n<=2 ^ 24)
  (hQ:∀h' tk cP,(∀b o,s.heap.get? b=U o->h'.get? b=U o)->ItemsOf (λi v=>∃t,v=.int (a+i*c) t) cP n->Q cP.toList {s with heap:=h',toks:=tk}):L (G prog w) A (collect (.ref r)) Q E s:=by
 let key:∀R:Result->B->Prop,(∀h' tk cP c',(∀b o,s.heap.get? b=U o->h'.get? b=U o)->h'.get? ⇑s=U {cls:=.type "list",dict:=none,data:=.seq cP c',slots := #[]}->ItemsOf (λi v=>∃t,v=.int (a+i*c) t) cP n->R (.ok (.ret (.ref ⇑s))) {s with heap:=h',toks:=tk})->codeAny (G prog w) A (.builtin "proto.collect" ⟨[.ref r],[]⟩) R s:=by
  ext R hR;calc Zj F.entry_proto_collect ?_;rw[Y6 F.plain_proto_collect _];show L _ A.in1 (newList [] >>= λl=>again (.builtin "list.__iadd__" ⟨[l,.ref r],[]⟩)) _ _ s;calc qL (Yi ?_);calc MK ⟨q3c q1_ _,Zj F.entry_list_iadd ?_⟩;rw[Y6 q1_ _];show L _ A.in1 (Builtin.List.listExtendWith (.ref ⇑s) (.ref r) (.ref ⇑s)) _ _ _;let PY:(s.heap.push {cls:=.type "list",data:=.seq ([]:-O).toArray}).get? ⇑s=U {cls:=.type "list",data:=.seq #[] 0}:=Vt _ Y;refine wpAny_extend_range (R:=R) (s:={s with heap:=s.heap.push {cls:=.type "list",data:=.seq ([]:-O).toArray}}) hh (u6 _ hr) qo hn hlen ⇑s (.ref ⇑s) 0 PY λh' tk cP c' hk AZ qp=>?_
  exact hR h' tk cP c' (λb o e=>hk b o (Wv (MM e)) (u6 _ e)) AZ qp
 unfold collect;calc qL (q2P (key _ λh' tk cP c' hk AZ qp=>?_));show L _ A (load ⇑s >>= _) _ _ _;calc qL (wpAny_load AZ ?_);calc MK (hQ h' tk cP hk qp)
end
section
variable{X:Cx}{pins:aC}{σ:St}{H:Hp}{s:B}{E:bg}
theorem Inv.oU{a:M}{o:HO}(I:Inv X pins σ H s)(fa:bD X pins H a)(ha:⇑X.s₀<=a)(new:aU X.prog X.w (upd H a o) s.heap a o):Inv X pins σ (upd H a o) s:=by
 let⟨f0,f1,f2,_,f4,f5⟩:=fa;let ne:∀{b u},H b=U u->b≠a:=λe z=>by rw[z,f0] at e;cases e
 refine⟨I.ok,I.os,I.bare,⟨I.base.keep,I.base.slot,λb u e n hx=>?_,I.base.there,λb xs e=>?_,λb u v e=>?_,λb ps e=>?_⟩,I.loc,I.cell,?_,λx c e=>?_,λp hp=>?_,λb u e=>?_,I.len⟩
 .rw[aZ (Wv (Wr (MM e) ha))];exact I.base.free b u e n hx
 .let:=I.base.fB b xs e
  rw[aZ (ne this)];exact this
 .let:=I.base.fY b u v e
  rw[aZ (ne this)];exact this
 .let⟨more,this⟩:=I.base.fZ b ps e
  exact⟨more,by rw[aZ (ne this)];calc this⟩
 .rw[aZ (YN f1)];exact I.free
 .rw[aZ (f4 x c e)];exact I.cQ x c e
 .let⟨e1,e2,e3⟩:=I.pin p hp
  exact⟨e1,by rw[aZ (f5 p hp)];calc e2,e3⟩
 .by_cases z:b=a
  .subst z;rw[b_] at e;cases e;exact new
  .rw[aZ z] at e
   refine(I.aX b u e).gA (λc v _ q=>q) (λc q=>?_) λc xs q=>?_
   .rw[aZ (ne q)];exact q
   .rw[aZ (ne q)];calc q
theorem Gx{xs:-V}{vs:-O}(r:Vals xs vs){p:-Nat}(hp:∀i∈p,i<↑vs):Vals (p.map λi=>xs.getD i .non) (p.map λi=>vs.getD i WN):=by
 induction p with
 |nil=>exact .nil
 |cons i q ih =>
  calc .cons ?_ (ih λj hj=>hp j (Vu _ hj));let hi:=hp i Wo;let⟨u,e1,e2⟩:=r.get (getD_some (l:=xs) (d:=V.non) (by rw[↑r];calc hi));let:=getD_some (l:=vs) (d:=WN) hi;rw[this] at e1;cases e1;calc e2
theorem c6.mem{n:Nat}{p:Array Nat}(h:c6 n p){i:Nat}(hi:i∈p.toList):i<n:=by
 let:=(Y_.mp h.perm).mem_iff.mp hi;simpa using this
theorem PZ{l q:M}{P:-V->Hp->Prop}{xs:-V}{Q:bg}(I:Inv X pins σ H s)
  (col:∀Q':-O->B->Prop,(∀h' tk vs,(∀b o,s.heap.get? b=U o->h'.get? b=U o)->Vals xs vs->Q' vs {s with heap:=h',toks:=tk})->L (G X.prog X.w) X.A.in1 (collect (.ref l)) Q' E s)
  (iu:↑xs<64) (p0:P [] H)
  (ql:∀(dg:aC)(x:V)(u:O)(kvs:-V)(H':Hp)(s':B),xs[↑kvs]?=U x->RelV x u->Inv X dg σ H' s'->P kvs H'->L (G X.prog X.w) X.A.in1.in1 (call (.ref q) [u]) (EP X dg σ λk j4=>P (kvs++[k]) j4) (λ_ _=>False) s')
  (fin:∀kvs H',↑kvs=↑xs->P kvs H'->∃ks:-LK,↑ks=↑xs/\(∀k∈ks,k≠[])/\(∀(i:Nat)(k:LK),ks[i]?=U k->∃t,kvs[i]?=U (.ref t)/\H' t=U (.tup (k.map V.int))) ∧
   ∀(p:Array Nat)(s':B)(a:M),c6 ↑xs p->Up (λi=>ks.getD i []) p ↑xs->H' a=Z->Inv X pins σ (upd H' a (.lst (p.toList.map λi=>xs.getD i .non))) s'->Q (.ref a) s') :
  L (G X.prog X.w) X.A (call (.builtin "sorted") [.ref l] [(XA "key",.ref q)]) Q E s:=by
 calc call_function_entry_kw kind_sorted plain_sorted entry_sorted (ksk_s1 _ _) ?_;unfold Builtin.«sorted»;calc qL (m:=checkCount "sorted" 1 1 _) (MK ?_);calc qL (col _ λh' tk vs kp rv=>?_);let lv:↑vs=↑xs:=rv.length.symm;calc qL (q0p ?_ (by rw[Xg];symm));let I1:Inv X pins σ H {s with heap:=h',toks:=tk}:=I.kept kp;let fa:bD X pins H h'.objs.size:=I1.gE (Ek _) (I1.aX.fresh (Ek _));let A0:⇑X.s₀<=h'.objs.size:=I1.sz;let I2:Inv X pins σ H {s with heap:=h'.push (seqObj "list" vs.toArray 0),toks:=tk}:=I1.kept (h':=h'.push (seqObj "list" vs.toArray 0)) (t':=tk) λb u e=>u6 _ e
 let pq:(h'.push (seqObj "list" vs.toArray 0)).get? h'.objs.size=U (seqObj "list" vs.toArray 0):=Vt _ Y;refine qL (W9 (wpAny_call_entry_kw slot_list_sort ⟨_,pq,Y⟩ entry_list_sort ?body (ksk_l1 _ _)))
 case body =>
  show L (G X.prog X.w) X.A.in1.in1 (Builtin.«list.sort» ⟨[.ref h'.objs.size],[(XA "key",.ref q)]⟩) _ _ _;rw[ksk_t1];refine PV (P:=P) I2 fa pq ⋯ p0 (λdg v kvs H' s' hv J pk=>?_) λkvs H' hl pk=>?_
  .let hi:↑kvs<↑xs:=by rw[<-lv];exact(sG.mp hv).1
   let⟨u,e1,e2⟩:=rv.get (pM hi);rw[hv] at e1;cases e1;exact ql dg _ v kvs H' s' (pM hi) e2 J pk
  .let⟨ks,k1,k2,k3,k4⟩:=fin kvs H' ⋯ pk
   calc⟨ks,⋯,k2,k3,λp s' c hp up J fj e=>⟨_,Y,?_⟩⟩;rw[lv] at hp up;calc MK ⟨_,Y,k4 p s' h'.objs.size hp up fj.1 (J.oU fj A0 ?_)⟩;let hz:↑(p.toList.map λi=>xs.getD i V.non)=↑xs:=by rw[pN,Vx,hp.size]
   calc⟨by rw[hz,Xg];symm,_,c,Gx rv λi hi=>by rw[lv];calc hp.mem hi,e⟩
end
theorem ah.at{H:Hp}{ds:-D}{vs:-V}{i:Nat}{d:D}{v:V}(h:ah H ds vs)(e1:ds[i]?=U d)(e2:vs[i]?=U v):Is H d v:=by
 let⟨d',e3,h'⟩:=h.get e2;rw[e1] at e3;cases e3;calc h'
theorem ah.qq{H:Hp}:∀{ds:-D}{vs:-V},↑vs=↑ds->(∀(i:Nat)(d:D),ds[i]?=U d->∃v,vs[i]?=U v/\Is H d v)->ah H ds vs
 |[],[],_,_=>.nil
 |[],_::_,h,_=>by simp at h
 |_::_,[],h,_=>by simp at h
 |d::ds,v::vs,h,g=>by
  let⟨v',e,h1⟩:=g 0 d Y;cases(show U v=U v' from e)
  calc .cons h1 (ah.qq h⁻¹ λi d e=>by simpa using g (i+1) d e⁻¹)
structure lh where
 T:M
 pos:y
 qual:R
theorem eu.same{H H':Hp}{T:M}{pos:y}{q:R}(h:eu H T pos q)(s:aL H H'):eu H' T pos q:=by
 let⟨ps,e,t,c⟩:=h;calc⟨ps,s _ _ e,t,c.imp id λ⟨c,e1,e2⟩↦⟨c,e1,s _ _ e2⟩⟩
theorem eu.keep{H H':Hp}{T T':M}{pos:y}{q:R}(h:eu H T pos q)(ne:T≠T')(hT:∃ps,H T'=U (.tbl ps))(s:∀b o,H b=U o->b≠T'->H' b=U o):eu H' T pos q:=by
 let⟨ps,e,t,c⟩:=h;calc⟨ps,s _ _ e ne,t,c.imp id λ⟨c,e1,e2⟩=>⟨c,e1,s _ _ e2 λz=>?_⟩⟩;let⟨qs,hT⟩:=hT;rw[z,hT] at e2;cases e2
theorem eu.put{H:Hp}{T a:M}{pos:y}{q:R}{o o':HO}(h:eu H T pos q)(ha:H a=U o)(hk:(∃vs,o=.lst vs)\/(∃ws,o=.dK ws)\/(∃ws,o=.dT ws)\/∃C dx ws,o=.ins C dx ws):eu (upd H a o') T pos q:=by
 let⟨ps,e,t,c⟩:=h
 let ne:∀{b u},H b=U u->(∀vs,u≠.lst vs)->(∀ws,u≠.dK ws)->(∀ws,u≠.dT ws)->(∀C dx ws,u≠.ins C dx ws)->b≠a:=λ{b u} e n1 n2 n3 n4 z=>by
  subst z;rw[ha] at e;cases e;rcases hk with⟨_,z⟩|⟨_,z⟩|⟨_,z⟩|⟨_,_,_,z⟩
  .exact n1 _ z
  .exact n2 _ z
  .exact n3 _ z
  .exact n4 _ _ _ z
 calc⟨ps,by rw[aZ (ne e (λ_ z=>by cases z) (λ_ z=>by cases z) (λ_ z=>by cases z) λ_ _ _ z=>by cases z)];calc e,t,c.imp id λ⟨c,e1,e2⟩=>⟨c,e1,?_⟩⟩;rw[aZ (ne e2 (λ_ z=>by cases z) (λ_ z=>by cases z) (λ_ z=>by cases z) λ_ _ _ z=>by cases z)];exact e2
@[reducible] noncomputable def nW (ls:-lh):aS where
 ad:=ls.map (·.T)
 ok:=λH=>∀l∈ls,eu H l.T l.pos l.qual
 same:=λh s l hl=>(h l hl).same s
 put:=λh ha hk l hl=>(h l hl).put ha hk
 tb:=λh ha=>by
  let⟨l,hl,rfl⟩:=Wq.mp ha;let⟨ps,e,_⟩:=h l hl;calc⟨ps,e⟩
variable[aS]
structure A1(T:M)(pos:y)(q:R):Prop where
 mem:T∈aS.ad
 get:∀H:Hp,aS.ok H->eu H T pos q
 put:∀H H':Hp,aS.ok H->eu H' T pos q->(∀b o,H b=U o->b≠T->H' b=U o)->aS.ok H'
omit [aS] in
theorem P0 {ls:-lh} {l:lh} (hl:l∈ls) (nd:∀a∈ls,∀b∈ls,a.T=b.T->a=b):@A1 (nW ls) l.T l.pos l.qual:=by
 letI:aS:=nW ls;refine⟨Yn hl,λH h=>h l hl,λH H' h t k l' iP=>?_⟩
 by_cases z:l'.T=l.T
 .rw[nd _ iP _ hl z];exact t
 .let⟨ps,e,_⟩:=h l hl
  calc(h l' iP).keep z ⟨ps,e⟩ k
structure P9(X:Cx)(T:M):Prop where
 code:∃cc,X.env.code=.ref cc/\CodeHd X.base cc T
 ng:mainGlobals≠T
 blt:X.base.BuiltinsAt X.mg T
section
variable{F H H':Hp}{ad:-M}{δ:aH}{σ:St}
theorem SR.A3(S:SR F ad δ σ H)(k:∀b o,H b=U o->b∉aS.ad->H' b=U o)(tk:aS.ok H'):SR (Nw F H H') ad δ σ H':=by
 let sm:=Nw.same (H':=H') S.sub;let nF:∀{a o},F a=U o->a∉aS.ad:=λ{a o} e t=>by rw[S.nt a t] at e;cases e
 let nO:∀{i a ov},ad[i]?=U a->δ.mu[i]?=U (U ov)->a∉aS.ad:=λ{i a ov} e1 e2 t=>by
  let⟨a',o,e3,e4,h⟩:=S.mu i ov e2;rw[e1] at e3;cases e3;let⟨ps,q⟩:=aS.tb S.tab t;rw[e4] at q;cases q;exact h.kind _ Y
 refine⟨λa o e=>?_,λa l=>?_,S.cf,S.inj,λi ov e=>?_,λi x e=>?_,S.len,tk,λa ha=>?_⟩
 .unfold Nw at e
  cases q:H a with
  |none=>rw[q] at e;exact e
  |some u=>rw[q] at e;exact k a o (S.sub a o e) (nF e)
 .let⟨i,ov,e1,e2⟩:=l
  let⟨a',o,e3,e4,_⟩:=S.mu i ov e2;rw[e1] at e3;cases e3;unfold Nw;rw[e4];exact S.off a ⟨i,ov,e1,e2⟩
 .let⟨a,o,e1,e2,h⟩:=S.mu i ov e
  exact⟨a,o,e1,k a o e2 (nO e1 e),h.same sm⟩
 .let⟨v,e1,h⟩:=S.sl i x e
  exact⟨v,e1,h.same sm⟩
 .let⟨ps,q⟩:=aS.tb S.tab ha
  unfold Nw;rw[q];calc S.nt a ha
theorem Ext.A3(S:SR F ad δ σ H)(k:∀b o,H b=U o->b∉aS.ad->H' b=U o)(tk:aS.ok H'):Ext F ad δ.mu H (Nw F H H') ad δ.mu H' where
 same:=Nw.same S.sub
 new:=λa o e=>by
  unfold Nw at e
  cases q:H a with
  |none=>exact .inr (.inl Y)
  |some u=>rw[q] at e;exact .inl e
 keep:=λa o e _ t=>k a o e t
 pre:=λ_ _ e=>e
 cb:=λ_ l=>.inl l
 hX:=λa o e=>by
  by_cases t:a∈aS.ad
  .let⟨ps,q⟩:=aS.tb tk t
   exact⟨_,q⟩
  .calc⟨o,k a o e t⟩
theorem SR.uh{sl:-(Option DV)}{mu:-(Option OV)}{τ:St}{d:D}{v:V}(S:SR F ad ⟨sl,mu⟩ τ H)(h:Is F d v):SR F ad ⟨U (.p d)::sl,mu⟩ (U v::τ) H:=by
 refine⟨S.sub,S.off,S.cf,S.inj,S.mu,λi x e=>?_,by let:=S.len;erw[Em];calc congrArg (· + 1) this,S.tab,S.nt⟩
 cases i with
 |zero=>cases(show U (U (DV.p d))=U (U x) from e);exact⟨v,Y,h⟩
 |succ i=>calc S.sl i x e
theorem Ext.oV{F' H':Hp}{aG:-M}{cL:-(Option OV)}{a:M}{o:HO}(S:SR F ad δ σ H)(e:Ext F ad δ.mu H F' aG cL H')(h:H a=U o)(n1:∀vs,o≠.lst vs)(n2:∀ws,o≠.dK ws)(n3:∀ps,o≠.tbl ps)(n4:∀ws,o≠.dT ws)(n5:∀C dx ws,o≠.ins C dx ws:=by ext _ _ _ z;cases z):H' a=U o:=by
 refine e.keep a o h (λ⟨i,ov,e1,e2⟩=>?_) λt=>?_
 .let⟨a',u,e3,e4,q⟩:=S.mu i ov e2
  rw[e1] at e3;cases e3;rw[h] at e4;cases e4;rcases q.kd with⟨_,z⟩|⟨_,z⟩|⟨_,z⟩|⟨_,_,_,z⟩
  .exact n1 _ z
  .exact n2 _ z
  .exact n4 _ z
  .exact n5 _ _ _ z
 .let⟨ps,q⟩:=aS.tb S.tab t
  rw[h] at q;calc n3 _ (WJ q)
end
def P_(cp:-(Option Nat))(fb:WE)(δ:aH)(ds:-D)(key:D->LK):Prop :=
 ∀d∈ds,key d≠[]/\fb ⟨U (.p d)::dE cp δ.sl,δ.mu⟩ λy δ'=>y=.p (.tup ((key d).map D.int))/\δ'.mu=δ.mu
def sortBy(cp:-(Option Nat))(fb:WE)(δ:aH)(ds:-D)(K:-D->Prop):Prop :=
 ↑ds<64/\∃key:D->LK,P_ cp fb δ ds key/\∀out:-D,out.Perm ds->(out.map key).Pairwise kle->K out
section
variable{X:Cx}{params:Arguments}{body:J}{scope:a}{fg:y}{x:R}{Nb:-R}{cp:-(Option Nat)}{fb:WE}{T:M}
structure jn(X:Cx)(params:Arguments)(body:J)(scope:a)(fg:y)(T:M)(x:R)(Nb:-R)(cp:-(Option Nat))(fb:WE):Prop where
 env:P9 X T
 tbl:A1 T fg (X.env.qual++"<lambda>")
 Qa:defaultsOf params X.env=([],[])
 kind:scope.kind=.function
 names:wj X.N X.env.scope scope x Nb cp=θ
 co:scope.isCoroutine=ι
 gen:scope.isGenerator=ι
 bind:∀(cl:-(R×M))(pm cd ct u:O),bindArgs (kla_fn "<lambda>" (X.env.qual++"<lambda>") params body scope cl pm cd ct) ⟨[u],[]⟩=pure [(x,u)]
 room:∃k,aY (k+3) X.A/\∀d:LD,aY k (d.A.deeper (envX (X.env.qual++"<lambda>") scope ⇑d.s d.f d.cd d.cl))->JE (nU X (X.env.qual++"<lambda>") scope (x::Nb) d) body (tD fb)
theorem Qb{pins:aC}{σ:St}{H:Hp}{s:B}{E:bg}{l:M}{F:Hp}{ad:-M}{δ:aH}{ds:-D}{xs:-V}{iH pos:Ε}{Q:VK}(L:jn X params body scope fg T x Nb cp fb)
  (I:Inv X pins σ H s) (S:SR F ad δ σ H) (hx:ah F ds xs)
  (col:∀(s:B)(H':Hp),Inv X pins σ H' s->(∀b o,H b=U o->b∉aS.ad->H' b=U o)->∀Q':-O->B->Prop,(∀h' tk vs,(∀b o,s.heap.get? b=U o->h'.get? b=U o)->Vals xs vs->Q' vs {s with heap:=h',toks:=tk})->ρ (G X.prog X.w) X.A.in1 (collect (.ref l)) Q' E s)
  (hs:sortBy cp fb δ ds λout=>∀a F' H' us,Ext F ad δ.mu H F' ad δ.mu H'->SR F' ad δ σ H'->H' a=Z->ah F' out us->Q (.ref a) (upd H' a (.lst us))) :
  ρ (G X.prog X.w) X.A (evalAll ((backToKw pos (keywordEach [⟨U "key",.Lambda params body scope fg,iH⟩] X.env)).map (·.2))) (λkvs s₂=>ρ (G X.prog X.w) X.A (call (.builtin "sorted") [.ref l] (((backToKw pos (keywordEach [⟨U "key",.Lambda params body scope fg,iH⟩] X.env)).filterMap (·.1)).zip kvs)) (EP X pins σ Q) E s₂) E s:=by
 let⟨iu,key,hk,K⟩:=hs;let⟨k,ui,J⟩:=L.room;let⟨cc,jm,hC⟩:=L.env.code;show ρ _ _ (evalAll [do let v <- eval (.Lambda params body scope fg) X.env;standAt pos;pure v]) _ _ _;calc evalAll_cons (qL ?_);let A4:=L.names;unfold wj at A4;erw[WZ,XS,XH] at A4;let SC:=x2J L.kind A4.1.1.1;let⟨cl,oJ,qk,wk⟩:=Eo (scope:=scope) (env:=X.env) λy hy e=>I.ok.has y.1 (SC.free y hy e);calc PK I (L.tbl.get H S.tab) L.Qa oJ jm (hC.keeps I.bk) L.env.ng (I.mod.glob.keeps I.bk) (L.env.blt.keeps I.bk) λf H1 s1 c I1 t1 k1 PG hf hc=>?_;calc qL (ZM (MK ?_));calc evalAll_nil ?_;show ρ _ _ (call (.builtin "sorted") [.ref l] [(XA "key",.ref f)]) _ _ _
 let kT:∀b o,H b=U o->b∉aS.ad->H1 b=U o:=λb o e t=>k1 b o e λz=>t (by rw[z];calc L.tbl.mem);let oj:=L.tbl.put H H1 S.tab t1 k1;let S1:=S.A3 kT oj;let E1:=Ext.A3 S kT oj;let lx:=↑hx
 refine PZ (xs:=xs) (P:=λkvs H'=>∃F',Ext F ad δ.mu H F' ad δ.mu H'/\SR F' ad δ σ H'/\H' f=U (iV f "<lambda>" (X.env.qual++"<lambda>") params body scope cl ((X.mg "__name__").getD .none) (.ref c))/\H' c=U (lZ c (X.env.qual++"<lambda>"))/\∀(i:Nat)(d:D)(kv:V),ds[i]?=U d->kvs[i]?=U kv->Is F' (.tup ((key d).map D.int)) kv)
  I1 (col s1 H1 I1 kT) ⋯ ⟨_,E1,S1,hf,hc,λi d kv _ e=>by simp at e⟩ (λdg v u kvs H' s' hv rv I' ⟨F',E',S',A5,jX,A6⟩=>?_) λkvs H' hl ⟨F',E',S',A5,jX,A6⟩=>?_
 .let hi:↑kvs<↑ds:=by rw[<-lx];exact(sG.mp hv).1
  let hd:=pM hi;let Qc:Is F' ds[↑kvs] v:=ah.at (hx.same E'.same) hd hv;let⟨VP,Qd⟩:=hk _ (Yb hi);let r2:aY (k+1) X.A.in1.in1:=(aY.in1 (aY.in1 (k:=k+2) ui));calc PR I' A5 jX (by rw[show X.A.in1.in1.frames=X.A.frames from Y];calc I'.ok.frames) r2.hd r2.depth L.kind L.names L.co L.gen qk wk (λct=>L.bind cl _ _ ct u) rv (J ⟨X.A.in1.in1,cl,f,.ref c,s',H'⟩ (r2.deeper _)) ?_;calc⟨F',ad,_,_,(S'.tG (cp:=cp)).uh Qc,Qd,?_⟩;ext y δ' ⟨ey,em⟩ w F2 cq H2 E2 S2 V2;subst ey
  let ea:cq=ad:=by
   let l2:↑cq=↑ad:=by rw[S2.cf,em,S'.cf]
   refine Y2 λi=>?_
   by_cases hi:i<↑ad
   .rw[pM hi];exact E2.pre i _ (pM hi)
   .rw[Xd ⋯,Xd ⋯]
  subst ea;let⟨Dv,cL⟩:=δ';let em:cL=δ.mu:=em;subst em;refine⟨F2,E'.trans E2,SR.back S' E2 S2,E2.oV S' A5 (λ_ z=>by cases z) (λ_ z=>by cases z) (λ_ z=>by cases z) (λ_ z=>by cases z),E2.oV S' jX (λ_ z=>by cases z) (λ_ z=>by cases z) (λ_ z=>by cases z) (λ_ z=>by cases z),λi d kv e1 e2=>?_⟩
  by_cases ni:i<↑kvs
  .rw[ML ni] at e2
   exact Is.same E2.same (A6 i d kv e1 e2)
  .let:i=↑kvs:=by
    let:=(sG.mp e2).1;rw[MJ,XI] at this;symm
   subst this;rw[Vs (Ek _),Xn] at e2;cases(show U w=U kv from e2)
   rw[hd] at e1;cases e1;exact V2
 .refine⟨ds.map key,by rw[pN];symm,λk j9=>?_,λi k' e=>?_,λp s' a hp up ha I'=>?_⟩
  .let⟨d,hd,rfl⟩:=Wq.mp j9
   exact(hk d hd).1
  .rw[My] at e
   let⟨d,hd,rfl⟩:=Ws.mp e;let hi:i<↑kvs:=by rw[hl,lx];exact(sG.mp hd).1
   let is:=A6 i d _ hd (pM hi);erw[Is] at is;let⟨t,us,e1,e2,e3⟩:=is;calc⟨t,by rw[pM hi,e1],?_⟩;rw[<-oN e3];exact S'.sub _ _ e2
  .let pm:(p.toList.map λi=>ds.getD i .non).Perm ds:=by
    let h1:=(Y_.mp hp.perm).map λi=>ds.getD i .non
    let h2:(WL ↑xs).map (λi=>ds.getD i D.non)=ds:=by
     calc Y2 λi=>?_;rw[My]
     by_cases hi:i<↑ds
     .rw[X7 ⋯,q0N,pM hi,En,pM hi];rfl
     .rw[Xd (by rw[W6];symm),Xd ⋯];rfl
    rw[show(WL ↑xs).toArray.toList=WL ↑xs from Y,h2] at h1;exact h1
   refine⟨.ref a,_,I',Y,K _ pm ?_ a _ _ _ E' S' ha ?_⟩
   .rw[WC,Yv]
    ext i j hi hj ib;rw[pN,Vx,hp.size] at hi hj;let:=up i j (X0 ib) hj;unfold KA at this;rw[XX,XX]
    let gp:∀{i:Nat}(h:i<↑p.toList),p.getD i 0=p.toList[i]:=λ{i} h=>by
     let h':i<p.size:=by rw[<-Vx];exact h
     simp[q22,h']
    let gk:∀{i:Nat},i<↑ds->(ds.map key).getD i []=key (ds.getD i .non):=λ{i} h=>by
     rw[En,My,pM h,En,pM h];rfl
    let pi:=hp.lt hi;let pj:=hp.lt hj;dsimp only at this;rw[gk ⋯,gk ⋯,gp (by rw[Vx,hp.size];calc hi),gp (by rw[Vx,hp.size];calc hj)] at this;exact this
   .refine ah.qq ?_ λi d e=>?_
    .rw[pN,pN]
    .rw[My] at e ⊢
     let⟨z,e1,rfl⟩:=Ws.mp e;rw[e1];let hz:=hp.mem (WR e1);calc⟨_,Y,ah.at (hx.same E'.same) (getD_some ⋯) (getD_some ⋯)⟩
end
structure gN(mg:R->Option O)(base:I)(fd:FuncData)(T:M)(pos:y)(q:R):Prop where
 code:∃cc,fd.code=.ref cc/\CodeHd base cc T
 ng:mainGlobals≠T
 blt:base.BuiltinsAt mg T
 tbl:A1 T pos q
theorem fS.A7{P:l}{w:ω}{K:El}{mg:R->Option O}{base:I}{x qual:R}{st:o}{f:M}{fd:FuncData}{N ps:-R}{k:Nat}{G:GD}(F:fS K x qual st f fd)(S:mx N ps (cn st))
  (d_:∀(bc:O)(A:q)(outer:-t)(s:ο)(H:Hp)(E:XK),fd.code=bc->aY k (A.deeper (envOfC qual (cn st) ⇑s f bc)) →
   ∃B:WS,dM (eK eM P w K mg base N qual (cn st) f bc A outer s H E).jY (fE st) (dZ B)/\∀ys av K',↑ys=↑ps->G ys av K'->B (iQ ↑av K') ⟨ys.map U++Vv (↑N-↑ps) Z,av.map U⟩) :
  bW P w K mg base eM (k+1) f fd ps (mT G ↑ps):=by
 let⟨oc,od,kV,doc,pm,an,bc,ct,mz,rfl,lk,gD⟩:=F.ex;calc DZ lk gD S (λvs H Q E h=>h.1) λA outer s H vs Q E hr h=>?_;let⟨hl,Fz,ad,ys,av,K',S0,g,kk⟩:=h;let⟨B,jb,hb⟩:=d_ bc A outer s H E Y hr
 let hy:↑ys=↑ps:=by
  let:=S0.len;rw[pN] at this;rw[<-hl,this];show _=↑(ys.map U);rw[pN]
 refine⟨_,jb.jY,Fz,ad,⟨ys.map U++Vv (↑N-↑ps) Z,av.map U⟩,iQ ↑av K',by rw[<-hl];calc S0.start,hb ys av K' hy g,⟨fun δ' h F' aG σ' H' E' S'=>?_,fun δ' h=>h.elim,fun δ' h=>h.elim,λy δ' h v F' aG σ' H' E' S' V=>?_,trivial⟩⟩
 .exact vF (σ':=σ') S0 E' S' (x:=.p .non) (v:=.non) Y h kk
 .calc vF (σ':=σ') S0 E' S' V h kk
section
variable{X:Cx}{params:Arguments}{body a e:J}{scope:Δ}{fg p1 p2 q1 q2 iH:y}{x:R}{Nb:-R}{cp:-(Option Nat)}{fb f:WE}{fa:WA}{T:M}
def A8(fa:WA)(cp:-(Option Nat))(fb:WE):WE:=fun δ K=>fa δ λxs δ1=>match xs with
 |[.p (.int j)]=>(0<=j/\j<=60)/\sortBy cp fb δ1 (cG 0 j.toNat) λout=>K (.o ↑δ1.mu) ⟨δ1.sl,δ1.mu++[U (.lst out)]⟩
 |_=>False
theorem Qe(L:jn X params body scope fg T x Nb cp fb)(hc:X.calm=θ)(A9:Gl X "sorted")(hs:X.mg "sorted" = Z)(A_:bootBuiltins "sorted" = U (.builtin "sorted"))(qb:Gl X "range")(hr:X.mg "range" = Z)(qc:bootBuiltins "range" = U (.type "range"))(ha:JA X [a] (b8 fa))
  (he:starEach [a] X.env=[(ι,eval a X.env)]) (M:aH->-D->Prop)
  {pins:aC} {s:B} {σ:St} {H:Hp} {Q:VK} {F:Hp} {ad:-ξ} {δ:aH} (I:Inv X pins σ H s) (S:SR F ad δ σ H)
  (q:fa δ λxs δ1=>match xs with
   |[.p (.int j)]=>(0<=j/\j<=60)/\sortBy cp fb δ1 (cG 0 j.toNat) (M δ1)
   |_=>False)
  (fin:∀δ1 out,M δ1 out->∀a F' aG H' us,Ext F ad δ.mu H F' aG δ1.mu H'->SR F' aG δ1 σ H'->H' a=Z->ah F' out us->Q (.ref a) (upd H' a (.lst us))) :
  ρ (G X.prog X.w) X.A (eval (.Call (.Name "sorted" p1) [.Call (.Name "range" p2) [a] [] q2] [⟨U "key",.Lambda params body scope fg,iH⟩] q1) X.env) (EP X pins σ Q) X.xe s:=by
 calc YO (mf I A9 hs A_ ?_);calc callWith_kw ?_;refine br ((mG (pG ER qb hr qc ha (he:=he)) cK) q1 pins s σ H (λvs H2=>∃(r:ξ)(j:Int)(F1:Hp)(aV:-ξ)(δ1:aH)(H1:Hp),vs=[.ref r]/\H2=upd H1 r (.rng 0 j)/\H1 r=Z/\Ext F ad δ.mu H F1 aV δ1.mu H1/\SR F1 aV δ1 σ H1/\(0<=j/\j<=60)/\sortBy cp fb δ1 (cG 0 j.toNat) (M δ1)) I ?_) λus s1 Qf=>?_
 .refine⟨F,ad,δ,_,S,q,λxs δ1 h1 vs F1 aV H1 E1 S1 V1=>?_⟩
  split at h1
  .rename_i j
   let⟨v,r,e,W1,W2⟩:=V1;let W2:r=[]:=W2;let W1:v=.int j:=W1;subst W2 W1 e;exact⟨j,Y,λrr zS=>⟨rr,j,F1,aV,δ1,H1,Y,Y,zS,E1,S1,h1.1,h1.2⟩⟩
  .exact h1.elim
 .let⟨vs,H2,I2,r2,r,j,F1,aV,δ1,H1,ev,eH,Qg,E1,S1,hj,Gy⟩:=Qf
  subst ev eH;let⟨u,rfl,rx⟩:=vals1 r2;cases rx
  let sm:aL H1 (upd H1 r (.rng 0 j)):=de Qg;let S2:=S1.al sm;let E2:=Ext.al S1 sm;let⟨n,rfl⟩:∃n:Nat,j=n:=⟨j.toNat,⋯⟩;rw[Ww,m_] at Gy;refine Qb L I2 S2 (ds:=(bp n).map D.int) (xs:=(bp n).map V.int) qY (λs' H' I' kp Q' hQ=>?_) ?_
  .let Qh:H' r=U (.rng 0 (n:Int)):=kp r _ b_ λt=>by
    let⟨ps,z⟩:=aS.tb S2.tab t;rw[b_] at z;cases z
   let⟨t,u,v,e⟩:=(show ∃t u v,s'.heap.get? r=U {cls:=.type "range",data:=.fields #[.int 0 t,.int (n:Int) u,.int 1 v]} from I'.aX r _ Qh);let hsz:YI 0 (n:Int) 1=n:=by rw[q1l];split<;>symm
   calc PX (n:=n) (by rw[Yc];calc I'.ok.hd hc) e (q3t ⋯ ⋯ ⋯ ⋯) hsz ⋯ λh' tk acc Qi it=>hQ h' tk _ Qi ?_;refine yV ?_ λi u e=>?_
   .rw[Vx,it.1,bp,pN,W6]
   .rw[W0] at e
    let⟨t',e2⟩:=it.2 i u e;let hi:i<n:=by rw[<-it.1];exact(Y4.mp e).1
    calc⟨t',e2.trans ?_⟩;rw[bp,En,My,X7 hi];show YY (0+(i:Int)*1) t'=YY (i:Int) t';rw[q0J,q05]
  .let⟨iu,key,hk,hK⟩:=Gy
   calc⟨iu,key,hk,λout pm pw a F' H' us E' S' hn is=>fin δ1 out (hK out pm pw) a F' aV H' us ((E1.trans E2).trans E') S' hn is⟩
theorem Qj(L:jn X params body scope fg T x Nb cp fb)(hc:X.calm=θ)(A9:Gl X "sorted")(hs:X.mg "sorted" = Z)(A_:bootBuiltins "sorted" = U (.builtin "sorted"))(qb:Gl X "range")(hr:X.mg "range" = Z)(qc:bootBuiltins "range" = U (.type "range"))(ha:JA X [a] (b8 fa))
  (he:‹starEach [a] X.env=[(ι,eval a X.env)]›):JE X (.Call (.Name "sorted" p1) [.Call (.Name "range" p2) [a] [] q2] [⟨U "key",.Lambda params body scope fg,iH⟩] q1) (tD (A8 fa cp fb)) :=
 ⟨λpins s σ H Q I ⟨F,ad,δ,K,S,q,k⟩↦Qe L hc A9 hs A_ qb hr qc ha he (fun δ1 out=>K (.o ↑δ1.mu) ⟨δ1.sl,δ1.mu++[U (OV.lst out)]⟩) I S q fun δ1 out hM a F' aG H' us E' S' hn is=>by
  let oi:∀{je},eC F' je (.lst out) (.lst us):=λ{je}=>⟨us,Y,is⟩
  calc k _ _ hM _ _ _ _ (E'.trans (Ext.own S' hn)) (S'.own hn oi) (z9 S')⟩
end
end L2
namespace L2
open PySem PySem.Spec PyProof.Rows PySem.W
theorem Ba:∀{k l:LK}(n m:Int),k.length=↑l->HT.lexLt (k++[n]) (l++[m])=if k=l then S (n<m) else HT.lexLt k l
 |[],[],n,m,_=>by
  show(if n=m then HT.lexLt [] [] else S (n<m))=_;rw[Wm Y]
  by_cases h:n=m
  .rw[Wm h];subst h;simp[HT.lexLt]
  .rw[Vw h]
 |[],_::_,_,_,h=>by simp at h
 |_::_,[],_,_,h=>by simp at h
 |a::k,b::l,n,m,h=>by
  rw[q0w,q0w,HT.oB,HT.oB,Ba n m h⁻¹]
  by_cases e:a=b
  .subst e
   rw[Wm Y,Wm Y]
   by_cases e2:k=l
   .subst e2;rw[Wm Y,Wm Y]
   .rw[Vw e2,Vw λz=>e2 (q3o z).2]
  .rw[Vw e,Vw e,Vw λz=>e (q3o z).1]
def lj(h:I)(L:Nat)(k:LK)(v:O):Prop:=∃a o xs n b kb m t,v=.ref a/\h.get? a=U o/\o.cls=.type "tuple" /\ o.data=.seq xs n/\xs.toList=[.ref b,.int m t]/\iW h kb (.ref b)/\↑kb=L/\k=kb++[m]
section
variable{prog:l}{w:g}{A:q}{E:bg}{s:B}{Q:Bool->B->Prop}
theorem Bb:∀{us:-O}{ns:-Int},IntsAre us ns->ItemsAre (intKind prog w) ns us
 |_,_,.nil=>.nil
 |_,_,.cons n t r=>.cons (q2Y ..) (Bb r)
theorem Qk{L:Nat}{k l:LK}{x y:O}(hu:A.units<cLine)(hx:lj s.heap L k x)(hy:lj s.heap L l y)(h:Q (HT.lexLt k l) s):ρ (G prog w) A (keyLt' (tuples' ι) x y) Q E s:=by
 let⟨a,o,xs,n,b,kb,m,t,rfl,h1,_,h2,h3,⟨b',ob,bs,nb,eb,g1,gc,g2,g3⟩,hL,rfl⟩:=hx;let⟨a',o',Ql,n',c,kc,m',t',rfl,mF,_,gG,Gz,⟨c',oc,cs,nc,ec,f1,fc,f2,f3⟩,eR,rfl⟩:=hy;cases eb
 cases ec
 let hz:xs.size=2:=by rw[<-Vx,h3];rfl
 let Qm:Ql.size=2:=by rw[<-Vx,Gz];rfl
 rw[Ba m m' (by rw[hL,eR])] at h;let k1:IsTupleKey (intKind prog w) s.heap kb b:=⟨ob,bs,nb,g1,gc,g2,Bb g3⟩;let k2:IsTupleKey (intKind prog w) s.heap kc c:=⟨oc,cs,nc,f1,fc,f2,Bb f3⟩;calc kat_lt h1 h2 mF gG ?_;rw[h3,Gz,hz,Qm,YQ,YQ,Zy];refine kat_cons (wpAny_eqBool_tuple hu k1 k2 (kat_go (λe=>?_) λe=>?_))
 .let e:kb=kc:=by simpa using e
  rw[Wm e] at h;refine kat_yes (kat_cons (q0t (kat_go (λe2=>?_) λe2=>?_)))
  .let e2:m=m':=XT e2
   subst e2;calc kat_yes (kat_nil ?_);simpa using h
  .exact kat_no (kat_one _ _ (ZX h))
 .let e:¬ kb=kc:=by simpa using e
  rw[Vw e] at h;calc kat_no (kat_one _ _ (HT.D0 ⟨ob,g1,gc,nb,g2⟩ ⟨oc,f1,fc,nc,f2⟩ g3 f3 hu h))
theorem Qn{M:Model}{L:Nat}{vs:-O}{ks:-LK}{Q:SortKind->B->Prop}(h0:0<↑vs)(hl:↑vs=↑ks)(ht:∀(i:Nat) (k:LK) (v:O),ks[i]?=U k->vs[i]?=U v->lj s.heap L k v)(h:Q (tuples' ι) s):
  ρ M A (keyKind' vs.toArray) Q E s:=by
 let key:∀(vs:-O)(ks:-LK),↑vs=↑ks->(∀(i:Nat)(k:LK)(v:O),ks[i]?=U k->vs[i]?=U v->lj s.heap L k v)->∃fs,KatTups s.heap vs fs/\fs.length=↑vs/\∀v∈fs,Looks M s.heap (typeOf v) (.type "tuple"):=by
  ext vs
  induction vs with
  |nil=>exactλks _ _=>⟨[],.nil,Y,λv hv=>nomatch hv⟩
  |cons v vs ih =>
   ext ks hl ht
   match ks,hl,ht with
   |k::ks,hl,ht =>
    let⟨fs,t,hf,hi⟩:=ih ks hl⁻¹ λi k v e1 e2=>ht (i+1) k v e1⁻¹ e2⁻¹;let⟨a,o,xs,n,b,kb,m,t',rfl,h1,hc,h2,h3,⟨b',ob,bs,nb,eb,g1,gc,g2,g3⟩,_⟩:=ht 0 k v Y Y;cases eb
    let h0:xs[0]?=U (.ref b):=by rw[<-W0,h3];rfl
    calc⟨.ref b::fs,.cons h1 hc h2 h0 t,by rw[Em,Em,hf],λv hv=>?_⟩;rcases MN.mp hv with rfl|hv
    .rw[<-gc];exact(Looks.ld g1).andThen .now
    .exact hi v hv
 let⟨fs,t,hf,hi⟩:=key vs ks hl ht;calc kat_kind (T:=.type "tuple") t ⋯ hi (by decide) h
end
section
variable{X:Cx}{pins:aC}{σ:St}{H:Hp}{s:B}{A:q}{E:bg}{a:M}{vs:-O}{ks:-LK}{κ:SortKind}
theorem Qo{n0:Nat}{R:q3C->B->Prop}(I:Inv X pins σ H s)(fa:bD X pins H a)(ha:s.heap.get? a=U (seqObj "list" vs.toArray n0))(iu:↑vs<64)
  (kind:∀s':B,Inv X pins σ H s'->2<=↑vs->∀Q:SortKind->B->Prop,Q κ s'->L (ς X.prog X.w) A (keyKind' vs.toArray) Q E s')
  (ask:∀s':B,Inv X pins σ H s'->∀(i j:Nat)(C:Bool->B->Prop),i<↑vs->j<↑vs->C (HT.lexLt (ks.getD i []) (ks.getD j [])) s'->L (ς X.prog X.w) A (keyLt' κ (vs.getD i WN) (vs.getD j WN)) C (λ_ _=>False) s')
  (fin:∀(p:Array Nat)(s':B)(c:Nat),c6 ↑vs p->Up (λi=>ks.getD i []) p ↑vs->Inv X pins σ H s'->s'.heap.get? a=U (seqObj "list" (WX (p.toList.map λi=>vs.getD i WN)) c)->R (.done (.ret .none)) s') :
  L (ς X.prog X.w) A (Builtin.«list.sort» ⟨[.ref a],[]⟩) R E s:=by
 let sb:=W_ s.heap a (WY λ_=>(#[]:Array O));let⟨e1,iC⟩:∃e1,(s.heap.update a (WY λ_=>(#[]:Array O))).get? a=U (seqObj "list" #[] e1):=⟨_,Zl ha λ_ => #[]⟩;let I1:Inv X pins σ H {s with heap:=s.heap.update a (WY λ_=>(#[]:Array O))}:=I.gu (t':=s.toks) fa λc o n e=>(sb.2 c n).trans e;rw[list_sort_plain];calc qL (q18 ha Y ?_);calc qL (Zi ha Y ?_ (by rw[yA,Xg];symm) (W8 _));calc qL (q08 iC Y ?_);calc qL (q09 ?_ (by show ↑vs<=_;rw[Xg];symm));calc qL (q0p ?_ (W8 _));calc W9 ?_;generalize PW:s.heap.update a (WY λ_=>(#[]:Array O))=g0 at iC I1 sb
 show L (ς X.prog X.w) A _ R E {s with heap:=(g0.push (seqObj "tuple" vs.toArray 0)).push (seqObj "list" #[] 0)};let I2:Inv X pins σ H {s with heap:=(g0.push (seqObj "tuple" vs.toArray 0)).push (seqObj "list" #[] 0)}:=I1.kept (h':=(g0.push (seqObj "tuple" vs.toArray 0)).push (seqObj "list" #[] 0)) (t':=s.toks) λb u e=>u6 _ (u6 _ e);let eG:((g0.push (seqObj "tuple" vs.toArray 0)).push (seqObj "list" #[] 0)).get? a=U (seqObj "list" #[] e1):=u6 _ (u6 _ iC);let kp:∀b o,b≠a->s.heap.get? b=U o->((g0.push (seqObj "tuple" vs.toArray 0)).push (seqObj "list" #[] 0)).get? b=U o:=λb o n e=>u6 _ (u6 _ ((sb.2 b n).trans e))
 generalize(g0.push (seqObj "tuple" vs.toArray 0)).push (seqObj "list" #[] 0)=g1 at I2 eG kp;dsimp only
 let tail:∀(st:SortSt)(p:Array Nat),(arrOf st).map (·.2)=WX (p.toList.map λi=>vs.getD i WN)->failedOf st=Z->c6 ↑vs p->Up (λi=>ks.getD i []) p ↑vs->L (ς X.prog X.w) A (do
   let touched:=(<- seqEpoch a) != e1
   Builtin.List.listUpdate (.ref a) λ_=>(arrOf st).map (·.2)
   if let U e:=failedOf st then rule "list.sort.comparison-raised";throw e
   if touched then rule "list.sort.modified";raiseError "ValueError" "list modified during sort"
   ret .none) R E {s with heap:=g1}:=by
  ext st p qm hf hp up;let hz:↑(p.toList.map λi=>vs.getD i WN)=↑vs:=by rw[pN,Vx,hp.size]
  rw[qm];let s2:=W_ g1 a (WY λ_=>WX (p.toList.map λi=>vs.getD i WN));let⟨c2,g_⟩:∃c2,(g1.update a (WY λ_=>WX (p.toList.map λi=>vs.getD i WN))).get? a=U (seqObj "list" (WX (p.toList.map λi=>vs.getD i WN)) c2):=⟨_,Zl eG λ_=>WX (p.toList.map λi=>vs.getD i WN)⟩;let J:Inv X pins σ H {s with heap:=g1.update a (WY λ_=>WX (p.toList.map λi=>vs.getD i WN))}:=I2.gu (h':=g1.update a (WY λ_=>WX (p.toList.map λi=>vs.getD i WN))) (t':=s.toks) fa λc o n e=>(s2.2 c n).trans e;calc qL (q08 eG Y ?_);refine qL (Zi eG Y ?_ (W8 _) (WU (ZY (by rw[yA,hz])) (by rw[Xg];symm)))
  rw[hf];erw[bne_self_eq_false,Xb,Yw];exact MK (fin p _ c2 hp up J g_)
 by_cases h2:vs.toArray.size<2
 .rw[Wm h2,Wm h2]
  calc qL (MK ?_);rw[q2I];calc qL (MK ?_);rw[yA] at h2;refine tail (SortSt.mk' general' (vs.toArray.zip vs.toArray) #[] 7 Z) (WL ↑vs).toArray ?_ Y ⟨q0U _⟩ λi j ib hj=>?_
  .let AY:arrOf (SortSt.mk' general' (vs.toArray.zip vs.toArray) #[] 7 Z)=(WX (WL ↑vs)).map (kas_item (vs.toArray.zip vs.toArray)):=by
    let e:=kas_range (vs.toArray.zip vs.toArray);rw[show(vs.toArray.zip vs.toArray).size=↑vs by simp] at e;rw[e]
   exact kat_snds Y AY
  .let:i=j:=by symm
   subst this;exact kle_refl _
 .rw[Vw h2,Vw h2]
  rw[yA] at h2;refine qL (kind _ I2 ⋯ _ ?_)
  refine qL (Ym (kat_run (κ:=κ) (E:=E) (Q:=λeA s'=>s'={s with heap:=g1}/\∃p:Array Nat,arrOf eA=p.map (kas_item (vs.toArray.zip vs.toArray))/\failedOf eA=Z/\c6 ↑vs p/\Up (λi=>ks.getD i []) p ↑vs)
   (G:=λp s'=>s'={s with heap:=g1}/\c6 ↑vs p/\Up (λi=>ks.getD i []) p ↑vs) Y ⋯ iu (λp eA s' a1 a2 a3 a4=>⟨a4.1,p,a2,a3,a4.2.1,a4.2.2⟩) ?_) ?_ λ_ _ x=>x)
  .refine FW (k:=λi=>ks.getD i []) (I:=λs'=>s'={s with heap:=g1}) (λi j C s' hi hj e hC=>?_) ⋯ Y λp s' a1 a2 a3=>⟨a3,a1,a2⟩
   subst e;exact ask _ I2 i j C hi hj (hC _ Y)
  .ext ⟨⟨⟩,eA⟩ s' ⟨rfl,p,a1,a2,a3,a4⟩
   calc tail eA p (kat_snds Y a1) a2 a3 a4
theorem GA{l:M}{xs:-V}{Q:bg}(I:Inv X pins σ H s)
  (col:∀Q':-O->B->Prop,(∀h' tk vs,(∀b o,s.heap.get? b=U o->h'.get? b=U o)->Vals xs vs->Q' vs {s with heap:=h',toks:=tk})->L (G X.prog X.w) X.A.in1 (collect (.ref l)) Q' E s) (iu:↑xs<64)
  (kind:∀(s':B)(vs:-O),Vals xs vs->Inv X pins σ H s'->2<=↑vs->∀Q:SortKind->B->Prop,Q κ s'->L (G X.prog X.w) X.A.in1.in1 (keyKind' vs.toArray) Q E s')
  (ask:∀(s':B)(vs:-O),Vals xs vs->Inv X pins σ H s'->∀(i j:Nat)(C:Bool->B->Prop),i<↑vs->j<↑vs->C (HT.lexLt (ks.getD i []) (ks.getD j [])) s'->L (G X.prog X.w) X.A.in1.in1 (keyLt' κ (vs.getD i WN) (vs.getD j WN)) C (λ_ _=>False) s')
  (fin:∀(p:Array Nat)(s':B)(a:M),c6 ↑xs p->Up (λi=>ks.getD i []) p ↑xs->H a=Z->Inv X pins σ (upd H a (.lst (p.toList.map λi=>xs.getD i .non))) s'->Q (.ref a) s') :
  L (G X.prog X.w) X.A (call (.builtin "sorted") [.ref l]) Q E s:=by
 calc Calls.call_function_entry kind_sorted plain_sorted entry_sorted (args_sorted1 _) ?_;unfold Builtin.«sorted»;calc qL (m:=checkCount "sorted" 1 1 _) (MK ?_);calc qL (col _ λh' tk au kp rv=>?_);let lv:↑au=↑xs:=rv.length.symm;calc qL (q0p ?_ (by rw[Xg];symm));let I1:Inv X pins σ H {s with heap:=h',toks:=tk}:=I.kept kp;let fa:bD X pins H h'.objs.size:=I1.gE (Ek _) (I1.aX.fresh (Ek _));let A0:⇑X.s₀<=h'.objs.size:=I1.sz;let I2:Inv X pins σ H {s with heap:=h'.push (seqObj "list" au.toArray 0),toks:=tk}:=I1.kept (h':=h'.push (seqObj "list" au.toArray 0)) (t':=tk) λb u e=>u6 _ e
 let pq:(h'.push (seqObj "list" au.toArray 0)).get? h'.objs.size=U (seqObj "list" au.toArray 0):=Vt _ Y;refine qL (W9 (Yq slot_list_sort ⟨_,pq,Y⟩ entry_list_sort ?body (args_list_sort _)))
 case body =>
  calc Qo (κ:=κ) (ks:=ks) I2 fa pq ⋯ (λs' J h2 Q' hq=>kind s' au rv J h2 Q' hq) (λs' J i j C hi hj hC=>ask s' au rv J i j C hi hj hC) λp s' c hp up J e=>⟨_,Y,?_⟩;rw[lv] at hp up;calc MK ⟨_,Y,fin p s' h'.objs.size hp up fa.1 (J.oU fa A0 ?_)⟩;let hz:↑(p.toList.map λi=>xs.getD i V.non)=↑xs:=by rw[pN,Vx,hp.size]
  calc⟨by rw[hz,Xg];symm,_,c,Gx rv λi hi=>by rw[lv];calc hp.mem hi,e⟩
end
def Bc(ds:-D)(key:D->LK):Prop :=
 (∀d∈ds,key d≠[]/\d=.tup ((key d).map D.int))\/∃L:Nat,∀d∈ds,∃(k:LK)(n:Int),k.length=L/\d=.tup [.tup (k.map D.int),.int n]/\key d=k++[n]
def wo:-D->(D->Prop)->Prop
 |[.lst ds],K=>↑ds<64/\∃key:D->LK,Bc ds key/\∀out:-D,out.Perm ds->(out.map key).Pairwise kle->K (.lst out)
 |[.tup ds],K=>↑ds<64/\∃key:D->LK,Bc ds key/\∀out:-D,out.Perm ds->(out.map key).Pairwise kle->K (.lst out)
 |_,_=>False
theorem Qp{ds:-D}{key:D->LK}{p:Array Nat}{n:Nat}(hn:↑ds=n)(hp:c6 n p)(up:Up (λi=>(ds.map key).getD i []) p n):(p.toList.map λi=>ds.getD i .non).Perm ds/\((p.toList.map λi=>ds.getD i .non).map key).Pairwise kle:=by
 subst hn
 constructor
 .let h1:=(Y_.mp hp.perm).map λi=>ds.getD i D.non
  let h2:(WL ↑ds).map (λi=>ds.getD i D.non)=ds:=by
   calc Y2 λi=>?_;rw[My]
   by_cases hi:i<↑ds
   .rw[X7 hi,q0N,pM hi,En,pM hi];rfl
   .rw[Xd (by rw[W6];symm),Xd ⋯];rfl
  rw[show(WL ↑ds).toArray.toList=WL ↑ds from Y,h2] at h1;exact h1
 .rw[WC,Yv]
  ext i j hi hj ib;rw[pN,Vx,hp.size] at hi hj;let:=up i j (X0 ib) hj;unfold KA at this;rw[XX,XX]
  let gp:∀{i:Nat}(h:i<↑p.toList),p.getD i 0=p.toList[i]:=λ{i} h=>by
   let h':i<p.size:=by rw[<-Vx];exact h
   simp[q22,h']
  let gk:∀{i:Nat},i<↑ds->(ds.map key).getD i []=key (ds.getD i .non):=λ{i} h=>by
   rw[En,My,pM h,En,pM h];rfl
  let pi:=hp.lt hi;let pj:=hp.lt hj;dsimp only at this;rw[gk pi,gk pj,gp (by rw[Vx,hp.size];calc hi),gp (by rw[Vx,hp.size];calc hj)] at this;calc this
theorem Qq{F:Hp}{ds:-D}{xs:-V}{p:-Nat}(h:ah F ds xs)(hp:∀i∈p,i<↑ds):ah F (p.map λi=>ds.getD i .non) (p.map λi=>xs.getD i .non):=by
 calc ah.qq (by rw[pN,pN]) λi d e=>?_;rw[My] at e ⊢;let⟨z,e1,rfl⟩:=Ws.mp e;rw[e1];let hz:=hp z (WR e1);calc⟨_,Y,ah.at h (getD_some hz) (getD_some (by rw[↑h];calc hz))⟩
section
variable[aS]{X:Cx}
theorem wq{pins:aC}{σ:St}{H F:Hp}{s:B}{k:LK}{v:V}{u:O}(I:Inv X pins σ H s)(sub:aL F H)(h:Is F (.tup (k.map D.int)) v)(r:RelV v u):iW s.heap k u:=by
 erw[Is] at h;let⟨a,us,rfl,e,i⟩:=h;cases r
 rw[oN i] at e;let⟨au,rv,⟨o,o1,o2,n,o3⟩,_⟩:=I.tuple (bO.of (sub _ _ e));calc⟨a,o,_,n,Y,o1,o2,o3,by simpa using intsAre_of rv⟩
theorem Bd{pins:aC}{σ:St}{H F:Hp}{s:B}{k:LK}{m:Int}{v:V}{u:O}(I:Inv X pins σ H s)(sub:aL F H)(h:Is F (.tup [.tup (k.map D.int),.int m]) v)(r:RelV v u):lj s.heap k.length (k++[m]) u:=by
 erw[Is,ah] at h;let⟨a,us,rfl,e,v1,r1,rfl,h1,v2,r2,rfl,h2,rfl⟩:=h;cases r
 let⟨au,rv,⟨o,o1,o2,n,o3⟩,_⟩:=I.tuple (bO.of (sub _ _ e));let h2:v2=.int m:=h2;subst h2;let mF:Is F (.tup (k.map D.int)) v1:=by erw[Is];exact h1
 cases rv with
 |cons q1 rv =>
  cases rv with
  |cons q2 rv =>
   cases rv
   let t1:=wq I sub mF q1;let⟨b,_,_,_,rfl,_⟩:=id t1;let⟨t,rfl⟩:=q2;calc⟨a,o,_,n,b,k,m,t,Y,o1,o2,o3,Y,t1,Y,Y⟩
theorem GB{pins:aC}{σ:St}{H F:Hp}{s:B}{E:bg}{l:M}{ds:-D}{us:-V}{key:D->LK}{Q:bg}(hu:X.A.units+64<cLine)(I:Inv X pins σ H s)(sub:aL F H)(hl:H l=U (.lst us)\/H l=U (.tup us))(hi:ah F ds us)(iu:↑ds<64)(sh:Bc ds key)
  (fin:∀(out:-D)(ws:-V)(a:M)(s':B),out.Perm ds->(out.map key).Pairwise kle->ah F out ws->H a=Z->Inv X pins σ (upd H a (.lst ws)) s'->Q (.ref a) s'):ρ (G X.prog X.w) X.A (call (.builtin "sorted") [.ref l]) Q E s:=by
 let col:∀Q':-O->B->Prop,(∀h' tk vs,(∀b o,s.heap.get? b=U o->h'.get? b=U o)->Vals us vs->Q' vs {s with heap:=h',toks:=tk})->ρ (G X.prog X.w) X.A.in1 (collect (.ref l)) Q' E s:=λQ' hQ=>by
  rcases hl with hl|hl
  .let⟨au,rv,pl,hz⟩:=I.list (bE.of hl)
   let⟨o,o1,o2,n,o3⟩:=pl.isList;exact q2a l (.inl Y) o1 o2 o3 (λh' kp=>hQ h' s.toks _ kp rv⁻¹) (by rw[yA,<-↑rv];calc hz)
  .let⟨au,rv,⟨o,o1,o2,n,o3⟩,hz⟩:=I.tuple (bO.of hl)
   exact q2a l (.inr Y) o1 o2 o3 (λh' kp=>hQ h' s.toks _ kp rv⁻¹) (by rw[yA,<-↑rv];calc hz)
 let lu:=↑hi;let Qr:X.A.in1.in1.units<cLine:=by show X.A.units+1+1<cLine;symm
 let gk:∀{i:Nat},i<↑ds->(ds.map key).getD i []=key (ds.getD i .non):=λ{i} h=>by
  rw[En,My,pM h,En,pM h];rfl
 let isAt:∀{i:Nat},i<↑ds->∀{vs:-O},Vals us vs->∃v,Is F (ds.getD i .non) v/\RelV v (vs.getD i WN):=λ{i} h {vs} rv=>by
  let⟨u,e1,e2⟩:=rv.get (getD_some (l:=us) (d:=V.non) (i:=i) ⋯);let:=getD_some (l:=vs) (d:=WN) (i:=i) (by rw[<-↑rv];symm);rw[this] at e1;cases e1;exact⟨_,ah.at hi (getD_some h) (getD_some ⋯),e2⟩
 let mem:∀{i:Nat},i<↑ds->ds.getD i .non∈ds:=λ{i} h=>WR (getD_some h)
 let ke:∀{i:Nat}{k:LK},(ds.map key)[i]?=U k->i<↑ds/\k=key (ds.getD i .non):=λ{i k} e=>by
  let h:i<↑ds:=by let:=(sG.mp e).1;rwa [pN] at this
  calc⟨h,?_⟩;let:=getD_some (l:=ds.map key) (d:=[]) (i:=i) (by rw[pN];calc h);rw[e,gk h] at this;exact WJ this
 let ve:∀{i:Nat}{v:O}{vs:-O},vs[i]?=U v->v=vs.getD i WN:=λ{i v vs} e=>by
  rw[En,e];rfl
 let kU:∀(p:Array Nat)(s':B)(a:M),c6 ↑us p->Up (λi=>(ds.map key).getD i []) p ↑us->H a=Z->Inv X pins σ (upd H a (.lst (p.toList.map λi=>us.getD i .non))) s'->Q (.ref a) s':=λp s' a hp up ha J=>by
  let⟨o1,o2⟩:=Qp lu.symm hp up;exact fin _ _ a s' o1 o2 (Qq hi λi eV=>by rw[<-lu];calc hp.mem eV) ha J
 rcases sh with sh|⟨L,sh⟩
 .refine GA (κ:=tuples' θ) (ks:=ds.map key) I col ⋯ (λs' vs rv J h2 Q' hq=>?_) (λs' vs rv J i j C eV sW hC=>?_) kU
  .refine Gw (ks:=ds.map key) ⋯ (λk hk=>?_) (by rw[pN,<-↑rv];symm) (λi k v e1 e2=>?_) hq
   .let⟨d,hd,rfl⟩:=Wq.mp hk
    exact(sh d hd).1
   .let⟨h,rfl⟩:=ke e1
    let⟨w,i1,r1⟩:=isAt h rv;rw[(sh _ (mem h)).2] at i1;rw[<-ve e2] at r1;exact wq J sub i1 r1
  .rw[<-↑rv] at eV sW
   rw[gk ⋯,gk ⋯] at hC;let⟨w,i1,r1⟩:=isAt (i:=i) ⋯ rv;let⟨w',i2,r2⟩:=isAt (i:=j) ⋯ rv;rw[(sh _ (mem ⋯)).2] at i1 i2;exact Gu (wq J sub i1 r1) (wq J sub i2 r2) hC
 .refine GA (κ:=tuples' ι) (ks:=ds.map key) I col ⋯ (λs' vs rv J h2 Q' hq=>?_) (λs' vs rv J i j C eV sW hC=>?_) kU
  .refine Qn (L:=L) (ks:=ds.map key) ⋯ (by rw[pN,<-↑rv];symm) (λi k v e1 e2=>?_) hq
   let⟨h,rfl⟩:=ke e1;let⟨w,i1,r1⟩:=isAt h rv;let⟨k,n,hk,e3,e4⟩:=sh _ (mem h);rw[e3] at i1;rw[<-ve e2] at r1;rw[e4,<-hk];exact Bd J sub i1 r1
  .rw[<-↑rv] at eV sW
   rw[gk ⋯,gk ⋯] at hC;let⟨w,i1,r1⟩:=isAt (i:=i) ⋯ rv;let⟨w',i2,r2⟩:=isAt (i:=j) ⋯ rv;let⟨k,n,hk,e3,e4⟩:=sh _ (mem (i:=i) ⋯);let⟨k',n',j9,Qs,Qt⟩:=sh _ (mem (i:=j) ⋯);rw[e3] at i1;rw[Qs] at i2;rw[e4,Qt] at hC;let t1:=Bd J sub i1 r1;let t2:=Bd J sub i2 r2;rw[hk] at t1;rw[j9] at t2;calc Qk Qr t1 t2 hC
theorem Qu(hu:X.A.units+64<cLine):cU X (.builtin "sorted") wo:=by
 ext pins s σ H xs us Q I r ⟨F,ds,K,sub,rd,q,md⟩;unfold wo at q;split at q
 .rename_i es
  let⟨iu,key,sh,hK⟩:=q;let⟨v,rfl,a,vs,rfl,h1,h2⟩:=c5 rd;let⟨u,rfl,rx⟩:=vals1 r;cases rx
  exact GB hu I sub (.inl h1) h2 iu sh λout ws b s' o1 o2 o3 hb J=>⟨.ref b,_,J,Y,md _ _ _ (hK out o1 o2) (de hb) (p_ sub hb o3)⟩
 .rename_i es
  let⟨iu,key,sh,hK⟩:=q;let⟨v,rfl,h⟩:=c5 rd;let h:Is F (.tup es) v:=h;erw[Is] at h;let⟨a,vs,rfl,h1,h2⟩:=h;let⟨u,rfl,rx⟩:=vals1 r;cases rx
  exact GB hu I sub (.inr (sub _ _ h1)) h2 iu sh λout ws b s' o1 o2 o3 hb J=>⟨.ref b,_,J,Y,md _ _ _ (hK out o1 o2) (de hb) (p_ sub hb o3)⟩
 .calc q.elim
end
end L2
namespace LJ
open PySem L2 PySem.W
theorem Qv{ls:-lh}{b:M}{ps:Array O}:(ls.map λl=>(l.T,(#[]:Array O))).lookup b=U ps->(∃l∈ls,l.T=b)/\ps = #[]:=by
 induction ls with
 |nil=>ext h;cases h
 |cons l ls ih =>
  ext h;rw[Wx,Wz] at h
  cases q:b==l.T with
  |true =>
   rw[q] at h;exact⟨⟨l,Wo,(XT q).symm⟩,(WJ h).symm⟩
  |false =>
   rw[q] at h;let⟨⟨l',h1,h2⟩,h3⟩:=ih h;calc⟨⟨l',Vu _ h1,h2⟩,h3⟩
theorem Be{ls:-lh}{l:lh}(h:l∈ls):(ls.map λl=>(l.T,(#[]:Array O))).lookup l.T=U #[]:=by
 induction ls with
 |nil=>cases h
 |cons l' ls ih =>
  rw[Wx,Wz]
  cases q:l.T==l'.T with
  |true=>rfl
  |false =>
   rcases MN.mp h with rfl|h
   .simp at q
   .calc ih h
theorem Qw{l:OpenLaw}{q:ψ}{loose:-R}{XP:(R->Option O)->I->Prop}{d:DefRec}{K:Params->Frag}{as:-M}{e:∀P,as=(K P).map (·.1)}{ts:-M}{kk:Nat}(ls:-lh)(Qx:ls.map (·.T)=ts)(hn:l.most=U 63)(sJ:d.params.defaults=[])(hr:aY kk callerA)
  (gD:∀(w:g)(h:I),(K w.params).In h->∀t∈ls,∃cc,CodeHd h cc t.T) (Qy:∀P,noTabs (K P)=θ)
  (F:∀(w:g)(mg:R->Option O)(fa:M)(h:I),(K w.params).In h->h.Ns mainGlobals mg->mg d.name=U (.ref fa) →
   ∃fd:FuncData,(∀(s:B)(u:O),BindsTo s fd ⟨[u],[]⟩ [("script",u)])/\∀base:I,(K w.params).In base->base.Ns mainGlobals mg->(∀t∈ls,base.BuiltinsAt mg t.T)->bW l.prog w (K w.params) mg base eM kk fa fd ["script"] (@wc (nW ls) (K w.params))) :
  WalkO q loose XP (kmHook K as e ts).says l.row.toRowW d [] (λf vs=>q2X f vs) :=
 L2.PD (n:=63) (k:=kk) (x:="script") (K:=λw=>K w.params) (CX:=λ_=>eM) (sp:=λw=>@wc (nW ls) (K w.params)) (Ts:=λ_=>ls.map λl=>(l.T,#[])) hn (by decide) sJ hr (λw h Y=>km_in_of Y)
  (λw h Y b ps hl=>by
   let⟨⟨t,ht,rfl⟩,rfl⟩:=Qv hl;let e1:h.get? t.T=U (tabObj #[]):=km_tabs_of Y t.T (by rw[<-Qx];calc Yn ht);refine⟨e1,?_,?_⟩
   .let⟨cc,o,vs,_,_,_,_,_,_,_,c1,c2,c3,c4,_⟩:=gD w h (km_in_of Y) t ht
    exact⟨cc,o,vs,c1,c2,c3,c4⟩
   .cases z:(K w.params).lookup t.T with
    |none=>rfl
    |some o =>
     let e2:=km_in_of Y t.T o z;rw[e1] at e2;cases e2;let h2:=XS.mp (Qy w.params) (t.T,tabObj #[]) (mem_of_lookupK z)
     calc absurd (show ι=θ from h2) WQ)
  (λw mg fa h KX G mD=>by
   let⟨fd,hb,hF⟩:=F w mg fa h KX G mD
   calc⟨fd,hb,λbase k1 k2 k3=>hF base k1 k2 λt ht=>k3 t.T #[] (Be ht)⟩)
  (λw H a ns hl hO hS=>by
   letI:aS:=nW ls;calc⟨a,ns,rfl,hS,hl,λt ht=>?_,λ_=>rfl⟩;rcases hO t.T with⟨ps,z1,z2⟩|⟨z1,_⟩
   .rw[Be ht] at z1;cases z1
    exact⟨#[],z2,trivial,.inl rfl⟩
   .rw[Be ht] at z1;cases z1)
  λ_ _ _ _ _ z=>z
end LJ
namespace LJ
open PySem L2
variable[aS]
inductive uj (ys:-DV) (av:-OV) (K:RV->-OV->Prop):Prop
 |mk (m:Int) (ws:-(Int×Int×Int)) (_:a_ m ws) (_:ys=[.p (aK m ws)]) (_:av=[]) (_:K (.p .non) [])
def Bf:WS:=(bh (dj (dT (ay 1 AD (aq (ae 0) ag)))) lO cA)
theorem Qz:Sem 1 0 uj Bf:=by
 ext ys av K'-⟨m,ws,W,rfl,rfl,k⟩;unfold Bf;simp!;calc⟨m,ws,W,Y,Y,?_⟩;simp!;calc cm k
inductive Bg (ys:-DV) (av:-OV) (K:RV->-OV->Prop):Prop
 |mk (y:Int×Int×Int) (_:ys=[.p (aN y)]) (_:av=[]) (_:K (.p (.tup [.int y.2.2,.int y.1,.int y.2.1])) [])
def Bh:WS:=(aJ (bt (aq (d2 (ae 0) (dC (.int 2)) aR) (aq (d2 (ae 0) (dC (.int 0)) aR) (aq (d2 (ae 0) (dC (.int 1)) aR) ag)))))
theorem QA:Sem 1 0 Bg Bh:=by
 ext ys av K'-⟨y,rfl,rfl,k⟩;unfold Bh;simp![aN,df,cI,at2];calc cm k
noncomputable def gv(ws:-(Int×Int×Int))(n:Int):LK:=[(ws.getD n.toNat (0,0,0)).2.2,(ws.getD n.toNat (0,0,0)).1,(ws.getD n.toNat (0,0,0)).2.1]
structure aF(ws:-(Int×Int×Int))(ns:-Int):Prop where
 perm:ns.Perm (bp ↑ws)
 up:(ns.map (gv ws)).Pairwise kle
theorem aF.nums{ws:-(Int×Int×Int)}{ns:-Int}(h:aF ws ns):Nums ws ns:=λn hn=>AK (h.perm.mem_iff.mp hn)
theorem aF.len{ws:-(Int×Int×Int)}{ns:-Int}(h:aF ws ns):↑ns=↑ws:=by rw[h.perm.length_eq];unfold bp;simp
theorem QB{m:Int}{ws:-(Int×Int×Int)}(W:a_ m ws){a b:Int}(ha:0<=a/\a<(↑ws:Int))(hb:0<=b/\b<(↑ws:Int))(e:gv ws a=gv ws b):a=b:=by
 let⟨i,rfl⟩:∃i:Nat,a=i:=⟨a.toNat,⋯⟩;let⟨j,rfl⟩:∃j:Nat,b=j:=⟨b.toNat,⋯⟩;let hi:i<↑ws:=by symm
 let hj:j<↑ws:=by symm
 unfold gv at e;rw[Ww,Ww,En,pM hi,En,pM hj] at e;erw[q2q,List.cons.injEq,and_true] at e
 let q:(ws.map λy=>(y.1,y.2.1))[i]'(by rw[pN];calc hi)=(ws.map λy=>(y.1,y.2.1))[j]'(by rw[pN];calc hj):=by
  rw[XX,XX,e.2.1,e.2.2]
 let:=(ZK W.unlike).mp q;rw[this]
theorem GC{m:Int}{ws:-(Int×Int×Int)}(W:a_ m ws):∀{as bs:-Int},as.Perm bs->(∀x∈as,0<=x/\x<(↑ws:Int))->(as.map (gv ws)).Pairwise kle->(bs.map (gv ws)).Pairwise kle->as=bs
 |[],bs,p,_,_,_=>(List.nil_perm.mp p).symm
 |a::as,[],p,_,_,_=>absurd p.length_eq (by simp)
 |a::as,b::bs,p,hm,h1,h2=>by
  rw[Wx,Ys] at h1 h2
  let e:a=b:=by
   rcases MN.mp (p.mem_iff.mp Wo) with z|z
   .exact z
   .rcases MN.mp (p.mem_iff.mpr (Wo (a:=b) (l:=bs))) with y|y
    .exact y.symm
    .let q1:=h1.1 _ (Yn y)
     let q2:=h2.1 _ (Yn z);exact QB W (hm a Wo) (hm b (Vu _ y)) (FN q1 q2)
  subst e;rw[GC W (p.cons_inv) (λx hx=>hm x (Vu _ hx)) h1.2 h2.2]
theorem QC{out:-D}{l:-Int}(h:out.Perm (l.map D.int)):∃ns:-Int,out=ns.map D.int/\ns.Perm l:=by
 refine⟨out.map λd=>match d with
  |.int n=>n
  |_=>0,?_,?_⟩
 .rw[WC]
  calc(q0i out).symm.trans (XC λd hd=>?_);let⟨n,_,rfl⟩:=Wq.mp (h.mem_iff.mp hd);rfl
 .let:=h.map λd=>match d with
   |.int n=>n
   |_=>0
  rw[WC] at this;calc this.trans (q2K ((XC λn _=>Y).trans (q0i l)))
inductive Bi (ys:-DV) (av:-OV) (K:RV->-OV->Prop):Prop
 |mk (m:Int) (ws:-(Int×Int×Int)) (_:a_ m ws) (_:ys=[.p (aK m ws)]) (_:av=[]) (_:∀ns,aF ws ns->K (.n (ns.map D.int)) [])
def Bj:WS:=(aw (iw (ay 1 uj (aq (ae 0) ag))) (aw (aM 1 (d2 (ae 0) (dC (.int 1)) aR)) (aJ (A8 (aq (dN (aq (ae 1) ag) bY) ag) [U 1] (ay 1 Bg (aq (d2 (ae 1) (ae 0) aR) ag))))))
theorem QD:Sem 1 1 Bi Bj:=by
 ext ys av K'-⟨m,ws,W,rfl,rfl,k⟩;let iU:=W.d4;unfold Bj;calc aP λN hN=>?_;simp!;calc⟨m,ws,W,Y,Y,?_⟩;simp!;subst hN;calc aP λN hN=>?_;simp![cI,aK];subst hN;simp![A8]
 refine⟨⟨⋯,⋯⟩,by rw[mZ];symm,λd=>match d with
  |.int n=>gv ws n
  |_=>[],λd hd=>?_,λout pm pw=>?_⟩
 .let⟨i,hi⟩:=Wt.mp hd
  let⟨hi,rfl⟩:=mY hi;let e0:(0+(i:Int))=i:=by symm
  rw[e0];let⟨y,ey,hy,ea,_⟩:=jk W (n:=(i:Int)) ⋯ ⋯;calc⟨(by ext z;cases z),?_⟩;simp![ea];calc⟨y,Y,Y,?_⟩;simp!;unfold gv;rw[ey];rfl
 .rw[Ww,m_] at pm
  let⟨ns,rfl,pn⟩:=QC pm;calc⟨[],Y,Y,.inl (k ns ⟨pn,?_⟩)⟩;rw[WC] at pw;calc pw
inductive Bk (ys:-DV) (av:-OV) (K:RV->-OV->Prop):Prop
 |mk (m:Int) (ws:-(Int×Int×Int)) (n:Int) (_:a_ m ws) (_:(0<=n/\n<(↑ws:Int))) (_:ys=[.p (aK m ws),.p (.int n)]) (_:av=[]) (_:K (.p (.tup ((gv ws n).map D.int))) [])
def Bl:WS:=(aw (hZ (d2 (d2 (ae 0) (dC (.int 1)) aR) (ae 1) aR) (j8 3 (fG (bF 2) (fG (bF 3) (fG (bF 4) jE))))) (aJ (bt (aq (ae 4) (aq (ae 2) (aq (ae 3) ag))))))
theorem QE:Sem 2 3 Bk Bl:=by
 ext ys av K'-⟨m,ws,n,W,⟨n0,n1⟩,rfl,rfl,k⟩;let⟨y,ey,hy,ea,_⟩:=jk W n0 n1;unfold Bl;simp![cI,aK,ea,aN];unfold gv at k;rw[ey] at k;calc cm k
inductive Bm (ys:-DV) (av:-OV) (K:RV->-OV->Prop):Prop
 |mk (m:Int) (ws:-(Int×Int×Int)) (_:a_ m ws) (_:ys=[.p (aK m ws)]) (_:av=[]) (_:∀ns,aF ws ns->K (.p (bj ns)) [])
def Bo:WS:=(aJ (eE (bQ (dN (aq (eE (kP (aq (dN (aq (d2 (ae 0) (dC (.int 1)) aR) ag) bY) ag)) [Z,U 0] (bF 0) dm (bt (aq (ay 2 Bk (aq (ae 1) (aq (ae 0) ag))) (aq (ae 0) ag)))) ag) wo)) [Z] (bF 0) dm (d2 (ae 0) (dC (.int 1)) aR)))
noncomputable def jL(ws:-(Int×Int×Int))(n:Int):D:=.tup [.tup ((gv ws n).map D.int),.int n]
theorem QF{a b:LK}{n m:Int}(hl:↑a=↑b)(h:kle (a++[n]) (b++[m])):kle a b:=by
 unfold kle at h ⊢;rw[Ba _ _ hl.symm] at h
 by_cases e:b=a
 .rw[e];exact vR a
 .rw[Vw e] at h;calc h
theorem QG:Sem 1 0 Bm Bo:=by
 ext ys av K'-⟨m,ws,W,rfl,rfl,k⟩;let iU:=W.d4;unfold Bo;simp![cI,aK];calc⟨⋯,?_⟩;rw[Ww,m_]
 refine L2.iR (λd=>match d with
  |.int n=>jL ws n
  |_=>.non) (by rw[pN];unfold bp;rw[pN,W6];symm) trivial ?_ ?_
 .ext d hd acc L ha h
  let⟨n,hn,rfl⟩:=Wq.mp hd;let⟨n0,n1⟩:=AK hn;simp!;calc⟨m,ws,n,W,⟨n0,n1⟩,Y,Y,?_⟩;simp!;exact⟨ha,h⟩
 .let e:((bp ↑ws).map D.int).map (λd=>match d with
   |.int n=>jL ws n
   |_=>.non)=(bp ↑ws).map (jL ws):=by rw[WC];rfl
  let il:↑(bp ↑ws)=↑ws:=by unfold bp;simp
  rw[e];simp![wo]
  refine⟨⋯,λd=>match d with
   |.tup [.tup ks,.int n]=>(match intsOf ks with
    |some l=>l++[n]
    |none=>[])
   |_=>[],.inr ⟨3,λd hd=>?_⟩,λout pm pw=>?_⟩
  .let⟨n,_,rfl⟩:=Wq.mp hd
   refine⟨gv ws n,n,Y,Y,?_⟩
   show(match intsOf ((gv ws n).map D.int) with
    |some l=>l++[n]
    |none=>[])=_
   rw[lR]
  .let hex:∃ns:-Int,out=ns.map (jL ws)/\ns.Perm (bp ↑ws):=by
    refine⟨out.map λd=>match d with
     |.tup [_,.int n]=>n
     |_=>0,?_,?_⟩
    .rw[WC]
     calc(q0i out).symm.trans (XC λd hd=>?_);let⟨n,_,rfl⟩:=Wq.mp (pm.mem_iff.mp hd);rfl
    .let:=pm.map λd=>match d with
      |.tup [_,.int n]=>n
      |_=>0
     rw[WC] at this;exact this.trans (q2K ((XC λn _=>Y).trans (q0i _)))
   let⟨ns,rfl,pn⟩:=hex;let ol:↑ns=↑ws:=by rw[pn.length_eq,il]
   let up:aF ws ns:=by
    calc⟨pn,?_⟩;rw[WC] at pw;rw[X1] at pw ⊢;refine pw.imp λ{a b} h=>?_
    let h:kle ((match intsOf ((gv ws a).map D.int) with
     |some l=>l++[a]
     |none=>[])) ((match intsOf ((gv ws b).map D.int) with
     |some l=>l++[b]
     |none=>[])):=h
    rw[lR,lR] at h;exact QF Y h
   refine L2.iR (λd=>match d with
    |.tup [_,n]=>n
    |_=>.non) (by rw[pN];symm) trivial ?_ ?_
   .ext d hd acc L ha h
    let⟨n,_,rfl⟩:=Wq.mp hd;simp![jL,cI];exact⟨ha,h⟩
   .let e:(ns.map (jL ws)).map (λd=>match d with
     |.tup [_,n]=>n
     |_=>.non)=ns.map D.int:=by rw[WC];rfl
    rw[e];calc cm (k ns up)
noncomputable def l3(p q:Int)(fs:-Int):-Int:=fs.map λx=>if x=p then q else x
theorem GF{p q x y:Int}:(if x=p then q else x)=(if y=p then q else y)↔x=y\/((x=p\/x=q)/\(y=p\/y=q)):=by
 by_cases h1:x=p<;>by_cases h2:y=p
 .rw[Wm h1,Wm h2];constructor<;>ext h<;>symm
 .rw[Wm h1,Vw h2];constructor<;>ext h<;>symm
 .rw[Vw h1,Wm h2];constructor<;>ext h<;>symm
 .rw[Vw h1,Vw h2];constructor<;>ext h<;>symm
theorem wt{f:Int->Int}{fs:-Int}{i:Nat}(h:i<fs.length):(fs.map f).getD i 0=f (fs.getD i 0):=by
 rw[En,My,pM h,En,pM h];rfl
def Part(n:Nat)(fs gs:-Int):Prop:=fs.length=n/\↑gs=n/\∀i j,i<n->j<n->(fs.getD i 0=fs.getD j 0↔gs.getD i 0=gs.getD j 0)
theorem Part.merge{n i j:Nat}{fs gs:-Int}{p q r s:Int}(h:Part n fs gs)(hi:i<n)(hj:j<n)(e1:(p=fs.getD i 0/\q=fs.getD j 0)\/(p=fs.getD j 0/\q=fs.getD i 0))(e2:(r=gs.getD i 0/\s=gs.getD j 0)\/(r=gs.getD j 0/\s=gs.getD i 0)):Part n (l3 p q fs) (l3 r s gs):=by
 let⟨h1,h2,h3⟩:=h;calc⟨by unfold l3;rw[pN,h1],by unfold l3;rw[pN,h2],λk l hk hl=>?_⟩;unfold l3;rw[wt ⋯,wt ⋯,wt ⋯,wt ⋯,GF,GF];let a:=h3 k l hk hl;let b:=h3 k i hk hi;let c:=h3 k j hk hj;let d:=h3 l i hl hi;let e:=h3 l j hl hj;let f1:(fs.getD k 0=p\/fs.getD k 0=q)↔(fs.getD k 0=fs.getD i 0\/fs.getD k 0=fs.getD j 0):=by rcases e1 with⟨rfl,rfl⟩|⟨rfl,rfl⟩;rfl;exact q35
 let f2:(fs.getD l 0=p\/fs.getD l 0=q)↔(fs.getD l 0=fs.getD i 0\/fs.getD l 0=fs.getD j 0):=by rcases e1 with⟨rfl,rfl⟩|⟨rfl,rfl⟩;rfl;exact q35
 let f3:(gs.getD k 0=r\/gs.getD k 0=s)↔(gs.getD k 0=gs.getD i 0\/gs.getD k 0=gs.getD j 0):=by rcases e2 with⟨rfl,rfl⟩|⟨rfl,rfl⟩;rfl;exact q35
 let f4:(gs.getD l 0=r\/gs.getD l 0=s)↔(gs.getD l 0=gs.getD i 0\/gs.getD l 0=gs.getD j 0):=by rcases e2 with⟨rfl,rfl⟩|⟨rfl,rfl⟩;rfl;exact q35
 rw[f1,f2,f3,f4,a,b,c,d,e]
theorem QH(fs:-Int)(i j:Nat):km fs i j=l3 (max (fs.getD i 0) (fs.getD j 0)) (min (fs.getD i 0) (fs.getD j 0)) fs:=rfl
theorem QI(a b:Int):(max a b=a/\min a b=b)\/(max a b=b/\min a b=a):=by
 by_cases h:a<=b
 .exact .inr ⟨Int.max_eq_right h,Int.min_eq_left h⟩
 .calc .inl ⟨Int.max_eq_left ⋯,Int.min_eq_right ⋯⟩
noncomputable def iX(ws:-(Int×Int×Int))(st:-Int×-Int)(n:Int):-Int×-Int :=
 if st.2.getD (bS ws n).1 0=st.2.getD (bS ws n).2 0 then st else(st.1++[n],km st.2 (bS ws n).1 (bS ws n).2)
noncomputable def iY(ws:-(Int×Int×Int))(fs ns:-Int):-Int×-Int:=ns.foldl (iX ws) ([],fs)
noncomputable def jM(m:Int)(ws:-(Int×Int×Int))(ns:-Int):-Int:=sortI (iY ws (bp m.toNat) ns).1
noncomputable def iZ(ws:-(Int×Int×Int))(us:-Int)(st:-Int×-Int)(n:Int):-Int×-Int :=
 if n∈us/\st.2.getD (bS ws n).1 0≠st.2.getD (bS ws n).2 0 then(st.1++[n],l3 (st.2.getD (bS ws n).2 0) (st.2.getD (bS ws n).1 0) st.2) else st
noncomputable def jN(ws:-(Int×Int×Int))(us fs ns:-Int):-Int×-Int:=ns.foldl (iZ ws us) ([],fs)
theorem QJ(ws:-(Int×Int×Int))(st:-Int×-Int)(n:Int):↑(iX ws st n).2=↑st.2:=by
 unfold iX;split
 .rfl
 .calc Gi _ _ _
theorem QK(ws:-(Int×Int×Int))(us:-Int)(st:-Int×-Int)(n:Int):↑(iZ ws us st n).2=↑st.2:=by
 unfold iZ;split
 .unfold l3;rw[pN]
 .rfl
theorem uk(ws:-(Int×Int×Int)):∀(ns:-Int)(st:-Int×-Int),∃l,(ns.foldl (iX ws) st).1=st.1++l/\l.Sublist ns/\↑(ns.foldl (iX ws) st).2=↑st.2
 |[],st=>⟨[],by simp,.slnil,Y⟩
 |n::r,st=>by
  let⟨l,h1,h2,h3⟩:=uk ws r (iX ws st n);rw[XO];rw[QJ] at h3;unfold iX at h1 h3 ⊢;split at h1
  .rename_i q
   rw[Wm q] at h3 ⊢;exact⟨l,h1,h2.cons _,h3⟩
  .rename_i q
   rw[Vw q] at h3 ⊢;calc⟨n::l,by rw[h1,Yj];rfl,h2.cons₂ _,h3⟩
theorem Bp(ws:-(Int×Int×Int))(us:-Int):∀(ns:-Int)(st:-Int×-Int),∃l,(ns.foldl (iZ ws us) st).1=st.1++l/\l.Sublist ns/\↑(ns.foldl (iZ ws us) st).2=↑st.2
 |[],st=>⟨[],by simp,.slnil,Y⟩
 |n::r,st=>by
  let⟨l,h1,h2,h3⟩:=Bp ws us r (iZ ws us st n);rw[XO];rw[QK] at h3;unfold iZ at h1 h3 ⊢;split at h1
  .rename_i q
   rw[Wm q] at h3 ⊢;exact⟨n::l,by rw[h1,Yj];rfl,h2.cons₂ _,h3⟩
  .rename_i q
   rw[Vw q] at h3 ⊢;calc⟨l,h1,h2.cons _,h3⟩
theorem Bq{m:Int}{ws:-(Int×Int×Int)}(W:a_ m ws){us:-Int}:∀{ns:-Int}{acc fs gs:-Int},(∀n∈ns,(0<=n/\n<(↑ws:Int))/\n∈us)->Part m.toNat fs gs->(ns.foldl (iX ws) (acc,fs)).1=(ns.foldl (iZ ws us) (acc,gs)).1
 |[],acc,fs,gs,_,_=>Y
 |n::r,acc,fs,gs,hn,hp=>by
  let⟨⟨n0,n1⟩,nu⟩:=hn n Wo;let⟨y,ey,hy,ea,i,j,e1,e2,h1,h2,_⟩:=jk W n0 n1;let en:bS ws n=(i,j):=by unfold bS;rw[ey,e1,e2,Ww,Ww]
  let hr:∀n∈r,(0<=n/\n<(↑ws:Int))/\n∈us:=λx hx=>hn x (Vu _ hx);rw[XO,XO];unfold iX iZ;rw[en];dsimp only
  by_cases q:fs.getD i 0=fs.getD j 0
  .rw[Wm q,Vw λz=>z.2 ((hp.2.2 i j h1 h2).mp q)]
   exact Bq W hr hp
  .rw[Vw q,Wm ⟨nu,λz=>q ((hp.2.2 i j h1 h2).mpr z)⟩]
   rw[QH];calc Bq W hr (hp.merge h1 h2 (QI _ _) (.inr ⟨Y,Y⟩))
theorem nX{a b:Int}:aI (.int a) (.int b)=S (a=b):=by
 cases q:aI (.int a) (.int b)
 .exact (Wn λz=>by rw[z,fI] at q;cases q).symm
 .erw[aI] at q
  calc(Wu (XT q)).symm
inductive Br (ys:-DV) (av:-OV) (K:RV->-OV->Prop):Prop
 |mk (m:Int) (ws:-(Int×Int×Int)) (_:a_ m ws) (_:ys=[.p (aK m ws)]) (_:av=[]) (_:∀ns,aF ws ns->K (.n ((jM m ws ns).map D.int)) [])
def Bs:WS:=(aw (aM 1 (ay 1 Bi (aq (ae 0) ag))) (aw (aM 2 (oK ag)) (aw (aM 3 (ay 2 AH (aq (ae 0) (aq (ae 2) ag)))) (aw (eg (bQ (ae 1)) (bF 4) (aw (aM 5 (d2 (d2 (ae 0) (dC (.int 1)) aR) (ae 4) aR)) (bh (dT (d2 (d2 (ae 3) (d2 (ae 5) (dC (.int 0)) aR) aR) (d2 (ae 3) (d2 (ae 5) (dC (.int 1)) aR) aR) jj)) (aw (iw (h_ (ae 2) (aq (ae 4) ag))) (aM 3 (ay 3 ua (aq (ae 3) (aq (d2 (ae 5) (dC (.int 0)) aR) (aq (d2 (ae 5) (dC (.int 1)) aR) ag)))))) cA))) (aJ (rj (aq (ae 2) ag) vY))))))
theorem QL:Sem 1 5 Br Bs:=by
 ext ys av K'-⟨m,ws,W,rfl,rfl,k⟩;let iU:=W.d4;let m1:=W.m1;let j3:=W.j3;unfold Bs;calc aP λN hN=>?_;simp!;calc⟨m,ws,W,Y,Y,λns ho=>?_⟩;simp!;subst hN;calc aP λN hN=>?_;simp!;subst hN;calc aP λN hN=>?_;simp!;calc⟨m,ws,[],W,λn hn=>absurd hn WD,.inr ⟨Y,Y,?_⟩⟩;simp!;subst hN;calc aP λN hN=>qh λg' b' K2 hg hb' hK=>?_;simp!;subst hg hb' hK;let il:↑(bp m.toNat)=m.toNat:=by unfold bp;simp
 let hlen:=ho.len
 let inv:∀i,↑(iY ws (bp m.toNat) (ns.take i)).2=m.toNat/\↑(iY ws (bp m.toNat) (ns.take i)).1<=30:=λi=>by
  let⟨l,h1,h2,h3⟩:=uk ws (ns.take i) ([],bp m.toNat);calc⟨h3.trans il,?_⟩;let:(iY ws (bp m.toNat) (ns.take i)).1=l:=h1;rw[this];let:=h2.length_le;rw[WM] at this;symm
 refine lS (λi δ=>δ=⟨[U (.p (aK m ws)),U (.p (.lst (ns.map D.int))),U (.o 0),U (.p (bj (iY ws (bp m.toNat) (ns.take i)).2)),Z,Z],[U (.lst ((iY ws (bp m.toNat) (ns.take i)).1.map D.int))]⟩) Y ?_ ?_
 .ext i d δ L hi rfl hL
  rw[My] at hi;let⟨n,um,rfl⟩:=Ws.mp hi;let⟨n0,n1⟩:=ho.nums n (WR um);let⟨y,ey,hy,ea,a,b,e1,e2,h1,h2,_⟩:=jk W n0 n1;let en:bS ws n=(a,b):=by unfold bS;rw[ey,e1,e2,Ww,Ww]
  let⟨hf,hl⟩:=inv i
  let step:iY ws (bp m.toNat) (ns.take (i+1))=iX ws (iY ws (bp m.toNat) (ns.take i)) n:=by
   let:ns.take (i+1)=ns.take i++[n]:=by rw[Y9,um];rfl
   rw[this];unfold iY;rw[q0j];rfl
  let eR:=hL _ Y;rw[step] at eR;generalize iY ws (bp m.toNat) (ns.take i)=st at hf hl eR;let⟨acc,fs⟩:=st;dsimp only at hf hl eR ⊢;unfold iX at eR;rw[en] at eR;dsimp only at eR;calc⟨trivial,?_⟩;erw[bF,Xk,Xl];calc aP λN2 bR=>?_;simp![cI,aK,ea];subst bR;let a1:=qi (ns:=fs) (i:=a) ⋯;let a2:=qi (ns:=fs) (i:=b) ⋯;calc gh λAy Bn hA hB=>?_;simp![df,cI,aN,e1,e2,bj,a1,a2,nX]
  by_cases q:fs.getD a 0=fs.getD b 0
  .rw[Wu q]
   simp!;subst hB;rw[Wm q] at eR;simp!;exact eR
  .rw[Wn q]
   simp!;subst hA;rw[Vw q] at eR;calc aP λN2 bR=>?_;simp!;calc⟨⋯,?_⟩;subst bR;simp![df,cI];calc⟨fs,a,b,Y,Y,⋯,⋯,⋯,?_⟩;simp!;rw[WK] at eR;exact eR
 .ext δ rfl
  calc⟨trivial,?_⟩;let⟨hf,hl⟩:=inv ↑ns;rw[pN,Xa (Ek _)] at *;show N _;subst hN;simp![vY,lR];calc⟨⋯,[],Y,Y,.inl (k ns ho)⟩
noncomputable def lq(m:Int)(ws:-(Int×Int×Int))(us ns:-Int):-Int:=sortI (jN ws us (bp m.toNat) ns).1
inductive Bt (ys:-DV) (av:-OV) (K:RV->-OV->Prop):Prop
 |mk (m:Int) (ws:-(Int×Int×Int)) (us:-Int) (_:a_ m ws) (_:ys=[.p (aK m ws),.p (bj us)]) (_:av=[]) (_:∀ns,aF ws ns->K (.p (bj (lq m ws us ns))) [])
def Bu:WS:=(aw (aM 2 (vP (aq (d2 (ae 0) (dC (.int 0)) aR) ag))) (aw (aM 3 (oK ag)) (aw (eg (bQ (ay 1 Bm (aq (ae 0) ag))) (bF 4) (aw (hZ (eE (bQ (fL (d2 (d2 (ae 0) (dC (.int 1)) aR) (ae 4) aR) gg (j_ (dC (.int 2))))) [Z,U 2] (bF 0) dm (d2 (ae 1) (ae 0) aR)) (j8 2 (fG (bF 5) (fG (bF 6) jE)))) (bh (gH (dT (d2 (ae 4) (ae 1) (iy ι))) (dT (d2 (ae 5) (ae 6) jj))) (aw (aM 2 (eE (bQ (ae 2)) [Z,U 5,U 6] (bF 0) dm (lN (dT (d2 (ae 0) (ae 2) oEq)) (ae 1) (ae 0)))) (iw (h_ (ae 3) (aq (ae 4) ag)))) cA))) (aJ (dN (aq (ae 3) ag) oP)))))
theorem nY{us:-Int}{n:Int}:((us.map D.int).any λe=>aI e (.int n))=S (n∈us):=by
 cases q:(us.map D.int).any λe=>aI e (.int n)
 .refine (Wn λz=>?_).symm
  let:=Yh.mp q (.int n) (Yn z);exact this (fI _)
 .let⟨e,he,h⟩:=q2r.mp q
  let⟨z,hz,rfl⟩:=Wq.mp he;rw[nX] at h;rw[<-XE h];calc(Wu hz).symm
theorem lr:∀us:-Int,bq (us.map D.int)<=55
 |[]=>by simp[bq]
 |n::r=>by
  let:=lr r;erw[Wx,bq,dep];symm
theorem QM:Sem 2 5 Bt Bu:=by
 ext ys av K'-⟨m,ws,us,W,rfl,rfl,k⟩;let iU:=W.d4;let m1:=W.m1;let j3:=W.j3;let il:↑(bp m.toNat)=m.toNat:=by unfold bp;simp
 unfold Bu;calc aP λN hN=>?_;simp![df,aK];calc⟨⟨⋯,⋯⟩,?_⟩;subst hN;rw[m_];calc aP λN hN=>?_;simp!;subst hN;calc aP λN hN=>qh λg' b' K2 hg hb' hK=>?_;simp!;calc⟨m,ws,W,Y,Y,λns ho=>?_⟩;simp![bj];subst hg hb' hK;let hlen:=ho.len
 let inv:∀i,↑(jN ws us (bp m.toNat) (ns.take i)).2=m.toNat/\↑(jN ws us (bp m.toNat) (ns.take i)).1<=30:=λi=>by
  let⟨l,h1,h2,h3⟩:=Bp ws us (ns.take i) ([],bp m.toNat);calc⟨h3.trans il,?_⟩;let:(jN ws us (bp m.toNat) (ns.take i)).1=l:=h1;rw[this];let:=h2.length_le;rw[WM] at this;symm
 refine lS (λi δ=>δ=⟨[U (.p (aK m ws)),U (.p (bj us)),U (.p (bj (jN ws us (bp m.toNat) (ns.take i)).2)),U (.o 0),Z,Z,Z],[U (.lst ((jN ws us (bp m.toNat) (ns.take i)).1.map D.int))]⟩) Y ?_ ?_
 .ext i d δ L hi rfl hL
  rw[My] at hi;let⟨n,um,rfl⟩:=Ws.mp hi;let⟨n0,n1⟩:=ho.nums n (WR um);let⟨y,ey,hy,ea,a,b,e1,e2,h1,h2,_⟩:=jk W n0 n1;let en:bS ws n=(a,b):=by unfold bS;rw[ey,e1,e2,Ww,Ww]
  let⟨hf,hl⟩:=inv i
  let step:jN ws us (bp m.toNat) (ns.take (i+1))=iZ ws us (jN ws us (bp m.toNat) (ns.take i)) n:=by
   let:ns.take (i+1)=ns.take i++[n]:=by rw[Y9,um];rfl
   rw[this];unfold jN;rw[q0j];rfl
  let eR:=hL _ Y;rw[step] at eR;generalize jN ws us (bp m.toNat) (ns.take i)=st at hf hl eR;let⟨acc,fs⟩:=st;dsimp only at hf hl eR ⊢;unfold iZ at eR;rw[en] at eR;dsimp only at eR;calc⟨trivial,?_⟩;erw[bF,Xk,Xl];let a1:=qi (ns:=fs) (i:=a) ⋯;let a2:=qi (ns:=fs) (i:=b) ⋯;calc aP λN2 bR=>?_;let ec:cutD [D.int y.1,D.int y.2.1,D.int y.2.2] Z (U 2)=[D.int a,D.int b]:=by rw[<-e1,<-e2];rfl
  simp![cI,aK,ea,aN,ec]
  refine L2.iR (λd=>match d with
   |.int z=>.int (fs.getD z.toNat 0)
   |_=>.non) (by show 2<=1000;decide) trivial ?_ ?_
  .ext d hd acc L' ha h'
   erw[MN,WD,Yf] at hd;rcases hd with rfl|rfl
   .simp![bj,a1]
    erw[Ww] at h';exact⟨ha,h'⟩
   .simp![bj,a2]
    erw[Ww] at h';exact⟨ha,h'⟩
  .simp![Ww]
   subst bR;calc gh λAy Bn hA hB=>?_;simp![bj,nY,nX];refine⟨lr us,?_⟩
   by_cases q1:n∈us
   .rw[Wu q1]
    simp!
    by_cases q:fs.getD a 0=fs.getD b 0
    .rw[Wu q]
     simp!;subst hB;rw[Vw λz=>z.2 q] at eR;simp!;exact eR
    .rw[Wn q]
     simp!;subst hA;rw[Wm ⟨q1,q⟩] at eR;calc aP λN2 bR=>?_;simp![bj]
     refine L2.iR (λd=>match d with
      |.int x=>.int (if x=fs.getD b 0 then fs.getD a 0 else x)
      |_=>.non) (by rw[pN];symm) trivial ?_ ?_
     .ext d hd acc L' ha h'
      let⟨z,_,rfl⟩:=Wq.mp hd;dsimp only at h';simp![nX]
      by_cases qz:z=fs.getD b 0
      .rw[Wu qz]
       simp!;rw[Wm qz] at h';exact⟨ha,h'⟩
      .rw[Wn qz]
       simp!;rw[Vw qz] at h';exact⟨ha,h'⟩
     .let e:(fs.map D.int).map (λd=>match d with
       |.int x=>D.int (if x=fs.getD b 0 then fs.getD a 0 else x)
       |_=>.non)=(l3 (fs.getD b 0) (fs.getD a 0) fs).map D.int:=by
       unfold l3;rw[WC,WC];rfl
      rw[e];simp!;subst bR;simp!;rw[WK] at eR;exact⟨⋯,eR⟩
   .rw[Wn q1]
    simp!;subst hB;rw[Vw λz=>q1 z.1] at eR;simp!;exact eR
 .ext δ rfl
  calc⟨trivial,?_⟩;let⟨hf,hl⟩:=inv ↑ns;rw[pN,Xa (Ek _)] at *;show N _;subst hN;simp![oP,lR];calc⟨⋯,[],Y,Y,k ns ho⟩
noncomputable def c7(ws:-(Int×Int×Int))(us:-Int):-(Int×Int×Int):=us.map λu=>ws.getD u.toNat (0,0,0)
noncomputable def gO(ws:-(Int×Int×Int))(sh:-Int):-Int:=(bp ↑ws).filter λn=>S (n∉sh)
noncomputable def dz(us:-Int)(i:Int):Int:=us.getD i.toNat 0
structure dq(ws:-(Int×Int×Int))(us:-Int):Prop where
 up:us.Pairwise (· < ·)
 nums:Nums ws us
theorem GG(n:Nat):(bp n).Pairwise (· < ·):=by
 unfold bp;rw[X1];calc List.pairwise_lt_range.imp λh=>by symm
theorem wu(ws:-(Int×Int×Int))(sh:-Int):dq ws (gO ws sh):=⟨(GG _).filter _,λn hn=>AK (X8.mp hn).1⟩
theorem dq.nd{ws:-(Int×Int×Int)}{us:-Int}(S:dq ws us):us.Nodup:=S.up.imp λh=>by symm
theorem GH{ws:-(Int×Int×Int)}{us:-Int}{i:Int}(h:0<=i/\i<(↑us:Int)):(c7 ws us).getD i.toNat (0,0,0)=ws.getD (dz us i).toNat (0,0,0):=by
 let hi:i.toNat<↑us:=by symm
 unfold c7 dz;rw[En,My,En (l:=us),pM hi];rfl
theorem sub_len{ws:-(Int×Int×Int)}{us:-Int}:↑(c7 ws us)=↑us:=by unfold c7;rw[pN]
theorem GI{us:-Int}{i:Int}(h:0<=i/\i<(↑us:Int)):dz us i∈us:=by
 let hi:i.toNat<↑us:=by symm
 unfold dz;rw[En,pM hi];calc Yb hi
theorem dq.lt{ws:-(Int×Int×Int)}{us:-Int}(S:dq ws us){i j:Int}(hi:0<=i)(ib:i<j)(hj:j<(↑us:Int)):dz us i<dz us j:=by
 let h1:i.toNat<↑us:=by symm
 let h2:j.toNat<↑us:=by symm
 unfold dz;rw[En,En,pM h1,pM h2];calc Yv.mp S.up i.toNat j.toNat h1 h2 ⋯
theorem QN(us:-Int):(bp ↑us).map (dz us)=us:=by
 unfold bp;rw[WC];calc Y2 λi=>?_;rw[My]
 by_cases h:i<↑us
 .rw[X7 h,pM h]
  show U (dz us ((i:Nat):Int))=_;unfold dz;rw[Ww,En,pM h];rfl
 .rw[Xd h⁻¹,Xd ⋯]
  rfl
theorem getD_mem{ws:-(Int×Int×Int)}{n:Int}(h:0<=n/\n<(↑ws:Int)):ws.getD n.toNat (0,0,0)∈ws:=by
 let hi:n.toNat<↑ws:=by symm
 rw[En,pM hi];calc Yb hi
theorem wx{m:Int}{ws:-(Int×Int×Int)}{us:-Int}(W:a_ m ws)(S:dq ws us):a_ m (c7 ws us):=by
 let hl:↑us<=↑ws:=by
  let h:us.Sublist (bp ↑ws):=by
   let e:us=(bp ↑ws).filter λn=>μ (n∈us):=by
    calc List.Perm.eq_of_pairwise (le:=(· < ·)) (λa b _ _ h1 h2=>by symm) S.up ((GG _).filter _) ?_;calc(q0c S.nd ((AL _).filter _)).mpr λa=>?_;rw[X8,XH];calc⟨λh=>⟨?_,h⟩,λh=>h.2⟩;let⟨h1,h2⟩:=S.nums a h;unfold bp;exact Wq.mpr ⟨a.toNat,Xf.mpr ⋯,⋯⟩
   rw[e];exact Ze
  let:=h.length_le;unfold bp at this;simpa using this
 refine⟨W.m1,W.j3,by rw[sub_len];calc WU hl W.d4,λy hy=>?_,?_⟩
 .let⟨u,hu,rfl⟩:=Wq.mp hy
  exact W.ends _ (getD_mem (S.nums u hu))
 .unfold c7
  rw[WC];calc X1.mpr (S.nd.imp_of_mem λ{a b} ha hb ne e=>ne ?_);let⟨a0,a1⟩:=S.nums a ha;let⟨b0,b1⟩:=S.nums b hb;let h1:a.toNat<↑ws:=by symm
  let h2:b.toNat<↑ws:=by symm
  let e:((ws.map λy=>(y.1,y.2.1))[a.toNat]'(by rw[pN];calc h1))=(ws.map λy=>(y.1,y.2.1))[b.toNat]'(by rw[pN];calc h2):=by
   erw[q1p,En,pM h1,pM h2,q2q] at e;rw[XX,XX];exact e
  let:=(List.getElem?_inj (i:=a.toNat) (j:=b.toNat) (by rw[pN];calc h1) W.unlike).mp (by rw[pM (by rw[pN];calc h1),pM (by rw[pN];calc h2),e]);symm
theorem QO{ws:-(Int×Int×Int)}{us:-Int}{i:Int}(h:0<=i/\i<(↑us:Int)):gv (c7 ws us) i=gv ws (dz us i):=by unfold gv;rw[GH h]
theorem QP{ws:-(Int×Int×Int)}{us:-Int}{i:Int}(h:0<=i/\i<(↑us:Int)):bS (c7 ws us) i=bS ws (dz us i):=by unfold bS;rw[GH h]
theorem QQ{m:Int}{ws:-(Int×Int×Int)}{us ns bx:-Int}(W:a_ m ws)(S:dq ws us)(o:aF ws ns)(o':aF (c7 ws us) bx):ns.filter (λn=>μ (n∈us))=bx.map (dz us):=by
 let rg:∀i∈bx,0<=i/\i<(↑us:Int):=λi hi=>by let:=o'.nums i hi;rwa [sub_len] at this
 refine GC W ?_ (λx hx=>o.nums x (X8.mp hx).1) ?_ ?_
 .let p1:(bx.map (dz us)).Perm us:=by
   let:=o'.perm.map (dz us);rw[sub_len,QN] at this;exact this
  calc List.Perm.trans ?_ p1.symm;let nn:ns.Nodup:=o.perm.nodup_iff.mpr (AL _);calc(q0c (nn.filter _) S.nd).mpr λa=>?_;rw[X8,XH];calc⟨λh=>h.2,λh=>⟨o.perm.mem_iff.mpr ?_,h⟩⟩;let⟨h1,h2⟩:=S.nums a h;unfold bp;exact Wq.mpr ⟨a.toNat,Xf.mpr ⋯,⋯⟩
 .exact List.Pairwise.sublist (Ze.map _) o.up
 .let e:(bx.map (dz us)).map (gv ws)=bx.map (gv (c7 ws us)):=by
   rw[WC];exact XC λi hi=>(QO (rg i hi)).symm
  rw[e];calc o'.up
theorem Bv(ws:-(Int×Int×Int))(us:-Int):∀(ns:-Int)(st:-Int×-Int),ns.foldl (iZ ws us) st=(ns.filter λn=>S (n∈us)).foldl (iZ ws us) st
 |[],st=>Y
 |n::r,st=>by
  rw[XO,List.filter_cons]
  by_cases h:n∈us
  .rw[Wm (Wu h),XO,Bv ws us r]
  .rw[Vw (by rw[XH];calc h),Bv ws us r]
   let:iZ ws us st n=st:=by unfold iZ;rw[Vw λz=>h z.1]
   rw[this]
theorem Bw{ws:-(Int×Int×Int)}{us:-Int}:∀(ns:-Int)(acc fs:-Int),(∀i∈ns,0<=i/\i<(↑us:Int))->(ns.map (dz us)).foldl (iX ws) (acc.map (dz us),fs)=(((ns.foldl (iX (c7 ws us)) (acc,fs)).1.map (dz us)),(ns.foldl (iX (c7 ws us)) (acc,fs)).2)
 |[],acc,fs,_=>Y
 |n::r,acc,fs,h=>by
  let h0:=QP (ws:=ws) (h n Wo);let hr:∀i∈r,0<=i/\i<(↑us:Int):=λi hi=>h i (Vu _ hi);rw[Wx,XO,XO];unfold iX;rw[h0];dsimp only
  by_cases c:fs.getD (bS ws (dz us n)).1 0=fs.getD (bS ws (dz us n)).2 0
  .rw[Wm c,Wm c]
   exact Bw r acc fs hr
  .rw[Vw c,Vw c]
   let:=Bw (ws:=ws) r (acc++[n]) (km fs (bS ws (dz us n)).1 (bS ws (dz us n)).2) hr;rw[WK] at this;calc this
theorem sort_map{ws:-(Int×Int×Int)}{us:-Int}(S:dq ws us){l:-Int}(h:∀i∈l,0<=i/\i<(↑us:Int)):sortI (l.map (dz us))=(sortI l).map (dz us):=by
 calc(zO ((sortI_perm l).map (dz us)) ?_).symm;rw[X1];calc(zN l).imp_of_mem λ{a b} ha hb Ju=>?_;let h1:=h a ((sortI_perm l).mem_iff.mp ha);let h2:=h b ((sortI_perm l).mem_iff.mp hb)
 by_cases c:a=b
 .rw[c];exact q5d _
 .calc q32 (S.lt h1.1 ⋯ h2.2)
theorem GJ(ws:-(Int×Int×Int))(ns fs:-Int):∀i∈(iY ws fs ns).1,i∈ns:=λi hi=>by
 let⟨l,e,s,_⟩:=uk ws ns ([],fs);unfold iY at hi;rw[e,YU] at hi;calc s.subset hi
theorem QR{m:Nat}(fs:-Int)(h:fs.length=m):Part m fs fs:=⟨h,h,λ_ _ _ _=>Iff.rfl⟩
theorem QS{m:Int}{ws:-(Int×Int×Int)}{us ns bx:-Int}(W:a_ m ws)(S:dq ws us)(o:aF ws ns)(o':aF (c7 ws us) bx):(jM m (c7 ws us) bx).map (dz us)=lq m ws us ns:=by
 let rg:∀i∈bx,0<=i/\i<(↑us:Int):=λi hi=>by let:=o'.nums i hi;rwa [sub_len] at this
 let hB:(jN ws us (bp m.toNat) ns).1=(iY (c7 ws us) (bp m.toNat) bx).1.map (dz us):=by
  unfold jN;rw[Bv,QQ W S o o']
  let e:=Bq (acc:=[]) W (us:=us) (ns:=bx.map (dz us)) (λn hn=>by
   let⟨i,hi,rfl⟩:=Wq.mp hn;let:=GI (rg i hi)
   calc⟨S.nums _ this,this⟩) (QR (m:=m.toNat) (bp m.toNat) (by unfold bp;simp))
  rw[<-e];let:=Bw (ws:=ws) bx [] (bp m.toNat) rg;rw[Yp] at this;rw[this];rfl
 unfold lq jM;rw[hB,sort_map S λi hi=>rg i (GJ _ _ _ i hi)]
theorem GL{m:Int}{ws:-(Int×Int×Int)}(ns:-Int):∀i∈jM m ws ns,i∈ns:=λi hi=>GJ ws ns _ i ((sortI_perm _).mem_iff.mp hi)
theorem GN{m:Int}{ws:-(Int×Int×Int)}(ns:-Int):↑(jM m ws ns)<=↑ns:=by
 unfold jM iY;let⟨l,e,s,_⟩:=uk ws ns ([],bp m.toNat);rw[FE,e,YU];calc s.length_le
theorem QT{m:Int}{ws:-(Int×Int×Int)}{ns:-Int}(o:aF ws ns):(jM m ws ns).Nodup:=by
 unfold jM iY;let⟨l,e,s,_⟩:=uk ws ns ([],bp m.toNat);calc(sortI_perm _).nodup_iff.mpr ?_;rw[e,YU];calc s.nodup (o.perm.nodup_iff.mpr (AL _))
theorem QU{us:-Int}{n:Int}(h:0<=n/\n<(↑us:Int)):dX (us.map D.int) n=U (.int (dz us n)):=by
 let:=qi (ns:=us) (i:=n.toNat) ⋯
 rwa [show((n.toNat:Nat):Int)=n by symm] at this
end LJ
namespace L2
open PySem PySem.Spec PyProof.Rows
variable[aS]
noncomputable def c8(kvs:-(Key×D))(k:Key):Option D:=(kvs.find? λkv=>S (kv.1=k)).map (·.2)
noncomputable def putD(kvs:-(Key×D))(k:Key)(d:D):-(Key×D) :=
 if(kvs.any λkv=>S (kv.1=k))=θ then kvs.map (λkv=>if kv.1=k then(kv.1,d) else kv) else kvs++[(k,d)]
theorem eZ.val{F:Hp}(k:Key):∀{gb:-(Key×D)}{ws:-(Key×V)},eZ F gb ws->(c8 gb k=Z/\ee ws k=Z)\/∃d v,c8 gb k=U d/\ee ws k=U v/\Is F d v
 |[],_,h=>by let h:_=[]:=h;subst h;exact .inl ⟨Y,Y⟩
 |kd::r,_,⟨v,t,e,h1,h2⟩=>by
  subst e
  by_cases c:kd.1=k
  .refine .inr ⟨kd.2,v,?_,vc c,h1⟩
   unfold c8;rw[List.find?_cons_of_pos c⁻¹];rfl
  .rw[vd c]
   let e:c8 (kd::r) k=c8 r k:=by unfold c8;rw[List.find?_cons_of_neg c⁻¹]
   rw[e];calc eZ.val k h2
theorem eZ.length{F:Hp}:∀{gb:-(Key×D)}{ws:-(Key×V)},eZ F gb ws->↑ws=↑gb
 |[],_,h=>by let h:_=[]:=h;subst h;rfl
 |kd::r,_,⟨v,t,e,h1,h2⟩=>by subst e;rw[Em,Em,↑h2]
theorem eZ.any{F:Hp}(k:Key):∀{gb:-(Key×D)}{ws:-(Key×V)},eZ F gb ws->(ws.any λkv=>S (kv.1=k))=gb.any λkv=>S (kv.1=k)
 |[],_,h=>by let h:_=[]:=h;subst h;rfl
 |kd::r,_,⟨v,t,e,h1,h2⟩=>by subst e;rw[YC,YC,h2.any k]
theorem eZ.iK{F:Hp}(k:Key){d:D}{v:V}(hd:Is F d v):∀{gb:-(Key×D)}{ws:-(Key×V)},eZ F gb ws->eZ F (gb.map λkv=>if kv.1=k then(kv.1,d) else kv) (ws.map λkv=>if kv.1=k then(kv.1,v) else kv)
 |[],_,h=>by let h:_=[]:=h;subst h;rfl
 |kd::r,_,⟨u,t,e,h1,h2⟩=>by
  subst e
  by_cases c:kd.1=k
  .rw[Wx,Wx,Wm c,Wm c]
   exact⟨v,_,Y,hd,h2.iK k hd⟩
  .rw[Wx,Wx,Vw c,Vw c]
   calc⟨u,_,Y,h1,h2.iK k hd⟩
theorem eZ.snoc{F:Hp}{k:Key}{d:D}{v:V}(hd:Is F d v):∀{gb:-(Key×D)}{ws:-(Key×V)},eZ F gb ws->eZ F (gb++[(k,d)]) (ws++[(k,v)])
 |[],_,h=>by let h:_=[]:=h;subst h;exact⟨v,[],Y,hd,Y⟩
 |kd::r,_,⟨u,t,e,h1,h2⟩=>by subst e;calc⟨u,_,Y,h1,h2.snoc hd⟩
theorem eZ.put{F:Hp}{gb:-(Key×D)}{ws:-(Key×V)}{k:Key}{d:D}{v:V}(h:eZ F gb ws)(hd:Is F d v):eZ F (putD gb k d) (putK ws k v):=by
 unfold putD putK;rw[h.any k];split
 .exact h.iK k hd
 .calc h.snoc hd
def jO(x:DV)(δ:aH)(K:Nat->(-(Key×D)->OV)->-(Key×D)->Prop):Prop:=match x with
 |.o k=>match δ.mu[k]? with
  |some (some (.dct kvs))=>K k OV.dct kvs
  |some (some (.ac a kvs))=>K k (OV.ac a) kvs
  |_=>False
 |_=>False
theorem GP{F H:Hp}{ad:-M}{δ:aH}{σ:St}{x:DV}{v:V}{K:Nat->(-(Key×D)->OV)->-(Key×D)->Prop}(S:SR F ad δ σ H)(V1:dB F ad x v)(h:jO x δ K):∃k B kvs a ws,x=.o k/\K k B kvs/\v=.ref a/\ad[k]?=U a/\H a=U (.dK ws)/\eZ F kvs ws/\δ.mu[k]?=U (U (B kvs))/\∀{F' es us},eZ F' es us->eC F' a (B es) (.dK us):=by
 unfold jO at h;split at h
 .rename_i k
  split at h
  .rename_i kvs e
   let⟨a,e1,rfl⟩:=V1;let⟨a',o,e2,e3,ws,rfl,h4⟩:=S.mu k _ e;rw[e1] at e2;cases e2;exact⟨k,_,kvs,a,ws,Y,h,Y,e1,e3,h4,e,λi=>⟨_,Y,i⟩⟩
  .rename_i b kvs e
   let⟨a,e1,rfl⟩:=V1;let⟨a',o,e2,e3,z,ws,rfl,h4⟩:=S.mu k _ e;rw[e1] at e2;cases e2;exact⟨k,_,kvs,a,ws,Y,h,Y,e1,e3,h4,e,λi=>⟨z,_,Y,i⟩⟩
  .exact h.elim
 .calc h.elim
def jP(x:DV)(P:Int->Prop):Prop:=match x with
 |.p (.int i)=>P i
 |_=>False
theorem GQ{F:Hp}{ad:-M}{x:DV}{v:V}{P:Int->Prop}(hv:dB F ad x v)(h:jP x P):∃i,v=kV (.inl i)/\P i:=by
 unfold jP at h;split at h
 .rename_i i;exact⟨i,hv,h⟩
 .calc h.elim
def Bx:WE:=fun δ K=>K (.o ↑δ.mu) ⟨δ.sl,δ.mu++[U (.dct [])]⟩
def nZ(neg:Bool)(fi fo:WE):WE:=fun δ K=>fi δ λx δ1=>fo δ1 λy δ2=>jP x λi=>jO y δ2 λ_ _ kvs=>K (.p (.bl (neg != (c8 kvs (.inl i)).isSome))) δ2
def By(fv fo fi:WE):WS:=λK δ=>fv δ λz δ1=>fo δ1 λx δ2=>fi δ2 λy δ3=>mK z δ3 λd δ4=>jP y λi=>jO x δ4 λk B kvs=>↑kvs<1000/\K.nx ⟨δ4.sl,δ4.mu.set k (U (B (putD kvs (.inl i) d)))⟩
section
variable{X:Cx}{o i e v:J}{fo fi fv fk fe:WE}{pos:y}
theorem QV:JE X (.Dict [] [] pos) (tD Bx):=kH.weak fun σ H Q ⟨F,ad,δ,K,S,q,k⟩ p hp=>by
 let oi:∀{je},eC F je (.dct []) (.dK []):=λ{je}=>⟨[],Y,Y⟩;calc k _ _ q _ _ _ _ (Ext.own S hp) (S.own hp oi) ⟨p,?_,Y⟩;rw[<-S.cf,Vs (Ek _),Xn];rfl
theorem QW{neg:Bool}(td:TE)(hn:∀σ H (Q:VK),(tD fi σ H λy H1=>tD fo σ H1 λx H2=>∃a o,x=.ref a/\jA H2 a y o/\Q (.bl (neg != o.isSome)) H2)->td σ H Q):∀σ H Q,tD (nZ neg fi fo) σ H Q->td σ H Q:=fun σ H Q ⟨F,ad,δ,K,S,q,k⟩=>hn σ H Q ⟨F,ad,δ,_,S,q,λx δ1 h1 v F1 aV H1 E1 S1 V1=>⟨F1,aV,δ1,_,S1,h1,λy δ2 h2 u F2 cq H2 E2 S2 V2=>by
  let⟨i,rfl,h3⟩:=GQ (V1.ext E2) h2;let⟨k0,B,kvs,a,ws,rfl,h4,rfl,e1,e2,i1,m1,nh⟩:=GP S2 V2 h3;refine⟨a,_,Y,jA.k e2,?_⟩
  let es:(ee ws (q0f i:Key)).isSome=(c8 kvs (.inl i)).isSome:=by
   rcases i1.val (.inl i) with⟨z1,z2⟩|⟨d,v,z1,z2,_⟩
   .rw[z1,z2];rfl
   .rw[z1,z2];rfl
  rw[es]
  calc k _ _ h4 _ _ _ _ (E1.trans E2) S2 Y⟩⟩
theorem QX{t:TE}{f:WE}(h:∀σ H Q,tD f σ H Q->t σ H Q):∀σ H Q,cS (dT f) σ H Q->tB t σ H Q:=fun σ H Q ⟨F,ad,δ,K,S,q,k⟩↦h σ H _ ⟨F,ad,δ,_,S,q,λx δ1 h1 v F1 aV H1 E1 S1 V1=>by
  let⟨b,rfl,h2⟩:=tw V1 h1
  calc⟨b,Y,k _ _ h2 _ _ _ E1 S1⟩⟩
theorem QY(hu:X.A.units+64<cLine)(hi:JE X i (tD fi))(ho:JE X o (tD fo))(hm:‹behindInMarks .In o=ι›):JT X (.Compare i [.In] [o] pos) (cS (dT (nZ ι fi fo))) :=
 (Kw (Nq ⋯ hi ho) hm).weak (QX (QW (sV (tD fi) (tD fo)) fun σ H Q h=>by erw[q26] at h;calc h))
theorem QZ[kM]{pos':Ε}(hu:X.A.units+64<cLine)(ho:JE X o (tD fo))(hi:JE X i (tD fi))(hv:JE X v (tD fv))(hs:‹swapsWith v (U (.Subscript o i pos')) pos.line X.env=pure ι›):JS X (.Assign [.Subscript o i pos'] v pos) (dZ (By fv fo fi)) :=
 (Nr ⋯ ho hi hv hs).weak λD σ H ⟨F,ad,δ,K,S,q,k⟩=>⟨F,ad,δ,_,S,q,λz δ1 h1 w F1 aV H1 E1 S1 V1=>⟨F1,aV,δ1,_,S1,h1,λx δ2 h2 u F2 cq H2 E2 S2 V2=>⟨F2,cq,δ2,_,S2,h2,λy δ3 h3 t F3 qT H3 E3 S3 V3=>by
  let⟨d,δ4,F4,h4,E4,S4,i4⟩:=tu S3 ((V1.ext E2).ext E3) h3;let⟨i,rfl,h5⟩:=GQ V3 h4;let⟨k0,B,kvs,a,ws,rfl,h6,rfl,e1,e2,i1,m1,nh⟩:=GP S4 ((V2.ext E3).ext E4) h5;let oi:=nh (F':=F4) (us:=putK ws (.inl i) w) (i1.put i4);refine⟨a,_,Y,kG.k e2 (qM (by rw[↑i1];calc X0 h6.1)),?_⟩
  calc k.nx _ h6.2 _ _ _ _ ((((E1.trans E2).trans E3).trans E4).trans (Ext.put S4 m1 e1)) (S4.put m1 e1 oi)⟩⟩⟩
end
end L2
namespace LJ
open PySem L2
variable[aS]
theorem Q0{kvs:-(Key×D)}{k l:Key}{d:D}(h:c8 kvs k=Z):c8 (putD kvs k d) l=if l=k then U d else c8 kvs l:=by
 let na:(kvs.any λkv=>S (kv.1=k))=ι:=by
  cases q:kvs.any λkv=>S (kv.1=k) with
  |false=>rfl
  |true =>
   let⟨kv,h1,h2⟩:=q2r.mp q;unfold c8 at h;rw[Option.map_eq_none_iff] at h;exact absurd h2 (q1u.mp h kv h1)
 unfold putD;rw[na,Vw WQ];unfold c8;rw[List.find?_append]
 cases q:kvs.find? λkv=>S (kv.1=l) with
 |some kv =>
  let e:=q0M q;let e:kv.1=l:=by simpa using e
  rw[Vw]
  .rfl
  .ext z
   subst z;let hm:=List.mem_of_find?_eq_some q;let:=Yh.mp na kv hm;exact this e⁻¹
 |none =>
  by_cases c:l=k
  .subst c
   rw[Wm Y];simp
  .rw[Vw c]
   simp[show ¬ k=l fromλz=>c z.symm]
theorem Q1{kvs:-(Key×D)}{k:Key}{d:D}:↑(putD kvs k d)<=↑kvs+1:=by
 unfold putD;split
 .rw[pN];symm
 .rw[MJ];simp
inductive Bz (ys:-DV) (av:-OV) (K:RV->-OV->Prop):Prop
 |mk (m:Int) (ws:-(Int×Int×Int)) (ns:-Int) (_:a_ m ws) (_:Nums ws ns) (_:ns.Nodup) (_:↑ns<=900) (_:ys=[.p (aK m ws),.p (bj ns)]) (_:av=[]) (_:K (.p .non) [])
def BA:WS:=(aw (iw (ay 1 uj (aq (ae 0) ag))) (aw (bh (dj (dT (d1 (ae 1) (cO "list")))) lO cA) (aw (aM 2 (d2 (dN (aq (d2 (ae 0) (dC (.int 1)) aR) ag) bY) (dC (.int 1)) (oI λi j=>.int (i-j)))) (aw (aM 3 Bx) (eg (mX (aq (ae 1) ag)) (j8 2 (fG (bF 4) (fG (bF 5) jE))) (aw (bh (mL (dj (dT (ay 3 nv (aq (ae 5) (aq (dC (.int 0)) (aq (ae 2) ag)))))) (dT (nZ ι (ae 5) (ae 3)))) lO cA) (By (dC (.bl θ)) (ae 3) (ae 5))))))))
theorem Q2:Sem 2 4 Bz BA:=by
 ext ys av K'-⟨m,ws,ns,W,hn,nd,hl,rfl,rfl,k⟩;unfold BA;calc aP λN hN=>?_;simp!;calc⟨m,ws,W,Y,Y,?_⟩;show N _;subst hN;calc aP λN hN=>?_;simp!;rw[show bj ns=.lst (ns.map D.int) from Y];simp![cF,bf,q3N];subst hN;calc aP λN hN=>?_;simp![cI,aK];subst hN;calc aP λN hN=>?_;simp![Bx];subst hN
 let il:∀(j:Nat)(d:D),(lQ 0 (ns.map D.int))[j]?=U d->∃n:Int,ns[j]?=U n/\d=D.tup [.int (j:Int),.int n]:=λj d hd=>by
  let⟨e,h1,h2⟩:=vH hd;rw[My] at h1;let⟨n,h3,rfl⟩:=Ws.mp h1;exact⟨n,h3,by rw[h2,Xi]⟩
 let el:↑(lQ 0 (ns.map D.int))=↑ns:=by rw[vG,pN]
 erw[eg,mX,aq,ae,ag,q0x,Zs,mW];refine lS (λi δ=>∃kvs:-(Key×D),↑kvs<=i/\(∀n:Int,(c8 kvs (.inl n)).isSome=S (n∈ns.take i))/\δ=⟨[U (.p (.tup [.int m,.tup (ws.map aN)])),U (.p (.lst (ns.map D.int))),U (.p (.int (↑ws-1))),U (.o 0),Z,Z],[U (.dct kvs)]⟩) ?_ ?_ ?_
 .refine⟨[],Ek _,λn=>by simp[c8],?_⟩
  erw[pN]
 .ext j d δ L hj ⟨kvs,kl,kv,rfl⟩ hL
  let⟨n,qj,rfl⟩:=il j d hj;let⟨n0,n1⟩:=hn n (WR qj);let jl:j<↑ns:=(sG.mp qj).1
  let ff:(c8 kvs (.inl n)).isSome=ι:=by
   rw[kv n];calc Wn λhm=>?_;let⟨i,hi,ei⟩:=List.mem_iff_getElem.mp hm;rw[WM] at hi;rw[List.getElem_take] at ei;let e2:ns[j]=n:=(sG.mp qj).2;let:=(ZK (h₀:=by symm) (h₁:=jl) nd).mp (ei.trans e2.symm);symm
  let fn:c8 kvs (.inl n)=Z:=by
   cases q:c8 kvs (.inl n) with
   |none=>rfl
   |some d=>rw[q] at ff;cases ff
  let wb:v7 (.int n) 0 (↑ws-1)=θ:=by
   show(S (0<=n)&&S (n<=(↑ws:Int)-1))=θ;rw[Wu n0,Wu ⋯];rfl
  calc⟨trivial,?_⟩;erw[j8,fG,jE,bF,g7,Xk,Xl,Em,YT];calc⟨trivial,?_⟩;calc aP λN hN=>?_;simp!;calc⟨.int n,0,↑ws-1,Y,Y,?_⟩;simp![wb,nZ,jP,jO,ff,q26];subst hN;simp![By,jP,jO];refine⟨⋯,hL _ ⟨putD kvs (.inl n) (.bl θ),?_,λl=>?_,?_⟩⟩
  .let:=Q1 (kvs:=kvs) (k:=.inl n) (d:=.bl θ);symm
  .rw[Q0 fn,Y9,qj]
   by_cases c:l=n
   .subst c
    rw[Wm Y];exact(Wu (by simp)).symm
   .rw[Vw (λz=>c (q4A z)),kv l]
    simp[c]
  .simp!
 .ext δ ⟨kvs,_,_,rfl⟩
  calc⟨trivial,cm k⟩
end LJ
namespace L2
open PySem PySem.Spec PyProof.Rows PySem.W
section
open PySem.SeqAt
open PySem.AutoSeq1 (wpAny_loadPart')
open PySem.MeetsSeq PySem.MeetsSeq2 PySem.MeetsSeq3
end
section
variable{prog:l}{w:g}{A:q}{E:bg}{s:B}{Q:Bool->B->Prop}
end
section
variable[aS]{X:Cx}
end
end L2
namespace LJ
open PySem L2
variable[aS]
end LJ
namespace L2
open PySem
variable[aS]
section
variable{F F' H H':Hp}{ad aG:-M}{δ δ':aH}{σ σ':St}
end
section
variable{X:Cx}{VQ lK kB ou:o}{i n:Nat}{G:GD}{fa:WA}{t:WT}{B:TS}{E:XK}
end
end L2
namespace LJ
open PySem L2
variable[aS]
end LJ
namespace LJ
open PySem L2
abbrev Wy:=Int×Int×Int
section
variable{S S':Wy->Prop}{a b c:Int}
end
variable[aS]
open Classical in
theorem GR:∀us:-Int,bq (us.map D.int)=0
 |[]=>by simp[bq]
 |u::r=>by rw[Wx];erw[bq,dep];rw[GR r];rfl
inductive BB (ys:-DV) (av:-OV) (K:RV->-OV->Prop):Prop
 |mk (m:Int) (ws:-(Int×Int×Int)) (ns:-Int) (_:a_ m ws) (_:Nums ws ns) (_:ns.Nodup) (_:↑ns<=900) (_:ys=[.p (aK m ws),.p (bj ns)]) (_:av=[]) (_:K (.p (.int (ns.map λn=>(ws.getD n.toNat (0,0,0)).2.2).sum)) [])
def BC:WS:=(aw (iw (ay 2 Bz (aq (ae 0) (aq (ae 1) ag)))) (aJ (dN (aq (eE (bQ (ae 1)) [Z,U 0] (bF 0) dm (d2 (d2 (d2 (ae 1) (dC (.int 1)) aR) (ae 0) aR) (dC (.int 2)) aR)) ag) jJ)))
theorem Q4:Sem 2 0 BB BC:=by
 ext ys av K'-⟨m,ws,ns,W,hn,nd,hl,rfl,rfl,k⟩;unfold BC;calc aP λN hN=>?_;simp!;calc⟨m,ws,ns,W,hn,nd,hl,Y,Y,?_⟩;show N _;subst hN;unfold bj;simp!
 refine iR (λd=>match d with
  |.int n=>.int (ws.getD n.toNat (0,0,0)).2.2
  |_=>.non) (by rw[pN];symm) trivial ?_ ?_
 .ext d hd acc L ha h
  let⟨n,jo,rfl⟩:=Wq.mp hd;let⟨n0,n1⟩:=hn n jo;let⟨y,ey,hy,ea,_⟩:=jk W n0 n1;simp![cI,at2,aK,ea,aN];erw[ey] at h;exact⟨ha,h⟩
 .let e:intsOf ((ns.map D.int).map λd=>match d with
   |.int n=>D.int (ws.getD n.toNat (0,0,0)).2.2
   |_=>.non)=U (ns.map λn=>(ws.getD n.toNat (0,0,0)).2.2):=by
   rw[WC];let:=lR (ns.map λn=>(ws.getD n.toNat (0,0,0)).2.2);rw[WC] at this;exact this
  simp![jJ,e];calc⟨⟨λx hx=>?_,⋯⟩,cm k⟩;let⟨n,jo,rfl⟩:=Wq.mp hx;let⟨n0,n1⟩:=hn n jo;let⟨y,ey,hy,_⟩:=jk W n0 n1;rw[ey];calc⟨(W.ends y hy).2.2.2.1,(W.ends y hy).2.2.2.2⟩
end LJ
namespace PySem
open Sem (wp)
structure ZG(z TI TO i j:M)(fp gp:-M):Prop where
 a1:TI≠z
 a2:TO≠z
 a3:i≠z
 a4:j≠z
 a5:TI≠TO
 a6:TI≠i
 a7:TI≠j
 a8:TO≠i
 a9:TO≠j
 b1:i≠j
 f1:z∉fp
 f2:TO∉fp
 f3:j∉fp
 g1:z∉gp
 g2:TO∉gp
 g3:i∉gp
theorem bk{a:M}{h h':I}(hs:Za a h h'){b:M}{o:Q}(n:b≠a)(e:h.get? b=U o):h'.get? b=U o:=(hs.2 b n).trans e
section
variable{prog:l}{w:g}{A:q}{E:bg}{s:B}{z TI TO i j:M}{fp gp:-M}{n m k:Nat}{P P':Nat->O->Prop}{St jQ:Nat->I->Prop}{a b:O}
theorem Q5{Q:bg}(D:Draws prog w A i fp n P St)(D':Draws prog w A j gp m P' jQ)(Z:ZG z TI TO i j fp gp)
  (hz:IsZip s.heap z TI TO .none) (hI:IsPair s.heap TI (.ref i) (.ref j)) (hO:IsPair s.heap TO a b) (st:St k s.heap) (eA:jQ k s.heap) (hk:k<n) (j9:k<m)
  (hQ:∀x y h' tk,P k x->P' k y->IsZip h' z TI TO (rawInt ⇑s)->IsPair h' TO x y->St (k+1) h'->jQ (k+1) h'->IsPair h' ⇑s x y →
   (∀c o,c≠z->c≠TO->c≠i->c≠j->s.heap.get? c=U o->h'.get? c=U o)->Q (.ref ⇑s) {s with heap:=h',toks:=tk}) :
  L (G prog w) A (Builtin.«zip.__next__» ⟨[.ref z],[]⟩) (λfin s'=>∃v,fin=.done (.ret v)/\Q v s') E s:=by
 show L _ _ (field (.ref z) 2 >>= _) _ _ _;calc qL (XG hz Y (x:=.bool ι) Y ?_);show L _ _ (field (.ref z) 3 >>= _) _ _ _;calc qL (XG hz Y (x:=.ref TI) Y (qL (Ye hI Y ?_)));show L _ _ (XM (.ref z) >>= _) _ _ _;calc qL ?_;unfold XM;calc qL (XG hz Y (x:=.none) Y (MK ?_));erw[ZN];calc qL (q0L (qL (XG hz Y (x:=.ref TO) Y (qL (Yt hz (by simp) λk1 z1 s1=>?_)))));let z1:IsZip k1 z TI TO .ellipsis:=z1;calc qL ?_;erw[q2s,q2L,q0S,q07];calc qL (qL (q0q ?_));show L _ _ (XB (.ref i) >>= _) _ _ _;refine qL (D.item k {s with heap:=k1} _ _ hk (D.frame k _ _ st λc hc o e=>bk s1 (λy=>Z.f1 (y▸hc)) e) λx k2 t2 px kB s2=>MK ?_)
 let o2:IsPair k2 TO a b:=bk s2 Z.a8 (bk s1 Z.a2 hO);calc qL (Ye o2 Y (qL (ZS o2 λk3 o3 s3=>?_)));let o3:IsPair k3 TO x b:=o3;calc qL (q0_ (MK (qL (qL (q0q ?_)))));show L _ _ (XB (.ref j) >>= _) _ _ _;let qr:jQ k k3:=D'.frame k _ _ eA λc hc o e=>bk s3 (λy=>Z.g2 (y▸hc)) (bk s2 (λy=>Z.g3 (y▸hc)) (bk s1 (λy=>Z.g1 (y▸hc)) e));let ou:St (k+1) k3:=D.frame _ _ _ kB λc hc o e=>bk s3 (λy=>Z.f2 (y▸hc)) e;calc qL (D'.item k {s with heap:=k3,toks:=t2} _ _ j9 qr λy k4 t4 py Q6 s4=>MK ?_);let o4:IsPair k4 TO x b:=bk s4 Z.a9 o3;refine qL (Ye o4 Y (qL (ZS o4 λk5 o5 s5=>?_)))
 let o5:IsPair k5 TO x y:=o5;calc qL (q0_ (MK (MK (qL (Ye o5 Y (qL (q09 ?_)))))));let sz:k5.objs.size=⇑s:=by rw[s5.1,s4.1,s3.1,s2.1,s1.1]
 let z5:IsZip k5 z TI TO .ellipsis:=bk s5 Z.a2.symm (bk s4 Z.a4.symm (bk s3 Z.a2.symm (bk s2 Z.a3.symm z1)));let kp:∀c o,c≠z->c≠TO->c≠i->c≠j->s.heap.get? c=U o->k5.get? c=U o:=λc o c1 c2 c3 c4 e=>bk s5 c2 (bk s4 c4 (bk s3 c2 (bk s2 c3 (bk s1 c1 e))));let t5:St (k+1) k5:=D.frame _ _ _ ou λc hc o e=>bk s5 (λy=>Z.f2 (y▸hc)) (bk s4 (λy=>Z.f3 (y▸hc)) e);let Q7:jQ (k+1) k5:=D'.frame _ _ _ Q6 λc hc o e=>bk s5 (λy=>Z.g2 (y▸hc)) e;let zl:z<k5.objs.size:=MM z5;show L _ _ (Zf (.ref z) (.ref k5.objs.size) >>= _) _ _ _;calc qL ?_;unfold Zf;refine qL (Yt (show IsZip (k5.push {cls:=.type "tuple",data:=.seq #[x,y]}) z TI TO .ellipsis from u6 _ z5) (by simp) λk7 z7 s7=>?_)
 let z7:IsZip k7 z TI TO (rawInt k5.objs.size):=z7;calc Yt z7 (by simp) λk8 z8 s8=>?_;let z8:IsZip k8 z TI TO (rawInt k5.objs.size):=z8;let up:∀c o,c≠z->k5.get? c=U o->k8.get? c=U o:=λc o c1 e=>bk s8 c1 (bk s7 c1 (u6 _ e));let p8:IsPair k8 k5.objs.size x y:=bk s8 (Yo zl) (bk s7 (Yo zl) (Vt _ Y));rw[sz] at z8 p8;calc MK ⟨_,Y,?_⟩;show Q (.ref k5.objs.size) _;rw[sz];calc hQ x y k8 t4 px py z8 (up _ _ Z.a2 o5) (D.frame _ _ _ t5 λc hc o e=>up c o (λy=>Z.f1 (y▸hc)) e) (D'.frame _ _ _ Q7 λc hc o e=>up c o (λy=>Z.g1 (y▸hc)) e) p8 λc o c1 c2 c3 c4 e=>up c o c1 (kp c o c1 c2 c3 c4 e)
theorem Q8{Q:Fin->B->Prop}(D:Draws prog w A i fp n P St)(D':Draws prog w A j gp m P' jQ)(Z:ZG z TI TO i j fp gp)
  (hz:IsZip s.heap z TI TO .none) (hI:IsPair s.heap TI (.ref i) (.ref j)) (hO:IsPair s.heap TO a b) (st:St k s.heap) (eA:jQ k s.heap) (hk:k=n\/(k<n/\k=m))
  (hE:∀h' e tk,(∀c o,c≠z->c≠TO->c≠i->c≠j->s.heap.get? c=U o->h'.get? c=U o)->(∃o,h'.get? e=U o/\o.cls=.type "StopIteration")->E (.ref e) {s with heap:=h',toks:=tk}) :
  L (G prog w) A (Builtin.«zip.__next__» ⟨[.ref z],[]⟩) Q E s:=by
 show L _ _ (field (.ref z) 2 >>= _) _ _ _;calc qL (XG hz Y (x:=.bool ι) Y ?_);show L _ _ (field (.ref z) 3 >>= _) _ _ _;calc qL (XG hz Y (x:=.ref TI) Y (qL (Ye hI Y ?_)));show L _ _ (XM (.ref z) >>= _) _ _ _;calc qL ?_;unfold XM;calc qL (XG hz Y (x:=.none) Y (MK ?_));erw[ZN];calc qL (q0L (qL (XG hz Y (x:=.ref TO) Y (qL (Yt hz (by simp) λk1 z1 s1=>?_)))));let z1:IsZip k1 z TI TO .ellipsis:=z1;calc qL ?_;erw[q2s,q2L,q0S,q07];calc qL (qL (q0q ?_));show L _ _ (XB (.ref i) >>= _) _ _ _;let lK:St k k1:=D.frame k _ _ st λc hc o e=>bk s1 (λy=>Z.f1 (y▸hc)) e
 rcases hk with rfl|⟨hk,rfl⟩
 .refine qL (D.done {s with heap:=k1} _ _ lK λk2 e s2 he=>?_)
  let⟨oe,ho,hc⟩:=he;let z2:IsZip k2 z TI TO .ellipsis:=s2 _ _ Z.a3.symm z1;let ez:e≠z:=λx=>by subst x;rw[z2] at ho;cases ho;simp at hc
  exact Yt z2 (by simp) λk3 _ s3=>hE k3 e _ (λc o c1 _ c3 _ x=>bk s3 c1 (s2 _ _ c3 (bk s1 c1 x))) ⟨oe,bk s3 ez ho,hc⟩
 .refine qL (D.item k {s with heap:=k1} _ _ hk lK λx k2 t2 px kB s2=>MK ?_)
  let o2:IsPair k2 TO a b:=bk s2 Z.a8 (bk s1 Z.a2 hO);calc qL (Ye o2 Y (qL (ZS o2 λk3 o3 s3=>?_)));calc qL (q0_ (MK (qL (qL (q0q ?_)))));show L _ _ (XB (.ref j) >>= _) _ _ _;let qr:jQ k k3:=D'.frame k _ _ eA λc hc o e=>bk s3 (λy=>Z.g2 (y▸hc)) (bk s2 (λy=>Z.g3 (y▸hc)) (bk s1 (λy=>Z.g1 (y▸hc)) e));calc qL (D'.done {s with heap:=k3,toks:=t2} _ _ qr λk4 e s4 he=>?_);let⟨oe,ho,hc⟩:=he;let z4:IsZip k4 z TI TO .ellipsis:=s4 _ _ Z.a4.symm (bk s3 Z.a2.symm (bk s2 Z.a3.symm z1));let ez:e≠z:=λx=>by subst x;rw[z4] at ho;cases ho;simp at hc
  calc Yt z4 (by simp) λk5 _ s5=>hE k5 e _ (λc o c1 c2 c3 c4 x=>bk s5 c1 (s4 _ _ c4 (bk s3 c2 (bk s2 c3 (bk s1 c1 x))))) ⟨oe,bk s5 ez ho,hc⟩
theorem Q9{Q:Option O->B->Prop}(D:Draws prog w A.in1 i fp n P St)(D':Draws prog w A.in1 j gp m P' jQ)(Z:ZG z TI TO i j fp gp)
  (hz:IsZip s.heap z TI TO .none) (hI:IsPair s.heap TI (.ref i) (.ref j)) (hO:IsPair s.heap TO a b) (st:St k s.heap) (eA:jQ k s.heap) (hk:k<n) (j9:k<m)
  (hQ:∀x y h' tk,P k x->P' k y->IsZip h' z TI TO (rawInt ⇑s)->IsPair h' TO x y->St (k+1) h'->jQ (k+1) h'->IsPair h' ⇑s x y →
   (∀c o,c≠z->c≠TO->c≠i->c≠j->s.heap.get? c=U o->h'.get? c=U o)->Q (U (.ref ⇑s)) {s with heap:=h',toks:=tk}):L (G prog w) A (pyNext (.ref z)) Q E s:=by
 let hT:s.TypeIs (.ref z) "zip" := ⟨_,hz,Y⟩;unfold pyNext;calc qL (q1s (XW (name:=XA "__next__") hT ZU (Yq ZU hT q2t (Q5 D D' Z hz hI hO st eA hk j9 λx y h' tk a1 a2 a3 a4 a5 a6 a7 a8=>MK (hQ x y h' tk a1 a2 a3 a4 a5 a6 a7 a8)) (q2b _))))
theorem Q_{Q:Option O->B->Prop}(D:Draws prog w A.in1 i fp n P St)(D':Draws prog w A.in1 j gp m P' jQ)(Z:ZG z TI TO i j fp gp)
  (hz:IsZip s.heap z TI TO .none) (hI:IsPair s.heap TI (.ref i) (.ref j)) (hO:IsPair s.heap TO a b) (st:St k s.heap) (eA:jQ k s.heap) (hk:k=n\/(k<n/\k=m))
  (hQ:∀h' tk,(∀c o,c≠z->c≠TO->c≠i->c≠j->s.heap.get? c=U o->h'.get? c=U o)->Q η {s with heap:=h',toks:=tk}):L (G prog w) A (pyNext (.ref z)) Q E s:=by
 let hT:s.TypeIs (.ref z) "zip" := ⟨_,hz,Y⟩;unfold pyNext;calc qL (q1s (XW (name:=XA "__next__") hT ZU (Yq ZU hT q2t (Q8 D D' Z hz hI hO st eA hk λh' e tk kp he=>?_) (q2b _))));let⟨o,ho,hc⟩:=he;calc qL (wpAny_isInstance (T:="StopIteration") (b:=true) ⟨o,ho,hc⟩ isSubtype_stop (MK (hQ _ _ kp)))
end
def dS(h:I)(t:Bool)(l:M)(xs:Array O):Prop:=match t with
 |true=>h.IsTuple l xs
 |false=>h.IsList l xs
noncomputable abbrev i0(t:Bool)(l:M)(k:Nat):Q:={cls:=.type (match t with|true=>"tuple_iterator" | false=>"list_iterator"),data:=.fields #[.ref l,.int k 0]}
def fh(h:I)(t:Bool)(it l:M)(k:Nat):Prop:=match t with
 |true=>h.IsTupleIter it l k
 |false=>h.IsListIter it l k
theorem dS.lt{h:I}{t:Bool}{l:M}{xs:Array O}(x:dS h t l xs):l<h.objs.size:=by
 cases t<;>(let⟨o,e,_⟩:=x;calc MM e)
theorem dS.at{h h':I}{t:Bool}{l:M}{xs:Array O}(x:dS h t l xs)(k:∀o,h.get? l=U o->h'.get? l=U o):dS h' t l xs:=by
 cases t with
 |true=>exact Heap.IsTuple.at x k
 |false=>calc Heap.IsList.at x k
theorem fh.at{h h':I}{t:Bool}{i l:M}{n:Nat}(x:fh h t i l n)(k:∀o,h.get? i=U o->h'.get? i=U o):fh h' t i l n:=by
 cases t with
 |true=>exact Heap.IsTupleIter.at x k
 |false=>calc Heap.IsListIter.at x k
theorem fh.obj{h:I}{t:Bool}{i l:M}{n:Nat}(x:fh h t i l n):∃o,h.get? i=U o/\∀v,o.data≠.cell v:=by
 cases t<;>(let⟨o,e,_,d⟩:=x;calc⟨o,e,λv z=>by rw[d] at z;cases z⟩)
theorem fh.new{h:I}{t:Bool}{i l:M}(e:h.get? i=U (i0 t l 0)):fh h t i l 0:=by
 cases t<;>calc⟨_,e,Y,Y⟩
section
variable{prog:l}{w:g}{A:q}{E:bg}{s:B}
theorem wy(hh:A.handled=Z)(t:Bool)(it l:M)(g6:l≠it)(items:Array O):Draws prog w A it [it,l] items.size (λi v=>items[i]?=U v) (λi h=>fh h t it l i/\dS h t l items):=by
 cases t
 .exact Draws.list hh it l g6 items
 .calc zt hh it l g6 items
theorem GS{t:Bool}{l:M}{xs:Array O}{Q:bg}(hl:dS s.heap t l xs)(h:Q (.ref ⇑s) {s with heap:=s.heap.push (i0 t l 0)}):L (G prog w) A (pyIter (.ref l)) Q E s:=by
 cases t
 .exact Yx hl h
 .calc YR hl h
end
noncomputable abbrev wz(h:I)(t:Bool)(l:M):I:=h.push (i0 t l 0)
noncomputable abbrev wA(h:I)(t u:Bool)(l m:M):I:=(wz h t l).push (i0 u m 0)
noncomputable abbrev wB(h:I)(t u:Bool)(l m:M):I:=(wA h t u l m).push {cls:=.type "tuple",data:=.seq #[.ref h.objs.size,.ref (wz h t l).objs.size]}
noncomputable abbrev wC(h:I)(t u:Bool)(l m:M):I:=(wB h t u l m).push {cls:=.type "tuple",data:=.seq #[.none,.none]}
noncomputable abbrev rq(h:I)(t u:Bool)(l m:M):I:=(wC h t u l m).push {cls:=.type "zip",data:=.fields #[.none,.bool ι,.bool ι,.ref (wA h t u l m).objs.size,.ref (wB h t u l m).objs.size]}
theorem Ra(t u:Bool)(l m:M)(xs ys:Array O):
  Meets (Builtin.«zip.__new__» ⟨[.type "zip",.ref l,.ref m],[]⟩) (λ_ R s=>dS s.heap t l xs/\dS s.heap u m ys/\R (.ok (.ret (.ref (wC s.heap t u l m).objs.size))) {s with heap:=rq s.heap t u l m}) :=
 .of_wp λprog w A R s h=>by
  let⟨hp,g,d,tk,os⟩:=s;let⟨h1,h2,h⟩:=h;let zp:=sub_zip;let e1:dS (q2y ⟨hp,g,d,tk,os⟩) t l xs:=h1;let e2:dS (q2y ⟨hp.push (i0 t l 0),g,d,tk,os⟩) u m ys:=dS.at h2 λo e=>u6 _ e
  wp_walk using GS e1,GS e2
  calc⟨_,Y,h⟩
section
variable{prog:l}{w:g}{A:q}{E:bg}{s:B}
theorem Rb{t u:Bool}{l m:M}{xs ys:Array O}{Q:bg}(h1:dS s.heap t l xs)(h2:dS s.heap u m ys)
  (h:∀h',IsZip h' (⇑s+4) (⇑s+2) (⇑s+3) .none->IsPair h' (⇑s+2) (.ref ⇑s) (.ref (⇑s+1)) →
   IsPair h' (⇑s+3) .none .none->fh h' t ⇑s l 0->fh h' u (⇑s+1) m 0->(∀c o,s.heap.get? c=U o->h'.get? c=U o)->Q (.ref (⇑s+4)) {s with heap:=h'}) :
  L (G prog w) A (call (.type "zip") [.ref l,.ref m]) Q E s:=by
 calc callType_new F.called_zip (by decide) (F.typeCall_zip_2 _ _) (F.newCall_zip_2 _ _) (λobj=>F.args_object_init_3 obj _ _) F.entry_zip_new (Ra t u l m xs ys) ⟨h1,h2,?_⟩;let z1:(wz s.heap t l).objs.size=⇑s+1:=Xo ..;let z2:(wA s.heap t u l m).objs.size=⇑s+2:=by rw[Xo,z1]
 let z3:(wB s.heap t u l m).objs.size=⇑s+3:=by rw[Xo,z2]
 let z4:(wC s.heap t u l m).objs.size=⇑s+4:=by rw[Xo,z3]
 let q5:(rq s.heap t u l m).get? (wC s.heap t u l m).objs.size=U _:=Vt _ Y;let q4:(rq s.heap t u l m).get? (wB s.heap t u l m).objs.size=U _:=u6 _ (Vt _ Y);let q3:(rq s.heap t u l m).get? (wA s.heap t u l m).objs.size=U _:=u6 _ (u6 _ (Vt _ Y));let q2:(rq s.heap t u l m).get? (wz s.heap t l).objs.size=U (i0 u m 0):=u6 _ (u6 _ (u6 _ (Vt _ Y)));let q1:(rq s.heap t u l m).get? ⇑s=U (i0 t l 0):=u6 _ (u6 _ (u6 _ (u6 _ (Vt _ Y))));show _/\_;rw[z2,z3,z4] at q5;rw[z1,z2] at q3;rw[z3] at q4;rw[z1] at q2;rw[z4];calc⟨⟨_,q5,Y⟩,h _ q5 q3 q4 (.new q1) (.new q2) λc o x=>u6 _ (u6 _ (u6 _ (u6 _ (u6 _ x))))⟩
end
end PySem
namespace L2
open PySem PySem.Spec PyProof.Rows
def jR(K:El)(H:Hp)(t:Bool)(a:M)(xs:-V):Prop:=match t with
 |true=>bO K H a xs
 |false=>bE K H a xs
section
variable{X:Cx}{pins:aC}{σ:St}{H:Hp}{s:B}
theorem Inv.sq{t:Bool}{a:M}{xs:-V}(I:Inv X pins σ H s)(h:jR X.K H t a xs):∃au:-O,Vals xs au/\dS s.heap t a au.toArray:=by
 cases t
 .let⟨au,r,p,_⟩:=I.list h;exact⟨au,r,p.isList⟩
 .let⟨au,r,⟨o,o1,o2,n,o3⟩,_⟩:=I.tuple h;calc⟨au,r,o,o1,o2,n,o3⟩
theorem Inv.lz{t:Bool}{a:M}{xs ys:-V}(I:Inv X pins σ H s)(h:jR X.K H t a xs)(h':jR X.K H t a ys):xs=ys:=by
 cases t
 .exact I.fD h h'
 .calc I.eJ h h'
end
noncomputable def uo(K:El)(t u:Bool)(a b:M):It :=
 ⟨λi H=>∃xs ys x y,jR K H t a xs/\jR K H u b ys/\xs[i]?=U x/\ys[i]?=U y,
  λi H v H'=>∃T x y,v=.ref T/\H T=Z/\H'=upd H T (.tup [x,y])/\(∀xs,jR K H t a xs->xs[i]?=U x)/\∀ys,jR K H u b ys->ys[i]?=U y,
  λi H=>∃xs ys,jR K H t a xs/\jR K H u b ys/\((↑xs=i)\/(i<↑xs/\↑ys=i))⟩
structure BE(t u:Bool)(z TI TO i1 i2 l1 l2:M)(i:Nat)(h:I):Prop where
 hz:IsZip h z TI TO .none
 kn:IsPair h TI (.ref i1) (.ref i2)
 lA:∃x y,IsPair h TO x y
 h1:fh h t i1 l1 i
 h2:fh h u i2 l2 i
theorem Rc{P:l}{w:g}{K:El}{elts:-J}{x1}{tp:Ε}{t u:Bool}{z TI TO i1 i2 l1 l2:M}(D:ZG z TI TO i1 i2 [i1,l1] [i2,l2])(n1:l1≠i1)(n2:l2≠i2):
  Turn P w K (.Tuple elts x1 tp) (uo K t u l1 l2) [z,TI,TO,i1,i2] z (BE t u z TI TO i1 i2 l1 l2) where
 mem:=by simp
 obj:=λi h st b hb=>by
  let⟨hz,kn,⟨x,y,lA⟩,g1,g2⟩:=st;erw[MN,WD,Yf] at hb;rcases hb with rfl|rfl|rfl|rfl|rfl
  .exact⟨_,hz,λv z=>by cases z⟩
  .exact⟨_,kn,λv z=>by cases z⟩
  .exact⟨_,lA,λv z=>by cases z⟩
  .exact g1.obj
  .exact g2.obj
 keep:=λi h h' st k=>by
  let⟨hz,kn,⟨x,y,lA⟩,g1,g2⟩:=st;exact⟨k z (by simp) _ hz,k TI (by simp) _ kn,⟨x,y,k TO (by simp) _ lA⟩,g1.at λo q=>k i1 (by simp) o q,g2.at λo q=>k i2 (by simp) o q⟩
 item:=by
  ext X hP hw hK hc i pins s σ H E I hf st hg;subst hP hw hK;let⟨hz,kn,⟨a,b,lA⟩,g1,g2⟩:=id st;let⟨xs,ys,x,y,rz,rA,hx,hy⟩:=hg;let⟨au,rv,p⟩:=I.sq rz;let⟨bz,uq,p2⟩:=I.sq rA;let hh:X.A.in1.handled=Z:=by rw[Yc];exact I.ok.hd hc
  let lx:=(sG.mp hx).1;let ly:=(sG.mp hy).1;calc Q9 (wy hh t i1 l1 n1 au.toArray) (wy hh u i2 l2 n2 bz.toArray) D hz kn lA ⟨g1,p⟩ ⟨g2,p2⟩ (by rw[yA,<-↑rv];calc lx) (by rw[yA,<-↑uq];calc ly) λcu cv k1 tk pu pv z1 t1 a1 a2 Rf wD=>⟨_,Y,?_⟩;let⟨u',hu,ru⟩:=rv.get hx;let⟨v',hv,Rg⟩:=uq.get hy;let pu:au[i]?=U cu:=by simpa using pu
  let pv:bz[i]?=U cv:=by simpa using pv
  rw[hu] at pu;rw[hv] at pv;obtain rfl:=WJ pu;obtain rfl:=WJ pv;calc wpAny_letOwnedTupleGo_zip z1 λk2 z2 d6=>?_;let Rh:⇑s≠z:=Yo (MM hz);let Ri:IsPair k2 ⇑s u' v':=(d6.2 _ Rh).trans Rf
  let Rj:∀b o,b∉[z,TI,TO,i1,i2]->s.heap.get? b=U o->k2.get? b=U o:=λb o hb q=>by
   erw[MN,WD,Yf,not_or] at hb;exact(d6.2 _ hb.1).trans (wD b o hb.1 hb.2.2.1 hb.2.2.2.1 hb.2.2.2.2 q)
  let hn:H ⇑s=Z:=I.aX.fresh (Ek _);refine⟨.ref ⇑s,upd H ⇑s (.tup [x,y]),I.fF (ch:=[z,TI,TO,i1,i2]) (t':=tk) hf Rj (Ek _) ?_,Y,⟨_,x,y,Y,hn,Y,λzs hy=>by rw[I.lz hy rz];calc hx,λzs oG=>by rw[I.lz oG rA];calc hy⟩,⟨z2,?_,⟨u',v',(d6.2 _ D.a2).trans t1⟩,a1.1.at λo q=>(d6.2 _ D.a3).trans q,a2.1.at λo q=>(d6.2 _ D.a4).trans q⟩,λb hb=>?_⟩
  .exact⟨by show 2<=sizeLine;decide,[u',v'],.cons ru (.cons Rg .nil),_,Ri,Y,_,Y⟩
  .exact (d6.2 _ D.a1).trans (wD TI _ D.a1 D.a5 D.a6 D.a7 kn)
  .let:b<⇑s:=by
    let⟨o1,q1,_⟩:=g1.obj;let⟨o2,q2,_⟩:=g2.obj;erw[MN,WD,Yf] at hb;rcases hb with rfl|rfl|rfl|rfl|rfl
    .exact MM hz
    .exact MM kn
    .exact MM lA
    .exact MM q1
    .exact MM q2
   rw[aZ (Wv this)];exact(hf b hb).1
 done:=by
  ext X hP hw hK hc i pins s σ H E I hf st hg;subst hP hw hK;let⟨hz,kn,⟨a,b,lA⟩,g1,g2⟩:=id st;let⟨xs,ys,rz,rA,hx⟩:=hg;let⟨au,rv,p⟩:=I.sq rz;let⟨bz,uq,p2⟩:=I.sq rA;let hh:X.A.in1.handled=Z:=by rw[Yc];exact I.ok.hd hc
  let hl:=↑rv;let qK:=↑uq;refine Q_ (wy hh t i1 l1 n1 au.toArray) (wy hh u i2 l2 n2 bz.toArray) D hz kn lA ⟨g1,p⟩ ⟨g2,p2⟩ ?_ λk1 tk wD=>⟨Y,I.jz (t':=tk) (ch:=[z,TI,TO,i1,i2]) hf λb o hb q=>?_⟩
  .rw[yA,yA];symm
  .erw[MN,WD,Yf,not_or] at hb
   exact wD b o hb.1 hb.2.2.1 hb.2.2.2.1 hb.2.2.2.2 q
 self:=λA i s Q E st h=>q2u st.hz h
theorem Rk(n l1 l2:Nat)(q1:l1<n)(q2:l2<n):ZG (n+4) (n+2) (n+3) n (n+1) [n,l1] [n+1,l2]:=by
 constructor<;>first|(show @Ne Nat _ _;symm)|(ext h;erw[MN,WD,Yf] at h;rcases h with h|h<;>(let h:(_:Nat)=_:=h;symm))
section
variable{X:Cx}{elts:-J}{x1:Nat}{tp:y}
def Rl(K:El)(ta:TA):TI:=fun σ H R=>ta σ H λvs H1=>∃a b t u,vs=[.ref a,.ref b]/\(∃xs,jR K H1 t a xs)/\(∃ys,jR K H1 u b ys)/\R (uo K t u a b) H1
theorem Rm{a b:J}{ta:TA}{p pos:y}(hg:Gl X "zip")(hm:X.mg "zip" = Z)(ha:JA X [a,b] ta)(hs:‹starEach [a,b] X.env=[(ι,eval a X.env),(ι,eval b X.env)]›)(d6:‹starEach [b] X.env=[(ι,eval b X.env)]›):
  JI X (.Tuple elts x1 tp) (.Call (.Name "zip" p) [a,b] [] pos) (Rl X.K ta):=by
 calc⟨λpins s σ H R I h=>?_⟩;calc Call_ (mf I hg hm M9 (Xv (br (ha pos pins s σ H _ I h) λus s1 ⟨vs,H1,I1,r1,q1⟩=>?_) (by rw[hs,d6]) (by rw[d6];rfl)));let⟨l1,l2,t,u,e,⟨xs,rz⟩,⟨ys,rA⟩,q⟩:=q1;subst e
 cases r1 with
 |cons r rr =>
  cases rr with
  |cons r' Rn =>
   cases Rn
   cases r
   cases r'
   let⟨au,rv,p⟩:=I1.sq rz;let⟨bz,uq,p2⟩:=I1.sq rA;let b1:l1<⇑s1:=p.lt;let b2:l2<⇑s1:=p2.lt;calc Rb p p2 λh' hz kn lA sR ni hk=>?_;let I2:Inv X pins σ H1 {s1 with heap:=h'}:=I1.kept (t':=s1.toks) hk;let D:=Rk ⇑s1 l1 l2 b1 b2;calc q2u hz ?_;refine⟨_,_,_,_,H1,Y,I2,Rc D (Wv b1) (Wv (XD b2)),⟨hz,kn,⟨_,_,lA⟩,sR,ni⟩,λb hb=>?_,q⟩
   let hb':⇑s1<=b:=by
    erw[MN,WD,Yf] at hb;rcases hb with rfl|rfl|rfl|rfl|rfl
    .exact YH _ _
    .exact YH _ _
    .exact YH _ _
    .exact Ek _
    .exact YH _ _
   calc I1.gE hb' (I1.aX.fresh hb')
end
section
variable[aS]{X:Cx}{a b:J}{fa:WA}
def wF(fa:WA):WI:=fun δ K=>fa δ λxs δ1=>match xs with
 |[x,y]=>mW x δ1 λi=>mW y δ1 λj=>K ⟨cN i.items j.items,fun δ'=>i.bJ δ'/\j.bJ δ'⟩ δ1
 |_=>False
theorem GU{F H:Hp}{ad:-M}{δ:aH}{σ:St}{x:DV}{v:V}{K0:El}{K:mP->Prop}(S:SR F ad δ σ H)(hv:dB F ad x v)(h:mW x δ K):∃a it t,v=.ref a/\K it/\(∃xs,jR K0 H t a xs) ∧
  ∀(F':Hp)(aG:-M)(δ':aH)(σ':St)(H':Hp),aL F F'->(∀(k:Nat)(a:M),ad[k]?=U a->aG[k]?=U a)->SR F' aG δ' σ' H'->it.bJ δ'->∃ws,jR K0 H' t a ws/\ah F' it.items ws:=by
 let⟨a,it,e,hk,r⟩:=zy S hv h;rcases r with⟨⟨vs,e1⟩,r⟩|⟨⟨vs,e1⟩,r⟩
 .exact⟨a,it,ι,e,hk,⟨vs,bE.of e1⟩,λF' aG δ' σ' H' s pre S' ck=>let⟨ws,q1,q2⟩:=r F' aG δ' σ' H' s pre S' ck;⟨ws,bE.of q1,q2⟩⟩
 .calc⟨a,it,θ,e,hk,⟨vs,bO.of e1⟩,λF' aG δ' σ' H' s pre S' ck=>let⟨ws,q1,q2⟩:=r F' aG δ' σ' H' s pre S' ck;⟨ws,bO.of q1,q2⟩⟩
theorem Ro{elts:-J}{x1:Nat}{tp p pos:Ε}(hg:Gl X "zip")(hm:X.mg "zip" = Z)(ha:JA X [a,b] (b8 fa))(hs:‹starEach [a,b] X.env=[(ι,eval a X.env),(ι,eval b X.env)]›)(d6:‹starEach [b] X.env=[(ι,eval b X.env)]›):
  JI X (.Tuple elts x1 tp) (.Call (.Name "zip" p) [a,b] [] pos) (jg (wF fa)):=(Rm hg hm ha hs d6).weak fun σ H R ⟨F,ad,δ,K,S,q,k⟩=>⟨F,ad,δ,_,S,q,λxs δ1 h1 vs F1 aV H1 E1 S1 V1=>by
 match xs,h1,V1 with
 |[x,y],g1,⟨v,r,e,W1,w,r2,e2,W2,W3⟩ =>
  subst e;subst e2;let W4:r2=[]:=W3;subst W4;let⟨a,it,t,rfl,Rq,Rr,r⟩:=GU (K0:=X.K) S1 W1 g1;let⟨b,jt,u,rfl,hk,d6,r'⟩:=GU (K0:=X.K) S1 W2 Rq;calc⟨a,b,t,u,Y,Rr,d6,k _ _ hk _ _ _ _ E1 S1 λF' aG δ' σ' H' s pre S' ck=>?_⟩;let⟨ws,e1,e2⟩:=r F' aG δ' σ' H' s pre S' ck.1;let⟨zs,e3,e4⟩:=r' F' aG δ' σ' H' s pre S' ck.2;refine⟨⟨ws,zs,e1,e3,?_⟩,λi d ed=>?_⟩
  .rw[↑e2,↑e4,vI];symm
  .let⟨d1,d2,Rt,Ru,rfl⟩:=Fh ed
   let⟨w1,f1,g1⟩:=m8 e2 Rt;let⟨w2,f2,g2⟩:=m8 e4 Ru;calc⟨⟨ws,zs,w1,w2,e1,e3,f1,f2⟩,?_⟩;ext y j4 ⟨T,v1,v2,ey,hT,eh,Rv,Rw⟩;subst eh ey;let q1:=Rv ws e1;let q2:=Rw zs e3;rw[f1] at q1;cases q1;rw[f2] at q2;cases q2;exact⟨de hT,zz S'.sub hT g1 g2⟩
 |[],h1,_=>exact h1.elim
 |[_],h1,_=>exact h1.elim
 |_::_::_::_,h1,_=>calc h1.elim⟩
end
end L2
namespace LJ
open PySem L2
variable[aS]
theorem GV{ds:-D}{t:Nat}(h:t<=↑ds):cutD ds (U (t:Int)) Z=ds.drop t:=by
 unfold cutD;rw[HT.sA ↑ds 0 t,HT.yb,q2M h,Xa (by rw[Ya];symm)]
theorem GW{ds:-D}{t:Nat}(h:t<=↑ds):cutD ds Z (U (t:Int))=ds.take t:=by
 unfold cutD;rw[HT.yb,HT.sA ↑ds ↑ds t,q2M h,q0b,q16]
theorem BF(y:Wy):cutD [D.int y.1,D.int y.2.1,D.int y.2.2] Z (U 2)=[D.int y.1,D.int y.2.1]:=rfl
theorem BG(ws:-Wy):bq (ws.map aN)<=55:=by
 let:∀ws:-Wy,bq (ws.map aN)<=2:=λws=>by
  induction ws with
  |nil=>simp[bq]
  |cons n r ih=>erw[Wx,bq,dep,aN];symm
 let:=this ws;symm
end LJ
namespace L2
open PySem PySem.Spec PyProof.Rows
variable[aS]
inductive RK where
 |p (d:D)|w (a:M)|n (ds:-D)
abbrev GK:=-DV->-OV->(RK->-OV->-OV->Prop)->Prop
def ur(F' H H':Hp)(aG:-M)(cL:-(Option OV))(v:V):RK->Prop
 |.p d=>Is F' d v
 |.w a=>v=.ref a
 |.n ds=>∃b us,v=.ref b/\H b=Z/\H' b=U (.lst us)/\F' b=Z/\ah F' ds us/\¬ Lv aG cL b
structure GX(F:Hp)(ad:-M)(av:-OV)(H:Hp)(r:RK)(ows news:-OV)(v:V)(F':Hp)(aG:-M)(H':Hp):Prop where
 ext:Ext F ad (av.map U) H F' aG ((ows++news).map U) H'
 sr:SR F' aG ⟨[],(ows++news).map U⟩ [] H'
 len:↑ows=↑av
 res:ur F' H H' aG ((ows++news).map U) v r
inductive kq (G:GK) (n:Nat) (vs:-V) (H:Hp) (Q:VK) (_:XK):Prop
 |mk (hl:↑vs=n) (F:Hp) (ad:-M) (ys:-DV) (av:-OV) (K:RK->-OV->-OV->Prop) (S:SR F ad ⟨ys.map U,av.map U⟩ (vs.map U) H) (g:G ys av K) (k:∀r ows news,K r ows news->∀v F' aG H',GX F ad av H r ows news v F' aG H'->Q v H')
def n8(n:Nat)(K:RK->-OV->-OV->Prop)(x:DV)(δ:aH):Prop:=∃ows news gs,δ.mu=(ows++news).map U++gs/\↑ows=n/\match x with
 |.p d=>K (.p d) ows news
 |.w a=>K (.w a) ows news
 |.o k=>↑(ows++news)<=k/\match δ.mu[k]? with
  |some (some (.lst ds))=>K (.n ds) ows news
  |_=>False
 |.t _ _=>False
noncomputable def aj(n:Nat)(K:RK->-OV->-OV->Prop):KS where
 nx:=n8 n K (.p .non)
 rt:=n8 n K
section
variable{F F' H H':Hp}{ad aG:-M}{σ σ':St}{δ:aH}{mu cL:-(Option OV)}
theorem rB{α:Type}{l:-α}{n k:Nat}{a:α}(e:(l.take n)[k]?=U a):k<n/\l[k]?=U a:=by
 let hk:k<n:=by
  let:=(sG.mp e).1;rw[WM] at this;symm
 rw[WV hk] at e;calc⟨hk,e⟩
theorem SR.cut(m:Nat)(S:SR F ad δ σ H):SR F (ad.take m) ⟨[],δ.mu.take m⟩ [] H:=by
 refine⟨S.sub,λa x=>S.off a x.take,?_,λk l a w w' e1 e2 e3 e4=>S.inj k l a w w' (rB e1).2 (rB e2).2 (rB e3).2 (rB e4).2,λk ov e=>?_,λi x e=>by simp at e,Y,S.tab,S.nt⟩
 .show ↑(ad.take _)=↑(δ.mu.take _)
  rw[WM,WM,S.cf]
 .let⟨e1,e2⟩:=rB e
  let⟨a,o,e3,h⟩:=S.mu k ov e2;calc⟨a,o,by rw[WV e1];calc e3,h⟩
theorem Ext.cut{m:Nat}(e:Ext F ad mu H F' aG cL H')(hm:↑ad<=m):Ext F ad mu H F' (aG.take m) (cL.take m) H' :=
 ⟨e.same,e.new,e.keep,λk a h=>by rw[WV (Wr (sG.mp h).1 hm)];calc e.pre k a h,λa x=>e.cb a x.take,e.hX⟩
theorem GY{av:-OV}{x:DV}{v:V}{K:RK->-OV->-OV->Prop}{Q:VK}{sl:-(Option DV)}{τ:St}(S0:SR F ad ⟨sl,av.map U⟩ τ H)(E:Ext F ad (av.map U) H F' aG δ.mu H')(S:SR F' aG δ σ' H')(V:dB F' aG x v)
  (h:n8 ↑av K x δ) (k:∀r ows news,K r ows news->∀v F' aG H',GX F ad av H r ows news v F' aG H'->Q v H'):Q v H':=by
 let⟨ows,news,gs,em,hl,h⟩:=h;let al:↑ad=↑av:=by let:=S0.cf;rwa [pN] at this
 let tk:δ.mu.take ↑(ows++news)=(ows++news).map U:=by rw[em,List.take_left' (by rw[pN])]
 let E2:=E.cut (m:=↑(ows++news)) (by rw[al,MJ];symm);let S2:=S.cut ↑(ows++news);rw[tk] at E2 S2
 cases x with
 |p d=>exact k _ _ _ h _ _ _ _ ⟨E2,S2,hl,V⟩
 |w a=>exact k _ _ _ h _ _ _ _ ⟨E2,S2,hl,V⟩
 |t _ _=>exact h.elim
 |o i =>
  let⟨hi,h⟩:=h;split at h
  .rename_i ds ei
   let⟨a,e1,rfl⟩:=V;let⟨a',o,e2,e3,vs,rfl,h4⟩:=S.mu i _ ei;rw[e1] at e2;cases e2;refine k _ _ _ h _ _ _ _ ⟨E2,S2,hl,a,vs,Y,?_,e3,S.off a ⟨i,_,e1,ei⟩,h4,λ⟨j,ov,z1,z2⟩=>?_⟩
   .rcases E.cb a ⟨i,_,e1,ei⟩ with⟨j,ov,z,_⟩|z
    .let hj:j<↑ows:=by rw[hl,<-al];exact(sG.mp z).1
     let mj:δ.mu[j]?=U (U ows[j]):=by
      rw[em,ML (by rw[pN,MJ];symm),My,ML hj,pM hj];rfl
     let:=S.inj i j a _ _ e1 (E.pre j a z) ei mj;rw[MJ] at hi;symm
    .exact z
   .have ⟨hj,z1⟩:=rB z1
    let mj:δ.mu[j]?=U (U ov):=by
     rw[em,ML (by rw[pN];calc hj)];exact z2
    let:=S.inj i j a _ _ e1 z1 ei mj;symm
  .calc h.elim
end
theorem fS.BH{P:l}{w:ω}{K:El}{mg:R->Option O}{base:I}{x qual:R}{st:o}{f:M}{fd:FuncData}{N ps:-R}{k:Nat}{G:GK}(F:fS K x qual st f fd)(S:mx N ps (cn st))
  (d_:∀(bc:O)(A:q)(outer:-t)(s:ο)(H:Hp)(E:XK),aY k (A.deeper (envOfC qual (cn st) ⇑s f bc)) →
   ∃B:WS,dM (eK eM P w K mg base N qual (cn st) f bc A outer s H E).jY (fE st) (dZ B)/\∀ys av K',↑ys=↑ps->G ys av K'->B (aj ↑av K') ⟨ys.map U++Vv (↑N-↑ps) Z,av.map U⟩) :
  bW P w K mg base eM (k+1) f fd ps (kq G ↑ps) :=
 F.u7 S (λvs H Q E h=>h.1) λbc A outer s H vs Q E hr h=>by
  let⟨hl,Fz,ad,ys,av,K',S0,g,kk⟩:=h;let⟨B,jb,hb⟩:=d_ bc A outer s H E hr
  let hy:↑ys=↑ps:=by
   let:=S0.len;rw[pN] at this;rw[<-hl,this];rw[pN]
  refine⟨_,jb,Fz,ad,⟨ys.map U++Vv (↑N-↑ps) Z,av.map U⟩,aj ↑av K',by rw[<-hl];calc S0.start,hb ys av K' hy g,⟨fun δ' h F' aG σ' H' E' S'=>?_,fun δ' h=>h.elim,fun δ' h=>h.elim,λy δ' h v F' aG σ' H' E' S' V=>?_,trivial⟩⟩
  .exact GY (σ':=σ') S0 E' S' (x:=.p .non) (v:=.non) Y h kk
  .calc GY (σ':=σ') S0 E' S' V h kk
def wG(mu:-(Option OV)):-(Nat×OV)->Prop
 |[]=>True
 |(k,ov)::r=>mu[k]?=U (U ov)/\wG mu r
theorem GZ{mu:-(Option OV)}:∀{es:-(Nat×OV)},wG mu es->∀ko∈es,mu[ko.1]?=U (U ko.2)
 |(k,ov)::r,h,ko,hk=>by
  rcases MN.mp hk with rfl|hk
  .exact h.1
  .calc GZ h.2 ko hk
section
variable{F F' H H':Hp}{ad aG:-M}{δ:aH}{σ σ':St}
theorem Rx{xs:-DV}{vs:-V}{r:-DV×-(Nat×OV)}{es:-(Nat×OV)}{G:GK}{n:Nat}{Q:VK}{E:XK}{K:RK->-OV->-OV->Prop}(S:SR F ad δ σ H)(V:cX F ad xs vs)(hn:↑vs=n)(hp:passes δ.mu xs 0=U r)(he:wG δ.mu es)(nd:jH (r.2++es)=θ)(g:G r.1 ((r.2++es).map (·.2)) K)
  (fin:∀res ows news v F' aG H',K res ows news->Ext F ad δ.mu H F' aG (cV δ.mu (r.2++es) ows++news.map U) H'->SR F' aG ⟨δ.sl,cV δ.mu (r.2++es) ows++news.map U⟩ σ H'->ur F' H H' aG (cV δ.mu (r.2++es) ows++news.map U) v res->Q v H'):kq G n vs H Q E:=by
 let⟨Ry,wH,b0,c⟩:=qU S.mu hp V;let⟨_,c1,c2⟩:=c [] Y;let⟨BI,G0⟩:∃BI:-M,BI=es.map λko=>(ad[ko.1]?).getD 0:=⟨_,Y⟩;let⟨as,has⟩:∃as,as=Ry++BI:=⟨_,Y⟩;let⟨bH,qt⟩:∃bH,bH=r.2++es:=⟨_,Y⟩;rw[<-qt] at nd g fin
 let b:∀(i:Nat)(ko:Nat×OV),bH[i]?=U ko->δ.mu[ko.1]?=U (U ko.2)/\∃a o,as[i]?=U a/\ad[ko.1]?=U a/\H a=U o/\eC F a ko.2 o:=λi ko e=>by
  rw[qt] at e
  by_cases hi:i<↑r.2
  .rw[ML hi] at e
   let⟨z1,a,o,z2,z3⟩:=b0 i ko e;exact⟨z1,a,o,by rw[has,ML (by rw[wH];calc hi)];calc z2,z3⟩
  .let hi:↑r.2<=i:=by symm
   rw[Vs hi] at e;let m:=GZ he ko (WR e);let⟨a,o,z1,z2⟩:=S.mu _ _ m;calc⟨m,a,o,?_,z1,z2⟩;rw[has,Vs (by rw[wH];calc hi),wH,G0,My,e];show U ((ad[ko.1]?).getD 0)=U a;rw[z1];rfl
 let al:↑as=↑bH:=by rw[has,qt,MJ,MJ,wH,G0,pN]
 let ji:∀(i:Nat)(a:M),as[i]?=U a->Lv ad δ.mu a/\∃ko,bH[i]?=U ko/\ad[ko.1]?=U a/\δ.mu[ko.1]?=U (U ko.2):=λi a e=>by
  let hi:i<↑bH:=by rw[<-al];exact(sG.mp e).1
  let⟨m1,a',o,e1,e2,_,_⟩:=b i _ (pM hi);rw[e] at e1;cases e1;exact⟨⟨_,_,e2,m1⟩,_,pM hi,e2,m1⟩
 let Rz:∀(i:Nat)(ov:OV),((bH.map (·.2)).map U)[i]?=U (U ov)->∃ko,bH[i]?=U ko/\ko.2=ov:=λi ov e=>by
  let e:=tJ e;rw[My] at e;let⟨ko,e1,e2⟩:=Ws.mp e;exact⟨ko,e1,e2⟩
 refine⟨hn,F,as,r.1,bH.map (·.2),K,⟨S.sub,λa ⟨i,ov,e1,e2⟩↦S.off a (ji i a e1).1,by rw[al];rw[pN,pN],λi j a ov ow e1 e2 _ _=>?_,λi ov e=>?_,λi y e=>?_,?_,S.tab,S.nt⟩,g,λres ows news hk v F' aG H' P=>?_⟩
 .let⟨_,ko,k1,k2,k3⟩:=ji i a e1
  let⟨_,kp,p1,p2,p3⟩:=ji j a e2;let:ko.1=kp.1:=S.inj _ _ a _ _ k2 p2 k3 p3;exact zj nd i j ko.1 ko.2 kp.2 k1 (by rw[this];calc p1)
 .let⟨ko,e1,rfl⟩:=Rz i ov e
  let⟨_,a,o,e2,_,e4,e5⟩:=b i ko e1;exact⟨a,o,e2,e4,e5⟩
 .let⟨v,e1,e2⟩:=c2 i y (tJ e)
  calc⟨v,tK e1,?_⟩;rw[YU] at e2;exact e2.pre λk a h _=>by rw[has,ML (sG.mp h).1];exact h
 .show ↑(vs.map U)=↑(r.1.map U)
  rw[pN,pN,c1]
 .let X:=P.ext
  let T:=P.sr;let ol:↑ows=↑bH:=by rw[P.len,pN]
  let cf:↑aG=↑bH+↑news:=by
   let:=T.cf;rw[this];show↑((ows++news).map U)=_;rw[pN,MJ,ol]
  let tO:∀a,Lv as ((bH.map (·.2)).map U) a->Lv ad δ.mu a:=λa ⟨i,_,e,_⟩↦(ji i a e).1
  let VR:∀(i:Nat)(a:M),as[i]?=U a->Lv as ((bH.map (·.2)).map U) a:=λi a e=>by
   let⟨_,ko,k1,_⟩:=ji i a e;exact⟨i,ko.2,e,tK (by rw[My,k1];rfl)⟩
  let pre:∀(i:Nat)(a:M),as[i]?=U a->aG[i]?=U a:=X.pre;let mo:∀(i:Nat)(ow:OV),ows[i]?=U ow->((ows++news).map U)[i]?=U (U ow):=λi ow e=>tK (by rw[ML (sG.mp e).1];calc e);let mn:∀(j:Nat)(w:OV),news[j]?=U w->((ows++news).map U)[↑bH+j]?=U (U w):=λj w e=>tK (by rw[Vs ⋯,ol,q0z];calc e);let n9:↑(cV δ.mu bH ows)=↑ad:=by rw[zk,S.cf]
  let ju:∀(l:Nat)(ow:OV),(cV δ.mu bH ows++news.map U)[l]?=U (U ow)->(∃(i:Nat)(ko:Nat×OV),l<↑ad/\bH[i]?=U ko/\ko.1=l/\ows[i]?=U ow)\/(l<↑ad/\(∀ko∈bH,ko.1≠l)/\δ.mu[l]?=U (U ow))\/(↑ad<=l/\news[l-↑ad]?=U ow):=λl ow e=>by
   by_cases hl:l<↑ad
   .rw[ML (by rw[n9];calc hl)] at e
    by_cases z:∃ko∈bH,ko.1=l
    .let⟨ko,hk,rfl⟩:=z
     let⟨i,hi⟩:=Wt.mp hk;let lP:i<↑ows:=by rw[ol];exact(sG.mp hi).1
     let:=zm (mu:=δ.mu) nd hi (pM lP) (sG.mp (b i ko hi).1).1;rw[e] at this;cases this
     exact .inl ⟨i,ko,hl,hi,Y,pM lP⟩
    .let z':∀ko∈bH,ko.1≠l:=λko hk q=>z ⟨ko,hk,q⟩
     rw[tN _ _ _ _ z'] at e;exact .inr (.inl ⟨hl,z',e⟩)
   .rw[Vs (by rw[n9];symm),n9] at e
    exact .inr (.inr ⟨⋯,tJ e⟩)
  let gn:∀(l:Nat)(a:M),↑ad<=l->(ad++aG.drop ↑bH)[l]?=U a->aG[↑bH+(l-↑ad)]?=U a:=λl a hl e=>by
   rw[Vs hl,q1I] at e;exact e
  let go:∀(l:Nat)(a:M),l<↑ad->(ad++aG.drop ↑bH)[l]?=U a->ad[l]?=U a:=λl a hl e=>by
   rw[ML hl] at e;exact e
  let mV:∀(l:Nat)(ow:OV)(a:M),(ad++aG.drop ↑bH)[l]?=U a->(cV δ.mu bH ows++news.map U)[l]?=U (U ow)->(Lv ad δ.mu a/\l<↑ad/\ad[l]?=U a/\∃w,δ.mu[l]?=U (U w))\/(↑ad<=l/\aG[↑bH+(l-↑ad)]?=U a/\((ows++news).map U)[↑bH+(l-↑ad)]?=U (U ow)):=λl ow a e1 e2=>by
   rcases ju l ow e2 with⟨i,ko,hl,hi,rfl,_⟩|⟨hl,_,q⟩|⟨hl,q⟩
   .exact .inl ⟨⟨_,_,go _ _ hl e1,(b i ko hi).1⟩,hl,go _ _ hl e1,_,(b i ko hi).1⟩
   .exact .inl ⟨⟨_,_,go _ _ hl e1,q⟩,hl,go _ _ hl e1,_,q⟩
   .exact .inr ⟨hl,gn l a hl e1,mn _ _ q⟩
  let alive:∀a,Lv ad δ.mu a->∃o,H a=U o/\a∉aS.ad:=λa ⟨k,ov,e1,e2⟩=>by
   let⟨a',o,e3,e4,h⟩:=S.mu k ov e2;rw[e1] at e3;cases e3;calc⟨o,e4,λt=>?_⟩;let⟨ps,q⟩:=aS.tb S.tab t;rw[e4] at q;exact h.kind ps (WJ q)
  let pZ:∀a,Lv ad δ.mu a->F' a=Z:=λa l=>by
   cases q:F' a with
   |none=>rfl
   |some u =>
    rcases X.new a u q with y|y|⟨i,ov,y,_⟩
    .rw[S.off a l] at y;cases y
    .let⟨o,z,_⟩:=alive a l
     rw[y] at z;cases z
    .let⟨_,ko,k1,_⟩:=ji i a y
     let hi:i<↑ows:=by rw[ol];exact(sG.mp k1).1
     rw[T.off a ⟨i,ows[i],pre i a y,mo i _ (pM hi)⟩] at q;cases q
  let G1:∀(j:Nat)(a:M)(w:OV),aG[↑bH+j]?=U a->((ows++news).map U)[↑bH+j]?=U (U w)->¬ Lv ad δ.mu a:=λj a w e1 e2 l=>by
   rcases X.cb a ⟨_,w,e1,e2⟩ with⟨i,ov,y,_⟩|y
   .let hi:i<↑ows:=by rw[ol,<-al];exact(sG.mp y).1
    let:=T.inj _ _ a _ _ e1 (pre i a y) e2 (mo i _ (pM hi));symm
   .let⟨o,z,_⟩:=alive a l
    rw[y] at z;cases z
  let ex:Ext F ad δ.mu H F' (ad++aG.drop ↑bH) (cV δ.mu bH ows++news.map U) H':=by
   refine⟨X.same,λa o e=>?_,λa o e n t=>X.keep a o e (λz=>n (tO a z)) t,λk a e=>by rw[ML (sG.mp e).1];calc e,λa ⟨l,ow,e1,e2⟩=>?_,X.hX⟩
   .rcases X.new a o e with z|z|z
    .exact .inl z
    .exact .inr (.inl z)
    .exact .inr (.inr (tO a z))
   .rcases mV l ow a e1 e2 with⟨z,_⟩|⟨_,z1,z2⟩
    .exact .inl z
    .rcases X.cb a ⟨_,_,z1,z2⟩ with z|z
     .exact .inl (tO a z)
     .exact .inr z
  let sr:SR F' (ad++aG.drop ↑bH) ⟨δ.sl,cV δ.mu bH ows++news.map U⟩ σ H':=by
   refine⟨T.sub,λa ⟨l,ow,e1,e2⟩=>?_,?_,λk l a ov ow e1 e2 e3 e4=>?_,λl ow e=>?_,λi y e=>?_,S.len,T.tab,T.nt⟩
   .rcases mV l ow a e1 e2 with⟨z,_⟩|⟨_,z1,z2⟩
    .exact pZ a z
    .exact T.off a ⟨_,_,z1,z2⟩
   .show ↑(ad++aG.drop ↑bH)=↑(cV δ.mu bH ows++news.map U)
    rw[MJ,MJ,n9,Ya,cf,pN,q0z]
   .rcases mV k ov a e1 e3 with⟨z,_,y1,w1,y2⟩|⟨j9,z1,z2⟩
    .rcases mV l ow a e2 e4 with⟨_,_,y3,w2,y4⟩|⟨_,z1,z2⟩
     .exact S.inj k l a _ _ y1 y3 y2 y4
     .exact (G1 _ _ _ z1 z2 z).elim
    .rcases mV l ow a e2 e4 with⟨z,_⟩|⟨iP,z3,z4⟩
     .exact (G1 _ _ _ z1 z2 z).elim
     .let:=T.inj _ _ a _ _ z1 z3 z2 z4
      symm
   .rcases ju l ow e with⟨i,ko,hl,hi,rfl,ho⟩|⟨hl,z,q⟩|⟨hl,q⟩
    .let⟨_,a,o,e1,e2,_,_⟩:=b i ko hi
     let⟨a',o',e3,e4,h5⟩:=T.mu i ow (mo i ow ho);rw[pre i a e1] at e3;cases e3;exact⟨a,o',by rw[ML hl];calc e2,e4,h5⟩
    .let⟨a,o,e1,e2,h⟩:=S.mu l ow q
     let lv:Lv ad δ.mu a:=⟨l,ow,e1,q⟩;calc⟨a,o,by rw[ML hl];calc e1,X.keep a o e2 (λ⟨i,_,y,_⟩=>?_) (alive a lv).choose_spec.2,h.same X.same⟩;let⟨_,ko,k1,k2,k3⟩:=ji i a y;exact z ko (Wt.mpr ⟨i,k1⟩) (S.inj _ _ a _ _ k2 e1 k3 q)
    .let⟨a,o,e1,e2,h⟩:=T.mu _ _ (mn _ _ q)
     exact⟨a,o,by rw[Vs hl,q1I];calc e1,e2,h⟩
   .let⟨v,e1,h⟩:=S.sl i y e
    exact⟨v,e1,h.ext ex⟩
  calc fin res ows news v F' _ H' hk ex sr ?_;let h8:=P.res
  cases res with
  |p d=>exact h8
  |w a=>exact h8
  |n ds =>
   let⟨c,us,rfl,n1,n2,n3,n4,n5⟩:=h8;calc⟨c,us,Y,n1,n2,n3,n4,?_⟩;ext ⟨l,ow,e1,e2⟩;rcases mV l ow c e1 e2 with⟨z,_⟩|⟨_,z1,z2⟩
   .let⟨o,y,_⟩:=alive c z
    rw[n1] at y;cases y
   .calc n5 ⟨_,_,z1,z2⟩
end
def ar(δ:aH)(bH:-(Nat×OV))(K:DV->aH->Prop)(r:RK)(ows news:-OV):Prop:=match r with
 |.p d=>K (.p d) ⟨δ.sl,cV δ.mu bH ows++news.map U⟩
 |.w a=>K (.w a) ⟨δ.sl,cV δ.mu bH ows++news.map U⟩
 |.n ds=>K (.p (.lst ds)) ⟨δ.sl,cV δ.mu bH ows++news.map U⟩
def aE(δ:aH)(bH:-(Nat×OV))(K:DV->aH->Prop)(r:RK)(ows news:-OV):Prop:=match r with
 |.n ds=>K (.o ↑(cV δ.mu bH ows++news.map U)) ⟨δ.sl,cV δ.mu bH ows++news.map U++[U (.lst ds)]⟩
 |_=>False
def rC(o:Bool)(n:Nat)(G:GK)(xs:-DV)(δ:aH)(K:DV->aH->Prop):Prop:=∃es,wG δ.mu es/\match passes δ.mu xs 0 with
 |some r=>(jH (r.2++es)=θ/\↑r.1=n)/\G r.1 ((r.2++es).map (·.2)) (if o then aE δ (r.2++es) K else ar δ (r.2++es) K)
 |none=>False
section
variable{F F1 H H1:Hp}{ad aV:-M}{δ δ1:aH}{σ:St}{K:DV->aH->Prop}{Q:VK}{xs:-DV}{vs:-V}{n:Nat}{G:GK}{E:XK}{o:Bool}
theorem wI(kk:∀x δ',K x δ'->∀v F' aG H',Ext F ad δ.mu H F' aG δ'.mu H'->SR F' aG δ' σ H'->dB F' aG x v->Q v H')(h1:rC o n G xs δ1 K)(E1:Ext F ad δ.mu H F1 aV δ1.mu H1)(S1:SR F1 aV δ1 σ H1)(V1:cX F1 aV xs vs):kq G n vs H1 Q E:=by
 let⟨es,he,h1⟩:=h1;split at h1
 .rename_i r hp
  let⟨⟨nd,hn⟩,h1⟩:=h1;refine Rx S1 V1 (by rw[↑V1,<-qV hp,hn]) hp he nd h1 λres ows news v F2 cq H2 hk E2 S2 fH=>?_
  cases o with
  |false =>
   cases res with
   |p d=>exact kk _ _ hk _ _ _ _ (E1.trans E2) S2 fH
   |w a=>exact kk _ _ hk _ _ _ _ (E1.trans E2) S2 fH
   |n ds =>
    let⟨a,us,rfl,n1,n2,n3,n4,n5⟩:=fH;calc kk _ _ hk _ _ _ _ (E1.trans (E2.adopt (o:=.lst us) n1 n3)) (S2.adopt n3 n2 n5) ?_;show Is _ (.lst ds) _;exact⟨a,us,Y,b_,n4.same (de n3)⟩
  |true =>
   cases res with
   |p d=>exact hk.elim
   |w a=>exact hk.elim
   |n ds =>
    let⟨a,us,rfl,n1,n2,n3,n4,n5⟩:=fH;let oi:eC F2 a (.lst ds) (.lst us):=⟨us,Y,n4⟩;calc kk _ _ hk _ _ _ _ (E1.trans (E2.cM (ov:=.lst ds) n1 S2.cf)) (S2.cM n3 n2 n5 oi) ⟨a,?_,Y⟩;let:=S2.cf;rw[<-show ↑cq=↑(cV δ1.mu (r.2++es) ows++news.map U) from this,Vs (Ek _),Xn];rfl
 .calc h1.elim
end
def aB(o:Bool)(n:Nat)(G:GK)(fa:WA):WE:=fun δ K=>fa δ λxs δ1=>rC o n G xs δ1 K
def az(o:Bool)(C:M)(m:R)(n:Nat)(G:GK)(fo:WE)(fa:WA):WE:=fun δ K=>fo δ λx δ1=>(∃(a:M)(k:Nat)(fs:-(R×FV)),x=.w a/\δ1.mu[k]?=U (U (.ins a C fs))/\fs.lookup m=Z)/\fa δ1 λxs δ2=>rC o n G (x::xs) δ2 K
def aD(C:M)(n:Nat)(G:GK)(fa:WA):WE:=fun δ K=>fa δ λxs δ1=>∀a,rC ι n G (.w a::xs) ⟨δ1.sl,δ1.mu++[U (.ins a C [])]⟩ λx δ2=>x=.p .non/\K (.w a) δ2
def rD(F:Hp)(v:V):FV->Prop
 |.p d=>Is F d v
 |.w a=>v=.ref a
theorem dY.look{F:Hp}{x:R}:∀{fs:-(R×FV)}{ws:-(R×V)},dY F fs ws->(fs.lookup x=Z/\ws.lookup x=Z)\/∃f v,fs.lookup x=U f/\ws.lookup x=U v/\rD F v f
 |[],ws,h=>by let h:ws=[]:=h;subst h;exact .inl ⟨Y,Y⟩
 |(y,.p d)::r,ws,⟨v,t,e,h1,h2⟩=>by
  subst e;rw[Wz,Wz]
  cases q:x==y with
  |true=>exact .inr ⟨_,_,Y,Y,h1⟩
  |false=>exact dY.look h2
 |(y,.w a)::r,ws,⟨t,e,h2⟩=>by
  subst e;rw[Wz,Wz]
  cases q:x==y with
  |true=>exact .inr ⟨_,_,Y,Y,Y⟩
  |false=>calc dY.look h2
theorem rD.v{F:Hp}{ad:-M}{v:V}:∀{f:FV},rD F v f->dB F ad f.v v
 |.p _,h=>h
 |.w _,h=>h
noncomputable def jS(f:R)(v:FV):-(R×FV)->-(R×FV)
 |[]=>[(f,v)]
 |(g,x)::r=>if g=f then(g,v)::r else(g,x)::jS f v r
theorem dY.cons{F:Hp}{x:R}{g:FV}{v:V}{fs:-(R×FV)}{ws:-(R×V)}(h:rD F v g)(r:dY F fs ws):dY F ((x,g)::fs) ((x,v)::ws):=by
 cases g with
 |p d=>exact⟨v,ws,Y,h,r⟩
 |w a=>let h:v=.ref a:=h;subst h;calc⟨ws,Y,r⟩
theorem dY.put{F:Hp}{x:R}{g:FV}{v:V}(hg:rD F v g):∀{fs:-(R×FV)}{ws:-(R×V)},dY F fs ws->dY F (jS x g fs) (cE x v ws)
 |[],ws,h=>by let h:ws=[]:=h;subst h;exact dY.cons hg Y
 |(y,.p d)::r,ws,⟨u,t,e,h1,h2⟩=>by
  subst e;unfold jS cE;split
  .exact dY.cons hg h2
  .exact dY.cons (g:=.p d) h1 (dY.put hg h2)
 |(y,.w a)::r,ws,⟨t,e,h2⟩=>by
  subst e;unfold jS cE;split
  .exact dY.cons hg h2
  .calc dY.cons (g:=.w a) Y (dY.put hg h2)
theorem dY.length{F:Hp}:∀{fs:-(R×FV)}{ws:-(R×V)},dY F fs ws->↑ws=fs.length
 |[],ws,h=>by let h:ws=[]:=h;rw[h];rfl
 |(y,.p d)::r,ws,⟨u,t,e,h1,h2⟩=>by rw[e,Em,Em,dY.length h2]
 |(y,.w a)::r,ws,⟨t,e,h2⟩=>by rw[e,Em,Em,dY.length h2]
def ai(C:M)(x:R)(f:WE):WE:=fun δ K=>f δ λy δ1=>∃(a:M)(k:Nat)(fs:-(R×FV))(v:FV),(y=.w a/\δ1.mu[k]?=U (U (.ins a C fs))/\fs.lookup x=U v)/\K v.v δ1
noncomputable def BJ:OV->Option M
 |.al a _=>U a
 |.ac a _=>U a
 |_=>Z
def ak(f:WE):WE:=fun δ K=>f δ λy δ1=>∃(a:M)(k:Nat)(ov:OV),(y=.w a/\δ1.mu[k]?=U (U ov)/\BJ ov=U a)/\K (.o k) δ1
def toF(x:DV)(δ:aH)(K:FV->aH->Prop):Prop:=match x with
 |.p d=>K (.p d) δ
 |.w a=>K (.w a) δ
 |.o k=>match δ.mu[k]? with
  |some (some (.lst ds))=>∀a,K (.w a) ⟨δ.sl,δ.mu.set k (U (.al a ds))⟩
  |some (some (.dct kvs))=>∀a,K (.w a) ⟨δ.sl,δ.mu.set k (U (.ac a kvs))⟩
  |_=>False
 |.t _ _=>False
def aA(C:M)(x:R)(fv fo:WE):WS:=λK δ=>fv δ λz δ1=>fo δ1 λy δ2=>toF z δ2 λg δ3=>∃(a:M)(k:Nat)(fs:-(R×FV)),(y=.w a/\δ3.mu[k]?=U (U (.ins a C fs))/\fs.length<1000)/\K.nx ⟨δ3.sl,δ3.mu.set k (U (.ins a C (jS x g fs)))⟩
section
variable{F H:Hp}{ad:-M}{δ:aH}{σ:St}
theorem G2{H:Hp}{a:M}{o:HO}(h:H a=U o):upd H a o=H:=by
 funext b
 by_cases c:b=a
 .subst c;rw[b_,h]
 .rw[aZ c]
theorem RA{x:DV}{v:V}{K:FV->aH->Prop}(S:SR F ad δ σ H)(V:dB F ad x v)(h:toF x δ K):∃f δ',K f δ'/\Ext F ad δ.mu H F ad δ'.mu H/\SR F ad δ' σ H/\rD F v f:=by
 cases x with
 |p d=>exact⟨_,_,h,.refl,S,V⟩
 |w a=>exact⟨_,_,h,.refl,S,V⟩
 |t _ _=>exact h.elim
 |o k =>
  let⟨a,e1,rfl⟩:=V;unfold toF at h;dsimp only at h;split at h
  .rename_i ds e
   let⟨a',o,e2,e3,vs,rfl,h4⟩:=S.mu k _ e;rw[e1] at e2;cases e2;let oi:eC F a (.al a ds) (.lst vs):=⟨Y,vs,Y,h4⟩;let E:=Ext.put (ov:=.al a ds) (o:=.lst vs) S e e1;let T:=S.put e e1 oi;rw[G2 e3] at E T;exact⟨_,_,h a,E,T,Y⟩
  .rename_i ds e
   let⟨a',o,e2,e3,vs,rfl,h4⟩:=S.mu k _ e;rw[e1] at e2;cases e2;let oi:eC F a (.ac a ds) (.dK vs):=⟨Y,vs,Y,h4⟩;let E:=Ext.put (ov:=.ac a ds) (o:=.dK vs) S e e1;let T:=S.put e e1 oi;rw[G2 e3] at E T;exact⟨_,_,h a,E,T,Y⟩
  .calc h.elim
theorem wJ{k:Nat}{a C:M}{fs:-(R×FV)}(S:SR F ad δ σ H)(h:δ.mu[k]?=U (U (.ins a C fs))):∃dx ws,ad[k]?=U a/\H a=U (.ins C dx ws)/\dY F fs ws:=by
 let⟨a',o,e1,e2,rfl,dx,ws,rfl,h4⟩:=S.mu k _ h;calc⟨dx,ws,e1,e2,h4⟩
end
section
variable{X:Cx}{a b o v:J}{f fo fv:WE}{fa:WA}{C:M}{x m:R}{pos pos' apos p:y}{G:GK}{n k:Nat}{g:M}{fd:FuncData}{ps:-R}{e:J}{es:-J}
theorem gw(c:g9 X.K C)(hx:cx X.K C x)(he:JE X a (tD f))(hb:‹attributeBase a x X.env (eval a X.env)=eval a X.env›):JE X (.Attribute a x pos) (tD (ai C x f)) :=
 (LR he hb).weak fun σ H Q ⟨F,ad,δ,K,S,q,k⟩↦⟨F,ad,δ,_,S,q,λy δ1 h1 u F1 aV H1 E1 S1 V1=>by
  let⟨a,i,fs,w,⟨rfl,hi,hl⟩,h2⟩:=h1;let⟨dx,ws,e1,e2,e3⟩:=wJ S1 hi;rcases e3.look (x:=x) with⟨z,_⟩|⟨f,w',z1,z2,z3⟩
  .rw[z] at hl;cases hl
  .rw[z1] at hl;cases hl
   calc⟨a,C,dx,ws,w',V1,e2,c,hx,z2,k _ _ h2 _ _ _ _ E1 S1 z3.v⟩⟩
theorem BK(he:JE X a (tD f)):JE X a (tD (ak f)) :=
 he.weak fun σ H Q ⟨F,ad,δ,K,S,q,k⟩↦⟨F,ad,δ,_,S,q,λy δ1 h1 u F1 aV H1 E1 S1 V1=>by
  let⟨a,i,ov,⟨rfl,hi,ht⟩,h2⟩:=h1;let⟨a',o,e1,e2,e3⟩:=S1.mu i ov hi
  let:a'=a:=by
   cases ov with
   |al b ds=>cases ht;exact e3.1.symm
   |ac b ds=>cases ht;exact e3.1.symm
   |lst _=>cases ht
   |dct _=>cases ht
   |dtt _=>cases ht
   |ins _ _ _=>cases ht
  subst this
  calc k _ _ h2 _ _ _ _ E1 S1 ⟨a',e1,V1⟩⟩
theorem uu[kM](c:g9 X.K C)(hx:cx X.K C x)(ho:JE X o (tD fo))(hv:JE X v (tD fv))(hs:‹swapsWith v (U (.Attribute o x pos')) pos.line X.env=pure ι›):JS X (.Assign [.Attribute o x pos'] v pos) (dZ (aA C x fv fo)) :=
 (LU ho hv hs).weak λD σ H ⟨F,ad,δ,K,S,q,k⟩↦⟨F,ad,δ,_,S,q,λz δ1 h1 u F1 aV H1 E1 S1 V1=>⟨F1,aV,δ1,_,S1,h1,λy δ2 h2 w F2 cq H2 E2 S2 V2=>by
  let⟨g,δ3,h3,E3,S3,ig⟩:=RA S2 (V1.ext E2) h2;let⟨a,i,fs,⟨rfl,hi,hl⟩,h4⟩:=h3;let⟨dx,ws,e1,e2,e3⟩:=wJ S3 hi;let oi:eC F2 a (.ins a C (jS x g fs)) (.ins C dx (cE x u ws)):=⟨Y,dx,_,Y,e3.put ig⟩
  calc⟨a,C,dx,ws,V2,e2,c,hx,by rw[↑e3];calc hl,k.nx _ h4 _ _ _ _ (((E1.trans E2).trans E3).trans (Ext.put S3 hi e1)) (S3.put hi e1 oi)⟩⟩⟩
theorem RB(o:Bool)(Fn:bW X.prog X.w X.K X.mg X.base eM k g fd ps (kq G n))(hr:aY k X.A)(hg:Gl X x)(hm:X.mg x=U (.ref g))(hk:Xy X.K (.ref g)=θ)(hb:Binds X.K fd ps [])
  (ha:JA X (e::es) (b8 fa)) (dP: ~~~(bV x)) (he:‹cj X e es›) (cR:‹cD X pos es›) :
  JE X (.Call (.Name x p) (e::es) [] pos) (tD (aB o n G fa)):=(uX Fn hr hg hm hk hb .nil pP ha dP he cR).weak fun σ H Q ⟨F,ad,δ,K,S,q,kk⟩↦⟨F,ad,δ,_,S,q,λxs δ1 h1 vs F1 aV H1 E1 S1 V1=>by
   rw[mE];calc wI kk h1 E1 S1 V1⟩
theorem RC{r:Bool}{E:XK}:∀σ H Q,tD (az r C m n G fo fa) σ H Q->x6 C m (kq G n) [] E (tD fo) (b8 fa) σ H Q:=fun σ H Q ⟨F,ad,δ,K,S,q,kk⟩=>⟨F,ad,δ,_,S,q,λy δ1 h1 u F1 aV H1 E1 S1 V1=>by
  let⟨⟨a,i,fs,rfl,hi,hl⟩,h2⟩:=h1;let⟨dx,ws,e1,e2,e3⟩:=wJ S1 hi;rcases e3.look (x:=m) with⟨_,z⟩|⟨f,w',z1,z2,z3⟩
  .refine⟨a,dx,ws,V1,e2,z,F1,aV,δ1,_,S1,h2,λxs δ2 h3 vs F2 cq H2 E2 S2 V2=>?_⟩
   rw[mE];exact wI kk h3 (E1.trans E2) S2 ⟨_,_,Y,V1.ext E2,V2⟩
  .rw[z1] at hl;cases hl⟩
theorem RD {pl:Sem Bool} (r:Bool) (c:g9 X.K C) (hm:Meth X.K C m g) (Fn:bW X.prog X.w X.K X.mg X.base eM k g fd ps (kq G n)) (hr:aY k X.A) (hb:Binds X.K fd ps []) (ho:JE X o (tD fo)) (ha:JA X (e :: es) (b8 fa))
  (iD:‹cj X e es›) (cR:‹cD X pos es›)
  (ht:‹eval (.Call (.Attribute o m apos) (e :: es) [] pos) X.env=(do
   let ov <- eval o X.env
   standAt apos.atName
   let (f,first) <- holding [ov] (getMethod ov m pl)
   callWith pos f first (backTo pos (starEach (e :: es) X.env)) (backToKw pos (keywordEach [] X.env)))›) :
  JE X (.Call (.Attribute o m apos) (e :: es) [] pos) (tD (az r C m n G fo fa)):=(L0 ho c hm Fn hr hb .nil pP ha iD cR ht).weak RC
theorem RE {pl:Sem Bool} (r:Bool) (c:g9 X.K C) (hm:Meth X.K C m g) (Fn:bW X.prog X.w X.K X.mg X.base eM k g fd ps (kq G n)) (hr:aY k X.A) (hb:Binds X.K fd ps []) (ho:JE X o (tD fo))
  (ht:‹eval (.Call (.Attribute o m apos) [] [] pos) X.env=(do
   let ov <- eval o X.env
   standAt apos.atName
   let (f,first) <- holding [ov] (getMethod ov m pl)
   callWith pos f first (backTo pos (starEach [] X.env)) (backToKw pos (keywordEach [] X.env)))›) :
  JE X (.Call (.Attribute o m apos) [] [] pos) (tD (az r C m n G fo ag)):=(L1 ho c hm Fn hr hb .nil pP ht).weak fun σ H Q ⟨F,ad,δ,K,S,q,kk⟩↦⟨F,ad,δ,_,S,q,λy δ1 h1 u F1 aV H1 E1 S1 V1=>by
  let⟨⟨a,i,fs,rfl,hi,hl⟩,h2⟩:=h1;let⟨dx,ws,e1,e2,e3⟩:=wJ S1 hi;rcases e3.look (x:=m) with⟨_,z⟩ | ⟨f,w',z1,z2,z3⟩
  .exact⟨a,dx,ws,V1,e2,z,wI (xs:=[.w a]) (vs:=[u]) kk (show rC r n G [.w a] δ1 K from h2) E1 S1 ⟨_,_,Y,V1,Y⟩⟩
  .rw[z1] at hl;cases hl⟩
theorem RF{F H F1 H1:Hp}{ad aV:-M}{δ δ1:aH}{σ:St}{K:DV->aH->Prop}{Q:VK}{E:XK}{xs:-DV}{vs:-V}(kk:∀x δ',K x δ'->∀v F' aG H',Ext F ad δ.mu H F' aG δ'.mu H'->SR F' aG δ' σ H'->dB F' aG x v->Q v H')
  (h1:∀a,rC ι n G (.w a::xs) ⟨δ1.sl,δ1.mu++[U (.ins a C [])]⟩ λx δ2=>x=.p .non/\K (.w a) δ2) (E1:Ext F ad δ.mu H F1 aV δ1.mu H1) (S1:SR F1 aV δ1 σ H1) (V1:cX F1 aV xs vs) {x dx:M} (nx:H1 x=Z) (wK:H1 dx=Z) (ne:dx≠x) :
  kq G n (.ref x::vs) (upd (upd H1 dx (.own x)) x (.ins C dx [])) (λv H2=>v=.non/\Q (.ref x) H2) E:=by
 let S2:=S1.al (de (o:=.own x) wK);let E2:=Ext.al S1 (de (o:=.own x) wK);let G3:upd H1 dx (.own x) x=Z:=by rw[aZ λz=>ne z.symm];exact nx
 let oi:eC (Nw F1 H1 (upd H1 dx (.own x))) x (.ins x C []) (.ins C dx []):=⟨Y,dx,[],Y,Y⟩;let S3:=S2.own G3 oi;let E3:=Ext.own (o:=.ins C dx []) (ov:=.ins x C []) S2 G3;calc wI (K:=λy δ2=>y=.p .non/\K (.w x) δ2) (λy δ' h v F' aG H' X T V=>?_) (h1 x) ((E1.trans E2).trans E3) S3 ⟨_,_,Y,Y,(V1.ext E2).ext E3⟩;let⟨rfl,h⟩:=h;calc⟨V,kk _ _ h _ _ _ _ X T Y⟩
theorem RG(M:Mk X.K C g)(Fn:bW X.prog X.w X.K X.mg X.base eM k g fd ps (kq G n))(hr:aY (k+1) X.A)(hg:Gl X x)(hm:X.mg x=U (.ref C))(hb:Binds X.K fd ps [])
  (ha:JA X (e::es) (b8 fa)) (dP: ~~~(bV x)) (he:‹cj X e es›) (cR:‹cD X pos es›) :
  JE X (.Call (.Name x p) (e::es) [] pos) (tD (aD C n G fa)):=(L5 M Fn hr hg hm hb .nil pP ha dP he cR).weak fun σ H Q ⟨F,ad,δ,K,S,q,kk⟩↦⟨F,ad,δ,_,S,q,λxs δ1 h1 vs F1 aV H1 E1 S1 V1 x dx nx wK ne=>by
   rw[mE];calc RF kk h1 E1 S1 V1 nx wK ne⟩
end
end L2
namespace LJ
open PySem L2
variable[aS]
theorem wL{f g:WE}{op:D->D->(D->Prop)->Prop}{δ:aH}{K:DV->aH->Prop}(h:∀K':DV->aH->Prop,K'=(λx δ1=>g δ1 λy δ2=>g7 x δ2 λd=>g7 y δ2 λe=>op d e λz=>K (.p z) δ2)->f δ K'):d2 f g op δ K:=h _ Y
noncomputable def dI(d:D):Int:=match d with
 |.int n=>n
 |_=>0
theorem qu(p:Int->Bool)(us:-Int):((us.map D.int).filter λd=>p (dI d)).map (λd=>d)=(us.filter p).map D.int:=by
 rw[List.map_id',q2G];rfl
inductive BL (ys:-DV) (av:-OV) (K:RV->-OV->Prop):Prop
 |mk (m:Int) (ws:-(Int×Int×Int)) (sh:-Int) (_:a_ m ws) (_:ys=[.p (aK m ws),.p (bj sh)]) (_:av=[]) (_:K (.p (bj (gO ws sh))) [])
def BM:WS:=(aJ (eE (kP (aq (dN (aq (d2 (ae 0) (dC (.int 1)) aR) ag) bY) ag)) [Z,U 1] (bF 0) (dT (d2 (ae 0) (ae 1) (iy θ))) (ae 0)))
theorem RH:Sem 2 0 BL BM:=by
 ext ys av K'-⟨m,ws,sh,W,rfl,rfl,k⟩;let iU:=W.d4;unfold BM bj;simp![aK,cI];calc⟨⋯,?_⟩;rw[Ww,m_];refine lT (λd=>S (dI d∉sh)) (λd=>d) (by rw[pN];unfold bp;simp;symm) trivial ?_ ?_
 .ext d hd acc L ha h1 h2
  let⟨n,hn,rfl⟩:=Wq.mp hd;simp![nY];calc⟨lr sh,?_⟩;erw[dI] at h1 h2
  by_cases c:n∈sh
  .simp![Wu c]
   exact h2 (Wn (YZ c))
  .simp![Wn c]
   exact⟨ha,h1 (Wu c)⟩
 .rw[qu λn=>S (n∉sh)]
  calc cm k
inductive BN (ys:-DV) (av:-OV) (K:RV->-OV->Prop):Prop
 |mk (m:Int) (ws:-(Int×Int×Int)) (us:-Int) (_:a_ m ws) (_:dq ws us) (_:ys=[.p (aK m ws),.p (bj us)]) (_:av=[]) (_:K (.p (aK m (c7 ws us))) [])
def BO:WS:=(aJ (bt (aq (d2 (ae 0) (dC (.int 0)) aR) (aq (dN (aq (eE (bQ (ae 1)) [Z,U 0] (bF 0) dm (d2 (d2 (ae 1) (dC (.int 1)) aR) (ae 0) aR)) ag) tW) ag))))
theorem RI:Sem 2 0 BN BO:=by
 ext ys av K'-⟨m,ws,us,W,S,rfl,rfl,k⟩;let iU:=(wx W S).d4;rw[sub_len] at iU;unfold BO bj;simp![aK,df,cI];refine iR (λd=>aN (ws.getD (dI d).toNat (0,0,0))) (by rw[pN];symm) trivial ?_ ?_
 .ext d hd acc L ha h
  let⟨n,hn,rfl⟩:=Wq.mp hd;let⟨n0,n1⟩:=S.nums n hn;let⟨y,ey,hy,ea,_⟩:=jk W n0 n1;simp![cI,aK,ea];erw[dI,ey] at h;exact⟨ha,h⟩
 .rw[WC]
  simp!;calc cm ?_;let e:c7 ws us=us.map λn=>ws.getD n.toNat (0,0,0):=Y;unfold aK at k;rw[e,WC] at k;calc k
inductive BP (ys:-DV) (av:-OV) (K:RV->-OV->Prop):Prop
 |mk (m:Int) (ws:-(Int×Int×Int)) (n p:Int) (_:a_ m ws) (_:(0<=n/\n<(↑ws:Int))) (_:ys=[.p (aK m ws),.p (.int n),.p (.int p)]) (_:av=[]) (_:K (.p (aK m (ws.set n.toNat ((ws.getD n.toNat (0,0,0)).1,(ws.getD n.toNat (0,0,0)).2.1,p)))) [])
def BQ:WS:=(aw (aM 3 (d2 (d2 (ae 0) (dC (.int 1)) aR) (ae 1) aR)) (aJ (bt (aq (d2 (ae 0) (dC (.int 0)) aR) (aq (d2 (d2 (fL (d2 (ae 0) (dC (.int 1)) aR) gg (j_ (ae 1))) (bt (aq (bt (aq (d2 (ae 3) (dC (.int 0)) aR) (aq (d2 (ae 3) (dC (.int 1)) aR) (aq (ae 2) ag)))) ag)) cH) (fL (d2 (ae 0) (dC (.int 1)) aR) (j_ (d2 (ae 1) (dC (.int 1)) cH)) gg) cH) ag)))))
theorem RJ:Sem 3 1 BP BQ:=by
 ext ys av K' - ⟨m,ws,n,p,W,hn,rfl,rfl,k⟩;let iU:=W.d4;let⟨y,ey,hy,ea,_⟩:=jk W hn.1 hn.2;let⟨t,rfl⟩:=YJ hn.1;let ht:t < ↑ws:=by symm
 let f1:=GW (ds:=ws.map aN) (t:=t) (by rw[pN];symm);let f2:cutD (ws.map aN) (U ((t:Int) + 1)) Z=(ws.map aN).drop (t + 1):=GV (ds:=ws.map aN) (t:=t + 1) (by rw[pN];symm);let l1:↑((ws.map aN).take t)=t:=by rw[WM,pN];symm
 let l2:↑((ws.map aN).drop (t + 1))=↑ws - (t + 1):=by rw[Ya,pN]
 let e3:(ws.map aN).take t ++ [D.tup [.int y.1,.int y.2.1,.int p]] ++ (ws.map aN).drop (t + 1)=(ws.set t (y.1,y.2.1,p)).map aN:=by
  rw[Zt,Wm ht,WK,Wx,q1q,q1r,Yj];rfl
 rw[Ww] at ey k;rw[ey] at k;unfold aK at k;rw[<-e3] at k;unfold BQ aK;generalize hA:(ws.map aN).take t=A at f1 l1 k;generalize hB:(ws.map aN).drop (t + 1)=B at f2 l2 k;generalize ws.map aN=V at ea f1 f2 ⊢;calc aP λN hN => ?_;simp![cI,ea];subst hN;unfold aJ bt;calc iS λK2 uv => ?_;simp![df];subst uv;dsimp only;calc iS λK2 uv=>wL λK3 kX=>wL λK4 ij => ?_;simp![cI,f1];subst ij;dsimp only;calc iS λK4 ij => ?_;simp![df,cI,aN];subst ij;simp!;calc⟨⋯,?_⟩;subst kX;dsimp only;simp![cI,f2];calc⟨⋯,?_⟩;subst uv;simp!
 calc cm k
noncomputable def rE(xs ys:-Int):D:=match xs.filter (λn=>S (n∉ys)) with
 |[]=>.non
 |n::_=>.int n
inductive wM (ys:-DV) (av:-OV) (K:RV->-OV->Prop):Prop
 |mk (xs zs:-Int) (_:↑xs<=1000) (_:ys=[.p (bj xs),.p (bj zs)]) (_:av=[]) (_:K (.p (rE xs zs)) [])
def BR:WS:=(aw (aM 2 (eE (bQ (ae 0)) [Z,U 1] (bF 0) (dT (d2 (ae 0) (ae 1) (iy θ))) (ae 0))) (aJ (lN (dT (d2 (dN (aq (ae 2) ag) bY) (dC (.int 0)) (oI λi j=>.bl (S (j<i))))) (d2 (ae 2) (dC (.int 0)) aR) (dC .non))))
theorem RL:Sem 2 1 wM BR:=by
 ext ys av K'-⟨xs,zs,hl,rfl,rfl,k⟩;unfold BR bj;calc aP λN hN=>?_;simp!;refine lT (λd=>S (dI d∉zs)) (λd=>d) (by rw[pN];calc hl) trivial ?_ ?_
 .ext d hd acc L ha h1 h2
  let⟨n,hn,rfl⟩:=Wq.mp hd;simp![nY];calc⟨lr zs,?_⟩;erw[dI] at h1 h2
  by_cases c:n∈zs
  .simp![Wu c]
   exact h2 (Wn (YZ c))
  .simp![Wn c]
   exact⟨ha,h1 (Wu c)⟩
 .rw[qu λn=>S (n∉zs)]
  subst hN;unfold rE at k;generalize xs.filter (λn=>S (n∉zs))=q at k ⊢
  cases q with
  |nil=>simp!;exact cm k
  |cons n r =>
   simp!;rw[Wm (Wu ⋯)];erw[df];calc cm k
noncomputable def jT(xs ys:-Int):D:=.tup [rE xs ys,rE ys xs]
inductive uw (ys:-DV) (av:-OV) (K:RV->-OV->Prop):Prop
 |mk (xs zs:-Int) (_:↑xs<=1000) (_:↑zs<=1000) (_:ys=[.p (bj xs),.p (bj zs)]) (_:av=[]) (_:K (.p (jT xs zs)) [])
def BS:WS:=(aJ (bt (aq (ay 2 wM (aq (ae 0) (aq (ae 1) ag))) (aq (ay 2 wM (aq (ae 1) (aq (ae 0) ag))) ag))))
theorem RM:Sem 2 0 uw BS:=by
 ext ys av K'-⟨xs,zs,h1,h2,rfl,rfl,k⟩;unfold BS;simp!;calc⟨xs,zs,h1,Y,Y,?_⟩;simp!;calc⟨zs,xs,h2,Y,Y,?_⟩;simp!;calc cm k
end LJ
namespace L2
open PySem PySem.Spec PyProof.Rows PySem.W
section
variable{X:Cx}
end
variable[aS]{X:Cx}
end L2
namespace L2
open PySem PySem.Spec PyProof.Rows
mutual
noncomputable def lB:D->PyData
 |.non=>.none
 |.bl b=>.bool b
 |.int i=>.int i
 |.str x=>.str x
 |.tup ds=>.tuple (dr ds)
 |.lst ds=>.list (dr ds)
noncomputable def dr:-D->-PyData
 |[]=>[]
 |d::r=>lB d::dr r
end
noncomputable def rep(d:D):R:=(lB d).shown
def qv(d:D):Prop:=(lB d).showable=θ/\(lB d).depth<=8/\↑(rep d)<=sizeLine
def rF:-D->(D->Prop)->Prop
 |[d],K=>qv d/\K (.str (rep d))
 |_,_=>False
mutual
theorem BU:∀d:D,(lB d).hasDict=ι
 |.non=>Y
 |.bl _=>Y
 |.int _=>Y
 |.str _=>Y
 |.tup ds=>by erw[lB,q27];exact BV ds
 |.lst ds=>by erw[lB,q27];calc BV ds
theorem BV:∀ds:-D,q2c (dr ds)=ι
 |[]=>Y
 |d::r=>by erw[dr,q2c,BU d,BV r];rfl
end
variable[aS]{X:Cx}{pins:aC}{σ:St}{F H:Hp}{s:B}
mutual
theorem G4 (I:Inv X pins σ H s) (sub:aL F H):∀{d:D}{v:V}{u:O},Is F d v->RelV v u->∃as,Reads s.heap u (lB d) as
 |.non,_,_,h,r=>by cases(show _=V.non from h);cases r;exact⟨_,.none⟩
 |.bl b,_,_,h,r=>by cases(show _=V.bl b from h);cases r;exact⟨_,.bool b⟩
 |.int i,_,_,h,r=>by cases(show _=V.int i from h);let⟨t,rfl⟩:=r;exact⟨_,.int i t⟩
 |.str x,_,_,h,r=>by cases(show _=V.str x from h);let⟨t,rfl⟩:=r;exact⟨_,.str x t⟩
 |.tup ds,_,_,h,r=>by
  erw[Is] at h;let⟨a,vs,rfl,h1,h2⟩:=h;cases r
  let⟨_,au,q,o,e1,e2,n,e3⟩:=(show aU X.prog X.w H s.heap a (.tup vs) from I.aX a _ (sub _ _ h1));let⟨as,ra⟩:=BW I sub h2 q;exact⟨as,.tuple e1 e2 e3 ra⁻¹⟩
 |.lst ds,_,_,h,r=>by
  erw[Is] at h;let⟨a,vs,rfl,h1,h2⟩:=h;cases r
  let⟨_,au,n,q,e1⟩:=(show aU X.prog X.w H s.heap a (.lst vs) from I.aX a _ (sub _ _ h1));let⟨as,ra⟩:=BW I sub h2 q;calc⟨_,.list e1 Y Y ra⁻¹⟩
theorem BW (I:Inv X pins σ H s) (sub:aL F H):∀{ds:-D}{vs:-V}{us:-O},ah F ds vs->Vals vs us->∃as,ReadsAll s.heap us (dr ds) as
 |[],_,_,h,r=>by erw[ah] at h;subst h;cases r;exact⟨_,.nil⟩
 |d::ds,_,_,h,r=>by
  erw[ah] at h;let⟨v,t,rfl,h1,h2⟩:=h
  cases r with
  |cons r1 r2 =>
   let⟨as,a1⟩:=G4 I sub h1 r1;let⟨bs,b1⟩:=BW I sub h2 r2;calc⟨_,.cons a1 b1⟩
end
theorem G5(hg:X.A.guards=U [])(hu:X.A.units+64<cLine):cU X (.builtin "repr") rF:=by
 ext pins s σ H xs us Q I r ⟨F,ds,K,sub,rd,q,md⟩;unfold rF at q;split at q
 .rename_i d
  let⟨⟨h1,h2,h3⟩,q⟩:=q;let⟨v,rfl,hv⟩:=c5 rd;let⟨u,rfl,rx⟩:=vals1 r;let hv:=iL.is sub hv;let⟨as,ra⟩:=G4 I (λ_ _ e=>e) hv rx;let fin:∀t (s':B),Inv X pins σ H s'->EP X pins σ Q (.str (rep d) t) s':=λt s' J=>⟨.str (rep d),H,J,⟨_,Y⟩,md _ _ _ q (λ_ _ e=>e) Y⟩;unfold rep at h3
  cases d with
  |non=>cases(show v=V.non from hv);cases rx;exact PySem.P.repr_of_none (fin _ _ (I.tok _))
  |bl b=>cases(show v=V.bl b from hv);cases rx;exact PySem.P.repr_of_bool (fin _ _ (I.tok _))
  |int i=>cases(show v=V.int i from hv);let⟨t,rfl⟩:=rx;exact PySem.P.repr_of_int (by simpa[lB,PyData.showable] using h1) (fin _ _ (I.tok _))
  |str x=>cases(show v=V.str x from hv);let⟨t,rfl⟩:=rx;exact PySem.P.repr_of_str (hsz:=h3) (fin _ _ (I.tok _))
  |tup ds =>
   erw[Is] at hv;let⟨a,vs,rfl,_,_⟩:=hv;cases rx
   exact q28 (hsz:=h3) ra h1 (λz=>by rw[BU] at z;cases z) hg ⋯ (λ_ _ e=>e) λh' u tk k=>fin _ _ (I.kept k)
  |lst ds =>
   erw[Is] at hv;let⟨a,vs,rfl,_,_⟩:=hv;cases rx
   exact q28 (hsz:=h3) ra h1 (λz=>by rw[BU] at z;cases z) hg ⋯ (λ_ _ e=>e) λh' u tk k=>fin _ _ (I.kept k)
 .calc q.elim
end L2
namespace LJ
open PySem L2
variable[aS]
abbrev b9:=-(Int×Int×Int)×-Int
noncomputable def cJ(m:Int)(s:b9):D:=.tup [aK m s.1,bj s.2]
noncomputable def kO(C a b:M)(m:Int)(s:b9):OV:=.ins a C [("town",.p (aK m s.1)),("shut",.p (bj s.2)),("past",.w b)]
noncomputable def pO(b:M)(m:Int)(ps:-b9):OV:=.al b (ps.map (cJ m))
structure bG(m:Int)(s:b9):Prop where
 eS:a_ m s.1
 sh:dq s.1 s.2
theorem bG.len{m:Int}{s:b9}(h:bG m s):↑s.2<=30:=by
 let:=(wx h.eS h.sh).d4
 rwa [sub_len] at this
noncomputable abbrev bK(s:b9):-(Int×Int×Int):=c7 s.1 (gO s.1 s.2)
noncomputable def bT(m:Int)(s:b9)(ns:-Int):-Int:=(jM m (bK s) ns).map (dz (gO s.1 s.2))
theorem kr{K:RK->-OV->-OV->Prop}{d:D}{sl:-(Option DV)}{ows:-OV}{gs:-(Option OV)}(h:K (.p d) ows []):n8 ↑ows K (.p d) ⟨sl,ows.map U++gs⟩:=⟨ows,[],gs,by rw[mE],Y,h⟩
def BX(C:M):GK:=λys av K=>∃(a:M)(m:Int)(ws:-(Int×Int×Int)),a_ m ws/\ys=[.w a,.p (aK m ws)]/\av=[.ins a C []]/\∀b,K (.p .non) [kO C a b m (ws,[])] [pO b m []]
def BY(aa:M):WS:=(aw (iw (ay 1 uj (aq (ae 1) ag))) (aw (aA aa "town" (ae 1) (ae 0)) (aw (aA aa "shut" (bX ag) (ae 0)) (aA aa "past" (oK ag) (ae 0)))))
theorem RN(C:M):∀ys av K',↑ys=2->BX C ys av K'->BY C (aj ↑av K') ⟨ys.map U++Vv 0 Z,av.map U⟩:=by
 ext ys av K'-⟨a,m,ws,W,rfl,rfl,k⟩;unfold BY;calc aP λN hN=>?_;simp![ai,ak,aA,toF,az,aB,aD,ar,aE,FV.v,aj,mE,pL];calc⟨m,ws,W,Y,Y,?_⟩;simp![ai,ak,aA,toF,az,aB,aD,ar,aE,FV.v,aj,mE,pL];subst hN;calc aP λN hN=>?_;simp![ai,ak,aA,toF,az,aB,aD,ar,aE,FV.v,aj,mE,pL];calc⟨a,0,_,⟨Y,Y,by decide⟩,?_⟩;subst hN;calc aP λN hN=>?_;simp![ai,ak,aA,toF,az,aB,aD,ar,aE,FV.v,aj,mE,pL];calc⟨a,0,_,⟨Y,Y,by show 1<1000;decide⟩,?_⟩;subst hN;simp![ai,ak,aA,toF,az,aB,aD,ar,aE,FV.v,aj,mE,pL];ext b;calc⟨a,0,_,⟨Y,Y,by show 2<1000;decide⟩,?_⟩;calc⟨_,[pO b m []],[],Y,Y,k b⟩
def BZ(C:M):GK:=λys av K=>∃(a b:M)(m:Int)(s:b9),ys=[.w a]/\av=[kO C a b m s]/\K (.p (aK m s.1)) [kO C a b m s] []
def B1(aa:M):WS:=(aJ (ai aa "town" (ae 0)))
theorem RO(C:M):∀ys av K',↑ys=1->BZ C ys av K'->B1 C (aj ↑av K') ⟨ys.map U++Vv 0 Z,av.map U⟩:=by
 ext ys av K'-⟨a,b,m,s,rfl,rfl,k⟩;unfold B1;simp![ai,ak,aA,toF,az,aB,aD,ar,aE,FV.v,aj,mE,pL];calc⟨a,0,_,.p (aK m s.1),⟨Y,Y,Y⟩,?_⟩;calc kr k
def ux(C:M):GK:=λys av K=>∃(a b:M)(m:Int)(s:b9),bG m s/\ys=[.w a]/\av=[kO C a b m s]/\K (.n (s.2.map D.int)) [kO C a b m s] []
def B3(aa:M):WS:=(aJ (rj (aq (ai aa "shut" (ae 0)) ag) vX))
theorem RP(C:M):∀ys av K',↑ys=1->ux C ys av K'->B3 C (aj ↑av K') ⟨ys.map U++Vv 0 Z,av.map U⟩:=by
 ext ys av K'-⟨a,b,m,s,O,rfl,rfl,k⟩;let uy:=O.len;unfold B3;simp![ai,ak,aA,toF,az,aB,aD,ar,aE,FV.v,aj,mE,pL];calc⟨a,0,_,.p (bj s.2),⟨Y,Y,Y⟩,?_⟩;simp![ai,ak,aA,toF,az,aB,aD,ar,aE,FV.v,aj,mE,pL,bj];calc⟨[_],[],[U (.lst _)],Y,Y,Ek _,k⟩
def oX(C:M):GK:=λys av K=>∃(a b:M)(m:Int)(s:b9),bG m s/\ys=[.w a]/\av=[kO C a b m s]/\∀ns,aF (bK s) ns->K (.n ((bT m s ns).map D.int)) [kO C a b m s] []
def B4(aa:M):WS:=(aw (aM 1 (ay 2 BL (aq (ai aa "town" (ae 0)) (aq (ai aa "shut" (ae 0)) ag)))) (aJ (mQ (bQ (ay 1 Br (aq (ay 2 BN (aq (ai aa "town" (ae 0)) (aq (ae 1) ag))) ag))) [Z,U 1] (bF 0) dm (d2 (ae 1) (ae 0) aR))))
theorem RQ(C:M):∀ys av K',↑ys=1->oX C ys av K'->B4 C (aj ↑av K') ⟨ys.map U++Vv 1 Z,av.map U⟩:=by
 ext ys av K'-⟨a,b,m,s,O,rfl,rfl,k⟩;unfold B4;calc aP λN hN=>?_;simp![ai,ak,aA,toF,az,aB,aD,ar,aE,FV.v,aj,mE,pL];calc⟨a,0,_,.p (aK m s.1),⟨Y,Y,Y⟩,a,0,_,.p (bj s.2),⟨Y,Y,Y⟩,?_⟩;simp![ai,ak,aA,toF,az,aB,aD,ar,aE,FV.v,aj,mE,pL];calc⟨m,s.1,s.2,O.eS,Y,Y,?_⟩;simp![ai,ak,aA,toF,az,aB,aD,ar,aE,FV.v,aj,mE,pL];subst hN;simp![ai,ak,aA,toF,az,aB,aD,ar,aE,FV.v,aj,mE,pL];calc⟨a,0,_,.p (aK m s.1),⟨Y,Y,Y⟩,?_⟩;simp![ai,ak,aA,toF,az,aB,aD,ar,aE,FV.v,aj,mE,pL];calc⟨m,s.1,gO s.1 s.2,O.eS,wu _ _,Y,Y,?_⟩;simp![ai,ak,aA,toF,az,aB,aD,ar,aE,FV.v,aj,mE,pL]
 let W2:a_ m (bK s):=wx O.eS (wu s.1 s.2);calc⟨m,bK s,W2,Y,Y,λns ho=>?_⟩;simp![ai,ak,aA,toF,az,aB,aD,ar,aE,FV.v,aj,mE,pL]
 let fl:↑(jM m (bK s) ns)<=30:=by
  let:=GN (m:=m) (ws:=bK s) ns;let:=ho.len;let:=W2.d4;symm
 refine iR (λd=>.int (dz (gO s.1 s.2) (dI d))) (by rw[pN];symm) trivial ?_ ?_
 .ext d hd acc L ha h
  let⟨n,hn,rfl⟩:=Wq.mp hd;let hr:=ho.nums n (GL ns n hn);rw[sub_len] at hr;simp![ai,ak,aA,toF,az,aB,aD,ar,aE,FV.v,aj,mE,pL,bj];rw[QU hr];exact⟨ha,h⟩
 .refine⟨[_],[],[U (.lst _)],Y,Y,Ek _,?_⟩
  let e:(q6K D.int (jM m (bK s) ns)).map (λd=>D.int (dz (gO s.1 s.2) (dI d)))=(bT m s ns).map D.int:=by
   unfold bT;rw[WC,WC];rfl
  show K' (.n ((q6K D.int (jM m (bK s) ns)).map (λd=>D.int (dz (gO s.1 s.2) (dI d))))) _ _;rw[e];calc k ns ho
noncomputable def wsum(ws:-(Int×Int×Int))(ns:-Int):Int:=(ns.map λn=>(ws.getD n.toNat (0,0,0)).2.2).sum
theorem B5{m:Int}{s:b9}{ns:-Int}(O:bG m s)(ho:aF (bK s) ns):Nums s.1 (bT m s ns)/\(bT m s ns).Nodup/\↑(bT m s ns)<=30:=by
 let S:=wu s.1 s.2;let W2:a_ m (bK s):=wx O.eS S
 let rg:∀i∈jM m (bK s) ns,0<=i/\i<(↑(gO s.1 s.2):Int):=λi hi=>by
  let hr:=ho.nums i (GL ns i hi)
  rwa [sub_len] at hr
 refine⟨λn hn=>?_,?_,?_⟩
 .let⟨i,hi,rfl⟩:=Wq.mp hn
  exact S.nums _ (GI (rg i hi))
 .refine X1.mpr ((QT ho).imp_of_mem λ{i j} hi hj ne e=>ne ?_)
  let h1:=rg i hi;let h2:=rg j hj
  by_cases c:i<j
  .let:=S.lt h1.1 c h2.2;symm
  .by_cases c2:j<i
   .let:=S.lt h2.1 c2 h1.2;symm
   .omega
 .let h1:=GN (m:=m) (ws:=bK s) ns
  let h2:=ho.len;let h3:=W2.d4;unfold bT;rw[pN];symm
def B6(C:M):GK:=λys av K=>∃(a b:M)(m:Int)(s:b9),bG m s/\ys=[.w a]/\av=[kO C a b m s]/\∀ns,aF (bK s) ns->K (.p (.int (wsum s.1 (bT m s ns)))) [kO C a b m s] []
def B7(aa:M):WS:=(aJ (ay 2 BB (aq (ai aa "town" (ae 0)) (aq (az ι aa "forest" 1 (oX aa) (ae 0) ag) ag))))
theorem RR(C:M):∀ys av K',↑ys=1->B6 C ys av K'->B7 C (aj ↑av K') ⟨ys.map U++Vv 0 Z,av.map U⟩:=by
 ext ys av K'-⟨a,b,m,s,O,rfl,rfl,k⟩;unfold B7;simp![ai,ak,aA,toF,az,aB,aD,ar,aE,FV.v,aj,mE,pL];calc⟨a,0,_,.p (aK m s.1),⟨Y,Y,Y⟩,⟨a,0,_,Y,Y,Y⟩,[(0,kO C a b m s)],⟨Y,trivial⟩,?_⟩;simp![ai,ak,aA,toF,az,aB,aD,ar,aE,FV.v,aj,mE,pL];calc⟨a,b,m,s,O,Y,Y,λns ho=>?_⟩;let⟨h1,h2,h3⟩:=B5 O ho;simp![ai,ak,aA,toF,az,aB,aD,ar,aE,FV.v,aj,mE,pL];calc⟨m,s.1,bT m s ns,O.eS,h1,h2,⋯,Y,Y,?_⟩;simp![ai,ak,aA,toF,az,aB,aD,ar,aE,FV.v,aj,mE,pL];calc kr (k ns ho)
def uz(C:M):GK:=λys av K=>∃(a b:M)(m:Int)(s:b9)(n:Int),bG m s/\(0<=n/\n<(↑s.1:Int))/\ys=[.w a,.p (.int n)]/\av=[kO C a b m s]/\K (.p .non) [kO C a b m s] []
def B8(aa:M):WS:=(bh (dj (dT (ay 3 nv (aq (ae 1) (aq (dC (.int 0)) (aq (d2 (dN (aq (d2 (ai aa "town" (ae 0)) (dC (.int 1)) aR) ag) bY) (dC (.int 1)) (oI λi j=>.int (i-j))) ag)))))) lO cA)
theorem RS(C:M):∀ys av K',↑ys=2->uz C ys av K'->B8 C (aj ↑av K') ⟨ys.map U++Vv 0 Z,av.map U⟩:=by
 ext ys av K'-⟨a,b,m,s,n,O,hn,rfl,rfl,k⟩;unfold B8;simp![ai,ak,aA,toF,az,aB,aD,ar,aE,FV.v,aj,mE,pL];calc⟨a,0,_,.p (aK m s.1),⟨Y,Y,Y⟩,?_⟩;simp![ai,ak,aA,toF,az,aB,aD,ar,aE,FV.v,aj,mE,pL,aK,cI];calc⟨.int n,0,(↑s.1:Int)-1,Y,Y,?_⟩;simp![ai,ak,aA,toF,az,aB,aD,ar,aE,FV.v,aj,mE,pL];rw[rm hn.1 ⋯];simp![ai,ak,aA,toF,az,aB,aD,ar,aE,FV.v,aj,mE,pL];calc kr k
def wN(C:M):GK:=λys av K=>∃(a b:M)(m:Int)(s s':b9),bG m s/\bG m s'/\ys=[.w a,.p (aK m s'.1),.p (bj s'.2)]/\av=[kO C a b m s]/\∀ns bx,aF (bK s) ns->aF (bK s') bx->K (.p (jT (bT m s ns) (bT m s' bx))) [kO C a b m s'] []
def B9(aa:M):WS:=(aw (aM 3 (az ι aa "forest" 1 (oX aa) (ae 0) ag)) (aw (aA aa "town" (ae 1) (ae 0)) (aw (aA aa "shut" (ae 2) (ae 0)) (aJ (ay 2 uw (aq (ae 3) (aq (az ι aa "forest" 1 (oX aa) (ae 0) ag) ag)))))))
theorem RT(C:M):∀ys av K',↑ys=3->wN C ys av K'->B9 C (aj ↑av K') ⟨ys.map U++Vv 1 Z,av.map U⟩:=by
 ext ys av K'-⟨a,b,m,s,s',O,O',rfl,rfl,k⟩;unfold B9;calc aP λN hN=>?_;simp![ai,ak,aA,toF,az,aB,aD,ar,aE,FV.v,aj,mE,pL];calc⟨⟨a,0,_,Y,Y,Y⟩,[(0,kO C a b m s)],⟨Y,trivial⟩,?_⟩;simp![ai,ak,aA,toF,az,aB,aD,ar,aE,FV.v,aj,mE,pL];calc⟨a,b,m,s,O,Y,Y,λns ho=>?_⟩;simp![ai,ak,aA,toF,az,aB,aD,ar,aE,FV.v,aj,mE,pL];subst hN;calc aP λN hN=>?_;simp![ai,ak,aA,toF,az,aB,aD,ar,aE,FV.v,aj,mE,pL];calc⟨a,0,_,⟨Y,Y,by show 3<1000;decide⟩,?_⟩;subst hN;calc aP λN hN=>?_;simp![ai,ak,aA,toF,az,aB,aD,ar,aE,FV.v,aj,mE,pL];refine⟨a,0,_,⟨Y,Y,by show 3<1000;decide⟩,?_⟩
 subst hN;simp![ai,ak,aA,toF,az,aB,aD,ar,aE,FV.v,aj,mE,pL];calc⟨⟨a,0,_,Y,Y,Y⟩,[(0,kO C a b m s')],⟨Y,trivial⟩,?_⟩;simp![ai,ak,aA,toF,az,aB,aD,ar,aE,FV.v,aj,mE,pL];calc⟨a,b,m,s',O',Y,Y,λbx c_=>?_⟩;let⟨_,_,h3⟩:=B5 O ho;let⟨_,_,h4⟩:=B5 O' c_;simp![ai,ak,aA,toF,az,aB,aD,ar,aE,FV.v,aj,mE,pL];calc⟨bT m s ns,bT m s' bx,⋯,⋯,Y,Y,?_⟩;simp![ai,ak,aA,toF,az,aB,aD,ar,aE,FV.v,aj,mE,pL];calc kr (k ns bx ho c_)
def uA(C:M):GK:=λys av K=>∃(a b:M)(m:Int)(s s':b9)(ps:-b9),bG m s/\bG m s'/\↑ps<900/\ys=[.w a,.p (aK m s'.1),.p (bj s'.2)]/\av=[kO C a b m s,pO b m ps]/\∀ns bx,aF (bK s) ns->aF (bK s') bx->K (.p (jT (bT m s ns) (bT m s' bx))) [kO C a b m s',pO b m (ps++[s])] []
def B_(aa:M):WS:=(aw (iw (h_ (ak (ai aa "past" (ae 0))) (aq (bt (aq (ai aa "town" (ae 0)) (aq (ai aa "shut" (ae 0)) ag))) ag))) (aJ (az ι aa "set_to" 3 (wN aa) (ae 0) (aq (ae 1) (aq (ae 2) ag)))))
theorem RU(C:M):∀ys av K',↑ys=3->uA C ys av K'->B_ C (aj ↑av K') ⟨ys.map U++Vv 0 Z,av.map U⟩:=by
 ext ys av K'-⟨a,b,m,s,s',ps,O,O',hp,rfl,rfl,k⟩;unfold B_;calc aP λN hN=>?_;simp![ai,ak,aA,toF,az,aB,aD,ar,aE,FV.v,aj,mE,pL];calc⟨a,0,_,.w b,⟨Y,Y,Y⟩,b,1,pO b m ps,⟨Y,Y,Y⟩,?_⟩;simp![ai,ak,aA,toF,az,aB,aD,ar,aE,FV.v,aj,mE,pL,pO];calc⟨a,0,_,.p (aK m s.1),⟨Y,Y,Y⟩,a,0,_,.p (bj s.2),⟨Y,Y,Y⟩,?_⟩;simp![ai,ak,aA,toF,az,aB,aD,ar,aE,FV.v,aj,mE,pL];calc⟨⋯,?_⟩;subst hN;simp![ai,ak,aA,toF,az,aB,aD,ar,aE,FV.v,aj,mE,pL];calc⟨⟨a,0,_,Y,Y,Y⟩,[(0,kO C a b m s)],⟨Y,trivial⟩,?_⟩;simp![ai,ak,aA,toF,az,aB,aD,ar,aE,FV.v,aj,mE,pL];refine⟨a,b,m,s,s',O,O',Y,Y,λns bx ho c_=>?_⟩
 simp![ai,ak,aA,toF,az,aB,aD,ar,aE,FV.v,aj,mE,pL];calc⟨[kO C a b m s',pO b m (ps++[s])],[],[],?_,Y,k ns bx ho c_⟩;let e:(ps++[s]).map (cJ m)=ps.map (cJ m)++[cJ m s]:=WK;unfold pO;rw[e];rfl
noncomputable def uB(ws:-(Int×Int×Int))(n:Int):Int×Int×Int:=ws.getD n.toNat (0,0,0)
noncomputable def dH(ws:-(Int×Int×Int))(n p:Int):-(Int×Int×Int):=ws.set n.toNat ((uB ws n).1,(uB ws n).2.1,p)
theorem G6{m:Int}{ws:-(Int×Int×Int)}{n p:Int}(W:a_ m ws)(hn:0<=n/\n<(↑ws:Int))(hp:0<=p/\p<=1000000000):a_ m (dH ws n p):=by
 let ht:n.toNat<↑ws:=by symm
 let ea:uB ws n=ws[n.toNat]:=by unfold uB;rw[En,pM ht];rfl
 refine⟨W.m1,W.j3,by unfold dH;rw[Xq];calc W.d4,λy hy=>?_,?_⟩
 .rcases q0e hy with h|h
  .exact W.ends y h
  .subst h
   let:=W.ends _ (getD_mem hn);exact⟨this.1,this.2.1,this.2.2.1,hp.1,hp.2⟩
 .let e:(dH ws n p).map (λy=>(y.1,y.2.1))=ws.map λy=>(y.1,y.2.1):=by
   unfold dH;let:=List.set_getElem_self (as:=ws.map λy=>(y.1,y.2.1)) (i:=n.toNat) (by rw[pN];calc ht);rw[XX] at this;rw[q36,ea];exact this
  rw[e];calc W.unlike
def Ca(C:M):GK:=λys av K=>∃(a b:M)(m:Int)(s:b9)(ps:-b9)(n p:Int),bG m s/\(0<=n/\n<(↑s.1:Int))/\(0<=p/\p<=1000000000)/\↑ps<900/\ys=[.w a,.p (.int n),.p (.int p)]/\av=[kO C a b m s,pO b m ps]/\∀ns bx,aF (bK s) ns->aF (bK (dH s.1 n p,s.2)) bx->K (.p (jT (bT m s ns) (bT m (dH s.1 n p,s.2) bx))) [kO C a b m (dH s.1 n p,s.2),pO b m (ps++[s])] []
def Cb(aa:M):WS:=(aw (iw (az ι aa "need_way" 2 (uz aa) (ae 0) (aq (ae 1) ag))) (aw (bh (dj (dT (ay 3 nv (aq (ae 2) (aq (dC (.int 0)) (aq (dC (.int 1000000000)) ag)))))) lO cA) (aJ (az ι aa "changed" 3 (uA aa) (ae 0) (aq (ay 3 BP (aq (ai aa "town" (ae 0)) (aq (ae 1) (aq (ae 2) ag)))) (aq (ai aa "shut" (ae 0)) ag))))))
theorem G7{ws:-(Int×Int×Int)}{n p:Int}{us:-Int}(S:dq ws us):dq (dH ws n p) us:=⟨S.up,λx hx=>by let:=S.nums x hx;unfold dH;rwa [Xq]⟩
theorem RW(C:M):∀ys av K',↑ys=3->Ca C ys av K'->Cb C (aj ↑av K') ⟨ys.map U++Vv 0 Z,av.map U⟩:=by
 ext ys av K'-⟨a,b,m,s,ps,n,p,O,hn,hp,hl,rfl,rfl,k⟩;unfold Cb;calc aP λN hN=>?_;simp![ai,ak,aA,toF,az,aB,aD,ar,aE,FV.v,aj,mE,pL];calc⟨⟨a,0,_,Y,Y,Y⟩,[(0,kO C a b m s)],⟨Y,trivial⟩,?_⟩;simp![ai,ak,aA,toF,az,aB,aD,ar,aE,FV.v,aj,mE,pL];calc⟨a,b,m,s,n,O,hn,Y,Y,?_⟩;simp![ai,ak,aA,toF,az,aB,aD,ar,aE,FV.v,aj,mE,pL];subst hN;calc aP λN hN=>?_;simp![ai,ak,aA,toF,az,aB,aD,ar,aE,FV.v,aj,mE,pL];calc⟨.int p,0,1000000000,Y,Y,?_⟩;simp![ai,ak,aA,toF,az,aB,aD,ar,aE,FV.v,aj,mE,pL];rw[rm hp.1 hp.2];simp![ai,ak,aA,toF,az,aB,aD,ar,aE,FV.v,aj,mE,pL]
 subst hN;simp![ai,ak,aA,toF,az,aB,aD,ar,aE,FV.v,aj,mE,pL];calc⟨⟨a,0,_,Y,Y,Y⟩,a,0,_,.p (aK m s.1),⟨Y,Y,Y⟩,?_⟩;simp![ai,ak,aA,toF,az,aB,aD,ar,aE,FV.v,aj,mE,pL];calc⟨m,s.1,n,p,O.eS,hn,Y,Y,?_⟩;simp![ai,ak,aA,toF,az,aB,aD,ar,aE,FV.v,aj,mE,pL];calc⟨a,0,_,.p (bj s.2),⟨Y,Y,Y⟩,[(0,kO C a b m s),(1,pO b m ps)],⟨Y,Y,trivial⟩,?_⟩;simp![ai,ak,aA,toF,az,aB,aD,ar,aE,FV.v,aj,mE,pL];calc⟨a,b,m,s,(dH s.1 n p,s.2),ps,O,⟨G6 O.eS hn hp,G7 O.sh⟩,hl,Y,Y,λns bx ho c_=>?_⟩;simp![ai,ak,aA,toF,az,aB,aD,ar,aE,FV.v,aj,mE,pL];calc kr (k ns bx ho c_)
theorem G8{ws:-(Int×Int×Int)}{sh:-Int}{n:Int}(S:dq ws sh)(hn:0<=n/\n<(↑ws:Int))(h:n∉sh):dq ws (sortI (sh++[n])):=by
 let pm:=sortI_perm (sh++[n]);let nd:(sh++[n]).Nodup:=ZA.mpr ⟨S.nd,by simp,λx hx y hy e=>by rw[WW] at hy;subst hy;subst e;calc h hx⟩;refine⟨?_,λx hx=>?_⟩
 .refine ((zN _).and (pm.nodup_iff.mpr nd)).imp λh=>?_
  let⟨h1,h2⟩:=h;symm
 .rcases W7.mp (pm.mem_iff.mp hx) with h|h
  .exact S.nums x h
  .rw[WW] at h;subst h;calc hn
def Cc(C:M):GK:=λys av K=>∃(a b:M)(m:Int)(s:b9)(ps:-b9)(n:Int),bG m s/\(0<=n/\n<(↑s.1:Int))/\n∉s.2/\↑ps<900/\ys=[.w a,.p (.int n)]/\av=[kO C a b m s,pO b m ps]/\∀ns bx,aF (bK s) ns->aF (bK (s.1,sortI (s.2++[n]))) bx->K (.p (jT (bT m s ns) (bT m (s.1,sortI (s.2++[n])) bx))) [kO C a b m (s.1,sortI (s.2++[n])),pO b m (ps++[s])] []
def Cd(aa:M):WS:=(aw (iw (az ι aa "need_way" 2 (uz aa) (ae 0) (aq (ae 1) ag))) (aw (bh (dT (d2 (ae 1) (ai aa "shut" (ae 0)) (iy ι))) lO cA) (aJ (az ι aa "changed" 3 (uA aa) (ae 0) (aq (ai aa "town" (ae 0)) (aq (dN (aq (d2 (ai aa "shut" (ae 0)) (bX (aq (ae 1) ag)) cH) ag) oP) ag))))))
theorem RX(C:M):∀ys av K',↑ys=2->Cc C ys av K'->Cd C (aj ↑av K') ⟨ys.map U++Vv 0 Z,av.map U⟩:=by
 ext ys av K'-⟨a,b,m,s,ps,n,O,hn,hs,hl,rfl,rfl,k⟩;let uy:=O.len;unfold Cd;calc aP λN hN=>?_;simp![ai,ak,aA,toF,az,aB,aD,ar,aE,FV.v,aj,mE,pL];calc⟨⟨a,0,_,Y,Y,Y⟩,[(0,kO C a b m s)],⟨Y,trivial⟩,?_⟩;simp![ai,ak,aA,toF,az,aB,aD,ar,aE,FV.v,aj,mE,pL];calc⟨a,b,m,s,n,O,hn,Y,Y,?_⟩;simp![ai,ak,aA,toF,az,aB,aD,ar,aE,FV.v,aj,mE,pL];subst hN;calc aP λN hN=>?_;simp![ai,ak,aA,toF,az,aB,aD,ar,aE,FV.v,aj,mE,pL];calc⟨a,0,_,.p (bj s.2),⟨Y,Y,Y⟩,?_⟩;simp![ai,ak,aA,toF,az,aB,aD,ar,aE,FV.v,aj,mE,pL,bj,nY,Wn hs];calc⟨lr s.2,?_⟩;subst hN;simp![ai,ak,aA,toF,az,aB,aD,ar,aE,FV.v,aj,mE,pL]
 calc⟨⟨a,0,_,Y,Y,Y⟩,a,0,_,.p (aK m s.1),⟨Y,Y,Y⟩,a,0,_,.p (bj s.2),⟨Y,Y,Y⟩,?_⟩;simp![ai,ak,aA,toF,az,aB,aD,ar,aE,FV.v,aj,mE,pL,bj];calc⟨⋯,?_⟩;rw[show s.2.map D.int++[D.int n]=(s.2++[n]).map D.int by rw[WK];rfl];erw[oP,lR];calc⟨by rw[MJ];simp;symm,[(0,kO C a b m s),(1,pO b m ps)],⟨Y,Y,trivial⟩,?_⟩;simp![ai,ak,aA,toF,az,aB,aD,ar,aE,FV.v,aj,mE,pL];calc⟨a,b,m,s,(s.1,sortI (s.2++[n])),ps,O,⟨O.eS,G8 O.sh hn hs⟩,hl,Y,Y,λns bx ho c_=>?_⟩;simp![ai,ak,aA,toF,az,aB,aD,ar,aE,FV.v,aj,mE,pL];calc kr (k ns bx ho c_)
noncomputable def jU(sh:-Int)(n:Int):-Int:=sh.filter λx=>S (x≠n)
theorem uL{ws:-(Int×Int×Int)}{sh:-Int}{n:Int}(S:dq ws sh):dq ws (jU sh n):=⟨S.up.filter _,λx hx=>S.nums x (X8.mp hx).1⟩
def Ce(C:M):GK:=λys av K=>∃(a b:M)(m:Int)(s:b9)(ps:-b9)(n:Int),bG m s/\(0<=n/\n<(↑s.1:Int))/\n∈s.2/\↑ps<900/\ys=[.w a,.p (.int n)]/\av=[kO C a b m s,pO b m ps]/\∀ns bx,aF (bK s) ns->aF (bK (s.1,jU s.2 n)) bx->K (.p (jT (bT m s ns) (bT m (s.1,jU s.2 n) bx))) [kO C a b m (s.1,jU s.2 n),pO b m (ps++[s])] []
def Cf(aa:M):WS:=(aw (iw (az ι aa "need_way" 2 (uz aa) (ae 0) (aq (ae 1) ag))) (aw (bh (dT (d2 (ae 1) (ai aa "shut" (ae 0)) (iy θ))) lO cA) (aJ (az ι aa "changed" 3 (uA aa) (ae 0) (aq (ai aa "town" (ae 0)) (aq (eE (bQ (ai aa "shut" (ae 0))) [Z,U 1] (bF 0) (dT (d2 (ae 0) (ae 1) jj)) (ae 0)) ag))))))
theorem RY(C:M):∀ys av K',↑ys=2->Ce C ys av K'->Cf C (aj ↑av K') ⟨ys.map U++Vv 0 Z,av.map U⟩:=by
 ext ys av K'-⟨a,b,m,s,ps,n,O,hn,hs,hl,rfl,rfl,k⟩;let uy:=O.len;unfold Cf;calc aP λN hN=>?_;simp![ai,ak,aA,toF,az,aB,aD,ar,aE,FV.v,aj,mE,pL];calc⟨⟨a,0,_,Y,Y,Y⟩,[(0,kO C a b m s)],⟨Y,trivial⟩,?_⟩;simp![ai,ak,aA,toF,az,aB,aD,ar,aE,FV.v,aj,mE,pL];calc⟨a,b,m,s,n,O,hn,Y,Y,?_⟩;simp![ai,ak,aA,toF,az,aB,aD,ar,aE,FV.v,aj,mE,pL];subst hN;calc aP λN hN=>?_;simp![ai,ak,aA,toF,az,aB,aD,ar,aE,FV.v,aj,mE,pL];calc⟨a,0,_,.p (bj s.2),⟨Y,Y,Y⟩,?_⟩;simp![ai,ak,aA,toF,az,aB,aD,ar,aE,FV.v,aj,mE,pL,bj,nY,Wu hs];calc⟨lr s.2,?_⟩;subst hN;simp![ai,ak,aA,toF,az,aB,aD,ar,aE,FV.v,aj,mE,pL]
 calc⟨⟨a,0,_,Y,Y,Y⟩,a,0,_,.p (aK m s.1),⟨Y,Y,Y⟩,a,0,_,.p (bj s.2),⟨Y,Y,Y⟩,?_⟩;simp![ai,ak,aA,toF,az,aB,aD,ar,aE,FV.v,aj,mE,pL,bj];refine lT (λd=>S (dI d≠n)) (λd=>d) (by rw[pN];symm) trivial ?_ ?_
 .ext d hd acc L ha h1 h2
  let⟨x,hx,rfl⟩:=Wq.mp hd;simp![ai,ak,aA,toF,az,aB,aD,ar,aE,FV.v,aj,mE,pL,nX];erw[dI] at h1 h2
  by_cases c:x=n
  .rw[Wu c];exact h2 (Wn (YZ c))
  .rw[Wn c];exact⟨ha,h1 (Wu c)⟩
 .rw[qu λx=>S (x≠n)]
  calc⟨[(0,kO C a b m s),(1,pO b m ps)],⟨Y,Y,trivial⟩,?_⟩;simp![ai,ak,aA,toF,az,aB,aD,ar,aE,FV.v,aj,mE,pL];calc⟨a,b,m,s,(s.1,jU s.2 n),ps,O,⟨O.eS,uL O.sh⟩,hl,Y,Y,λns bx ho c_=>?_⟩;simp![ai,ak,aA,toF,az,aB,aD,ar,aE,FV.v,aj,mE,pL];calc kr (k ns bx ho c_)
def Cg(C:M):GK:=λys av K=>∃(a b:M)(m:Int)(s s':b9)(ps:-b9),bG m s/\bG m s'/\↑ps<900/\ys=[.w a]/\av=[kO C a b m s,pO b m (ps++[s'])]/\∀ns bx,aF (bK s) ns->aF (bK s') bx->K (.p (jT (bT m s ns) (bT m s' bx))) [kO C a b m s',pO b m ps] []
def Ci(aa:M):WS:=(aw (bh (dT (d2 (dN (aq (ak (ai aa "past" (ae 0))) ag) bY) (dC (.int 0)) oEq)) lO cA) (aw (aM 1 (qe (ak (ai aa "past" (ae 0))))) (aJ (az ι aa "set_to" 3 (wN aa) (ae 0) (aq (d2 (ae 1) (dC (.int 0)) aR) (aq (d2 (ae 1) (dC (.int 1)) aR) ag))))))
theorem RZ(C:M):∀ys av K',↑ys=1->Cg C ys av K'->Ci C (aj ↑av K') ⟨ys.map U++Vv 1 Z,av.map U⟩:=by
 ext ys av K'-⟨a,b,m,s,s',ps,O,O',hl,rfl,rfl,k⟩;let e:(ps++[s']).map (cJ m)=ps.map (cJ m)++[cJ m s']:=WK;unfold Ci;calc aP λN hN=>?_;simp![ai,ak,aA,toF,az,aB,aD,ar,aE,FV.v,aj,mE,pL];calc⟨a,0,_,.w b,⟨Y,Y,Y⟩,b,1,_,⟨Y,Y,Y⟩,?_⟩;simp![ai,ak,aA,toF,az,aB,aD,ar,aE,FV.v,aj,mE,pL,pO,e];rw[nX,Wn ⋯,Vw (by decide)];subst hN;calc aP λN hN=>?_;simp![ai,ak,aA,toF,az,aB,aD,ar,aE,FV.v,aj,mE,pL];calc⟨a,0,_,.w b,⟨Y,Y,Y⟩,b,1,_,⟨Y,Y,Y⟩,?_⟩;simp![ai,ak,aA,toF,az,aB,aD,ar,aE,FV.v,aj,mE,pL];rw[show ↑ps+1-1=↑(ps.map (cJ m)) by rw[pN];symm,Z0]
 simp![ai,ak,aA,toF,az,aB,aD,ar,aE,FV.v,aj,mE,pL,List.dropLast_concat];subst hN;simp![ai,ak,aA,toF,az,aB,aD,ar,aE,FV.v,aj,mE,pL,cJ,df,cI];calc⟨⟨a,0,_,Y,Y,Y⟩,[(0,kO C a b m s)],⟨Y,trivial⟩,?_⟩;simp![ai,ak,aA,toF,az,aB,aD,ar,aE,FV.v,aj,mE,pL];calc⟨a,b,m,s,s',O,O',Y,Y,λns bx ho c_=>?_⟩;simp![ai,ak,aA,toF,az,aB,aD,ar,aE,FV.v,aj,mE,pL];calc⟨[kO C a b m s',pO b m ps],[],[],Y,Y,k ns bx ho c_⟩
end LJ
namespace LJT
open PySem L2 LJ
variable[aS]
mutual
noncomputable def ik:D->Bool
 |.lst ds=>S (↑ds<=1000)&&fm ds
 |.tup ds=>S (↑ds<=1000)&&fm ds
 |_=>θ
noncomputable def fm:-D->Bool
 |[]=>θ
 |d::r=>ik d&&fm r
end
theorem gP:∀{ds:-D},fm ds=θ->∀d∈ds,ik d=θ
 |[],_,d,h=>nomatch h
 |a::r,hn,d,h=>by
  erw[fm,WZ] at hn;rcases MN.mp h with rfl|h
  .exact hn.1
  .calc gP hn.2 d h
inductive aW (n:Nat) (ys:-DV) (av:-OV) (K:RV->-OV->Prop):Prop
 |mk (d) (_:dep d<=n) (_:n<=50) (_:ik d=θ) (_:ys=[.p d,.p d]) (_:av=[]) (_:K (.p (.bl θ)) [])
def aO(rG:GD):WS:=(aw (bh (dT (d2 (ae 1) (dC .non) kR)) (aJ (d2 (ae 0) (dC .non) kR)) cA) (aw (bh (mL (dT (d1 (ae 1) (cO "bool"))) (dT (d1 (ae 0) (cO "bool")))) (aJ (j7 (d1 (ae 1) (cO "bool")) (j7 (d1 (ae 0) (cO "bool")) (d2 (ae 0) (ae 1) oEq)))) cA) (aw (bh (dT (d1 (ae 1) (cO "int"))) (aJ (j7 (d1 (ae 0) (cO "int")) (d2 (ae 0) (ae 1) oEq))) cA) (aw (bh (dT (d1 (ae 1) (cO "str"))) (aJ (j7 (d1 (ae 0) (cO "str")) (d2 (ae 0) (ae 1) oEq))) cA) (aw (bh (mL (dT (d2 (d1 (ae 1) (cO "tuple")) (d1 (ae 0) (cO "tuple")) jj)) (dT (d2 (d1 (ae 1) (cO "list")) (d1 (ae 0) (cO "list")) jj))) (aJ (dC (.bl ι))) cA) (aw (bh (dT (d2 (dN (aq (ae 0) ag) bY) (dN (aq (ae 1) ag) bY) jj)) (aJ (dC (.bl ι))) cA) (aJ (d2 (dC (.bl ι)) (eE (wF (aq (ae 0) (aq (ae 1) ag))) [Z,Z] (j8 2 (fG (bF 0) (fG (bF 1) jE))) dm (ay 2 rG (aq (ae 0) (aq (ae 1) ag)))) (iy θ)))))))))
def ip(g:Nat->GD):Nat->GD
 |0=>λ_ _ _=>False
 |n+1=>g n
theorem R0(g:GD){K':RV->-OV->Prop}(k:K' (.p (.bl θ)) []):aO g (iQ 0 K') ⟨[U (.p .non),U (.p .non)],[]⟩:=by
 unfold aO;calc aP λN hN=>?_;simp![cF,ny,nA,nB,nD,nE,aI];calc jK k
theorem R1(g:GD){K':RV->-OV->Prop}(b:Bool)(k:K' (.p (.bl θ)) []):aO g (iQ 0 K') ⟨[U (.p (.bl b)),U (.p (.bl b))],[]⟩:=by
 unfold aO;calc aP λN hN=>?_;simp![cF,lU,lV,lW,lX,lY,fI];subst hN;calc aP λN hN=>?_;simp![cF,lU,lV,lW,lX,lY,fI];calc jK k
theorem same_int(g:GD){K':RV->-OV->Prop}(b:Int)(k:K' (.p (.bl θ)) []):aO g (iQ 0 K') ⟨[U (.p (.int b)),U (.p (.int b))],[]⟩:=by
 unfold aO;calc aP λN hN=>?_;simp![cF,kY,kZ,k6,k9,k_,fI];subst hN;calc aP λN hN=>?_;simp![cF,kY,kZ,k6,k9,k_,fI];subst hN;calc aP λN hN=>?_;simp![cF,kY,kZ,k6,k9,k_,fI];calc jK k
theorem same_str(g:GD){K':RV->-OV->Prop}(b:R)(k:K' (.p (.bl θ)) []):aO g (iQ 0 K') ⟨[U (.p (.str b)),U (.p (.str b))],[]⟩:=by
 unfold aO;calc aP λN hN=>?_;simp![cF,ka,kg,kh,ki,kj,fI];subst hN;calc aP λN hN=>?_;simp![cF,ka,kg,kh,ki,kj,fI];subst hN;calc aP λN hN=>?_;simp![cF,ka,kg,kh,ki,kj,fI];subst hN;calc aP λN hN=>?_;simp![cF,ka,kg,kh,ki,kj,fI];calc jK k
theorem R3{n:Nat}{K':RV->-OV->Prop}{ds:-D}(hd:dep (.lst ds)<=n)(hn:n<=50)(nd:ik (.lst ds)=θ)(k:K' (.p (.bl θ)) []):aO (ip aW n) (iQ 0 K') ⟨[U (.p (.lst ds)),U (.p (.lst ds))],[]⟩:=by
 unfold aO;calc aP λN hN=>?_;simp![cF,ny,nA,nB,nD,nE,lU,lV,lW,lX,lY,kY,kZ,k6,k9,k_,ka,kg,kh,ki,kj,nG,nH,nJ,nK,nL,nM,nN,nP,nQ,nR];subst hN;calc aP λN hN=>?_;simp![cF,ny,nA,nB,nD,nE,lU,lV,lW,lX,lY,kY,kZ,k6,k9,k_,ka,kg,kh,ki,kj,nG,nH,nJ,nK,nL,nM,nN,nP,nQ,nR];subst hN;calc aP λN hN=>?_;simp![cF,ny,nA,nB,nD,nE,lU,lV,lW,lX,lY,kY,kZ,k6,k9,k_,ka,kg,kh,ki,kj,nG,nH,nJ,nK,nL,nM,nN,nP,nQ,nR];subst hN;calc aP λN hN=>?_;simp![cF,ny,nA,nB,nD,nE,lU,lV,lW,lX,lY,kY,kZ,k6,k9,k_,ka,kg,kh,ki,kj,nG,nH,nJ,nK,nL,nM,nN,nP,nQ,nR];subst hN;calc aP λN hN=>?_;simp![cF,nM,nN,nP,nQ,nR]
 subst hN;erw[fI,q0n,Xb,Yw];calc aP λN hN=>?_;simp![fI];subst hN;let⟨m,rfl⟩:∃m,n=m+1:=⟨n-1,by erw[dep] at hd;symm⟩;let Cj:bq ds<=m:=by erw[dep] at hd;symm
 let Cm:fm ds=θ:=by erw[ik,WZ] at nd;exact nd.2
 let uC:↑ds<=1000:=by erw[ik,WZ,XH] at nd;exact nd.1
 let zl:↑(cN ds ds)<=1000:=by rw[vI];symm
 simp![wF];refine L2.iR (λd=>.bl θ) zl trivial ?_ ?_
 .ext d ph acc L ha h
  let⟨a,rfl,ma⟩:=As ph;simp!;calc⟨a,WU (Ar ma) Cj,⋯,gP Cm a ma,Y,Y,?_⟩;simp!;exact⟨ha,h⟩
 .simp!
  let e1:((cN ds ds).map λ_=>D.bl θ).any (λe=>aI e (.bl ι))=ι:=by
   rw[Yh];ext x hx;let⟨_,_,rfl⟩:=Wq.mp hx;simp[aI]
  let e2:bq ((cN ds ds).map λ_=>D.bl θ)<=55:=Au _;calc⟨e2,by rw[e1];calc jK k⟩
theorem lC{n:Nat}{K':RV->-OV->Prop}{ds:-D}(hd:dep (.tup ds)<=n)(hn:n<=50)(nd:ik (.tup ds)=θ)(k:K' (.p (.bl θ)) []):aO (ip aW n) (iQ 0 K') ⟨[U (.p (.tup ds)),U (.p (.tup ds))],[]⟩:=by
 unfold aO;calc aP λN hN=>?_;simp![cF,ny,nA,nB,nD,nE,lU,lV,lW,lX,lY,kY,kZ,k6,k9,k_,ka,kg,kh,ki,kj,nG,nH,nJ,nK,nL,nM,nN,nP,nQ,nR];subst hN;calc aP λN hN=>?_;simp![cF,ny,nA,nB,nD,nE,lU,lV,lW,lX,lY,kY,kZ,k6,k9,k_,ka,kg,kh,ki,kj,nG,nH,nJ,nK,nL,nM,nN,nP,nQ,nR];subst hN;calc aP λN hN=>?_;simp![cF,ny,nA,nB,nD,nE,lU,lV,lW,lX,lY,kY,kZ,k6,k9,k_,ka,kg,kh,ki,kj,nG,nH,nJ,nK,nL,nM,nN,nP,nQ,nR];subst hN;calc aP λN hN=>?_;simp![cF,ny,nA,nB,nD,nE,lU,lV,lW,lX,lY,kY,kZ,k6,k9,k_,ka,kg,kh,ki,kj,nG,nH,nJ,nK,nL,nM,nN,nP,nQ,nR];subst hN;calc aP λN hN=>?_;simp![cF,nG,nH,nJ,nK,nL]
 subst hN;erw[fI,q0n,Xb,Yw];calc aP λN hN=>?_;simp![fI];subst hN;let⟨m,rfl⟩:∃m,n=m+1:=⟨n-1,by erw[dep] at hd;symm⟩;let Cj:bq ds<=m:=by erw[dep] at hd;symm
 let Cm:fm ds=θ:=by erw[ik,WZ] at nd;exact nd.2
 let uC:↑ds<=1000:=by erw[ik,WZ,XH] at nd;exact nd.1
 let zl:↑(cN ds ds)<=1000:=by rw[vI];symm
 simp![wF];refine L2.iR (λd=>.bl θ) zl trivial ?_ ?_
 .ext d ph acc L ha h
  let⟨a,rfl,ma⟩:=As ph;simp!;calc⟨a,WU (Ar ma) Cj,⋯,gP Cm a ma,Y,Y,?_⟩;simp!;exact⟨ha,h⟩
 .simp!
  let e1:((cN ds ds).map λ_=>D.bl θ).any (λe=>aI e (.bl ι))=ι:=by
   rw[Yh];ext x hx;let⟨_,_,rfl⟩:=Wq.mp hx;simp[aI]
  let e2:bq ((cN ds ds).map λ_=>D.bl θ)<=55:=Au _;calc⟨e2,by rw[e1];calc jK k⟩
theorem fM(n:Nat):Sem 2 0 (aW n) (aO (ip aW n)):=by
 ext ys av K'-⟨d,hd,hn,nd,rfl,rfl,k⟩
 .cases d with
  |tup ds=>exact lC hd hn nd k
  |non=>exact R0 _ k
  |bl b=>exact R1 _ b k
  |int b=>exact same_int _ b k
  |str b=>exact same_str _ b k
  |lst ds=>calc R3 hd hn nd k
end LJT
namespace LJ
open PySem L2
theorem G9:bootBuiltins "repr" = U (.builtin "repr"):=by decide +kernel
def Rp(d:D):Prop:=(lB d).showable=θ/\(lB d).depth<=5/\↑(rep d)<=100
theorem R4{i:Int}(h:i.natAbs<10 ^ 30):Rp (.int i):=by
 refine⟨?_,W8 _,?_⟩
 .show S (i.natAbs.log2<1920)=θ
  refine Wu ?_
  by_cases z:i.natAbs=0
  .rw[z];decide
  .exact (q5b z).mpr (Wr h (by decide))
 .show ↑(XA (toString i))<=100
  rw[ofString_length];let:=int_text_length_le10 (k:=30) (by decide) h;symm
theorem G_:∀ds:-D,↑(dr ds)=↑ds
 |[]=>Y
 |_::r=>by erw[dr,Em,G_ r]
theorem Ha:∀{ds:-D},(∀d∈ds,Rp d)->q1J (dr ds)=θ
 |[],_=>Y
 |d::r,h=>by
  erw[dr,q1J,WZ];calc⟨(h d Wo).1,Ha λe he=>h e (Vu _ he)⟩
theorem Hb:∀{ds:-D},(∀d∈ds,Rp d)->q0V (dr ds)<=5
 |[],_=>W8 _
 |d::r,h=>by
  erw[dr,q0V];let:=(h d Wo).2.1;let:=Hb λe he=>h e (Vu _ he);symm
theorem Hc:∀{ds:-D},(∀d∈ds,Rp d)->∀t∈YW (dr ds),↑t<=100
 |[],_,t,ht=>by simp[dr,YW] at ht
 |d::r,h,t,ht=>by
  erw[dr,YW] at ht;rcases MN.mp ht with rfl|ht
  .exact (h d Wo).2.2
  .calc Hc (λe he=>h e (Vu _ he)) t ht
theorem Hd:∀ds:-PyData,↑(YW ds)=↑ds
 |[]=>Y
 |_::r=>by erw[YW,Em,Hd r]
theorem He:∀(ts:-R)(k:Nat)(acc:R),(∀t∈ts,↑t<=100)->↑(textFrom k acc ts)<=↑acc+102*↑ts
 |[],k,acc,_=>by show ↑acc<=_;symm
 |t::r,k,acc,h=>by
  let ih:=He r (k+1) (acc++(if k>0 then ", " else "" : String)++t) λe he=>h e (Vu _ he);let h1:=h t Wo
  let e:↑(acc++(if k>0 then ", " else "" : String)++t)<=↑acc+2+↑t:=by
   rw[q0k,q0k];split
   .let:↑(XA ", ")=2:=by decide +kernel
    symm
   .let:↑(XA "")=0:=by decide +kernel
    symm
  show↑(textFrom (k+1) _ r)<=_;rw[Em];symm
theorem R5{ds:-D}(h:∀d∈ds,Rp d)(hl:↑ds<=300):qv (.lst ds):=by
 let e1:=Ha h;let e2:=Hb h;calc⟨e1,by show q0V (dr ds)+1<=8;symm,?_⟩;show↑(listText (YW (dr ds)))<=2 ^ 24;unfold listText;rw[q0k]
 let:=He _ 0 "[" (Hc h)
 let a1:↑(XA "[")=1:=by decide +kernel
 let a2:↑(XA "]")=1:=by decide +kernel
 rw[Hd,G_] at this;symm
end LJ
namespace LJ
open PySem L2 PySem.Spec PySem.W PyProof.Rows
structure Ev where
 P:l
 w:g
 K:El
 mg:R->Option O
 base:I
section
variable[aS]
structure Fx(V:Ev)(k:Nat)(x:R)(ps:-R)(n:Nat)(G:GD):Prop where
 ex:∃f fd,Fn V.P V.w V.K V.mg V.base k x ps (mT G n) f fd
def Dx(V:Ev)(x:R)(st:o):Prop:=∃f fd,V.mg x=U (.ref f)/\fS V.K x x st f fd
def wO(V:Ev)(x:R)(st:o)(T:M)(pos:y)(q:R):Prop:=∃f fd,(V.mg x=U (.ref f)/\fS V.K x x st f fd)/\gN V.mg V.base fd T pos q
def Ct(V:Ev)(x:R)(i:Int):Prop:=∃u,V.mg x=U u/\RelV (.int i) u
section
variable{X:Cx}{x:R}{ps:-R}{G:GD}{e:J}{es:-J}{fa:WA}{p pos:y}{j k n:Nat}
theorem bL(F:Fx ⟨X.prog,X.w,X.K,X.mg,X.base⟩ j x ps n G)(hr:aY k X.A)(ha:JA X (e::es) (b8 fa))(hj:‹q2d j k=θ›)(hg:‹Gl X x›)(dP: ~~~(bV x))(he:‹cj X e es›)(cR:‹cD X pos es›):
  JE X (.Call (.Name x p) (e::es) [] pos) (tD (ay n G fa)):=let⟨_,_,F⟩:=F.ex;N3 F.ok (hr.mono (X_ hj)) hg F.vj F.kp F.bd ha dP he cR
theorem R6(F:Fx ⟨X.prog,X.w,X.K,X.mg,X.base⟩ j x ps n G)(hr:aY k X.A)(ha:JA X (e::es) (b8 fa))(hj:‹q2d j k=θ›)(hg:‹Gl X x›)(dP: ~~~(bV x))(he:‹cj X e es›)(cR:‹cD X pos es›):
  JE X (.Call (.Name x p) (e::es) [] pos) (tD (tM n G fa)):=let⟨_,_,F⟩:=F.ex;N4 F.ok (hr.mono (X_ hj)) hg F.vj F.kp F.bd ha dP he cR
theorem Hf{i:Int}(C:Ct ⟨X.prog,X.w,X.K,X.mg,X.base⟩ x i)(hg:‹Gl X x›)(hd: ~~~(bV x)):JE X (.Name x pos) (tD (dC (.int i))):=let⟨_,a,b⟩:=C;NN hg a b hd
end
theorem _root_.L2.gN.env{mg:R->Option O}{base:I}{fd:FuncData}{T:M}{lp:y}{q:R}{bc:O}(L:gN mg base fd T lp q)(h:fd.code=bc):∃cc,bc=.ref cc/\CodeHd base cc T:=let⟨cc,e1,e2⟩:=L.code;⟨cc,h.symm.trans e1,e2⟩
noncomputable def R7:NameKind->Bool
 |.local=>θ
 |.cell=>θ
 |_=>ι
noncomputable def R8:NameKind->Bool
 |.free=>ι
 |_=>θ
noncomputable def R9:ScopeKind->Bool
 |.function=>θ
 |_=>ι
noncomputable def qw(N P:-R)(sc:a):Bool:=R9 sc.kind && !sc.isCoroutine && !sc.isGenerator&&S N.Nodup&&S (N.take ↑P=P)&&(P.all λx=>match sc.names.lookup x with
 |some k=>R7 k
 |none=>ι)&&sc.names.all λy=>R8 y.2
theorem fq{N P:-R}{sc:a}(h:qw N P sc=θ):mx N P sc:=by
 unfold qw at h;erw[WZ,ZD,XH,XS] at h;let⟨⟨⟨⟨⟨⟨h1,h2⟩,h3⟩,h4⟩,h5⟩,h6⟩,h7⟩:=h;refine⟨?_,h2,h3,h4,h5,λx hx=>?_,λy hy z=>?_⟩
 .cases q:sc.kind<;>rw[q] at h1<;>first|rfl|cases h1
 .let:=h6 x hx
  split at this
  .rename_i k e
   rw[e];cases k<;>first|exact .inl Y|exact .inr Y|cases this
  .cases this
 .let:=h7 y hy
  rw[z] at this;cases this
def i5(x:R)(st:o)(ps:-R):Prop:=∀(kV doc pm:O)(an:Option M)(bc ct:O)(us:-O),↑us=↑ps->bindArgs (Xe x x (iJ st) (fE st) (cn st) .none kV doc pm an bc ct) ⟨us,[]⟩=pure (ps.zip us)
section
theorem Co{us:-O}(h:↑us=1):∃a,us=[a]:=List.length_eq_one_iff.mp h
theorem Cp{us:-O}(h:↑us=2):∃a b,us=[a,b]:=by
 cases us with
 |nil=>cases h
 |cons a r=>let⟨b,rfl⟩:=Co (q37 h);calc⟨a,b,Y⟩
theorem Hg{us:-O}(h:↑us=3):∃a b c,us=[a,b,c]:=by
 cases us with
 |nil=>cases h
 |cons a r=>let⟨b,c,rfl⟩:=Cp (q37 h);calc⟨a,b,c,Y⟩
theorem lD{x:R}{st:o}{ps:-R}(h:‹∀(kV doc pm:O) (an:Option M) (bc ct a:O),bindArgs (Xe x x (iJ st) (fE st) (cn st) .none kV doc pm an bc ct) ⟨[a],[]⟩=pure (ps.zip [a])›)(hl:‹↑ps=1›):i5 x st ps:=λkV doc pm an bc ct us hu=>by
 let⟨a,rfl⟩:=Co (hu.trans hl);calc h kV doc pm an bc ct a
theorem gx{x:R}{st:o}{ps:-R}(h:‹∀(kV doc pm:O) (an:Option M) (bc ct a b:O),bindArgs (Xe x x (iJ st) (fE st) (cn st) .none kV doc pm an bc ct) ⟨[a,b],[]⟩=pure (ps.zip [a,b])›)(hl:‹↑ps=2›):i5 x st ps:=λkV doc pm an bc ct us hu=>by
 let⟨a,b,rfl⟩:=Cp (hu.trans hl);calc h kV doc pm an bc ct a b
theorem oY{x:R}{st:o}{ps:-R}(h:‹∀(kV doc pm:O) (an:Option M) (bc ct a b c:O),bindArgs (Xe x x (iJ st) (fE st) (cn st) .none kV doc pm an bc ct) ⟨[a,b,c],[]⟩=pure (ps.zip [a,b,c])›)(hl:‹↑ps=3›):i5 x st ps:=λkV doc pm an bc ct us hu=>by
 let⟨a,b,c,rfl⟩:=Hg (hu.trans hl);calc h kV doc pm an bc ct a b c
variable{V:Ev}{x:R}{st:o}{N ps:-R}{k:Nat}{G:GD}
theorem dA(D:Dx V x st)(bd:i5 x st ps)(h:∀{bc:O} {A:q} {outer:-t} {s:ο} {H:Hp} {E:XK} {f:M},aY k (A.deeper (envOfC x (cn st) ⇑s f bc))->N.Nodup->(A.deeper (envOfC x (cn st) ⇑s f bc)).units+64<cLine →
   ∃B:WS,dM (eK eM V.P V.w V.K V.mg V.base N x (cn st) f bc A outer s H E).jY (fE st) (dZ B)/\∀ys av K',↑ys=↑ps->G ys av K'->B (iQ ↑av K') ⟨ys.map U++Vv (↑N-↑ps) Z,av.map U⟩)(sc:autoParam (qw N ps (cn st)=θ) qz3._auto_1):Fx V (k+1) x ps ↑ps G :=
 let⟨f,fd,a,F⟩:=D
 ⟨f,fd,F.NW (fq sc) λbc A outer s H E hr=>h hr (fq sc).nd hr.units,a,F.kp,F.binds bd⟩
theorem R_{T:M}{lp:y}{q:R}(D:wO V x st T lp q)(bd:i5 x st ps)(h:∀{bc:O} {A:Β} {outer:-t} {s:ο} {H:Hp} {E:XK} {f:M} {fd:FuncData},gN V.mg V.base fd T lp q->fd.code=bc->aY k (A.deeper (envOfC x (cn st) ⇑s f bc))->N.Nodup->(A.deeper (envOfC x (cn st) ⇑s f bc)).units+64<cLine →
   ∃B:WS,dM (eK eM V.P V.w V.K V.mg V.base N x (cn st) f bc A outer s H E).jY (fE st) (dZ B)/\∀ys av K',↑ys=↑ps->G ys av K'->B (iQ ↑av K') ⟨ys.map U++Vv (↑N-↑ps) Z,av.map U⟩)(sc:autoParam (qw N ps (cn st)=θ) qz3._auto_1):Fx V (k+1) x ps ↑ps G :=
 let⟨f,fd,⟨a,F⟩,LD⟩:=D
 ⟨f,fd,F.A7 (fq sc) λbc A outer s H E hc hr=>h LD hc hr (fq sc).nd hr.units,a,F.kp,F.binds bd⟩
end
end
section
variable{K:El}{h:I}{mg:R->Option O}
def Dk(K:El)(x:R)(st:o):Prop:=∃f fd,Yd K mainGlobals x=U (U (.ref f))/\fS K x x st f fd
inductive gQ (K:El):-(R×o)->Prop
 |nil:gQ K []
 |cons {x st r}:Dk K x st->gQ K r->gQ K ((x,st)::r)
theorem Cq{x:R}{st:o}{r:-(R×o)}{f:M}{od an:Option M}{sl:Array (Option O)}{oc kV dc pm cd ct:O}(a:Yd K mainGlobals x=U (U (.ref f)))(l:K.lookup f=U ⟨oc,od,.func (Xe x x (iJ st) (fE st) (cn st) .none kV dc pm an cd ct),sl⟩)(q:Y8 K cd x=θ)(k:Xy K (.ref f)=θ)(h:gQ K r):gQ K ((x,st)::r) :=
 .cons ⟨f,_,a,u9 l q k⟩ h
theorem gQ.at{ds:-(R×o)}(h:gQ K ds)(i:Nat){x:R}{st:o}(e:ds[i]?=U (x,st)):Dk K x st:=by
 induction h generalizing i with
 |nil=>cases e
 |cons d _ ih=>cases i with
  |zero=>cases e;exact d
  |succ i=>calc ih i e
def wQ(K:El)(x:R)(st:o)(T:M):Prop:=∃f fd,(Yd K mainGlobals x=U (U (.ref f))/\fS K x x st f fd)/\∃cc,fd.code=.ref cc/\q2v K cc T=θ
inductive eT (K:El):-(R×o×M)->Prop
 |nil:eT K []
 |cons {x st T r}:wQ K x st T->eT K r->eT K ((x,st,T)::r)
theorem uD{x:R}{st:o}{T:M}{r:-(R×o×M)}{f cc:M}{od an:Option M}{sl:Array (Option O)}{oc kV dc pm ct:O}(a:Yd K mainGlobals x=U (U (.ref f)))(l:K.lookup f=U ⟨oc,od,.func (Xe x x (iJ st) (fE st) (cn st) .none kV dc pm an (.ref cc) ct),sl⟩)(q:Y8 K (.ref cc) x=θ)(k:Xy K (.ref f)=θ)(c:q2v K cc T=θ)(h:eT K r):eT K ((x,st,T)::r) :=
 .cons ⟨f,_,⟨a,u9 l q k⟩,cc,Y,c⟩ h
theorem eT.at{ds:-(R×o×M)}(h:eT K ds)(i:Nat){x:R}{st:o}{T:M}(e:ds[i]?=U (x,st,T)):wQ K x st T:=by
 induction h generalizing i with
 |nil=>cases e
 |cons d _ ih=>cases i with
  |zero=>cases e;exact d
  |succ i=>calc ih i e
theorem eT.code{ds:-(R×o×M)}(h:eT K ds){hp:I}(X:K.In hp):∀T∈ds.map (·.2.2),∃cc,q29 hp cc T:=by
 induction h with
 |nil=>ext T hT;exact nomatch hT
 |cons d _ ih =>
  ext T hT;rcases MN.mp hT with rfl|hT
  .let⟨_,_,_,cc,_,e⟩:=d
   exact⟨cc,q1g X e⟩
  .calc ih T hT
theorem Sa{x:R}{r:-R}(a:Yd K mainGlobals x=U Z)(h:∀y∈r,Yd K mainGlobals y=U Z):∀y∈x::r,Yd K mainGlobals y=U Z:=λy hy=>by
 rcases MN.mp hy with rfl|hy
 .exact a
 .calc h y hy
theorem Sb{ls:-lh}(nd:(ls.map (·.T)).Nodup):∀{a b:lh},a∈ls->b∈ls->a.T=b.T->a=b:=by
 induction ls with
 |nil=>ext a b ha;exact nomatch ha
 |cons c r ih =>
  ext a b ha hb e;rw[Wx,YS] at nd;rcases MN.mp ha with rfl|ha'<;>rcases MN.mp hb with rfl|hb'
  .rfl
  .exact absurd (Wq.mpr ⟨b,hb',e.symm⟩) nd.1
  .exact absurd (Wq.mpr ⟨a,ha',e⟩) nd.1
  .calc ih nd.2 ha' hb' e
theorem Dk.v{P:l}{w:g}{base:I}{x:R}{st:o}(d:Dk K x st)(X:K.In h)(G:h.Ns mainGlobals mg):Dx ⟨P,w,K,mg,base⟩ x st :=
 let⟨f,fd,a,F⟩:=d
 ⟨f,fd,ZO X G a,F⟩
theorem wQ.v{P:l}{w:g}{base:I}{x:R}{st:o}{ls:-lh}{T:M}{lp:y}{q:R}(d:wQ K x st T)(X:K.In h)(G:h.Ns mainGlobals mg)(KB:K.In base)(hB:∀t∈ls,base.BuiltinsAt mg t.T)(nd:(ls.map (·.T)).Nodup)(ng:∀t∈ls,mainGlobals≠t.T)(hl:⟨T,lp,q⟩∈ls):@wO (nW ls) ⟨P,w,K,mg,base⟩ x st T lp q :=
 let⟨f,fd,⟨a,F⟩,cc,e1,e2⟩:=d
 letI:aS:=nW ls
 ⟨f,fd,⟨ZO X G a,F⟩,⟨cc,e1,q1g KB e2⟩,ng _ hl,hB _ hl,P0 hl λa ha b hb e=>Sb nd ha hb e⟩
def Ck(K:El)(x:R)(i:Int):Prop:=∃u,Yd K mainGlobals x=U (U u)/\RelV (.int i) u
theorem Ck.v{P:l}{w:g}{base:I}{x:R}{i:Int}(d:Ck K x i)(X:K.In h)(G:h.Ns mainGlobals mg):Ct ⟨P,w,K,mg,base⟩ x i :=
 let⟨u,a,r⟩:=d
 ⟨u,ZO X G a,r⟩
noncomputable def Cr:-R:=["len", "range", "list", "tuple", "set", "sorted", "min", "max", "sum", "all", "any", "enumerate", "zip", "isinstance", "int", "bool", "str", "repr"]
theorem Sd(X:K.In h)(G:h.Ns mainGlobals mg)(N:∀x∈Cr,Yd K mainGlobals x=U Z):BT mg :=
 have n:∀i x,Cr[i]?=U x->mg x=Z:=λi x e=>PySem.W.mg_none_of X G (N x (WR e))
 ⟨n 0 _ Y,n 1 _ Y,n 2 _ Y,n 3 _ Y,n 4 _ Y,n 5 _ Y,n 6 _ Y,n 7 _ Y,n 8 _ Y,n 9 _ Y,n 10 _ Y,n 11 _ Y,n 12 _ Y,n 13 _ Y,n 14 _ Y,n 15 _ Y,n 16 _ Y,n 17 _ Y⟩
end
end LJ
namespace L2
open PySem PySem.Spec PyProof.Rows
variable[aS]
noncomputable def uE(mu:-(Option OV)):Option DV->Option DV
 |some (.p d)=>U (.p d)
 |some (.o k)=>match mu[k]? with
  |some (some (.lst ds))=>U (.p (.lst ds))
  |_=>Z
 |some (.t d k)=>match mu[k]? with
  |some (some (.lst ds))=>U (.p (.tup [d,.lst ds]))
  |_=>Z
 |some (.w a)=>U (.w a)
 |none=>Z
noncomputable def aH.eU(δ:aH):aH:=⟨δ.sl.map (uE δ.mu),δ.mu.map λ_=>Z⟩
def wR(t:WT):WT:=fun δ K=>t δ.eU λb _=>K b δ
section
variable{F F' H H':Hp}{ad aG:-M}{δ δ':aH}{σ σ':St}
open Classical in
noncomputable def l4 (F H:Hp) (ad:List Addr) (mu:List (Option OV)):Hp:=λa=>if ∃(k:Nat)(ds:List D),ad[k]?=some a/\mu[k]?=some (some (.lst ds)) then H a else F a
theorem Se(S:SR F ad δ σ H):aL F (l4 F H ad δ.mu)/\SR (l4 F H ad δ.mu) ad δ.eU σ H:=by
 let nl:∀{a:M}{o:HO},F a=U o->¬ ∃(k:Nat)(ds:-D),ad[k]?=U a/\δ.mu[k]?=U (U (.lst ds)):=λe z=>by let⟨k,ds,e1,e2⟩:=z;rw[S.off _ ⟨k,_,e1,e2⟩] at e;cases e
 let sm:aL F (l4 F H ad δ.mu):=λa o e=>by unfold l4;rw[Vw (nl e)];exact e
 let at':∀{k:Nat}{a:M}{ds:-D},ad[k]?=U a->δ.mu[k]?=U (U (.lst ds))->∃vs,l4 F H ad δ.mu a=U (.lst vs)/\ah (l4 F H ad δ.mu) ds vs:=λ{k a ds} e1 e2=>by
  let⟨a',o,e3,e4,vs,rfl,h⟩:=S.mu k _ e2;rw[e1] at e3;cases e3;exact⟨vs,by unfold l4;rw[Wm ⟨k,ds,e1,e2⟩];calc e4,h.same sm⟩
 let no:∀(k:Nat)(ov:OV),δ.eU.mu[k]?=U (U ov)->False:=λk ov e=>by
  unfold aH.eU at e;dsimp only at e;rw[My] at e;let⟨_,_,z⟩:=Ws.mp e;cases z
 refine⟨sm,λa o e=>?_,λa ⟨k,ov,_,e⟩↦(no k ov e).elim,by unfold aH.eU;dsimp only;rw[pN];calc S.cf,λk l a ov ow _ _ e _=>(no k ov e).elim,λk ov e=>(no k ov e).elim,λi x e=>?_,by unfold aH.eU;dsimp only;rw[pN];calc S.len,S.tab,λa ha=>?_⟩
 .unfold l4 at e
  split at e
  .exact e
  .exact S.sub a o e
 .unfold aH.eU at e
  dsimp only at e;rw[My] at e;let⟨s,e1,e2⟩:=Ws.mp e
  match s,e2 with
  |none,e2=>cases e2
  |some (.p d),e2 =>
   cases(show U (DV.p d)=U x from e2)
   let⟨v,h1,h2⟩:=S.sl i _ e1;exact⟨v,h1,h2.same sm⟩
  |some (.w d),e2 =>
   cases(show U (DV.w d)=U x from e2)
   exact S.sl i _ e1
  |some (.o k),e2 =>
   unfold uE at e2;dsimp only at e2;split at e2
   .rename_i ds em
    cases e2
    let⟨v,h1,a,h2,rfl⟩:=S.sl i _ e1;let⟨vs,z1,z2⟩:=at' h2 em;calc⟨_,h1,?_⟩;show Is _ (.lst ds) _;erw[Is];exact⟨a,vs,Y,z1,z2⟩
   .cases e2
  |some (.t d k),e2 =>
   unfold uE at e2;dsimp only at e2;split at e2
   .rename_i ds em
    cases e2
    let⟨v,h1,a,b,u,rfl,h2,h3,h4⟩:=S.sl i _ e1;let⟨vs,z1,z2⟩:=at' h4 em;calc⟨_,h1,?_⟩;show Is _ (.tup [d,.lst ds]) _;erw[Is,ah];exact⟨a,_,Y,sm _ _ h2,u,_,Y,h3.same sm,.ref b,_,Y,⟨b,vs,Y,z1,z2⟩,Y⟩
   .cases e2
 .unfold l4
  split
  .rename_i z
   let⟨k,ds,e1,e2⟩:=z;let⟨a',o,e3,e4,vs,rfl,_⟩:=S.mu k _ e2;rw[e1] at e3;cases e3;let⟨ps,q⟩:=aS.tb S.tab ha;rw[e4] at q;cases q
  .calc S.nt a ha
theorem Sf{F1:Hp}{aV:-M}{Sg:-(Option OV)}(S:SR F ad δ σ H)(E:Ext (l4 F H ad δ.mu) ad δ.eU.mu H F1 aV Sg H')(tk:aS.ok H'):Ext F ad δ.mu H F ad δ.mu H'/\SR F ad δ σ H':=by
 let no:∀a,¬ Lv ad δ.eU.mu a:=λa ⟨k,ov,_,e⟩↦by
  unfold aH.eU at e;dsimp only at e;rw[My] at e;let⟨_,_,z⟩:=Ws.mp e;cases z
 let kp:∀a o,H a=U o->a∉aS.ad->H' a=U o:=λa o e n=>E.keep a o e (no a) n;calc⟨⟨λ_ _ e=>e,λ_ _ e=>.inl e,λa o e _ n=>kp a o e n,λ_ _ e=>e,λ_ l=>.inl l,E.hX⟩,⟨λa o e=>kp a o (S.sub a o e) (λz=>by rw[S.nt a z] at e;cases e),S.off,S.cf,S.inj,λk ov e=>?_,S.sl,S.len,tk,S.nt⟩⟩;let⟨a,o,e1,e2,h⟩:=S.mu k ov e;calc⟨a,o,e1,kp a o e2 λz=>?_,h⟩;let⟨ps,q⟩:=aS.tb S.tab z;rw[e2] at q;calc h.kind _ (WJ q)
end
section
variable{X:Cx}{a b e:J}{es:-J}{f:WE}{fa:WA}{t:WT}{pos:y}
theorem Sh(ha:JT X a (cS t)):JT X a (cS (wR t)):=ha.weak fun σ H Q ⟨F,ad,δ,K,S,q,k⟩↦by
 let⟨_,S1⟩:=Se S
 exact⟨_,ad,δ.eU,_,S1,q,λb δ1 h1 F1 aV H1 E1 S2=>by
  let⟨e,s⟩:=Sf S E1 S2.tab
  calc k _ _ h1 _ _ _ e s⟩
end
end L2
namespace LJ
open PySem L2 PySem.Spec PySem.W PyProof.Rows
section
variable[aS]{X:Cx}{k j n:Nat}{x:R}{ps:-R}{p pos:y}{e:J}{es:-J}{fa:WA}{G:GD}
end
end LJ
namespace L2
open PySem PySem.Spec PyProof.Rows
def n_:-D->(D->Prop)->Prop
 |[.bl b],K=>K (.int (if b then 1 else 0))
 |_,_=>False
variable[aS]{X:Cx}
theorem Si:cU X (.type "int") n_:=by
 ext pins s σ H xs us Q I r ⟨F,ds,K,sub,rd,q,md⟩;unfold n_ at q;split at q
 .rename_i b
  let⟨v,rfl,rfl⟩:=c5 rd;let⟨u,rfl,rx⟩:=vals1 r;cases rx
  refine call_int_bool ⟨.int (if b then 1 else 0),H,I.tok _,⟨_,Y⟩,md _ _ _ q (λ_ _ e=>e) Y⟩
 .calc q.elim
end L2
namespace LJ
open PySem L2
variable[aS]
inductive Cs (ys:-DV) (av:-OV) (K:RV->-OV->Prop):Prop
 |mk (m:Int) (s:b9) (_:bG m s) (_:ys=[.p (cJ m s)]) (_:av=[]) (_:K (.p (bj (gO s.1 s.2))) [])
def Cu:WS:=(aJ (eE (kP (aq (dN (aq (d2 (d2 (ae 0) (dC (.int 0)) aR) (dC (.int 1)) aR) ag) bY) ag)) [Z,U 0] (bF 0) (dT (d2 (ae 0) (d2 (ae 1) (dC (.int 1)) aR) (iy θ))) (ae 0)))
theorem Sj:Sem 1 0 Cs Cu:=by
 ext ys av K'-⟨m,s,O,rfl,rfl,k⟩;let iU:=O.eS.d4;unfold Cu cJ;simp![aK,df,cI];calc⟨⋯,?_⟩;rw[Ww,m_];refine lT (λd=>S (dI d∉s.2)) (λd=>d) (by rw[pN];unfold bp;simp;symm) trivial ?_ ?_
 .ext d hd acc L ha h1 h2
  let⟨n,hn,rfl⟩:=Wq.mp hd;simp![cI,bj,nY];calc⟨lr s.2,?_⟩;erw[dI] at h1 h2
  by_cases c:n∈s.2
  .simp![Wu c]
   exact h2 (Wn (YZ c))
  .simp![Wn c]
   exact⟨ha,h1 (Wu c)⟩
 .rw[qu λn=>S (n∉s.2)]
  calc cm k
inductive uF (ys:-DV) (av:-OV) (K:RV->-OV->Prop):Prop
 |mk (m:Int) (s:b9) (_:bG m s) (_:ys=[.p (cJ m s)]) (_:av=[]) (_:∀ns,aF s.1 ns->K (.p (bj (lq m s.1 (gO s.1 s.2) ns))) [])
def Cv:WS:=(aJ (ay 2 Bt (aq (d2 (ae 0) (dC (.int 0)) aR) (aq (ay 1 Cs (aq (ae 0) ag)) ag))))
theorem Sk:Sem 1 0 uF Cv:=by
 ext ys av K'-⟨m,s,O,rfl,rfl,k⟩;unfold Cv;simp![cJ,df];calc⟨m,s,O,Y,Y,?_⟩;simp!;calc⟨m,s.1,gO s.1 s.2,O.eS,Y,Y,λns ho=>?_⟩;simp!;calc cm (k ns ho)
def Cw:GD:=uw
def Cy:WS:=(aw (aM 2 (eE (bQ (ae 0)) [Z,U 1] (bF 0) (dT (d2 (ae 0) (ae 1) (iy θ))) (ae 0))) (aw (aM 3 (eE (bQ (ae 1)) [Z,U 0] (bF 0) (dT (d2 (ae 0) (ae 1) (iy θ))) (ae 0))) (aJ (bt (aq (lN (dT (d2 (ae 2) (bX ag) jj)) (d2 (ae 2) (dC (.int 0)) aR) (dC .non)) (aq (lN (dT (d2 (ae 3) (bX ag) jj)) (d2 (ae 3) (dC (.int 0)) aR) (dC .non)) ag))))))
theorem Sl:Sem 2 2 Cw Cy:=by
 ext ys av K'-⟨xs,zs,h1,h2,rfl,rfl,k⟩;unfold Cy bj;calc aP λN hN=>?_;simp!;refine lT (λd=>S (dI d∉zs)) (λd=>d) (by rw[pN];calc h1) trivial ?_ ?_
 .ext d hd acc L ha h1 h2
  let⟨n,hn,rfl⟩:=Wq.mp hd;simp![nY];calc⟨lr zs,?_⟩;erw[dI] at h1 h2
  by_cases c:n∈zs
  .simp![Wu c]
   exact h2 (Wn (YZ c))
  .simp![Wn c]
   exact⟨ha,h1 (Wu c)⟩
 rw[qu λn=>S (n∉zs)];subst hN;calc aP λN hN=>?_;simp!;refine lT (λd=>S (dI d∉xs)) (λd=>d) (by rw[pN];calc h2) trivial ?_ ?_
 .ext d hd acc L ha h1 h2
  let⟨n,hn,rfl⟩:=Wq.mp hd;simp![nY];calc⟨lr xs,?_⟩;erw[dI] at h1 h2
  by_cases c:n∈xs
  .simp![Wu c]
   exact h2 (Wn (YZ c))
  .simp![Wn c]
   exact⟨ha,h1 (Wu c)⟩
 rw[qu λn=>S (n∉xs)];subst hN;unfold jT rE at k;let d1:∀l:-Int,bq (l.map D.int)<=55:=lr;generalize xs.filter (λn=>S (n∉zs))=q at k ⊢;generalize zs.filter (λn=>S (n∉xs))=q2 at k ⊢;cases q<;>cases q2<;>simp![aI,cZ,df]
 .exact cm k
 .exact⟨WU (d1 _) (by decide),cm k⟩
 .exact⟨WU (d1 _) (by decide),cm k⟩
 .calc⟨WU (d1 _) (by decide),WU (d1 _) (by decide),cm k⟩
inductive Cz (ys:-DV) (av:-OV) (K:RV->-OV->Prop):Prop
 |mk (m:Int) (s:b9) (n p:Int) (_:bG m s) (_:(0<=n/\n<(↑s.1:Int))) (_:ys=[.p (cJ m s),.p (.int n),.p (.int p)]) (_:av=[]) (_:K (.p (cJ m (dH s.1 n p,s.2))) [])
def CA:WS:=(aw (hZ (d2 (ae 0) (dC (.int 0)) aR) (j8 2 (fG (bF 3) (fG (bF 4) jE)))) (aJ (bt (aq (bt (aq (ae 3) (aq (d2 (d2 (fL (ae 4) gg (j_ (ae 1))) (bt (aq (d2 (fL (d2 (ae 4) (ae 1) aR) gg (j_ (dC (.int 2)))) (bt (aq (ae 2) ag)) cH) ag)) cH) (fL (ae 4) (j_ (d2 (ae 1) (dC (.int 1)) cH)) gg) cH) ag))) (aq (d2 (ae 0) (dC (.int 1)) aR) ag)))))
theorem Sm:Sem 3 2 Cz CA:=by
 ext ys av K'-⟨m,⟨ws,sh⟩,n,p,O,hn,rfl,rfl,k⟩;let W:=O.eS;let iU:=W.d4;dsimp only at W iU hn k;let⟨y,ey,hy,ea,_⟩:=jk W hn.1 hn.2;let⟨t,rfl⟩:=YJ hn.1;let ht:t<↑ws:=by symm
 let f1:=GW (ds:=ws.map aN) (t:=t) (by rw[pN];symm);let f2:cutD (ws.map aN) (U ((t:Int)+1)) Z=(ws.map aN).drop (t+1):=GV (ds:=ws.map aN) (t:=t+1) (by rw[pN];symm);let l1:↑((ws.map aN).take t)=t:=by rw[WM,pN];symm
 let l2:↑((ws.map aN).drop (t+1))=↑ws-(t+1):=by rw[Ya,pN]
 let Sn:uB ws (t:Int)=y:=ey
 let e3:(ws.map aN).take t++[D.tup [.int y.1,.int y.2.1,.int p]]++(ws.map aN).drop (t+1)=(dH ws t p).map aN:=by
  unfold dH;rw[Sn,Ww,Zt,Wm ht,WK,Wx,q1q,q1r,Yj];rfl
 unfold cJ aK at k;rw[<-e3] at k;unfold CA cJ aK;generalize hA:(ws.map aN).take t=A at f1 l1 k;generalize hB:(ws.map aN).drop (t+1)=B at f2 l2 k;generalize hV:ws.map aN=V at ea f1 f2 ⊢;calc aP λN hN=>?_;simp![df];subst hN;unfold aJ bt;calc iS λK2 uv=>?_;simp![ea,f1,f2,aN,BF];calc⟨⋯,⋯,?_⟩;subst uv;simp![cI];calc cm k
inductive Turn (m:Int):-b9->b9->-b9->b9->D->Prop
 |back (ps:-b9) (s s':b9):Turn m (ps++[s']) s ps s' (.tup [.str "back"])
 |price (ps:-b9) (s:b9) (n p:Int) (hn:0<=n/\n<(↑s.1:Int)) (hp:0<=p/\p<=1000000000):Turn m ps s (ps++[s]) (dH s.1 n p,s.2) (.tup [.str "price",.int n,.int p])
 |free (ps:-b9) (s:b9) (n:Int) (hn:0<=n/\n<(↑s.1:Int)) (h:n∈s.2):Turn m ps s (ps++[s]) (s.1,jU s.2 n) (.tup [.str "free",.int n])
 |close (ps:-b9) (s:b9) (n:Int) (hn:0<=n/\n<(↑s.1:Int)) (h:n∉s.2):Turn m ps s (ps++[s]) (s.1,sortI (s.2++[n])) (.tup [.str "close",.int n])
theorem Turn.ok{m:Int}{ps eQ:-b9}{s s':b9}{d:D}(h:Turn m ps s eQ s' d)(O:bG m s)(Os:∀t∈ps,bG m t):bG m s'/\(∀t∈eQ,bG m t)/\↑eQ<=↑ps+1:=by
 cases h with
 |back=>exact⟨Os _ (by simp),λt ht=>Os t (XU _ ht),by simp;symm⟩
 |price _ _ n p hn hp=>exact⟨⟨G6 O.eS hn hp,G7 O.sh⟩,λt ht=>(W7.mp ht).elim (Os t) λe=>by rw[WW.mp e];calc O,by simp⟩
 |free _ _ n hn h=>exact⟨⟨O.eS,uL O.sh⟩,λt ht=>(W7.mp ht).elim (Os t) λe=>by rw[WW.mp e];calc O,by simp⟩
 |close _ _ n hn h=>calc⟨⟨O.eS,G8 O.sh hn h⟩,λt ht=>(W7.mp ht).elim (Os t) λe=>by rw[WW.mp e];calc O,by simp⟩
def CB(C:M):GK:=λys av K=>∃(a b:M)(m:Int)(s s':b9)(ps eQ:-b9)(ch:D),Turn m ps s eQ s' ch/\bG m s/\(∀t∈ps,bG m t)/\↑ps<900/\ys=[.w a,.p ch]/\av=[kO C a b m s,pO b m ps]/\∀ns bx,aF (bK s) ns->aF (bK s') bx->K (.p (jT (bT m s ns) (bT m s' bx))) [kO C a b m s',pO b m eQ] []
def CC(aa:M):WS:=(aw (bh (dT (d2 (d2 (ae 1) (dC (.int 0)) aR) (dC (.str "price")) oEq)) (aJ (az ι aa "price" 3 (Ca aa) (ae 0) (aq (d2 (ae 1) (dC (.int 1)) aR) (aq (d2 (ae 1) (dC (.int 2)) aR) ag)))) cA) (aw (bh (dT (d2 (d2 (ae 1) (dC (.int 0)) aR) (dC (.str "back")) oEq)) (aJ (az ι aa "back" 1 (Cg aa) (ae 0) ag)) cA) (aJ (lN (dT (d2 (d2 (ae 1) (dC (.int 0)) aR) (dC (.str "close")) oEq)) (az ι aa "close" 2 (Cc aa) (ae 0) (aq (d2 (ae 1) (dC (.int 1)) aR) ag)) (az ι aa "free" 2 (Ce aa) (ae 0) (aq (d2 (ae 1) (dC (.int 1)) aR) ag))))))
theorem So(C:M):∀ys av K',↑ys=2->CB C ys av K'->CC C (aj ↑av K') ⟨ys.map U++Vv 0 Z,av.map U⟩:=by
 ext ys av K'-⟨a,b,m,s,s',ps,eQ,ch,T,O,Os,hl,rfl,rfl,k⟩;let e1:aI (.str "price") (.str "price")=θ:=fI _;let e2:aI (.str "back") (.str "price")=ι:=Y;let e3:aI (.str "back") (.str "back")=θ:=fI _;let e4:aI (.str "free") (.str "price")=ι:=Y;let e5:aI (.str "free") (.str "back")=ι:=Y;let e6:aI (.str "free") (.str "close")=ι:=Y;let e7:aI (.str "close") (.str "price")=ι:=Y;let e8:aI (.str "close") (.str "back")=ι:=Y;let e9:aI (.str "close") (.str "close")=θ:=fI _;unfold CC;refine aP λN hN=>?_
 cases T with
 |price _ _ n p hn hp =>
  simp![ai,ak,aA,toF,az,aB,aD,ar,aE,FV.v,aj,mE,pL,df,e1,cI,at2];calc⟨⟨a,0,_,Y,Y,Y⟩,[(0,kO C a b m s),(1,pO b m ps)],⟨Y,Y,trivial⟩,?_⟩;simp![ai,ak,aA,toF,az,aB,aD,ar,aE,FV.v,aj,mE,pL];calc⟨a,b,m,s,ps,n,p,O,hn,hp,hl,Y,Y,λns bx ho c_=>?_⟩;simp![ai,ak,aA,toF,az,aB,aD,ar,aE,FV.v,aj,mE,pL];exact kr (k ns bx ho c_)
 |back =>
  simp![ai,ak,aA,toF,az,aB,aD,ar,aE,FV.v,aj,mE,pL,df,e2];subst hN;calc aP λN hN=>?_;simp![ai,ak,aA,toF,az,aB,aD,ar,aE,FV.v,aj,mE,pL,df,e3];calc⟨⟨a,0,_,Y,Y,Y⟩,[(0,kO C a b m s),(1,pO b m (eQ++[s']))],⟨Y,Y,trivial⟩,?_⟩;simp![ai,ak,aA,toF,az,aB,aD,ar,aE,FV.v,aj,mE,pL];calc⟨a,b,m,s,s',eQ,O,Os _ (by simp),by simp at hl;symm,Y,Y,λns bx ho c_=>?_⟩;simp![ai,ak,aA,toF,az,aB,aD,ar,aE,FV.v,aj,mE,pL];exact kr (k ns bx ho c_)
 |free _ _ n hn h =>
  simp![ai,ak,aA,toF,az,aB,aD,ar,aE,FV.v,aj,mE,pL,df,e4];subst hN;calc aP λN hN=>?_;simp![ai,ak,aA,toF,az,aB,aD,ar,aE,FV.v,aj,mE,pL,df,e5];subst hN;simp![ai,ak,aA,toF,az,aB,aD,ar,aE,FV.v,aj,mE,pL,df,e6,cI];calc⟨⟨a,0,_,Y,Y,Y⟩,[(0,kO C a b m s),(1,pO b m ps)],⟨Y,Y,trivial⟩,?_⟩;simp![ai,ak,aA,toF,az,aB,aD,ar,aE,FV.v,aj,mE,pL];calc⟨a,b,m,s,ps,n,O,hn,h,hl,Y,Y,λns bx ho c_=>?_⟩;simp![ai,ak,aA,toF,az,aB,aD,ar,aE,FV.v,aj,mE,pL];exact kr (k ns bx ho c_)
 |close _ _ n hn h =>
  simp![ai,ak,aA,toF,az,aB,aD,ar,aE,FV.v,aj,mE,pL,df,e7];subst hN;calc aP λN hN=>?_;simp![ai,ak,aA,toF,az,aB,aD,ar,aE,FV.v,aj,mE,pL,df,e8];subst hN;simp![ai,ak,aA,toF,az,aB,aD,ar,aE,FV.v,aj,mE,pL,df,e9,cI];calc⟨⟨a,0,_,Y,Y,Y⟩,[(0,kO C a b m s),(1,pO b m ps)],⟨Y,Y,trivial⟩,?_⟩;simp![ai,ak,aA,toF,az,aB,aD,ar,aE,FV.v,aj,mE,pL];calc⟨a,b,m,s,ps,n,O,hn,h,hl,Y,Y,λns bx ho c_=>?_⟩;simp![ai,ak,aA,toF,az,aB,aD,ar,aE,FV.v,aj,mE,pL];calc kr (k ns bx ho c_)
theorem wU{l:-D}{x:D}:dX (l++[x]) (-1)=U x:=by
 unfold dX jc;rw[Vw (by decide),Wm (by rw[MJ];simp;symm)];let:((-1:Int)+(↑(l++[x]):Nat)).toNat=↑l:=by rw[MJ];simp;symm
 rw[this];calc Z0
theorem Sq{l:-D}{x:D}:cutD (l++[x]) Z (U (-1))=l:=by
 show((l++[x]).drop 0).take ((if(-1:Int)<0 then((-1:Int)+(↑(l++[x]):Nat)).toNat else min (-1:Int).toNat ↑(l++[x]))-0)=l;rw[Wm (by decide)];let:((-1:Int)+(↑(l++[x]):Nat)).toNat=↑l:=by rw[MJ];simp;symm
 rw[this,q0b,q16,List.take_left]
theorem CD:d8 10 9:=by unfold d8;decide
theorem Sr{a b c d e f k:Int}(h:0<=k/\k<6):∃p,dX [D.int a,D.int b,D.int c,D.int d,D.int e,D.int f] k=U (.int p)/\(p=a\/p=b\/p=c\/p=d\/p=e\/p=f):=by
 let⟨t,rfl⟩:=YJ h.1;let ht:t<6:=by symm
 match t,ht with
 |0,_=>exact⟨a,g5 Y,by simp⟩
 |1,_=>exact⟨b,g5 Y,by simp⟩
 |2,_=>exact⟨c,g5 Y,by simp⟩
 |3,_=>exact⟨d,g5 Y,by simp⟩
 |4,_=>exact⟨e,g5 Y,by simp⟩
 |5,_=>calc⟨f,g5 Y,by simp⟩
inductive CF (ys:-DV) (av:-OV) (K:RV->-OV->Prop):Prop
 |mk (n m:Int) (o:OV) (s:b9) (ps:-b9) (_:bG m s) (_:(∀t∈ps,bG m t)) (_:s.1≠[]) (_:↑ps<900) (_:ys=[.o 0,.p (.lst ((ps++[s]).map (cJ m)))]) (_:av=[o]) (_:bu n o) (_:n+20<2 ^ 30) (_:∀eQ s' ch o',Turn m ps s eQ s' ch->bu (n+10) o'->K (.p (.tup [.lst ((eQ++[s']).map (cJ m)),ch])) [o'])
def CG:WS:=(aw (aM 2 (ay 2 fz (aq (ae 0) (aq (dC (.int 8)) ag)))) (aw (aM 3 (ay 2 fz (aq (ae 0) (aq (dC (.int 6)) ag)))) (aw (hZ (d2 (ae 1) (d1 (dC (.int 1)) gJ) aR) (j8 2 (fG (bF 4) (fG (bF 5) jE)))) (aw (bh (mL (gH (dT (d2 (ae 2) (dC (.int 0)) oEq)) (dT (d2 (dN (aq (ae 1) ag) bY) (dC (.int 1)) (oI λi j=>.bl (S (j<i)))))) (dT (d2 (d2 (ae 4) (dC (.int 1)) aR) (bt ag) oEq))) (aJ (lN (dT (d2 (dN (aq (ae 1) ag) bY) (dC (.int 1)) (oI λi j=>.bl (S (j<i))))) (bt (aq (fL (ae 1) gg (j_ (d1 (dC (.int 1)) gJ))) (aq (bt (aq (dC (.str "back")) ag)) ag))) (bt (aq (ae 1) (aq (dC .non) ag))))) cA) (aw (aM 6 (ay 2 fz (aq (ae 0) (aq (dN (aq (d2 (ae 4) (dC (.int 1)) aR) ag) bY) ag)))) (aw (aM 7 (d2 (d2 (d2 (ae 4) (dC (.int 1)) aR) (ay 2 fz (aq (ae 0) (aq (dN (aq (d2 (ae 4) (dC (.int 1)) aR) ag) bY) ag))) aR) (dC (.int 2)) aR)) (aw (aM 8 (d2 (bX (aq (ay 2 fz (aq (ae 0) (aq (dC (.int 3)) ag))) (aq (dC (.int 7)) (aq (ay 2 fz (aq (ae 0) (aq (d2 (d2 (dC (.int 10)) (dC (.int 9)) (dQ d8 λi j=>.int (i ^ j.toNat))) (dC (.int 1)) cH) ag))) (aq (d2 (dC (.int 10)) (dC (.int 9)) (dQ d8 λi j=>.int (i ^ j.toNat))) (aq (ae 7) (aq (dN (aq (d2 (dC (.int 10)) (dC (.int 9)) (dQ d8 λi j=>.int (i ^ j.toNat))) (aq (d2 (ae 7) (dC (.int 1)) cH) ag)) q_) ag))))))) (ae 3) aR)) (aw (bh (dT (d2 (ae 2) (dC (.int 4)) oLt)) (aJ (bt (aq (d2 (ae 1) (bX (aq (ay 3 Cz (aq (d2 (ae 1) (d1 (dC (.int 1)) gJ) aR) (aq (ae 6) (aq (ae 8) ag)))) ag)) cH) (aq (bt (aq (dC (.str "price")) (aq (ae 6) (aq (ae 8) ag)))) ag)))) cA) (aw (bh (dT (d2 (ae 6) (ae 5) (iy ι))) (aJ (bt (aq (d2 (ae 1) (bX (aq (bt (aq (ae 4) (aq (eE (bQ (ae 5)) [Z,U 6] (bF 0) (dT (d2 (ae 0) (ae 1) jj)) (ae 0)) ag))) ag)) cH) (aq (bt (aq (dC (.str "free")) (aq (ae 6) ag))) ag)))) cA) (aJ (bt (aq (d2 (ae 1) (bX (aq (bt (aq (ae 4) (aq (dN (aq (d2 (ae 5) (bX (aq (ae 6) ag)) cH) ag) oP) ag))) ag)) cH) (aq (bt (aq (dC (.str "close")) (aq (ae 6) ag))) ag)))))))))))))
theorem Ss:Sem 2 7 CF CG:=by
 ext ys av K'-⟨n,m,o,s,ps,O,Os,ne,hl,rfl,rfl,P,hn,k⟩;let iU:=O.eS.d4;let s1:1<=↑s.1:=List.length_pos_iff.mpr ne;let em:(ps++[s]).map (cJ m)=ps.map (cJ m)++[cJ m s]:=WK;unfold CG;calc aP λN hN=>?_;simp!;calc⟨n,8,o,Y,Y,P,⋯,⋯,by decide,λkd o1 k0 k1 P1=>?_⟩;simp!;subst hN;calc aP λN hN=>?_;simp!;calc⟨n+1,6,o1,Y,Y,P1,⋯,⋯,by decide,λpk o2 p0 p1 P2=>?_⟩;simp!;subst hN;calc aP λN hN=>?_;simp![em,wU,cJ];subst hN;refine aP λN hN=>gh λAy Bn hA hB=>?_
 let CH:aI (.tup (s.1.map aN)) (.tup [])=ι:=by
  cases q:s.1 with
  |nil=>exact absurd q ne
  |cons y r=>simp[aI,cZ]
 let dw:dep (.tup (s.1.map aN))<=60:=by erw[dep];exact q2k (WU (BG s.1) (by decide))
 simp![aK,cI,nX,CH];let hb:bq (s.1.map aN)<=59:=WU (BG s.1) (by decide)
 let go:Bn ⟨[U (.o 0),U (.p (.lst (ps.map (cJ m)++[.tup [.tup [.int m,.tup (s.1.map aN)],bj s.2]]))),U (.p (.int kd)),U (.p (.int pk)),U (.p (.tup [.int m,.tup (s.1.map aN)])),U (.p (bj s.2)),Z,Z,Z],[U o2]⟩:=by
  subst hB;simp!;subst hN;calc aP λN hN=>?_;simp![cI];calc⟨n+1+1,↑s.1,o2,Y,Y,P2,⋯,⋯,⋯,λnum o3 m0 m1 P3=>?_⟩;simp!;subst hN;calc aP λN hN=>?_;simp![cI];calc⟨n+1+1+1,↑s.1,o3,Y,Y,P3,⋯,⋯,⋯,λnr o4 r0 r1 P4=>?_⟩;let⟨y,ey,hy,ea,_⟩:=jk O.eS r0 r1;simp![ea,aN,at2];let yp:=(O.eS.ends y hy).2.2.2;subst hN;calc aP λN hN=>?_;unfold aM;calc wL λK3 kX=>?_;unfold bX;calc iS λK4 ij=>?_;simp!;refine⟨n+1+1+1+1,3,o4,Y,Y,P4,⋯,⋯,by decide,λq1 o5 VS VT P5=>?_⟩
  simp!;subst ij;dsimp only;calc iS λK4 ij=>?_;simp!;subst ij;dsimp only;calc iS λK4 ij=>?_;simp!;calc⟨CD,n+1+1+1+1+1,10 ^ q0y 9+1,o5,Y,Y,P5,⋯,by decide,by decide,λq2 o6 VU Su P6=>?_⟩;simp!;subst ij;dsimp only;calc iS λK4 ij=>?_;simp!;calc⟨CD,?_⟩;subst ij;dsimp only;calc iS λK4 ij=>?_;simp!;subst ij;dsimp only;calc iS λK4 ij=>?_;simp!;calc⟨CD,?_⟩;subst ij;simp!;subst kX;let⟨p,ep,hp⟩:=Sr (a:=q1) (b:=7) (c:=q2) (d:=10 ^ q0y 9) (e:=y.2.2) (f:=min (10 ^ q0y 9) (y.2.2+1)) ⟨p0,p1⟩
  let t9:(10:Int) ^ q0y 9=1000000000:=by decide
  let Sv:0<=p/\p<=1000000000:=by
   rw[t9] at hp Su;rcases hp with rfl|rfl|rfl|rfl|rfl|rfl<;>symm
  simp![ep];subst hN;calc aP λN hN=>gh λA2 B2 CI CJ=>?_;simp! at ⊢;let CK:∀s':b9,((ps++[s])++[s']).map (cJ m)=ps.map (cJ m)++[.tup [.tup [.int m,.tup (s.1.map aN)],bj s.2]]++[cJ m s']:=λs'=>by rw[WK,WK];rfl
  let P7:bu (n+10) o6:=P6.mono ⋯;let uy:=O.len;split
  .subst CI
   simp![wU];calc⟨m,s,num,p,O,⟨m0,m1⟩,Y,Y,?_⟩;let:=k _ _ _ o6 (Turn.price ps s num p ⟨m0,m1⟩ Sv) P7;rw[CK] at this;simp!;exact⟨⋯,[o6],Y,Y,this⟩
  .subst CJ
   simp!;subst hN;calc aP λN hN=>gh λA2 B2 CI CJ=>?_;simp![bj,nY];refine⟨lr s.2,?_⟩
   by_cases c:num∈s.2
   .rw[Wu c,Wm Y]
    subst CI;unfold aJ bt;calc iS λK4 ij=>wL λK5 Sw=>?_;simp!;subst Sw;simp!;refine L2.lT (λd=>S (dI d≠num)) (λd=>d) (by rw[pN];symm) trivial ?_ ?_
    .ext d hd acc L ha h1 h2
     let⟨x,hx,rfl⟩:=Wq.mp hd;simp![nX];erw[dI] at h1 h2
     by_cases c:x=num
     .rw[Wu c];exact h2 (Wn (YZ c))
     .rw[Wn c];exact⟨ha,h1 (Wu c)⟩
    .rw[qu λx=>S (x≠num)]
     simp!;calc⟨⋯,?_⟩;subst ij;simp!;let:=k _ _ _ o6 (Turn.free ps s num ⟨m0,m1⟩ c) P7;rw[CK] at this;exact⟨[o6],Y,Y,this⟩
   .rw[Wn c,Vw (by decide)]
    subst CJ;simp!;subst hN;simp! at ⊢;calc⟨⋯,?_⟩;rw[show s.2.map D.int++[D.int num]=(s.2++[num]).map D.int by rw[WK];rfl];erw[oP,lR];calc⟨by rw[MJ];simp;symm,?_⟩;let:=k _ _ _ o6 (Turn.close ps s num ⟨m0,m1⟩ c) P7;rw[CK] at this;exact⟨⋯,[o6],Y,Y,this⟩
 split
 .split
  .rename_i h1 h2
   let h2:=XE h2;let⟨CL,s0,rfl⟩:∃CL s0,ps=CL++[s0]:=⟨ps.dropLast,ps.getLast (λz=>by subst z;simp at h2),(List.dropLast_concat_getLast _).symm⟩;subst hA;let:=k _ _ _ o2 (Turn.back CL s s0) (P2.mono ⋯);simp![Sq];rw[Wm (Wu ⋯)];exact⟨[o2],Y,Y,this⟩
  .exact⟨hb,go⟩
 .calc⟨hb,go⟩
abbrev rG:=LJT.aW 3
theorem uG{m:Int}{s:b9}{ns bx:-Int}(O:bG m s)(o:aF s.1 ns)(o':aF (bK s) bx):bT m s bx=lq m s.1 (gO s.1 s.2) ns:=QS O.eS (wu _ _) o o'
theorem wV{m:Int}{ws:-(Int×Int×Int)}{us ns:-Int}(ho:aF ws ns)(uy:↑ws<=30):Nums ws (lq m ws us ns)/\↑(lq m ws us ns)<=30:=by
 let⟨l,e,sb,_⟩:=Bp ws us ns ([],bp m.toNat);let e:(jN ws us (bp m.toNat) ns).1=l:=e;unfold lq;rw[e];calc⟨λx hx=>ho.nums x (sb.subset ((sortI_perm l).mem_iff.mp hx)),?_⟩;rw[FE];let:=sb.length_le;let:=ho.len;symm
theorem Hh(us:-Int)(h:↑us<=1000):LJT.ik (bj us)=θ:=by
 let:∀us:-Int,LJT.fm (us.map D.int)=θ:=λus=>by
  induction us with
  |nil=>rfl
  |cons n r ih=>erw[Wx,LJT.fm,LJT.ik,ih,q3n]
 unfold bj LJT.ik;rw[this,pN,Wu h];rfl
theorem Sx(m:Int)(ws:-(Int×Int×Int))(h:↑ws<=30):LJT.ik (aK m ws)=θ:=by
 let:∀ws:-(Int×Int×Int),LJT.fm (ws.map aN)=θ:=λus=>by
  induction us with
  |nil=>rfl
  |cons n r ih=>erw[Wx,LJT.fm,ih,q1o];rfl
 let e:LJT.ik (.tup (ws.map aN))=θ:=by unfold LJT.ik;rw[this,pN,Wu ⋯];rfl
 unfold aK;erw[LJT.ik,LJT.fm] at e ⊢;rw[e];rfl
theorem Sy(m:Int)(ws:-(Int×Int×Int)):dep (aK m ws)<=3:=by
 let:∀ws:-(Int×Int×Int),bq (ws.map aN)<=1:=λws=>by
  induction ws with
  |nil=>simp[bq]
  |cons n r ih=>erw[Wx,bq,dep,aN];symm
 let:=this ws;erw[aK,dep,bq];symm
theorem Hi(us:-Int):dep (bj us)<=3:=by
 let:=GR us;erw[bj,dep];symm
def wW(C:M):GK:=λys av K=>∃(n:Int)(a b:M)(m:Int)(s:b9)(o:OV),bG m s/\ys=[.o 0,.w a,.p (cJ m s)]/\av=[o,kO C a b m s]/\bu n o/\n+10<2 ^ 30/\∀o',bu (n+5) o'->K (.p (.bl θ)) [o',kO C a b m s] []
def CM(aa:M):WS:=(aw (aM 3 (ay 2 fz (aq (ae 0) (aq (dC (.int 4)) ag)))) (aw (aM 4 (ay 1 uF (aq (ae 2) ag))) (aw (aM 5 (bX (aq (d2 (ae 2) (dC (.int 0)) aR) (aq (d2 (ae 2) (dC (.int 1)) aR) (aq (ae 4) (aq (ay 2 AI (aq (d2 (ae 2) (dC (.int 0)) aR) (aq (ae 4) ag))) ag)))))) (aw (eg (bQ (fL (bX (aq (dC (.int 0)) (aq (dC (.int 1)) (aq (dC (.int 2)) (aq (dC (.int 3)) (aq (dC (.int 0)) (aq (dC (.int 1)) (aq (dC (.int 2)) (aq (dC (.int 3)) (aq (dC (.int 0)) ag)))))))))) (j_ (ae 3)) (j_ (d2 (ae 3) (d2 (bX (aq (dC (.int 1)) (aq (dC (.int 4)) (aq (dC (.int 6)) ag)))) (ay 2 fz (aq (ae 0) (aq (dC (.int 3)) ag))) aR) cH)))) (bF 6) (aw (bh (mL (gH (dT (d2 (ae 6) (dC (.int 0)) oEq)) (dj (dT (ay 2 rG (aq (az ι aa "web" 1 (BZ aa) (ae 1) ag) (aq (d2 (ae 5) (dC (.int 0)) aR) ag)))))) (gH (dT (d2 (ae 6) (dC (.int 3)) oEq)) (dj (dT (ay 2 rG (aq (az ι aa "weight" 1 (B6 aa) (ae 1) ag) (aq (d2 (ae 5) (dC (.int 3)) aR) ag))))))) (aJ (dC (.bl ι))) cA) (bh (dT (d2 (ae 6) (bt (aq (dC (.int 1)) (aq (dC (.int 2)) ag))) (iy ι))) (aw (aM 7 (lN (dT (d2 (ae 6) (dC (.int 1)) oEq)) (az θ aa "closed" 1 (ux aa) (ae 1) ag) (az θ aa "forest" 1 (oX aa) (ae 1) ag))) (aw (bh (wR (dj (dT (ay 2 rG (aq (ae 7) (aq (d2 (ae 5) (ae 6) aR) ag)))))) (aJ (dC (.bl ι))) cA) (iw (h_ (ae 7) (aq (dC (.int 0)) ag))))) cA))) (aJ (dC (.bl θ)))))))
theorem Sz{i:Nat}{x:D}(h:(cutD [D.int 0,.int 1,.int 2,.int 3,.int 0,.int 1,.int 2,.int 3,.int 0] lo hi)[i]?=U x):∃j:Nat,j<4/\x=.int j:=by
 unfold cutD at h;let:=WR h;let:=ZQ (Y5 this);erw[MN,WD,Yf] at this;rcases this with rfl|rfl|rfl|rfl|rfl|rfl|rfl|rfl|rfl
 .exact⟨0,by decide,Y⟩
 .exact⟨1,by decide,Y⟩
 .exact⟨2,by decide,Y⟩
 .exact⟨3,by decide,Y⟩
 .exact⟨0,by decide,Y⟩
 .exact⟨1,by decide,Y⟩
 .exact⟨2,by decide,Y⟩
 .exact⟨3,by decide,Y⟩
 .calc⟨0,by decide,Y⟩
theorem SA{α:Type}{x y z u:α}{r:-α}:dX (x::y::z::u::r) 3=U u:=g5 (j:=3) Y
theorem SD{a b c k:Int}(h:0<=k/\k<3):∃p,dX [D.int a,D.int b,D.int c] k=U (.int p):=by
 let⟨t,rfl⟩:=YJ h.1;let ht:t<3:=by symm
 match t,ht with
 |0,_=>exact⟨a,g5 Y⟩
 |1,_=>exact⟨b,g5 Y⟩
 |2,_=>calc⟨c,g5 Y⟩
theorem SE(C:M):∀ys av K',↑ys=3->wW C ys av K'->CM C (aj ↑av K') ⟨ys.map U++Vv 5 Z,av.map U⟩:=by
 ext ys av K'-⟨n,a,b,m,s,o,O,rfl,rfl,P,hn,k⟩;let iU:=O.eS.d4;let uy:=O.len;unfold CM;calc aP λN hN=>?_;simp![ai,ak,aA,toF,az,aB,aD,ar,aE,FV.v,aj,mE,pL];calc⟨n,4,o,Y,Y,P,⋯,⋯,by decide,λst o1 s0 s1 P1=>?_⟩;simp![ai,ak,aA,toF,az,aB,aD,ar,aE,FV.v,aj,mE,pL];subst hN;calc aP λN hN=>?_;simp![ai,ak,aA,toF,az,aB,aD,ar,aE,FV.v,aj,mE,pL];calc⟨m,s,O,Y,Y,λns ho=>?_⟩;simp![ai,ak,aA,toF,az,aB,aD,ar,aE,FV.v,aj,mE,pL];subst hN;let⟨fo,CN⟩:∃fo,fo=lq m s.1 (gO s.1 s.2) ns:=⟨_,Y⟩;rw[<-CN];let Hj:∀bx,aF (bK s) bx->bT m s bx=fo:=λbx h=>by rw[CN];exact uG O ho h
 let CO:Nums s.1 fo/\↑fo<=30:=by
  rw[CN];exact wV ho O.eS.d4
 calc aP λN hN=>?_;simp![ai,ak,aA,toF,az,aB,aD,ar,aE,FV.v,aj,mE,pL,cJ,df,cI];calc⟨m,s.1,fo,O.eS,CO.1,⋯,Y,Y,?_⟩;simp![ai,ak,aA,toF,az,aB,aD,ar,aE,FV.v,aj,mE,pL];subst hN;calc aP λN hN=>qh λg' b' K2 hg hb' hK=>?_;simp![ai,ak,aA,toF,az,aB,aD,ar,aE,FV.v,aj,mE,pL];calc⟨n+1,3,o1,Y,Y,P1,⋯,⋯,by decide,λq o2 q0 q1 P2=>?_⟩;let⟨w,ew⟩:=SD (a:=1) (b:=4) (c:=6) ⟨q0,q1⟩;simp![ai,ak,aA,toF,az,aB,aD,ar,aE,FV.v,aj,mE,pL,ew];subst hg hb' hK;refine lS (λi δ=>δ=⟨[U (.o 0),U (.w a),U (.p (.tup [aK m s.1,bj s.2])),U (.p (.int st)),U (.p (bj fo)),U (.p (.lst [aK m s.1,bj s.2,bj fo,.int (wsum s.1 fo)])),Z,Z],[U o2,U (kO C a b m s)]⟩) Y ?_ ?_
 .ext i d δ L hi rfl hL
  let⟨j,hj,rfl⟩:=Sz hi;calc⟨trivial,?_⟩;erw[bF,Xk,Xl];let SF:aI (.int 0) (.int 0)=θ:=Y;let SG:aI (.int 1) (.int 0)=ι:=Y;let SH:aI (.int 2) (.int 0)=ι:=Y;let SI:aI (.int 3) (.int 0)=ι:=Y;let Hk:aI (.int 0) (.int 3)=ι:=Y;let SJ:aI (.int 1) (.int 3)=ι:=Y;let SK:aI (.int 2) (.int 3)=ι:=Y;let SM:aI (.int 3) (.int 3)=θ:=Y;let SN:aI (.int 1) (.int 0)=ι:=Y;let SO:aI (.int 2) (.int 0)=ι:=Y;let Hl:aI (.int 1) (.int 1)=θ:=Y;let Hm:aI (.int 2) (.int 1)=ι:=Y;let SQ:aI (.int 1) (.int 2)=ι:=Y;let SS:aI (.int 2) (.int 2)=θ:=Y
  let SU:aI (.int 1) (.int 3)=ι:=Y;let SV:aI (.int 2) (.int 3)=ι:=Y
  match j,hj with
  |0,_ =>
   calc aP λN2 bR=>gh λAy Bn hA hB=>?_;simp![ai,ak,aA,toF,az,aB,aD,ar,aE,FV.v,aj,mE,pL,Int.ofNat_zero,Zn,SF,Hk];calc⟨⟨a,1,_,Y,Y,Y⟩,[(1,kO C a b m s)],⟨Y,trivial⟩,?_⟩;simp![ai,ak,aA,toF,az,aB,aD,ar,aE,FV.v,aj,mE,pL];calc⟨a,b,m,s,Y,Y,?_⟩;simp![ai,ak,aA,toF,az,aB,aD,ar,aE,FV.v,aj,mE,pL,df];calc⟨aK m s.1,Sy _ _,by decide,Sx _ _ iU,Y,Y,?_⟩;simp![ai,ak,aA,toF,az,aB,aD,ar,aE,FV.v,aj,mE,pL,Hk];subst hB;simp![ai,ak,aA,toF,az,aB,aD,ar,aE,FV.v,aj,mE,pL];subst bR;simp![ai,ak,aA,toF,az,aB,aD,ar,aE,FV.v,aj,mE,pL,SN,SO];exact hL _ Y
  |3,_ =>
   calc aP λN2 bR=>gh λAy Bn hA hB=>?_;simp![ai,ak,aA,toF,az,aB,aD,ar,aE,FV.v,aj,mE,pL,Zn,SI,SM];calc⟨⟨a,1,_,Y,Y,Y⟩,[(1,kO C a b m s)],⟨Y,trivial⟩,?_⟩;simp![ai,ak,aA,toF,az,aB,aD,ar,aE,FV.v,aj,mE,pL];calc⟨a,b,m,s,O,Y,Y,λbx c_=>?_⟩;rw[Hj bx c_];simp![ai,ak,aA,toF,az,aB,aD,ar,aE,FV.v,aj,mE,pL,SA];calc⟨.int (wsum s.1 fo),by erw[dep];symm,by decide,Y,Y,Y,?_⟩;simp![ai,ak,aA,toF,az,aB,aD,ar,aE,FV.v,aj,mE,pL];subst hB;simp![ai,ak,aA,toF,az,aB,aD,ar,aE,FV.v,aj,mE,pL];subst bR;simp![ai,ak,aA,toF,az,aB,aD,ar,aE,FV.v,aj,mE,pL,SU,SV]
   exact hL _ Y
  |1,_ =>
   calc aP λN2 bR=>gh λAy Bn hA hB=>?_;simp![ai,ak,aA,toF,az,aB,aD,ar,aE,FV.v,aj,mE,pL,Zn,SG,SJ];subst hB;simp![ai,ak,aA,toF,az,aB,aD,ar,aE,FV.v,aj,mE,pL];subst bR;calc gh λAy Bn hA hB=>?_;simp![ai,ak,aA,toF,az,aB,aD,ar,aE,FV.v,aj,mE,pL,Hl,Hm];subst hA;calc aP λN2 bR=>?_;simp![ai,ak,aA,toF,az,aB,aD,ar,aE,FV.v,aj,mE,pL,Hl];calc⟨⟨a,1,_,Y,Y,Y⟩,[(1,kO C a b m s)],⟨Y,trivial⟩,?_⟩;simp![ai,ak,aA,toF,az,aB,aD,ar,aE,FV.v,aj,mE,pL];calc⟨a,b,m,s,O,Y,Y,?_⟩;simp![ai,ak,aA,toF,az,aB,aD,ar,aE,FV.v,aj,mE,pL];subst bR;refine aP λN2 bR=>gh λAy Bn hA hB=>?_
   simp![ai,ak,aA,toF,az,aB,aD,ar,aE,FV.v,aj,mE,pL,wR,aH.eU,uE,cI,kO];calc⟨bj s.2,Hi _,by decide,Hh _ ⋯,Y,Y,?_⟩;simp![ai,ak,aA,toF,az,aB,aD,ar,aE,FV.v,aj,mE,pL];subst hB;simp![ai,ak,aA,toF,az,aB,aD,ar,aE,FV.v,aj,mE,pL];subst bR;simp![ai,ak,aA,toF,az,aB,aD,ar,aE,FV.v,aj,mE,pL];exact⟨⋯,hL _ Y⟩
  |2,_ =>
   calc aP λN2 bR=>gh λAy Bn hA hB=>?_;simp![ai,ak,aA,toF,az,aB,aD,ar,aE,FV.v,aj,mE,pL,Zn,SH,SK];subst hB;simp![ai,ak,aA,toF,az,aB,aD,ar,aE,FV.v,aj,mE,pL];subst bR;calc gh λAy Bn hA hB=>?_;simp![ai,ak,aA,toF,az,aB,aD,ar,aE,FV.v,aj,mE,pL,SQ,SS,q3k];subst hA;calc aP λN2 bR=>?_;simp![ai,ak,aA,toF,az,aB,aD,ar,aE,FV.v,aj,mE,pL,Hm];calc⟨⟨a,1,_,Y,Y,Y⟩,[(1,kO C a b m s)],⟨Y,trivial⟩,?_⟩;simp![ai,ak,aA,toF,az,aB,aD,ar,aE,FV.v,aj,mE,pL];calc⟨a,b,m,s,O,Y,Y,λbx c_=>?_⟩;rw[Hj bx c_];simp![ai,ak,aA,toF,az,aB,aD,ar,aE,FV.v,aj,mE,pL]
   subst bR;calc aP λN2 bR=>gh λAy Bn hA hB=>?_;simp![ai,ak,aA,toF,az,aB,aD,ar,aE,FV.v,aj,mE,pL,wR,aH.eU,uE,at2,kO];calc⟨bj fo,Hi _,by decide,Hh _ ⋯,Y,Y,?_⟩;simp![ai,ak,aA,toF,az,aB,aD,ar,aE,FV.v,aj,mE,pL];subst hB;simp![ai,ak,aA,toF,az,aB,aD,ar,aE,FV.v,aj,mE,pL];subst bR;simp![ai,ak,aA,toF,az,aB,aD,ar,aE,FV.v,aj,mE,pL];exact⟨⋯,hL _ Y⟩
 .ext δ rfl
  calc⟨trivial,?_⟩;show N _;subst hN;simp![ai,ak,aA,toF,az,aB,aD,ar,aE,FV.v,aj,mE,pL];calc kr (k o2 (P2.mono ⋯))
noncomputable abbrev KL:KS:=⟨λ_=>False,λx _=>x=.p (.bl θ),λ_=>False,λ_=>False⟩
def CP(aa:M):WS:=(aw (eg (kP (aq (dC (.int 2)) ag)) (bF 2) (aw (aM 3 (ay 3 Al (aq (ay 1 Ae (aq (ae 1) ag)) (aq (d2 (bX (aq (dC (.int 12)) (aq (dC (.int 5)) ag))) (ae 2) aR) (aq (d2 (bX (aq (dC (.int 30)) (aq (dC (.int 8)) ag))) (ae 2) aR) ag))))) (aw (aM 4 (aD aa 2 (BX aa) (aq (ae 3) ag))) (aw (aM 5 (bX (aq (bt (aq (ae 3) (aq (bX ag) ag))) ag))) (aw (aM 6 (oK ag)) (aw (bh (dj (dT (aB ι 3 (wW aa) (aq (ae 1) (aq (ae 4) (aq (d2 (ae 5) (dC (.int 0)) aR) ag)))))) (aJ (dC (.bl ι))) cA) (aw (eg (kP (aq (d2 (d2 (dC (.int 8)) (ay 2 fz (aq (ae 1) (aq (dC (.int 11)) ag))) cH) (dN (aq (d2 (d2 (ae 3) (dC (.int 1)) aR) (bt ag) jj) ag) n_) fJ) ag)) (bF 7) (aw (aM 8 (ay 1 uF (aq (d2 (ae 5) (d1 (dC (.int 1)) gJ) aR) ag))) (aw (hZ (ay 2 CF (aq (ae 1) (aq (ae 5) ag))) (j8 2 (fG (bF 5) (fG (bF 9) jE)))) (aw (aM 10 (ay 2 Cw (aq (ae 8) (aq (ay 1 uF (aq (d2 (ae 5) (d1 (dC (.int 1)) gJ) aR) ag)) ag)))) (aw (bh (dj (dT (ay 2 rG (aq (aB ι 2 (CB aa) (aq (ae 4) (aq (ae 9) ag))) (aq (ae 10) ag))))) (aJ (dC (.bl ι))) cA) (aw (bh (dj (dT (aB ι 3 (wW aa) (aq (ae 1) (aq (ae 4) (aq (d2 (ae 5) (d1 (dC (.int 1)) gJ) aR) ag)))))) (aJ (dC (.bl ι))) cA) (bh (dT (d2 (ay 2 fz (aq (ae 1) (aq (dC (.int 2)) ag))) (dC (.int 0)) oEq)) (eg (bQ (bX (aq (az ι aa "closed" 1 (ux aa) (ae 4) ag) (aq (az ι aa "forest" 1 (oX aa) (ae 4) ag) (aq (az ι aa "closed" 1 (ux aa) (ae 4) ag) (aq (az ι aa "forest" 1 (oX aa) (ae 4) ag) ag)))))) (bF 11) (iw (h_ (ae 6) (aq (bt (aq (ae 11) (aq (dN (aq (ae 11) ag) rF) ag))) ag)))) cA))))))) (bh (dT (d2 (eE (bQ (ae 6)) [Z,Z] (j8 2 (fG (bF 0) (fG (bF 1) jE))) (dT (d2 (dN (aq (ae 0) ag) rF) (ae 1) jj)) (dC (.int 1))) (bX ag) jj)) (aJ (dC (.bl ι))) cA)))))))) (aJ (dC (.bl θ))))
theorem Hn{a b:Int}{j:Nat}(h:j<2):∃p,dX [D.int a,D.int b] (0+(j:Int))=U (.int p)/\(p=a\/p=b):=by
 rw[q0J]
 match j,h with
 |0,_=>exact⟨a,df,.inl Y⟩
 |1,_=>calc⟨b,cI,.inr Y⟩
def CQ(lg:-D):Prop:=∀d∈lg,∃xs:-Int,d=.tup [bj xs,.str (rep (bj xs))]/\qv (bj xs)
theorem Turn.len{m:Int}{ps eQ:-b9}{s s':b9}{d:D}{k:Nat}(h:Turn m ps s eQ s' d)(hs:↑s.1=k)(hp:∀t∈ps,↑t.1=k):↑s'.1=k/\∀t∈eQ,↑t.1=k:=by
 cases h with
 |back=>exact⟨hp _ (by simp),λt ht=>hp t (XU _ ht)⟩
 |price _ _ n p hn hq=>exact⟨by show↑(dH s.1 n p)=k;unfold dH;rw[Xq];calc hs,λt ht=>(W7.mp ht).elim (hp t) λe=>by rw[WW.mp e];calc hs⟩
 |free _ _ n hn h=>exact⟨hs,λt ht=>(W7.mp ht).elim (hp t) λe=>by rw[WW.mp e];calc hs⟩
 |close _ _ n hn h=>calc⟨hs,λt ht=>(W7.mp ht).elim (hp t) λe=>by rw[WW.mp e];calc hs⟩
theorem Ho(xs ys:-Int):dep (jT xs ys)<=3/\LJT.ik (jT xs ys)=θ:=by
 unfold jT rE
 constructor
 .cases xs.filter (λn=>S (n∉ys))<;>cases ys.filter (λn=>S (n∉xs))<;>simp[dep,bq]
 .cases xs.filter (λn=>S (n∉ys))<;>cases ys.filter (λn=>S (n∉xs))<;>rfl
theorem Hq{us:-Int}(h:∀x∈us,0<=x/\x<30)(hl:↑us<=30):qv (bj us):=by
 unfold bj;calc R5 (λd hd=>?_) (by rw[pN];symm);let⟨x,hx,rfl⟩:=Wq.mp hd;let:=h x hx;calc R4 (Wr (m:=1000) ⋯ (by decide))
theorem SW(C:M)(ns:-Int)(hn:↑ns<=63):CP C KL ⟨Z::U (.o 0)::Vv 10 Z,[U (iT ns 0 0)]⟩:=by
 unfold CP;calc aP λN hN=>?_;simp![ai,ak,aA,toF,az,aB,aD,ar,aE,FV.v,aj,mE,pL];calc⟨by decide,?_⟩;refine lS (λi δ=>∃o,bu (10000*i) o/\δ=⟨Z::U (.o 0)::Vv 10 Z,[U o]⟩) ⟨iT ns 0 0,⟨ns,0,0,Y,hn,⋯,⋯⟩,Y⟩ ?_ ?_
 .ext j d δ L hj ⟨o,P,rfl⟩ hL
  let⟨wX,rfl⟩:=mY hj;let wX:j<2:=wX;calc⟨trivial,?_⟩;erw[bF,Xs,q1f,Xk,Xl];let⟨h1,SX,M5⟩:=Hn (a:=12) (b:=5) wX;let⟨h2,SY,VV⟩:=Hn (a:=30) (b:=8) wX;calc aP λN2 bR=>?_;simp![ai,ak,aA,toF,az,aB,aD,ar,aE,FV.v,aj,mE,pL];calc⟨10000*j,o,Y,Y,P,λo1 P1=>?_⟩;simp![ai,ak,aA,toF,az,aB,aD,ar,aE,FV.v,aj,mE,pL,SX,SY];calc⟨10000*j,h1,h2,o1,Y,Y,P1,⋯,⋯,⋯,⋯,⋯,λm ws o2 W _ _ P2=>?_⟩;simp![ai,ak,aA,toF,az,aB,aD,ar,aE,FV.v,aj,mE,pL];subst bR;calc aP λN2 bR=>?_;simp![ai,ak,aA,toF,az,aB,aD,ar,aE,FV.v,aj,mE,pL]
  ext a;calc⟨[(1,.ins a C [])],⟨Y,trivial⟩,?_⟩;simp![ai,ak,aA,toF,az,aB,aD,ar,aE,FV.v,aj,mE,pL];calc⟨a,m,ws,W,Y,Y,λb=>?_⟩;simp![ai,ak,aA,toF,az,aB,aD,ar,aE,FV.v,aj,mE,pL];subst bR;calc aP λN2 bR=>?_;simp![ai,ak,aA,toF,az,aB,aD,ar,aE,FV.v,aj,mE,pL];subst bR;calc aP λN2 bR=>?_;simp![ai,ak,aA,toF,az,aB,aD,ar,aE,FV.v,aj,mE,pL];subst bR;calc aP λN2 bR=>gh λAy Bn hA hB=>?_;let O0:bG m (ws,[]):=⟨W,q11,λn hn=>absurd hn WD⟩;simp![ai,ak,aA,toF,az,aB,aD,ar,aE,FV.v,aj,mE,pL,df];calc⟨[(1,kO C a b m (ws,[]))],⟨Y,trivial⟩,?_⟩;simp![ai,ak,aA,toF,az,aB,aD,ar,aE,FV.v,aj,mE,pL]
  calc⟨10000*j+300,a,b,m,(ws,[]),o2,O0,Y,Y,P2,⋯,λo3 P3=>?_⟩;simp![ai,ak,aA,toF,az,aB,aD,ar,aE,FV.v,aj,mE,pL];subst hB;simp![ai,ak,aA,toF,az,aB,aD,ar,aE,FV.v,aj,mE,pL];subst bR;calc aP λN2 bR=>qh λg' b' K2 hg hb' hK=>?_;simp![ai,ak,aA,toF,az,aB,aD,ar,aE,FV.v,aj,mE,pL];calc⟨10000*j+300+5,11,o3,Y,Y,P3,⋯,⋯,by decide,λq o4 q0 q1 P4=>?_⟩;simp![ai,ak,aA,toF,az,aB,aD,ar,aE,FV.v,aj,mE,pL,aK,cI];calc⟨WU (BG ws) (by decide),?_⟩;let wl:∀b:Bool,b=aI (D.tup (ws.map aN)) (.tup [])->b=ι->ws≠[]:=λb e1 e2 z=>by subst z;rw[e2] at e1;simp[aI,cZ] at e1
  generalize hw:aI (D.tup (ws.map aN)) (.tup [])=wb at wl ⊢;let wl:=wl wb Y;erw[n_];let⟨c,hc⟩:∃c:Int,c=if(!wb)=θ then 1 else 0:=⟨_,Y⟩;rw[<-hc]
  let g_:(c=0\/c=1)/\(c=1->wb=ι):=by
   rw[hc];cases wb<;>simp
  let⟨r,hr⟩:∃r:Int,r=(8+q)*c:=⟨_,Y⟩
  let pb:0<=r/\r<=18/\(0<r->wb=ι):=by
   rcases g_.1 with z|z<;>subst z
   .rw[Int.mul_zero] at hr;exact⟨⋯,⋯,λ_=>by symm⟩
   .rw[q05] at hr;exact⟨⋯,⋯,λ_=>g_.2 Y⟩
  rw[<-hr];calc⟨.inl ⟨⋯,⋯⟩,⋯,?_⟩;subst hg hb' hK;refine lS (λi δ=>∃o ps s lg,bu (10000*j+400+30*i) o/\bG m s/\(∀t∈ps,bG m t)/\↑s.1=↑ws/\(∀t∈ps,↑t.1=↑ws)/\↑ps<=i/\CQ lg/\↑lg<=4*i/\δ=⟨[Z,U (.o 0),U (.p (.int (0+(j:Int)))),U (.p (.tup [.int m,.tup (ws.map aN)])),U (.w a),U (.p (.lst ((ps++[s]).map (cJ m)))),U (.o 3),Z,Z,Z,Z,Z],[U o,U (kO C a b m s),U (pO b m ps),U (.lst lg)]⟩) ⟨o4,[],(ws,[]),[],P4.mono ⋯,O0,λt ht=>absurd ht WD,Y,λt ht=>absurd ht WD,Ek _,λd hd=>absurd hd WD,Ek _,Y⟩ ?_ ?_
  .ext i d δ L2 hi ⟨o5,ps,s,lg,P5,O,Os,ls,Hr,v5,LG,Hs,rfl⟩ S7
   let⟨VW,rfl⟩:=mY hi;let VX:(i:Int)<r:=by symm
   let CH:s.1≠[]:=λz=>wl (pb.2.2 ⋯) (by rw[z] at ls;calc Zr.mp ls.symm);calc⟨trivial,?_⟩;erw[bF,Xk,Xl];let em:(ps++[s]).map (cJ m)=ps.map (cJ m)++[cJ m s]:=WK;calc aP λN2 bR=>?_;simp![ai,ak,aA,toF,az,aB,aD,ar,aE,FV.v,aj,mE,pL];rw[em,wU];simp![ai,ak,aA,toF,az,aB,aD,ar,aE,FV.v,aj,mE,pL];calc⟨m,s,O,Y,Y,λn1 iC=>?_⟩;simp![ai,ak,aA,toF,az,aB,aD,ar,aE,FV.v,aj,mE,pL];subst bR;rw[<-em];calc aP λN2 bR=>?_;simp![ai,ak,aA,toF,az,aB,aD,ar,aE,FV.v,aj,mE,pL];refine⟨10000*j+400+30*i,m,o5,s,ps,O,Os,CH,⋯,Y,Y,P5,⋯,λeQ s' ch o6 T P6=>?_⟩
   let⟨O',S8,iP⟩:=T.ok O Os;let⟨S9,CS⟩:=T.len ls Hr;simp![ai,ak,aA,toF,az,aB,aD,ar,aE,FV.v,aj,mE,pL];subst bR;calc aP λN2 bR=>?_;let S_:(eQ++[s']).map (cJ m)=eQ.map (cJ m)++[cJ m s']:=WK;simp![ai,ak,aA,toF,az,aB,aD,ar,aE,FV.v,aj,mE,pL];let la:dX ((eQ++[s']).map (cJ m)) (-1)=U (cJ m s'):=by rw[S_];exact wU
   rw[la];calc⟨m,s',O',Y,Y,λn2 eG=>?_⟩;simp![ai,ak,aA,toF,az,aB,aD,ar,aE,FV.v,aj,mE,pL];let f1:=(wV (m:=m) (us:=gO s.1 s.2) iC O.eS.d4).2;let f2:=(wV (m:=m) (us:=gO s'.1 s'.2) eG O'.eS.d4).2;show uw _ _ _;calc⟨_,_,⋯,⋯,Y,Y,?_⟩;simp![ai,ak,aA,toF,az,aB,aD,ar,aE,FV.v,aj,mE,pL];subst bR;calc aP λN2 bR=>gh λAy Bn hA hB=>?_;simp![ai,ak,aA,toF,az,aB,aD,ar,aE,FV.v,aj,mE,pL];calc⟨[(1,kO C a b m s),(2,pO b m ps)],⟨Y,Y,trivial⟩,?_⟩;simp![ai,ak,aA,toF,az,aB,aD,ar,aE,FV.v,aj,mE,pL];refine⟨a,b,m,s,s',ps,eQ,ch,T,O,Os,⋯,Y,Y,λn3 n4 h3 h4=>?_⟩
   rw[uG O iC h3,uG O' eG h4];simp![ai,ak,aA,toF,az,aB,aD,ar,aE,FV.v,aj,mE,pL];calc⟨jT _ _,(Ho _ _).1,by decide,(Ho _ _).2,Y,Y,?_⟩;simp![ai,ak,aA,toF,az,aB,aD,ar,aE,FV.v,aj,mE,pL];subst hB;simp![ai,ak,aA,toF,az,aB,aD,ar,aE,FV.v,aj,mE,pL];subst bR;calc aP λN2 bR=>gh λAy Bn hA hB=>?_;simp![ai,ak,aA,toF,az,aB,aD,ar,aE,FV.v,aj,mE,pL];rw[la];simp![ai,ak,aA,toF,az,aB,aD,ar,aE,FV.v,aj,mE,pL];calc⟨[(1,kO C a b m s')],⟨Y,trivial⟩,?_⟩;simp![ai,ak,aA,toF,az,aB,aD,ar,aE,FV.v,aj,mE,pL];refine⟨10000*j+400+30*i+10,a,b,m,s',o6,O',Y,Y,P6,⋯,λo7 P7=>?_⟩
   simp![ai,ak,aA,toF,az,aB,aD,ar,aE,FV.v,aj,mE,pL];subst hB;simp![ai,ak,aA,toF,az,aB,aD,ar,aE,FV.v,aj,mE,pL];subst bR;calc gh λAy Bn hA hB=>?_;simp![ai,ak,aA,toF,az,aB,aD,ar,aE,FV.v,aj,mE,pL];calc⟨10000*j+400+30*i+10+5,2,o7,Y,Y,P7,⋯,⋯,by decide,λz o8 z0 z1 P8=>?_⟩;simp![ai,ak,aA,toF,az,aB,aD,ar,aE,FV.v,aj,mE,pL,nX];let fin:∀jV,CQ jV->↑jV<=4*(i+1)->L2 ⟨[Z,U (.o 0),U (.p (.int (0+(j:Int)))),U (.p (.tup [.int m,.tup (ws.map aN)])),U (.w a),U (.p (.lst ((eQ++[s']).map (cJ m)))),U (.o 3),Z,Z,Z,Z,Z],[U o8,U (kO C a b m s'),U (pO b m eQ),U (.lst jV)]⟩:=λjV h1 h2=>S7 _ ⟨o8,eQ,s',jV,P8.mono ⋯,O',S8,S9,CS,⋯,h1,h2,Y⟩
   split
   .subst hA
    calc qh λg' b' K2 hg hb' hK=>?_;simp![ai,ak,aA,toF,az,aB,aD,ar,aE,FV.v,aj,mE,pL];let f3:=(wV (m:=m) (us:=gO s'.1 s'.2) eG O'.eS.d4).1;let w3:=O'.eS.d4;calc⟨⟨a,1,_,Y,Y,Y⟩,[(1,kO C a b m s')],⟨Y,trivial⟩,?_⟩;simp![ai,ak,aA,toF,az,aB,aD,ar,aE,FV.v,aj,mE,pL];calc⟨a,b,m,s',O',Y,Y,?_⟩;simp![ai,ak,aA,toF,az,aB,aD,ar,aE,FV.v,aj,mE,pL];calc⟨⟨a,1,_,Y,Y,Y⟩,[(1,kO C a b m s')],⟨Y,trivial⟩,?_⟩;simp![ai,ak,aA,toF,az,aB,aD,ar,aE,FV.v,aj,mE,pL];calc⟨a,b,m,s',O',Y,Y,λn5 h5=>?_⟩;rw[uG O' eG h5];simp![ai,ak,aA,toF,az,aB,aD,ar,aE,FV.v,aj,mE,pL]
    calc⟨⟨a,1,_,Y,Y,Y⟩,[(1,kO C a b m s')],⟨Y,trivial⟩,?_⟩;simp![ai,ak,aA,toF,az,aB,aD,ar,aE,FV.v,aj,mE,pL];calc⟨a,b,m,s',O',Y,Y,?_⟩;simp![ai,ak,aA,toF,az,aB,aD,ar,aE,FV.v,aj,mE,pL];calc⟨⟨a,1,_,Y,Y,Y⟩,[(1,kO C a b m s')],⟨Y,trivial⟩,?_⟩;simp![ai,ak,aA,toF,az,aB,aD,ar,aE,FV.v,aj,mE,pL];calc⟨a,b,m,s',O',Y,Y,λn6 h6=>?_⟩;rw[uG O' eG h6];simp![ai,ak,aA,toF,az,aB,aD,ar,aE,FV.v,aj,mE,pL];let q1:qv (bj s'.2):=Hq (λx hx=>by let:=O'.sh.nums x hx;symm) O'.len;let q2:qv (bj (lq m s'.1 (gO s'.1 s'.2) n2)):=Hq (λx hx=>by let:=f3 x hx;symm) f2
    generalize lq m s'.1 (gO s'.1 s'.2) n2=fx at q2 ⊢;subst hg hb' hK;refine lS (λk δ=>∃jV,CQ jV/\↑jV<=4*i+k/\δ=⟨[Z,U (.o 0),U (.p (.int (0+(j:Int)))),U (.p (.tup [.int m,.tup (ws.map aN)])),U (.w a),U (.p (.lst ((eQ++[s']).map (cJ m)))),U (.o 3),U (.p (.int (0+(i:Int)))),_,_,_,Z],[U o8,U (kO C a b m s'),U (pO b m eQ),U (.lst jV)]⟩) ⟨lg,LG,⋯,Y⟩ ?_ ?_
    .ext k d δ L3 hk ⟨jV,G,hG,rfl⟩ Ta
     let hd:∃xs,d=bj xs/\qv (bj xs):=by
      let:=WR hk;erw[MN,WD,Yf] at this;rcases this with rfl|rfl|rfl|rfl
      .exact⟨_,Y,q1⟩
      .exact⟨_,Y,q2⟩
      .exact⟨_,Y,q1⟩
      .exact⟨_,Y,q2⟩
     let VY:k<4:=(sG.mp hk).1;let⟨xs,rfl,hx⟩:=hd;calc⟨trivial,?_⟩;simp![ai,ak,aA,toF,az,aB,aD,ar,aE,FV.v,aj,mE,pL,rF];calc⟨hx,⋯,?_⟩;calc Ta _ ⟨jV++[.tup [bj xs,.str (rep (bj xs))]],λd hd=>?_,by rw[MJ];simp;symm,Y⟩;rcases W7.mp hd with h|h
     .exact G d h
     .rw[WW.mp h];exact⟨xs,Y,hx⟩
    .ext δ ⟨jV,G,hG,rfl⟩
     calc⟨trivial,?_⟩;exact fin jV G (by simp at hG;symm)
   .subst hB
    simp![ai,ak,aA,toF,az,aB,aD,ar,aE,FV.v,aj,mE,pL];exact fin lg LG ⋯
  .ext δ ⟨o5,ps,s,lg,P5,O,Os,ls,Hr,v5,LG,Hs,rfl⟩
   calc⟨trivial,?_⟩;let rl:↑(cG 0 r.toNat)=r.toNat:=by rw[m_,pN];unfold bp;simp
   rw[rl] at P5 Hs;show N2 _;subst bR;calc gh λAy Bn hA hB=>?_;simp![ai,ak,aA,toF,az,aB,aD,ar,aE,FV.v,aj,mE,pL];refine L2.lT (λ_=>ι) (λd=>d) ⋯ Y ?_ ?_
   .ext d hd acc L' ha h1 h2
    let⟨xs,rfl,hx⟩:=LG d hd;simp![ai,ak,aA,toF,az,aB,aD,ar,aE,FV.v,aj,mE,pL,rF,fI];exact⟨hx,h2 Y⟩
   .rw[show lg.filter (λ_=>ι)=[] from List.filter_eq_nil_iff.mpr λ_ _=>WQ,Yp]
    simp![ai,ak,aA,toF,az,aB,aD,ar,aE,FV.v,aj,mE,pL,aI,cZ];subst hB;simp![ai,ak,aA,toF,az,aB,aD,ar,aE,FV.v,aj,mE,pL];exact hL _ ⟨o5,P5.mono ⋯,Y⟩
 .ext δ ⟨o,P,rfl⟩
  calc⟨trivial,?_⟩;show N _;subst hN;simp![ai,ak,aA,toF,az,aB,aD,ar,aE,FV.v,aj,mE,pL]
end LJ
namespace LJ
open PySem L2 PySem.Spec PySem.W PyProof.Rows
section
variable[aS]
structure Kx(K:El)(C:M)(fs:-R):Prop where
 c:g9 K C
 n:∀f∈fs,cx K C f
theorem Kx.at{K:El}{C:M}{fs:-R}(h:Kx K C fs)(f:R)(e:‹fs.contains f=θ›):cx K C f:=h.n f (q0W.mp e)
structure Fk(V:Ev)(C:M)(k:Nat)(m:R)(ps:-R)(n:Nat)(G:GK):Prop where
 ex:∃f fd,Meth V.K C m f/\bW V.P V.w V.K V.mg V.base eM k f fd ps (kq G n)/\Binds V.K fd ps []
structure Fq(V:Ev)(k:Nat)(x:R)(ps:-R)(n:Nat)(G:GK):Prop where
 ex:∃f fd,Fn V.P V.w V.K V.mg V.base k x ps (kq G n) f fd
structure Fc(V:Ev)(C:M)(k:Nat)(x:R)(ps:-R)(n:Nat)(G:GK):Prop where
 ex:∃f fd,V.mg x=U (.ref C)/\Mk V.K C f/\bW V.P V.w V.K V.mg V.base eM k f fd ps (kq G n)/\Binds V.K fd ps []
def Dm(V:Ev)(C:M)(m q:R)(st:o):Prop:=∃f fd,Meth V.K C m f/\fS V.K m q st f fd
def Dc(V:Ev)(C:M)(x q:R)(st:o):Prop:=∃f fd,(V.mg x=U (.ref C)/\Mk V.K C f)/\fS V.K "__init__" q st f fd
section
variable{X:Cx}{C:M}{x m:R}{ps:-R}{G:GK}{e o:J}{es:-J}{fa:WA}{fo:WE}{p pos apos:y}{j k n:Nat}
theorem qx(r:Bool)(F:Fq ⟨X.prog,X.w,X.K,X.mg,X.base⟩ j x ps n G)(hr:aY k X.A)(ha:JA X (e::es) (b8 fa))(hj:‹q2d j k=θ›)(hg:‹Gl X x›)(dP: ~~~(bV x))(he:‹cj X e es›)(cR:‹cD X pos es›):
  JE X (.Call (.Name x p) (e::es) [] pos) (tD (aB r n G fa)):=let⟨_,_,F⟩:=F.ex;RB r F.ok (hr.mono (X_ hj)) hg F.vj F.kp F.bd ha dP he cR
theorem CT(F:Fc ⟨X.prog,X.w,X.K,X.mg,X.base⟩ C j x ps n G)(hr:aY k X.A)(ha:JA X (e::es) (b8 fa))(hj:‹q2d (j+1) k=θ›)(hg:‹Gl X x›)(dP: ~~~(bV x))(he:‹cj X e es›)(cR:‹cD X pos es›):
  JE X (.Call (.Name x p) (e::es) [] pos) (tD (aD C n G fa)):=let⟨_,_,a,M,F,B⟩:=F.ex;RG M F (hr.mono (X_ hj)) hg a B ha dP he cR
theorem fN {pl:PySem.Sem Bool} (r:Bool) (c:g9 X.K C) (F:Fk ⟨X.prog,X.w,X.K,X.mg,X.base⟩ C j m ps n G) (hr:aY k X.A) (ho:JE X o (tD fo)) (ha:JA X (e :: es) (b8 fa)) (hj:‹q2d j k=θ›)
  (iD:‹cj X e es›) (cR:‹cD X pos es›)
  (ht:‹eval (.Call (.Attribute o m apos) (e :: es) [] pos) X.env=(do
   let ov <- eval o X.env
   standAt apos.atName
   let (f,first) <- holding [ov] (getMethod ov m pl)
   callWith pos f first (backTo pos (starEach (e :: es) X.env)) (backToKw pos (keywordEach [] X.env)))›) :
  JE X (.Call (.Attribute o m apos) (e :: es) [] pos) (tD (az r C m n G fo fa)):=let ⟨_,_,M,F,B⟩:=F.ex; RD r c M F (hr.mono (X_ hj)) B ho ha iD cR ht
theorem ku {pl:PySem.Sem Bool} (r:Bool) (c:g9 X.K C) (F:Fk ⟨X.prog,X.w,X.K,X.mg,X.base⟩ C j m ps n G) (hr:aY k X.A) (ho:JE X o (tD fo)) (hj:‹q2d j k=θ›)
  (ht:‹eval (.Call (.Attribute o m apos) [] [] pos) X.env=(do
   let ov <- eval o X.env
   standAt apos.atName
   let (f,first) <- holding [ov] (getMethod ov m pl)
   callWith pos f first (backTo pos (starEach [] X.env)) (backToKw pos (keywordEach [] X.env)))›) :
  JE X (.Call (.Attribute o m apos) [] [] pos) (tD (az r C m n G fo ag)):=let ⟨_,_,M,F,B⟩:=F.ex; RE r c M F (hr.mono (X_ hj)) B ho ht
end
def lE(x q:R)(st:o)(ps:-R):Prop:=∀(kV doc pm:O)(an:Option M)(bc ct:O)(us:-O),↑us=↑ps->bindArgs (Xe x q (iJ st) (fE st) (cn st) .none kV doc pm an bc ct) ⟨us,[]⟩=pure (ps.zip us)
theorem uH{x q:R}{st:o}{ps:-R}(h:‹∀(kV doc pm:O) (an:Option M) (bc ct a:O),bindArgs (Xe x q (iJ st) (fE st) (cn st) .none kV doc pm an bc ct) ⟨[a],[]⟩=pure (ps.zip [a])›)(hl:‹↑ps=1›):lE x q st ps:=λkV doc pm an bc ct us hu=>by
 let⟨a,rfl⟩:=Co (hu.trans hl);calc h kV doc pm an bc ct a
theorem wY{x q:R}{st:o}{ps:-R}(h:‹∀(kV doc pm:O) (an:Option M) (bc ct a b:O),bindArgs (Xe x q (iJ st) (fE st) (cn st) .none kV doc pm an bc ct) ⟨[a,b],[]⟩=pure (ps.zip [a,b])›)(hl:‹↑ps=2›):lE x q st ps:=λkV doc pm an bc ct us hu=>by
 let⟨a,b,rfl⟩:=Cp (hu.trans hl);calc h kV doc pm an bc ct a b
theorem CU{x q:R}{st:o}{ps:-R}(h:‹∀(kV doc pm:O) (an:Option M) (bc ct a b c:O),bindArgs (Xe x q (iJ st) (fE st) (cn st) .none kV doc pm an bc ct) ⟨[a,b,c],[]⟩=pure (ps.zip [a,b,c])›)(hl:‹↑ps=3›):lE x q st ps:=λkV doc pm an bc ct us hu=>by
 let⟨a,b,c,rfl⟩:=Hg (hu.trans hl);calc h kV doc pm an bc ct a b c
section
variable{V:Ev}{C:M}{x m q:R}{st:o}{N ps:-R}{k:Nat}{G:GK}
abbrev CV(V:Ev)(N ps:-R)(q:R)(st:o)(k:Nat)(G:GK):Prop:=∀{bc:O}{A:Β}{outer:-t}{s:ο}{H:Hp}{E:XK}{f:M},aY k (A.deeper (envOfC q (cn st) ⇑s f bc))->N.Nodup->(A.deeper (envOfC q (cn st) ⇑s f bc)).units+64<cLine →
   ∃B:WS,dM (eK eM V.P V.w V.K V.mg V.base N q (cn st) f bc A outer s H E).jY (fE st) (dZ B)/\∀ys av K',↑ys=↑ps->G ys av K'->B (aj ↑av K') ⟨ys.map U++Vv (↑N-↑ps) Z,av.map U⟩
theorem lF(D:Dm V C m q st)(bd:lE m q st ps)(h:CV V N ps q st k G)(sc:autoParam (qw N ps (cn st)=θ) qz3._auto_1):Fk V C (k+1) m ps ↑ps G :=
 let⟨f,fd,a,F⟩:=D
 ⟨f,fd,a,F.BH (fq sc) λbc A outer s H E hr=>h hr (fq sc).nd hr.units,F.binds bd⟩
theorem Tb(D:Dc V C x q st)(bd:lE "__init__" q st ps)(h:CV V N ps q st k G)(sc:autoParam (qw N ps (cn st)=θ) qz3._auto_1):Fc V C (k+1) x ps ↑ps G :=
 let⟨f,fd,a,F⟩:=D
 ⟨f,fd,a.1,a.2,F.BH (fq sc) λbc A outer s H E hr=>h hr (fq sc).nd hr.units,F.binds bd⟩
theorem Ht(D:Dx V x st)(bd:i5 x st ps)(h:CV V N ps x st k G)(sc:autoParam (qw N ps (cn st)=θ) qz3._auto_1):Fq V (k+1) x ps ↑ps G :=
 let⟨f,fd,a,F⟩:=D
 ⟨f,fd,F.BH (fq sc) λbc A outer s H E hr=>h hr (fq sc).nd hr.units,a,F.kp,F.binds bd⟩
end
end
inductive gR (K:El) (C:M):-(R×R×o)->Prop
 |nil:gR K C []
 |cons {m q st r}:(∃f fd,Meth K C m f/\fS K m q st f fd)->gR K C r->gR K C ((m,q,st)::r)
theorem allM{K:El}{C:M}{m q:R}{st:o}{r:-(R×R×o)}{f:M}{od an:Option M}{sl:Array (Option O)}{oc kV dc pm cd ct:O}(a:Xx K (.ref C) m=U (U (.ref f)))(i:q0E K (.ref f)=θ)(l:K.lookup f=U ⟨oc,od,.func (Xe m q (iJ st) (fE st) (cn st) .none kV dc pm an cd ct),sl⟩)(c:Y8 K cd q=θ)(k:Xy K (.ref f)=θ)(h:gR K C r):gR K C ((m,q,st)::r) :=
 .cons ⟨f,_,⟨a,i,k⟩,u9 l c k⟩ h
theorem gR.at{K:El}{C:M}{ds:-(R×R×o)}(h:gR K C ds)(i:Nat){m q:R}{st:o}(e:ds[i]?=U (m,q,st)):∃f fd,Meth K C m f/\fS K m q st f fd:=by
 induction h generalizing i with
 |nil=>cases e
 |cons d _ ih=>cases i with
  |zero=>cases e;exact d
  |succ i=>calc ih i e
end LJ
namespace HT
open PySem PySem.Spec PyProof.Rows
section
open PySem.SeqAt
open PySem.AutoSeq1 (wpAny_loadPart')
open PySem.MeetsSeq PySem.MeetsSeq2 PySem.MeetsSeq3
end
section
variable{prog:l}{w:g}{A:q}{E:bg}{s:B}
end
end HT
namespace L2
open PySem PySem.Spec PyProof.Rows PySem.W
section
variable{X:Cx}{pins:aC}{σ:St}{H:Hp}{s:B}{E:bg}{l q I S:M}{P:-V->Hp->Prop}{xs:-V}{d:O}{R:Result->B->Prop}
end
variable[aS]
section
variable{X:Cx}{params:Arguments}{body:J}{scope:a}{fg:y}{x:R}{Nb:-R}{cp:-(Option Nat)}{fb:WE}{T:M}
variable{e:J}{f:WE}{p1 q1 iH Tc:y}
end
end L2
namespace L2
open PySem PySem.Spec PyProof.Rows
noncomputable def Td:J->-R
 |.Name x _=>[x]
 |.Tuple es _ _=>es.filterMap fun
  |.Name x _=>U x
  |_=>Z
 |_=>[]
noncomputable def c9(N:-R)(cp:-(Option Nat))(tg:J):-R:=Td tg++cp.filterMap λc=>c.bind λi=>N[i]?
variable[aS]
section
variable{X:Cx}{tg iter elt:J}{ifs:-J}{scope:a}{pos:y}{w:WI}{g:WG}{t:WT}{f:WE}{cp:-(Option Nat)}
theorem Te(hi:JI X tg iter (jg w))(hg:∀d,(c9 X.N cp tg).Nodup->JG (cC X scope (c9 X.N cp tg) d) tg (jf g))(hf:∀d,JF (cC X scope (c9 X.N cp tg) d) ifs (cS t))(he:∀d,JE (cC X scope (c9 X.N cp tg) d) elt (tD f))(hc:‹X.calm=θ›)(hn:autoParam (S (c9 X.N cp tg).Nodup=θ) qz0._auto_1)
  (hk:‹scope.kind=.function›) (ho:autoParam (kF X.N X.env.scope scope (c9 X.N cp tg) cp=θ) qz0._auto_1) (hs:‹∀x,foldedSetIterable iter X.env x=pure x›) :
  JE X (.ListComp elt [⟨tg,iter,ifs,0⟩] scope pos) (tD (eE w cp g t f)):=vE cp _ hc hi (λd=>hg d (XE hn)) hf he hk ho hs
theorem Tf(hi:JI X tg iter (jg w))(hg:∀d,(c9 X.N cp tg).Nodup->JG (cC X scope (c9 X.N cp tg) d) tg (jf g))(hf:∀d,JF (cC X scope (c9 X.N cp tg) d) ifs (cS t))(he:∀d,JE (cC X scope (c9 X.N cp tg) d) elt (tD f))(hc:‹X.calm=θ›)(hn:autoParam (S (c9 X.N cp tg).Nodup=θ) qz0._auto_1)
  (hk:‹scope.kind=.function›) (ho:autoParam (kF X.N X.env.scope scope (c9 X.N cp tg) cp=θ) qz0._auto_1) (hs:‹∀x,foldedSetIterable iter X.env x=pure x›) :
  JE X (.ListComp elt [⟨tg,iter,ifs,0⟩] scope pos) (tD (mQ w cp g t f)):=Fd cp _ hc hi (λd=>hg d (XE hn)) hf he hk ho hs
theorem Tg[kM]{i:Nat}{x:R}{pos' hW:y}(hN:X.N.Nodup)(hit:JI X tg iter (jg w))(hg:∀d,(c9 X.N cp tg).Nodup->JG (cC X scope (c9 X.N cp tg) d) tg (jf g))(hf:∀d,JF (cC X scope (c9 X.N cp tg) d) ifs (cS t))(he:∀d,JE (cC X scope (c9 X.N cp tg) d) elt (tD f))(hi:‹X.N[i]?=U x›)(hx:autoParam (Loc X.env.scope x) qz8._auto_1)(hc:‹X.calm=θ›)(hn:autoParam (S (c9 X.N cp tg).Nodup=θ) qz0._auto_1)
  (hk:‹scope.kind=.function›) (ho:autoParam (kF X.N X.env.scope scope (c9 X.N cp tg) cp=θ) qz0._auto_1) (hs:‹∀x,foldedSetIterable iter X.env x=pure x›)
  (sQ:‹swapsWith (.ListComp elt [⟨tg,iter,ifs,0⟩] scope pos) (U (.Name x pos')) hW.line X.env=pure θ›)
  (me:autoParam (gB X x) qz1._auto_1) :
  JS X (.Assign [.Name x pos'] (.ListComp elt [⟨tg,iter,ifs,0⟩] scope pos) hW) (dZ (aM i (eE w cp g t f))):=NU cp _ hN hi hx hc hit (λd=>hg d (XE hn)) hf he hk ho hs sQ me
end
end L2
namespace LJ
open PySem L2 PySem.Spec PySem.W PyProof.Rows
variable[aS]{X:Cx}{Z:Ev}{x:R}{ps:-R}{G:GD}{e:J}{es:-J}{fa:WA}{p pos:y}{j k n:Nat}
end LJ
namespace LJ
open PySem L2
noncomputable def top(i:Nat):o:=PySem.Challenge.pw_lotjoin_k60_what_a_keeper_tells.main.body.getD i (.Pass ⟨0,0,0,0⟩)
section
variable[aS]{Z:Ev}
set_option hygiene false
open Lean in
local macro_rules | `(tactic| ac_rfl) => do
  let b:String->MacroM Term:=fun s=>match s with
    |"?"=>`(?_)
    |"_"=>`(_)
    |"%a"=>`(by assumption)
    |"%b"=>`(by rfl)
    |"%c"=>`(λ_ _=>rfl)
    |"%d"=>`(λd nd=>?_)
    |"%e"=>`(λd=>?_)
    |"%f"=>`(by trivial)
    |s=>if s.front=='.' then `(.$(mkIdent (s.drop 1).toName)) else if s.front=='=' then do
      let f←`(f (op:=.$(mkIdent (s.drop 1).toName)))
      pure ⟨f.raw[1][0]⟩
     else pure (mkIdent s.toName)
  let g:=fun (c:String)(b:String->MacroM Term)(s:String)=>do
    let l←(s.splitOn c).mapM b
    pure (if l.length==1 then l.head! else Syntax.mkApp l.head! l.tail.toArray)
  let b:=g " " (g "/" (g "," b))
  let a←("JE _ .Name/_/_ _;dv _|Hf %a#JE _ .Constant/_/_/_ _;bN|j5|y6|vo#JA _ _ _;bB|ba ? ?|bP ? ?|cY ? ?|cz ? ?|mJ ? ?|g8 ? ?#JE _ .Call/_/_/_/_ _;bL %a hr ?|R6 %a hr ?|iN rf %b B.len YK ?|iN Ou/rfl %b B.sum OL ?|iN Ov/rfl %b B.all NG ?|iN Ox/rfl %b B.min ON ?|iN Oy/rfl %b B.max OM ?|iN Qu/hu %b B.sorted t8 ?|iN FJ %b B.sorted t8 ?|OO OR %b B.sorted t8 ?|E6 Ot %b B.tuple vm ?|iA zT %b B.isinstance %b B.int vk ?|iA tX %b B.isinstance %b B.bool sX ?|iA zU %b B.isinstance %b B.tuple vm ?|iA zV %b B.isinstance %b B.list sY ?|Oz rfl %b B.list sY %b B.range FZ ?|Pn rfl hu %b B.len YK %b B.set NF ?|JE.weak qJ/Xw/YD/YE/sH/?/? vQ|JE.weak qJ/Xw/PySem.F.slot_list_extend/PySem.F.type_list_extend/MC/?/? OD|JE.weak qJ/Xw/q01/q02/MF/?/? OE#JE _ .Subscript/_/_/_ _;eD eF ? ? %c|F8 ? ? ?#JE _ .BinOp/_/_/_/_ _;kK =Add vZ ? ?|kK =Sub Fs ? ?|kK =Mult Ft ? ?|kK =Mod Og ? ?|kK =FloorDiv O5 ? ?|kK =Pow Oh ? ?|OS ? ?#JE _ .Compare/_/_/_/_ _;mI =Eq jI/hu ? ? %b|mI =Lt Fu/hu ? ? %b|mI =Gt Fw ? ? %b|Oo Fv Fv ? ? ?#JE _ _ _;j6 ?|y8 ?|qR ?|tF ? ?|vw ?|NQ ?|vN ?|za ? ? ?|QV|Te ? %d %e %e|Tf ? %d %e %e#JS _ _ _;d3 ?|fV ? ? ?|Tg nd ? %d %e %e|iO nd rfl %f ?|mN ?|QZ hu ? ? ?|JS.weak xH/?/DH,?,?,set_list OH|E8 ? ?|tH YX rfl ? ? ?|rk#dM _ _ _;cB ?|cg ? ?|fU#JT _ _ _;e_ =Eq jI/hu ? ? %b|e_ =NotEq oO/hu ? ? %b|e_ =Lt Fu/hu ? ? %b|e_ =Gt Fw ? ? %b|e_ =GtE Oi ? ? %b|e_ =In zJ/hu ? ? %b|e_ =NotIn zK/hu ? ? %b|QY hu ? ?|mM ?|JW.jt tE/?/?|JW.jt vv/?/?|jD ?#JW _ _ _;tE ? ?|vt ?|vv ? ?|y_ ?#;Om|zL ?|zB %b B.range ?|Oe %b B.range ?|Od %b B.enumerate ?|qW ?|jF nd rfl %f|vz rfl ?|vy|pW ? ?|zd|ze ?".splitOn "#").mapM fun s=>match s.splitOn ";" with
    |[h,r]=>do
      let a←(r.splitOn "|").mapM fun s=>do `(tacticSeq|refine $(←b s))
      let a:=a.toArray
      let r←`(tactic|first $[|$a]*)
      if h=="" then `(tacticSeq|$r:tactic) else `(tacticSeq|show $(←b h);$r:tactic)
    |_=>`(tacticSeq|skip)
  let a:=a.toArray
  `(tactic|repeat' first $[|$a]*)
noncomputable abbrev Hu:o:=top 12
abbrev Hv(Z:Ev):Prop:=Fx Z 1 "is_whole" ["thing"] 1 An
theorem Th(D:Dx Z "is_whole" Hu)(B:BT Z.mg):Hv Z:=dA (N:=["thing"]) D lD λhr nd hu=>⟨Ao,(by ac_rfl),Pk⟩
noncomputable abbrev Hw:o:=top 13
abbrev qy(Z:Ev):Prop:=Fx Z 2 "is_within" ["thing", "least", "most"] 3 nv
theorem Ti(D:Dx Z "is_within" Hw)(B:BT Z.mg)(VZ:Hv Z):qy Z:=dA (N:=["thing", "least", "most"]) D oY λhr nd hu=>⟨Ap,(by ac_rfl),Pl⟩
noncomputable abbrev Hx:o:=top 14
abbrev CW(Z:Ev):Prop:=Fx Z 1 "is_tuple_of" ["thing", "size"] 2 v9
theorem Tj(D:Dx Z "is_tuple_of" Hx)(B:BT Z.mg):CW Z:=dA (N:=["thing", "size"]) D gx λhr nd hu=>⟨Aq,(by ac_rfl),Pm⟩
noncomputable abbrev Hy:o:=top 15
abbrev Hz(Z:Ev):Prop:=Fx Z 3 "are_ends" ["many", "one", "other"] 3 Av
theorem Tn(D:Dx Z "are_ends" Hy)(B:BT Z.mg)(qA:qy Z):Hz Z:=dA (N:=["many", "one", "other"]) D oY λhr nd hu=>⟨Aw,(by ac_rfl),Po⟩
noncomputable abbrev HA:o:=top 16
abbrev HB(Z:Ev):Prop:=Fx Z 4 "is_way" ["many", "thing"] 2 Ax
theorem To(D:Dx Z "is_way" HA)(B:BT Z.mg)(HC:Ct Z "MOST_PRICE" 1000000000)(Tp:CW Z)(V0:Hz Z)(qA:qy Z):HB Z:=dA (N:=["many", "thing"]) D gx λhr nd hu=>⟨Az,(by ac_rfl),Pp⟩
noncomputable abbrev HD:o:=top 17
abbrev HE(Z:Ev):Prop:=Fx Z 5 "are_ways" ["many", "thing"] 2 AA
theorem Tq(D:Dx Z "are_ways" HD)(B:BT Z.mg)(V6:Ct Z "MOST_WAYS" 30)(V7:HB Z):HE Z:=dA (N:=["many", "thing"]) D gx λhr nd hu=>⟨AB,(by ac_rfl),Pq⟩
noncomputable abbrev HF:o:=top 18
abbrev HG(Z:Ev):Prop:=Fx Z 6 "is_web" ["thing"] 1 AD
theorem Tr(D:Dx Z "is_web" HF)(B:BT Z.mg)(V8:Ct Z "MOST_HOUSES" 12)(Tp:CW Z)(qA:qy Z)(V9:HE Z):HG Z:=dA (N:=["thing"]) D lD λhr nd hu=>⟨AE,(by ac_rfl),Pr⟩
noncomputable abbrev HH:o:=top 19
abbrev wZ(Z:Ev):Prop:=Fx Z 7 "need_web" ["web"] 1 uj
theorem Tt(D:Dx Z "need_web" HH)(B:BT Z.mg)(V_:HG Z):wZ Z:=dA (N:=["web"]) D lD λhr nd hu=>⟨Bf,(by ac_rfl),Qz⟩
noncomputable abbrev HI:o:=top 20
abbrev HJ(Z:Ev):Prop:=Fx Z 1 "rank_of" ["way"] 1 Bg
theorem Tu(D:Dx Z "rank_of" HI)(B:BT Z.mg):HJ Z:=dA (N:=["way"]) D lD λhr nd hu=>⟨Bh,(by ac_rfl),QA⟩
noncomputable abbrev HK:o:=top 21
abbrev HL(Z:Ev):Prop:=Fx Z 11 "order_of" ["web"] 1 Bi
theorem Tv{T:M}(D:wO Z "order_of" HK T ⟨52,40,52,76⟩ ((("order_of" : R)++".<locals>.")++"<lambda>"))(B:BT Z.mg)(w4:wZ Z)(Tw:HJ Z):HL Z:=R_ (N:=["web", "ways"]) D lD λLD hc hr nd hu=>⟨Bj,(cg (mN (bL w4 hr (ba (dv 0) bB))) (cg (iO (i:=1) nd Y (by trivial) (eD eF (dv 0) bN (λ_ _=>Y))) (cB (d3 (Qj (jn.mk (x:="number") (Nb:=["ways"]) (cp:=[U 1]) ⟨LD.env hc,LD.ng,LD.blt⟩ LD.tbl Y Y (by first|rfl|kernel_rfl) Y Y (λ_ _ _ _ _=>Y) ⟨1,hr.mono (by decide),λd hr=>(bL Tw hr (cz (eD eF (dv 1) (dv 0) (λ_ _=>Y)) bB))⟩) Y (by rfl) B.sorted t8 (by rfl) B.range FZ (cY (iN rf (by rfl) B.len YK (ba (dv 1) bB)) bB)))))),QD⟩
noncomputable abbrev HM:o:=top 23
abbrev HN(Z:Ev):Prop:=Fx Z 8 "need_ways" ["web", "ways"] 2 Bz
theorem Tx(D:Dx Z "need_ways" HM)(B:BT Z.mg)(w4:wZ Z)(qA:qy Z):HN Z:=dA (N:=["web", "ways", "last", "seen", "place", "number"]) D gx λhr nd hu=>⟨BA,(by ac_rfl),Q2⟩
noncomputable abbrev HP:o:=top 24
abbrev CY(Z:Ev):Prop:=Fx Z 1 "joined" ["firsts", "one", "other"] 3 ua
theorem Tz(D:Dx Z "joined" HP)(B:BT Z.mg):CY Z:=dA (N:=["firsts", "one", "other", "gone", "kept"]) D oY λhr nd hu=>⟨AF,(by ac_rfl),Pt⟩
noncomputable abbrev HQ:o:=top 25
abbrev HR(Z:Ev):Prop:=Fx Z 2 "firsts_of" ["web", "ways"] 2 AH
theorem TB(D:Dx Z "firsts_of" HQ)(B:BT Z.mg)(TC:CY Z):HR Z:=dA (N:=["web", "ways", "firsts", "number", "way"]) D gx λhr nd hu=>⟨v_,(by ac_rfl),Pu⟩
noncomputable abbrev HS:o:=top 26
abbrev HU(Z:Ev):Prop:=Fx Z 9 "weight_of" ["web", "ways"] 2 BB
theorem TF(D:Dx Z "weight_of" HS)(B:BT Z.mg)(Wa:HN Z):HU Z:=dA (N:=["web", "ways"]) D gx λhr nd hu=>⟨BC,(by ac_rfl),Q4⟩
noncomputable abbrev HV:o:=top 28
abbrev HW(Z:Ev):Prop:=Fx Z 12 "forest_of" ["web"] 1 Br
theorem TH(D:Dx Z "forest_of" HV)(B:BT Z.mg)(Wb:HL Z)(Wc:HR Z)(TC:CY Z):HW Z:=dA (N:=["web", "order", "forest", "firsts", "number", "way"]) D lD λhr nd hu=>⟨Bs,(by ac_rfl),QL⟩
noncomputable abbrev HX:o:=top 30
abbrev HY(Z:Ev):Prop:=Fx Z 1 "ways_but" ["web", "closed"] 2 BL
theorem TJ(D:Dx Z "ways_but" HX)(B:BT Z.mg):HY Z:=dA (N:=["web", "closed"]) D gx λhr nd hu=>⟨BM,(by ac_rfl),RH⟩
noncomputable abbrev HZ:o:=top 31
abbrev H_(Z:Ev):Prop:=Fx Z 1 "web_of" ["web", "numbers"] 2 BN
theorem TK(D:Dx Z "web_of" HZ)(B:BT Z.mg):H_ Z:=dA (N:=["web", "numbers"]) D gx λhr nd hu=>⟨BO,(by ac_rfl),RI⟩
noncomputable abbrev Ia:o:=top 32
abbrev Ib(Z:Ev):Prop:=Fx Z 1 "priced" ["web", "number", "price"] 3 BP
theorem TL(D:Dx Z "priced" Ia)(B:BT Z.mg):Ib Z:=dA (N:=["web", "number", "price", "way"]) D oY λhr nd hu=>⟨BQ,(by ac_rfl),RJ⟩
noncomputable abbrev Ic:o:=top 33
abbrev Ie(Z:Ev):Prop:=Fx Z 1 "first_missing" ["numbers", "others"] 2 wM
theorem TM(D:Dx Z "first_missing" Ic)(B:BT Z.mg):Ie Z:=dA (N:=["numbers", "others", "missing"]) D gx λhr nd hu=>⟨BR,(by ac_rfl),RL⟩
noncomputable abbrev Ig:o:=top 34
abbrev Ih(Z:Ev):Prop:=Fx Z 2 "exchange_of" ["ahead", "behind"] 2 uw
theorem TN(D:Dx Z "exchange_of" Ig)(B:BT Z.mg)(Wd:Ie Z):Ih Z:=dA (N:=["ahead", "behind"]) D gx λhr nd hu=>⟨BS,(by ac_rfl),RM⟩
noncomputable abbrev Ii:o:=inClass (top 35) 0
abbrev Ij(Z:Ev)(aa:M):Prop:=Fc Z aa 8 "Keeper" ["self", "web"] 2 (BX aa)
theorem TQ{aa:M}(D:Dc Z aa "Keeper" "Keeper.__init__" Ii)(B:BT Z.mg)(af:Kx Z.K aa ["town", "shut", "past"])(w4:wZ Z):Ij Z aa:=Tb (N:=["self", "web"]) D wY λhr nd hu=>⟨BY aa,(cg (mN (bL w4 hr (ba (dv 1) bB))) (cg (uu af.c (af.at "town") (dv 0) (dv 1)) (cg (uu af.c (af.at "shut") (dv 0) (j6 bB)) (cB (uu af.c (af.at "past") (dv 0) (y8 bB)))))),RN aa⟩
noncomputable abbrev Ik:o:=inClass (top 35) 1
abbrev Il(Z:Ev)(aa:M):Prop:=Fk Z aa 1 "web" ["self"] 1 (BZ aa)
theorem TR{aa:M}(D:Dm Z aa "web" "Keeper.web" Ik)(B:BT Z.mg)(af:Kx Z.K aa ["town", "shut", "past"]):Il Z aa:=lF (N:=["self"]) D uH λhr nd hu=>⟨B1 aa,(cB (d3 (gw af.c (af.at "town") (dv 0)))),RO aa⟩
noncomputable abbrev Im:o:=inClass (top 35) 2
abbrev CZ(Z:Ev)(aa:M):Prop:=Fk Z aa 1 "closed" ["self"] 1 (ux aa)
theorem TU{aa:M}(D:Dm Z aa "closed" "Keeper.closed" Im)(B:BT Z.mg)(af:Kx Z.K aa ["town", "shut", "past"]):CZ Z aa:=lF (N:=["self"]) D uH λhr nd hu=>⟨B3 aa,(cB (d3 (OP OQ (by rfl) B.list sY (g8 (gw af.c (af.at "shut") (dv 0)) bB)))),RP aa⟩
noncomputable abbrev Io:o:=inClass (top 35) 3
abbrev uI(Z:Ev)(aa:M):Prop:=Fk Z aa 13 "forest" ["self"] 1 (oX aa)
theorem TV{aa:M}(D:Dm Z aa "forest" "Keeper.forest" Io)(B:BT Z.mg)(af:Kx Z.K aa ["town", "shut", "past"])(TX:HY Z)(TY:HW Z)(TZ:H_ Z):uI Z aa:=lF (N:=["self", "numbers"]) D uH λhr nd hu=>⟨B4 aa,(cg (iO (i:=1) nd Y (by trivial) (bL TX hr (g8 (gw af.c (af.at "town") (dv 0)) (g8 (gw af.c (af.at "shut") (dv 0)) bB)))) (cB (d3 (Fd [η,U 1] ["place", "numbers"] Y (qW (bL TY hr (cY (bL TZ hr (g8 (gw af.c (af.at "town") (dv 0)) (ba (dv 1) bB))) bB))) (λd=>(jF (i:=0) (show(["place", "numbers"]:-R).Nodup by decide +kernel) Y (by trivial))) (λd=>zd) (λd=>(eD eF (dv 1) (dv 0) (λ_ _=>Y))))))),RQ aa⟩
noncomputable abbrev Ip:o:=inClass (top 35) 4
abbrev Iq(Z:Ev)(aa:M):Prop:=Fk Z aa 14 "weight" ["self"] 1 (B6 aa)
theorem T1{aa:M}(D:Dm Z aa "weight" "Keeper.weight" Ip)(B:BT Z.mg)(af:Kx Z.K aa ["town", "shut", "past"])(T2:HU Z)(aQ:uI Z aa):Iq Z aa:=lF (N:=["self"]) D uH λhr nd hu=>⟨B7 aa,(cB (d3 (bL T2 hr (g8 (gw af.c (af.at "town") (dv 0)) (cY (ku ι af.c aQ hr (dv 0)) bB))))),RR aa⟩
noncomputable abbrev Ir:o:=inClass (top 35) 9
abbrev w5(Z:Ev)(aa:M):Prop:=Fk Z aa 3 "need_way" ["self", "number"] 2 (uz aa)
theorem T3{aa:M}(D:Dm Z aa "need_way" "Keeper.need_way" Ir)(B:BT Z.mg)(af:Kx Z.K aa ["town", "shut", "past"])(qA:qy Z):w5 Z aa:=lF (N:=["self", "number"]) D wY λhr nd hu=>⟨B8 aa,(cB (fV (mM (jD (bL qA hr (ba (dv 1) (bP bN (g8 (kK Fs (iN rf (by rfl) B.len YK (cz (eD eF (gw af.c (af.at "town") (dv 0)) bN (λ_ _=>Y)) bB)) bN) bB)))))) (cB rk) fU)),RS aa⟩
noncomputable abbrev Iu:o:=inClass (top 35) 11
abbrev C0(Z:Ev)(aa:M):Prop:=Fk Z aa 14 "set_to" ["self", "web", "shut"] 3 (wN aa)
theorem T4{aa:M}(D:Dm Z aa "set_to" "Keeper.set_to" Iu)(B:BT Z.mg)(af:Kx Z.K aa ["town", "shut", "past"])(aQ:uI Z aa)(T5:Ih Z):C0 Z aa:=lF (N:=["self", "web", "shut", "ahead"]) D CU λhr nd hu=>⟨B9 aa,(cg (iO (i:=3) nd Y (by trivial) (ku ι af.c aQ hr (dv 0))) (cg (uu af.c (af.at "town") (dv 0) (dv 1)) (cg (uu af.c (af.at "shut") (dv 0) (dv 2)) (cB (d3 (bL T5 hr (ba (dv 3) (cY (ku ι af.c aQ hr (dv 0)) bB)))))))),RT aa⟩
noncomputable abbrev Iv:o:=inClass (top 35) 10
abbrev w6(Z:Ev)(aa:M):Prop:=Fk Z aa 15 "changed" ["self", "web", "shut"] 3 (uA aa)
theorem T6{aa:M}(D:Dm Z aa "changed" "Keeper.changed" Iv)(B:BT Z.mg)(af:Kx Z.K aa ["town", "shut", "past"])(bZ:C0 Z aa):w6 Z aa:=lF (N:=["self", "web", "shut"]) D CU λhr nd hu=>⟨B_ aa,(cg (mN ((qJ Xw YD YE sH (BK (gw af.c (af.at "past") (dv 0))) (mJ (qR (g8 (gw af.c (af.at "town") (dv 0)) (g8 (gw af.c (af.at "shut") (dv 0)) bB))) bB)).weak vQ)) (cB (d3 (fN ι af.c bZ hr (dv 0) (ba (dv 1) (ba (dv 2) bB)))))),RU aa⟩
noncomputable abbrev Iw:o:=inClass (top 35) 5
abbrev Iy(Z:Ev)(aa:M):Prop:=Fk Z aa 16 "price" ["self", "number", "price"] 3 (Ca aa)
theorem T7{aa:M}(D:Dm Z aa "price" "Keeper.price" Iw)(B:BT Z.mg)(HC:Ct Z "MOST_PRICE" 1000000000)(af:Kx Z.K aa ["town", "shut", "past"])(bo:w5 Z aa)(qA:qy Z)(bw:w6 Z aa)(T8:Ib Z):Iy Z aa:=lF (N:=["self", "number", "price"]) D CU λhr nd hu=>⟨Cb aa,(cg (mN (fN ι af.c bo hr (dv 0) (ba (dv 1) bB))) (cg (fV (mM (jD (bL qA hr (ba (dv 2) (bP bN (ba (Hf HC) bB)))))) (cB rk) fU) (cB (d3 (fN ι af.c bw hr (dv 0) (cY (bL T8 hr (g8 (gw af.c (af.at "town") (dv 0)) (ba (dv 1) (ba (dv 2) bB)))) (g8 (gw af.c (af.at "shut") (dv 0)) bB))))))),RW aa⟩
noncomputable abbrev Iz:o:=inClass (top 35) 6
abbrev IA(Z:Ev)(aa:M):Prop:=Fk Z aa 16 "close" ["self", "number"] 2 (Cc aa)
theorem T9{aa:M}(D:Dm Z aa "close" "Keeper.close" Iz)(B:BT Z.mg)(af:Kx Z.K aa ["town", "shut", "past"])(bo:w5 Z aa)(bw:w6 Z aa):IA Z aa:=lF (N:=["self", "number"]) D wY λhr nd hu=>⟨Cd aa,(cg (mN (fN ι af.c bo hr (dv 0) (ba (dv 1) bB))) (cg (fV (e_ (zJ hu) (dv 1) (gw af.c (af.at "shut") (dv 0)) (by rfl)) (cB rk) fU) (cB (d3 (fN ι af.c bw hr (dv 0) (g8 (gw af.c (af.at "town") (dv 0)) (cY (iN FJ (by rfl) B.sorted t8 (g8 (kK vZ (gw af.c (af.at "shut") (dv 0)) (j6 (ba (dv 1) bB))) bB)) bB))))))),RX aa⟩
noncomputable abbrev IB:o:=inClass (top 35) 7
abbrev IC(Z:Ev)(aa:M):Prop:=Fk Z aa 16 "free" ["self", "number"] 2 (Ce aa)
theorem T_{aa:M}(D:Dm Z aa "free" "Keeper.free" IB)(B:BT Z.mg)(af:Kx Z.K aa ["town", "shut", "past"])(bo:w5 Z aa)(bw:w6 Z aa):IC Z aa:=lF (N:=["self", "number"]) D wY λhr nd hu=>⟨Cf aa,(cg (mN (fN ι af.c bo hr (dv 0) (ba (dv 1) bB))) (cg (fV (e_ (zK hu) (dv 1) (gw af.c (af.at "shut") (dv 0)) (by rfl)) (cB rk) fU) (cB (d3 (fN ι af.c bw hr (dv 0) (g8 (gw af.c (af.at "town") (dv 0)) (g8 (vE [η,U 1] ["way", "number"] Y (qW (gw af.c (af.at "shut") (dv 0))) (λd=>(jF (i:=0) (show(["way", "number"]:-R).Nodup by decide +kernel) Y (by trivial))) (λd=>(ze (e_ (oO hu) (dv 0) (dv 1) (by rfl)))) (λd=>(dv 0))) bB))))))),RY aa⟩
noncomputable abbrev ID:o:=inClass (top 35) 8
abbrev IE(Z:Ev)(aa:M):Prop:=Fk Z aa 15 "back" ["self"] 1 (Cg aa)
theorem Ua{aa:M}(D:Dm Z aa "back" "Keeper.back" ID)(B:BT Z.mg)(af:Kx Z.K aa ["town", "shut", "past"])(bZ:C0 Z aa):IE Z aa:=lF (N:=["self", "last"]) D uH λhr nd hu=>⟨Ci aa,(cg (fV (e_ (jI hu) (iN rf (by rfl) B.len YK (g8 (BK (gw af.c (af.at "past") (dv 0))) bB)) bN (by rfl)) (cB rk) fU) (cg (iO (i:=1) nd Y (by trivial) ((MA Xw q01 q02 MD (BK (gw af.c (af.at "past") (dv 0)))).weak OG)) (cB (d3 (fN ι af.c bZ hr (dv 0) (cz (eD eF (dv 1) bN (λ_ _=>Y)) (cz (eD eF (dv 1) bN (λ_ _=>Y)) bB))))))),RZ aa⟩
noncomputable abbrev IF:o:=top 37
abbrev IG(Z:Ev):Prop:=Fx Z 1 "_law_spread" ["cell", "at"] 2 Ac
theorem Ub(D:Dx Z "_law_spread" IF)(B:BT Z.mg):IG Z:=dA (N:=["cell", "at", "primes", "one", "two", "three"]) D gx λhr nd hu=>⟨Ad,(by ac_rfl),O7⟩
noncomputable abbrev IH:o:=top 39
abbrev II(Z:Ev):Prop:=Fx Z 1 "_law_anew" ["pen"] 1 Ae
theorem Uc(D:Dx Z "_law_anew" IH)(B:BT Z.mg):II Z:=dA (N:=["pen"]) D lD λhr nd hu=>⟨Af,(by ac_rfl),O8⟩
noncomputable abbrev IJ:o:=top 40
abbrev rH(Z:Ev):Prop:=Fx Z 2 "_law_take" ["pen", "many"] 2 fz
theorem Ud(D:Dx Z "_law_take" IJ)(B:BT Z.mg)(We:IG Z):rH Z:=dA (N:=["pen", "many", "at", "cell", "found"]) D gx λhr nd hu=>⟨Ag,(by ac_rfl),O9⟩
noncomputable abbrev IK:o:=top 42
abbrev IL(Z:Ev):Prop:=Fx Z 3 "_law_pairs_of" ["pen", "kind", "many"] 3 Ah
theorem Ue(D:Dx Z "_law_pairs_of" IK)(B:BT Z.mg)(oZ:rH Z):IL Z:=dA (N:=["pen", "kind", "many", "every", "other", "ring", "half"]) D oY λhr nd hu=>⟨Ai,(by ac_rfl),Pb⟩
noncomputable abbrev IM:o:=top 43
abbrev IP(Z:Ev):Prop:=Fx Z 4 "_law_web" ["pen", "houses", "most"] 3 Al
theorem Ug(D:Dx Z "_law_web" IM)(B:BT Z.mg)(oZ:rH Z)(Wf:IL Z):IP Z:=dA (N:=["pen", "houses", "most", "kind", "prices", "many", "pairs", "ways", "k", "one", "other", "price"]) D oY λhr nd hu=>⟨Am,(by ac_rfl),Pc⟩
noncomputable abbrev IQ:o:=top 44
abbrev IS(Z:Ev):Prop:=Fx Z 1 "_law_key" ["web", "number"] 2 Bk
theorem Uh(D:Dx Z "_law_key" IQ)(B:BT Z.mg):IS Z:=dA (N:=["web", "number", "one", "other", "price"]) D gx λhr nd hu=>⟨Bl,(by ac_rfl),QE⟩
noncomputable abbrev IT:o:=top 45
abbrev IU(Z:Ev):Prop:=Fx Z 2 "_law_order" ["web"] 1 Bm
theorem Ui(D:Dx Z "_law_order" IT)(B:BT Z.mg)(Wg:IS Z):IU Z:=dA (N:=["web"]) D lD λhr nd hu=>⟨Bo,(by ac_rfl),QG⟩
noncomputable abbrev IV:o:=top 46
abbrev IW(Z:Ev):Prop:=Fx Z 3 "_law_forest" ["web", "ways"] 2 Bt
theorem Uj(D:Dx Z "_law_forest" IV)(B:BT Z.mg)(Wh:IU Z):IW Z:=dA (N:=["web", "ways", "marks", "found", "number", "one", "other"]) D gx λhr nd hu=>⟨Bu,(by ac_rfl),QM⟩
noncomputable abbrev IX:o:=top 47
abbrev IY(Z:Ev):Prop:=Fx Z 1 "_law_weight" ["web", "ways"] 2 AI
theorem Uk(D:Dx Z "_law_weight" IX)(B:BT Z.mg):IY Z:=dA (N:=["web", "ways"]) D gx λhr nd hu=>⟨AJ,(by ac_rfl),Pw⟩
noncomputable abbrev IZ:o:=top 48
abbrev I0(Z:Ev):Prop:=Fx Z 1 "_law_open_ways" ["state"] 1 Cs
theorem Ul(D:Dx Z "_law_open_ways" IZ)(B:BT Z.mg):I0 Z:=dA (N:=["state"]) D lD λhr nd hu=>⟨Cu,(by ac_rfl),Sj⟩
noncomputable abbrev I_:o:=top 49
abbrev Ja(Z:Ev):Prop:=Fx Z 1 "_law_priced" ["state", "number", "price"] 3 Cz
theorem Um(D:Dx Z "_law_priced" I_)(B:BT Z.mg):Ja Z:=dA (N:=["state", "number", "price", "many", "ways"]) D oY λhr nd hu=>⟨CA,(by ac_rfl),Sm⟩
noncomputable abbrev Jb:o:=top 50
abbrev Jc(Z:Ev):Prop:=Fx Z 3 "_law_turn" ["pen", "states"] 2 CF
theorem Uo(D:Dx Z "_law_turn" Jb)(B:BT Z.mg)(oZ:rH Z)(Wi:Ja Z):Jc Z:=dA (N:=["pen", "states", "kind", "pick", "web", "shut", "number", "near", "price"]) D gx λhr nd hu=>⟨CG,(by ac_rfl),Ss⟩
noncomputable abbrev Jd:o:=top 51
abbrev Je(Z:Ev)(aa:M):Prop:=Fq Z 17 "_law_turned" ["keeper", "change"] 2 (CB aa)
theorem Uq{aa:M}(D:Dx Z "_law_turned" Jd)(B:BT Z.mg)(af:Kx Z.K aa ["town", "shut", "past"])(fO:Iy Z aa)(gi:IE Z aa)(fP:IA Z aa)(gj:IC Z aa):Je Z aa:=Ht (N:=["keeper", "change"]) D gx λhr nd hu=>⟨CC aa,(cg (fV (e_ (jI hu) (eD eF (dv 1) bN (λ_ _=>Y)) vo (by rfl)) (cB (d3 (fN ι af.c fO hr (dv 0) (cz (eD eF (dv 1) bN (λ_ _=>Y)) (cz (eD eF (dv 1) bN (λ_ _=>Y)) bB))))) fU) (cg (fV (e_ (jI hu) (eD eF (dv 1) bN (λ_ _=>Y)) vo (by rfl)) (cB (d3 (ku ι af.c gi hr (dv 0)))) fU) (cB (d3 (za (e_ (jI hu) (eD eF (dv 1) bN (λ_ _=>Y)) vo (by rfl)) (fN ι af.c fP hr (dv 0) (cz (eD eF (dv 1) bN (λ_ _=>Y)) bB)) (fN ι af.c gj hr (dv 0) (cz (eD eF (dv 1) bN (λ_ _=>Y)) bB))))))),So aa⟩
noncomputable abbrev Jf:o:=top 52
abbrev C1(Z:Ev):Prop:=Fx Z 4 "_law_kept_forest" ["state"] 1 uF
theorem Ur(D:Dx Z "_law_kept_forest" Jf)(B:BT Z.mg)(Wj:IW Z)(Wk:I0 Z):C1 Z:=dA (N:=["state"]) D lD λhr nd hu=>⟨Cv,(by ac_rfl),Sk⟩
noncomputable abbrev Jg:o:=top 53
abbrev Jh(Z:Ev):Prop:=Fx Z 1 "_law_gone" ["ahead", "behind"] 2 Cw
theorem Us(D:Dx Z "_law_gone" Jg)(B:BT Z.mg):Jh Z:=dA (N:=["ahead", "behind", "gone", "come"]) D gx λhr nd hu=>⟨Cy,(by ac_rfl),Sl⟩
noncomputable abbrev C2:o:=top 41
theorem C3{x:R}{st:o}{ps:-R}{n:Nat}(D:Dx Z x st)(bd:i5 x st ps):Fx Z 0 x ps n (λ_ _ _=>False) :=
 let⟨f,fd,a,F⟩:=D
 ⟨f,fd,⟨λvs H Q E h=>by let⟨_,_,_,_,_,_,_,hF,_⟩:=h;calc hF.elim,λA outer s H args us vs Q E _ _ _ _ h=>by let⟨_,_,_,_,_,_,_,hF,_⟩:=h;calc hF.elim⟩,a,F.kp,F.binds bd⟩
theorem Ji(D:Dx Z "_law_same" C2)(B:BT Z.mg)(n:Nat)(qB:Fx Z n "_law_same" ["found", "due"] 2 (LJT.ip LJT.aW n)):Fx Z (n+1) "_law_same" ["found", "due"] 2 (LJT.aW n):=dA (N:=["found", "due"]) D gx λhr nd hu=>⟨LJT.aO (LJT.ip LJT.aW n),(cg (fV (e_ F9 (dv 1) y6 (by rfl)) (cB (d3 (mI F9 (dv 0) y6 (by rfl)))) fU) (cg (fV (JW.jt (tE (jD (iA tX (by rfl) B.isinstance (by rfl) B.bool sX (dv 1))) (vt (jD (iA tX (by rfl) B.isinstance (by rfl) B.bool sX (dv 0)))))) (cB (d3 (tF (iA tX (by rfl) B.isinstance (by rfl) B.bool sX (dv 1)) (tF (iA tX (by rfl) B.isinstance (by rfl) B.bool sX (dv 0)) (vw (mI (jI hu) (dv 0) (dv 1) (by rfl))))))) fU) (cg (fV (jD (iA zT (by rfl) B.isinstance (by rfl) B.int vk (dv 1))) (cB (d3 (tF (iA zT (by rfl) B.isinstance (by rfl) B.int vk (dv 0)) (vw (mI (jI hu) (dv 0) (dv 1) (by rfl)))))) fU) (cg (fV (jD (iA FK (by rfl) B.isinstance (by rfl) B.str EM (dv 1))) (cB (d3 (tF (iA FK (by rfl) B.isinstance (by rfl) B.str EM (dv 0)) (vw (mI (jI hu) (dv 0) (dv 1) (by rfl)))))) fU) (cg (fV (JW.jt (tE (e_ (oO hu) (iA zU (by rfl) B.isinstance (by rfl) B.tuple vm (dv 1)) (iA zU (by rfl) B.isinstance (by rfl) B.tuple vm (dv 0)) (by rfl)) (vt (e_ (oO hu) (iA zV (by rfl) B.isinstance (by rfl) B.list sY (dv 1)) (iA zV (by rfl) B.isinstance (by rfl) B.list sY (dv 0)) (by rfl))))) (cB (d3 j5)) fU) (cg (fV (e_ (oO hu) (iN rf (by rfl) B.len YK (ba (dv 0) bB)) (iN rf (by rfl) B.len YK (ba (dv 1) bB)) (by rfl)) (cB (d3 j5)) fU) (cB (d3 (mI (zK hu) j5 (vE [η,η] ["one", "other"] Y (Ro (by rfl) B.zip (ba (dv 0) (ba (dv 1) bB))) (λd=>(vz Y (pW (jF (i:=0) (show(["one", "other"]:-R).Nodup by decide +kernel) Y (by trivial)) (pW (jF (i:=1) (show(["one", "other"]:-R).Nodup by decide +kernel) Y (by trivial)) vy)))) (λd=>zd) (λd=>(bL (hj:=Nat.ble_eq_true_of_le (Ek _)) qB hr (ba (dv 0) (ba (dv 1) bB))))) (by rfl)))))))))),LJT.fM n⟩
abbrev Jj(Z:Ev):Prop:=Fx Z 4 "_law_same" ["found", "due"] 2 (LJT.aW 3)
theorem Ut(D:Dx Z "_law_same" C2)(B:BT Z.mg)(n:Nat):Fx Z (n+1) "_law_same" ["found", "due"] 2 (LJT.aW n):=by
 induction n with
 |zero=>exact Ji D B 0 (C3 D gx)
 |succ m ih=>calc Ji D B (m+1) ih
noncomputable abbrev Jk:o:=top 54
abbrev Jl(Z:Ev)(aa:M):Prop:=Fq Z 15 "_law_right" ["pen", "keeper", "state"] 3 (wW aa)
theorem Uu{aa:M}(D:Dx Z "_law_right" Jk)(B:BT Z.mg)(af:Kx Z.K aa ["town", "shut", "past"])(oZ:rH Z)(w9:C1 Z)(Uv:IY Z)(qB:Jj Z)(gT:Il Z aa)(ft:Iq Z aa)(bI:CZ Z aa)(aQ:uI Z aa):Jl Z aa:=Ht (N:=["pen", "keeper", "state", "start", "forest", "due", "at", "found"]) D oY λhr nd hu=>⟨CM aa,(cg (iO (i:=3) nd Y (by trivial) (bL oZ hr (ba (dv 0) (bP bN bB)))) (cg (iO (i:=4) nd Y (by trivial) (bL w9 hr (ba (dv 2) bB))) (cg (iO (i:=5) nd Y (by trivial) (j6 (cz (eD eF (dv 2) bN (λ_ _=>Y)) (cz (eD eF (dv 2) bN (λ_ _=>Y)) (ba (dv 4) (cY (bL Uv hr (cz (eD eF (dv 2) bN (λ_ _=>Y)) (ba (dv 4) bB))) bB)))))) (cg (tH YX Y (qW (F8 (j6 (bP bN (bP bN (bP bN (bP bN (bP bN (bP bN (bP bN (bP bN (bP bN bB)))))))))) (zL (dv 3)) (zL (kK vZ (dv 3) (eD eF (j6 (bP bN (bP bN (bP bN bB)))) (bL oZ hr (ba (dv 0) (bP bN bB))) (λ_ _=>Y)))))) (jF (i:=6) nd Y (by trivial)) (cg (fV (JW.jt (tE (JW.jt (vv (e_ (jI hu) (dv 6) bN (by rfl)) (y_ (mM (jD (bL qB hr (cY (ku ι af.c gT hr (dv 1)) (cz (eD eF (dv 5) bN (λ_ _=>Y)) bB)))))))) (vt (JW.jt (vv (e_ (jI hu) (dv 6) bN (by rfl)) (y_ (mM (jD (bL qB hr (cY (ku ι af.c ft hr (dv 1)) (cz (eD eF (dv 5) bN (λ_ _=>Y)) bB))))))))))) (cB (d3 j5)) fU) (cB (fV (e_ (zJ hu) (dv 6) (qR (bP bN (bP bN bB))) (by rfl)) (cg (iO (i:=7) nd Y (by trivial) (za (e_ (jI hu) (dv 6) bN (by rfl)) (ku θ af.c bI hr (dv 1)) (ku θ af.c aQ hr (dv 1)))) (cg (fV (Sh (mM (jD (bL qB hr (ba (dv 7) (cz (eD eF (dv 5) (dv 6) (λ_ _=>Y)) bB)))))) (cB (d3 j5)) fU) (cB (mN ((qJ Xw YD YE sH (dv 7) (bP bN bB)).weak vQ))))) fU)))) (cB (d3 j5)))))),SE aa⟩
noncomputable abbrev w_:o:=top 38
theorem lG:mx ["script", "cells", "k", "cell"] ["script"] (cn w_):=fq (by decide +kernel)
theorem Uw{f:M}{fd:FuncData}(F:fS Z.K "_law_open" "_law_open" w_ f fd)(h1:Z.mg "list" = η)(h2:Z.mg "enumerate" = η):bW Z.P Z.w Z.K Z.mg Z.base eM 1 f fd ["script"] (Gk Z.K):=by
 refine F.u7 lG (λvs H Q E h=>?_) (λbc A outer s H vs Q E hr h=>?_)
 .let⟨a,ns,rfl,_⟩:=h
  rfl
 .let⟨a,ns,rfl,hS,hlen,fin⟩:=h
  let nd:=lG.nd
  refine⟨_,uQ (xI (i:=1) nd Y (q1t Y) (pG yn (by rfl) h1 PyProof.Rows.boot_list (jw (yd gF (jv 0) D4 (u3 ot)) cK)))
   (uQ (DL YX Y (M_ (by rfl) h2 (jw (yd gF (jv 0) (u3 ot) (u3 ot)) cK)) (DG Y (xF (xD (i:=2) nd Y (q1t Y)) (xF (xD (i:=3) nd Y (q1t Y)) i_)))
    (xA (xH (si DM (D8 D9 (jv 1) (si xR (jv 2) ot) (λ_ _=>Y)) (jv 3)) (DH (jv 1) (si xR (jv 2) ot) set_list))))
   (xA (DF (x4 (jw (jv 1) (jw ot (jw ot cK))))))),?_⟩
  calc⟨_,Y,_,Y,a,_,Y,hS,λl1 n1=>⟨l1,_,Y,.inl (bE.of b_),λc nc=>?_⟩⟩;let s1:aL H (upd (upd H l1 (.lst (di (ns.map V.int) η (U 12)))) c (.lst (di (ns.map V.int) η (U 12)))):=(rp n1).trans (rp nc);calc⟨_,Y,_,Y,_,Y,a,_,Y,s1.seq hS,λl2 n2=>⟨l2,Y,⟨_,bE.of b_⟩,?_⟩⟩;let Ux:H c=η:=(rp n1).free nc;let Uy:=n2
  let hcc:∃ms:-Int,↑ms=min 12 ↑ns/\di (ns.map V.int) η (U 12)=ms.map V.int:=by
   calc⟨_,?_,AM ns η (U 12)⟩;rw[WM,Ya];let e1:HT.bA ↑ns 0 η=0:=HT.yb _ _;let e2:HT.bA ↑ns ↑ns (U 12)=min 12 ↑ns:=HT.sA ↑ns ↑ns 12;rw[e1,e2];symm
  let oJ:↑(di (ns.map V.int) (U 12) (U 63))=↑ns-12:=by
   rw[AM,pN,WM,Ya];let e1:HT.bA ↑ns 0 (U 12)=min 12 ↑ns:=HT.sA ↑ns 0 12;let e2:HT.bA ↑ns ↑ns (U 63)=min 63 ↑ns:=HT.sA ↑ns ↑ns 63;rw[e1,e2,Nat.min_eq_right hlen,q15];symm
  let Jm:∀i x,(di (ns.map V.int) (U 12) (U 63))[i]?=U x->∃n:Int,x=V.int n:=λi x e=>by
   rw[AM,My] at e
   cases q:((ns.drop (HT.bA ↑ns 0 (U 12))).take (HT.bA ↑ns ↑ns (U 63)-HT.bA ↑ns 0 (U 12)))[i]? with
   |none=>rw[q] at e;cases e
   |some n=>rw[q] at e;exact⟨n,(WJ e).symm⟩
  generalize di (ns.map V.int) (U 12) (U 63)=rest at oJ Jm n2 ⊢;let⟨ms,Uz,UA⟩:=hcc
  refine Nf (K:=Z.K) (a:=l2) (xs:=rest) (λi σ H2=>∃(ks:-Int)(v1 v2:Option V),σ=[U (.ref a),U (.ref c),v1,v2]/\H2 c=U (.lst (ks.map V.int))/\↑ks=min 12 ↑ns/\H2 l2=U (.lst rest)/\aL H H2)
   ⟨ms,η,η,Y,?_,Uz,b_,?_⟩ (λi σ H2 _ ⟨_,_,_,_,_,_,q,_⟩↦bE.of q) ?_ ?_
  .rw[aZ (dJ b_ n2),b_,UA]
  .exact s1.trans (rp n2)
  .ext i x T σ H2 hi ⟨ks,v1,v2,rfl,hc,hk,qK,sm⟩ hT
   let⟨n,rfl⟩:=Jm i x hi;let lP:i<↑rest:=(sG.mp hi).1;let UB:↑ks=12:=by symm
   let cT:c≠T:=dJ hc hT;let jX:upd H2 T (.tup [.int i,.int n]) c=U (.lst (ks.map V.int)):=by rw[aZ cT];exact hc
   let j0:0<=((i:Int))%12:=XN _ (by decide);let j1:((i:Int))%12<12:=Xj _ (by decide);let⟨m,em⟩:=Px (ns:=ks) j0 ⋯
   let ix:jc ↑(ks.map V.int) ((i:Int)%12)=U ((i:Int)%12).toNat:=by
    unfold jc;rw[Wm j0,Wm (by rw[pN];symm)]
   calc⟨T,_,Y,bO.of b_,Y,_,_,Y,_,_,Y,Y,?_⟩;calc⟨_,Y,_,Y,_,_,Y,Y,(show(0:Int)<12 by decide),_,_,_,_,Y,Y,bE.of jX,em,_,Y,_,_,Y,Y,_,Y,_,Y,_,_,Y,Y,(show(0:Int)<12 by decide),_,_,_,_,Y,Y,jX,ix,?_⟩;refine⟨ks.set ((i:Int)%12).toNat (m+n),_,_,Y,?_,by rw[Xq];calc hk,?_,?_⟩
   .rw[b_,q36]
   .let UC:l2≠c:=by
     ext z;subst z;exact absurd Uy (by rw[b_];ext y;cases y)
    rw[aZ UC,aZ (dJ qK hT)];exact qK
   .ext b o e
    rw[aZ (dJ e Ux)];exact rp hT b o (sm b o e)
  .ext σ H2 ⟨ks,v1,v2,rfl,hc,hk,qK,sm⟩
   calc⟨_,Y,(by show 3<=sizeLine;decide),λp np=>?_⟩;let UD:H p=η:=sm.free np;calc fin p c _ (sm.trans (rp np)) UD ⟨b_,⟨ks,by rw[aZ (dJ hc np)];calc hc,⋯⟩,q5d 0⟩
noncomputable abbrev rJ:o:=top 55
theorem UE{aa:M}{f qC:M}{fd oa:FuncData}(F:fS Z.K "law" "law" rJ f fd)(B:BT Z.mg)(GO:Fn Z.P Z.w Z.K Z.mg Z.base 1 "_law_open" ["script"] (Gk Z.K) qC oa)(af:Kx Z.K aa ["town", "shut", "past"])(UG:IP Z)(UH:II Z)(gm:Ij Z aa)(Jn:Jl Z aa)(oZ:rH Z)(w9:C1 Z)(UI:Jc Z)(UJ:Jh Z)(qB:Jj Z)(UK:Je Z aa)(aQ:uI Z aa)(bI:CZ Z aa):bW Z.P Z.w Z.K Z.mg Z.base eM 19 f fd ["script"] (wc Z.K):=by
 let sc:mx ["script", "pen", "turn", "web", "keeper", "states", "log", "step", "ahead", "change", "due", "listed"] ["script"] (cn rJ):=fq (by decide +kernel);refine F.u7 (k:=18) sc (λvs H Q E h=>?_) (λbc A outer s H vs Q E hr h=>?_)
 .let⟨a,ns,rfl,_⟩:=h
  rfl
 let⟨a,ns,rfl,hS,hlen,hT,fin⟩:=h;let nd:=sc.nd;let hu:=hr.units;let rest:dM (eK eM Z.P Z.w Z.K Z.mg Z.base ["script", "pen", "turn", "web", "keeper", "states", "log", "step", "ahead", "change", "due", "listed"] "law" (cn rJ) f bc A outer s H E).jY ((fE rJ).drop 1) (dZ (CP aa)):=(cg (tH YX Y (zB (by rfl) B.range (bP bN bB)) (jF (i:=2) nd Y (by trivial)) (cg (iO (i:=3) nd Y (by trivial) (bL UG hr (cY (bL UH hr (ba (dv 1) bB)) (cz (eD eF (j6 (bP bN (bP bN bB))) (dv 2) (λ_ _=>Y)) (cz (eD eF (j6 (bP bN (bP bN bB))) (dv 2) (λ_ _=>Y)) bB))))) (cg (iO (i:=4) nd Y (by trivial) (CT gm hr (ba (dv 3) bB))) (cg (iO (i:=5) nd Y (by trivial) (j6 (mJ (qR (ba (dv 3) (y7 (j6 bB) bB))) bB))) (cg (iO (i:=6) nd Y (by trivial) (y8 bB)) (cg (fV (mM (jD (qx ι Jn hr (ba (dv 1) (ba (dv 4) (cz (eD eF (dv 5) bN (λ_ _=>Y)) bB)))))) (cB (d3 j5)) fU) (cg (tH YX Y (zB (by rfl) B.range (g8 (kK Ft (kK vZ bN (bL oZ hr (ba (dv 1) (bP bN bB)))) (E6 Si (by rfl) B.int vk (g8 (mI (oO hu) (eD eF (dv 3) bN (λ_ _=>Y)) (qR bB) (by rfl)) bB))) bB)) (jF (i:=7) nd Y (by trivial)) (cg (iO (i:=8) nd Y (by trivial) (bL w9 hr (cz (eD eF (dv 5) (vN bN) (λ_ _=>Y)) bB))) (cg (E8 (bL UI hr (ba (dv 1) (ba (dv 5) bB))) (vz Y (pW (jF (i:=5) nd Y (by trivial)) (pW (jF (i:=9) nd Y (by trivial)) vy)))) (cg (iO (i:=10) nd Y (by trivial) (bL UJ hr (ba (dv 8) (cY (bL w9 hr (cz (eD eF (dv 5) (vN bN) (λ_ _=>Y)) bB)) bB)))) (cg (fV (mM (jD (bL qB hr (cY (qx ι UK hr (ba (dv 4) (ba (dv 9) bB))) (ba (dv 10) bB))))) (cB (d3 j5)) fU) (cg (fV (mM (jD (qx ι Jn hr (ba (dv 1) (ba (dv 4) (cz (eD eF (dv 5) (vN bN) (λ_ _=>Y)) bB)))))) (cB (d3 j5)) fU) (cB (fV (e_ (jI hu) (bL oZ hr (ba (dv 1) (bP bN bB))) bN (by rfl)) (cB (tH YX Y (qW (j6 (cY (ku ι af.c bI hr (dv 4)) (cY (ku ι af.c aQ hr (dv 4)) (cY (ku ι af.c bI hr (dv 4)) (cY (ku ι af.c aQ hr (dv 4)) bB)))))) (jF (i:=11) nd Y (by trivial)) (cB (mN ((qJ Xw YD YE sH (dv 6) (mJ (qR (ba (dv 11) (cY (iN (G5 hr.gd hu) (by rfl) B.repr G9 (ba (dv 11) bB)) bB))) bB)).weak vQ))))) fU)))))))) (cB (fV (e_ (oO hu) (vE [η,η] ["listed", "before"] Y (qW (dv 6)) (λd=>(vz Y (pW (jF (i:=0) (show(["listed", "before"]:-R).Nodup by decide +kernel) Y (by trivial)) (pW (jF (i:=1) (show(["listed", "before"]:-R).Nodup by decide +kernel) Y (by trivial)) vy)))) (λd=>(ze (e_ (oO hu) (iN (G5 hr.gd hu) (by rfl) B.repr G9 (ba (dv 0) bB)) (dv 1) (by rfl)))) (λd=>bN)) (j6 bB) (by rfl)) (cB (d3 j5)) fU))))))))) (cB (d3 j5)))
 calc⟨_,uQ (xI (i:=1) nd Y (by trivial) (uX GO.ok (hr.mono (by decide)) (by rfl) GO.vj GO.kp GO.bd .nil pP (pR (jv 0) cK))) rest,?_⟩;calc⟨_,Y,a,ns,Y,hS,hlen,λp c H1 sm hp N1=>?_⟩;let⟨F',ms,hm,S⟩:=Py (a:=a) (n:=10) (aS.same hT sm) N1;calc Pz S (SW aa ms hm) fin
end
noncomputable def dU:-lh:=[⟨169,⟨52,40,52,76⟩,(("order_of" : R)++".<locals>.")++"<lambda>"⟩]
noncomputable def C4:-(R×o×M):=[("order_of",HK,169)]
noncomputable abbrev dp(x:R)(s:o):R×o:=(x,s)
noncomputable def Jo:-(R×o):=[dp "is_whole" Hu,dp "is_within" Hw,dp "is_tuple_of" Hx,dp "are_ends" Hy,dp "is_way" HA,dp "are_ways" HD,dp "is_web" HF,dp "need_web" HH,dp "rank_of" HI,dp "need_ways" HM,dp "joined" HP,dp "firsts_of" HQ,dp "weight_of" HS,dp "forest_of" HV,dp "ways_but" HX,dp "web_of" HZ,dp "priced" Ia,dp "first_missing" Ic,dp "exchange_of" Ig,dp "_law_spread" IF,dp "_law_open" w_,dp "_law_anew" IH,dp "_law_take" IJ,dp "_law_same" C2,dp "_law_pairs_of" IK,dp "_law_web" IM,dp "_law_key" IQ,dp "_law_order" IT,dp "_law_forest" IV,dp "_law_weight" IX,dp "_law_open_ways" IZ,dp "_law_priced" I_,dp "_law_turn" Jb,dp "_law_turned" Jd,dp "_law_kept_forest" Jf,dp "_law_gone" Jg,dp "_law_right" Jk,dp "law" rJ]
noncomputable def UL:-(R×R×o):=[("web", "Keeper.web",Ik),("closed", "Keeper.closed",Im),("forest", "Keeper.forest",Io),("weight", "Keeper.weight",Ip),("need_way", "Keeper.need_way",Ir),("set_to", "Keeper.set_to",Iu),("changed", "Keeper.changed",Iv),("price", "Keeper.price",Iw),("close", "Keeper.close",Iz),("free", "Keeper.free",IB),("back", "Keeper.back",ID)]
theorem UM{aa fQ:ξ}{gy:FuncData}{l:q2H}{w:g}{K:El}{h:I}{mg:R->Option O}{fa:ξ}(X:K.In h)(G:h.Ns mainGlobals mg)(UN:mg "law" = U (.ref fa))(DS:gQ K Jo)(LS:eT K C4)(N:∀x∈Cr,Yd K mainGlobals x=U η)(lH:Yd K mainGlobals "Keeper" = U (U (.ref aa)))(af:Kx K aa ["town", "shut", "past"])(bC:gR K aa UL)(lI:Mk K aa fQ)(lJ:fS K "__init__" "Keeper.__init__" Ii fQ gy)(gU:Ck K "MOST_HOUSES" 12)(i7:Ck K "MOST_WAYS" 30)(eW:Ck K "MOST_PRICE" 1000000000)
  : ∃fd:FuncData,(∀(s:ο)(v:O),BindsTo s fd ⟨[v],[]⟩ [("script",v)])/\∀base:I,K.In base->base.Ns mainGlobals mg->(∀t∈dU,base.BuiltinsAt mg t.T)->bW l.prog w K mg base eM 19 fa fd ["script"] (@wc (nW dU) K):=by
 let⟨f,fd,a,F⟩:=DS.at (x:="law") (st:=rJ) 37 Y;cases UN.symm.trans (ZO X G a)
 letI:aS:=nW dU;let B:=Sd X G N;calc⟨fd,λs v=>by let⟨_,_,_,_,_,_,_,_,_,rfl,_⟩:=F.ex;calc .of_eq Y,λbase KB _ hB=>?_⟩;let D:∀(i:Nat){x:R}{st:o},Jo[i]?=U (x,st)->Dx ⟨l.prog,w,K,mg,base⟩ x st:=λi _ _ e=>(DS.at i e).v X G;let M:∀(i:Nat){x:R}{st:o}{T:ξ}{lp:y}{q:R},C4[i]?=U (x,st,T)->dU[i]?=U ⟨T,lp,q⟩->wO ⟨l.prog,w,K,mg,base⟩ x st T lp q:=λi _ _ _ _ _ e e2=>(LS.at i e).v X G KB hB (by decide) (by decide) (WR e2);let UO:=Th (D 0 Y) B;let rK:=Ti (D 1 Y) B UO;let Jp:=Tj (D 2 Y) B;let UP:=Tn (D 3 Y) B rK;let UQ:=To (D 4 Y) B (eW.v X G) Jp UP rK
 let UR:=Tq (D 5 Y) B (i7.v X G) UQ;let US:=Tr (D 6 Y) B (gU.v X G) Jp rK UR;let C5:=Tt (D 7 Y) B US;let UT:=Tu (D 8 Y) B;let UU:=Tv (M 0 Y Y) B C5 UT;let UW:=Tx (D 9 Y) B C5 rK;let Jq:=Tz (D 10 Y) B;let UX:=TB (D 11 Y) B Jq;let UY:=TF (D 12 Y) B UW;let UZ:=TH (D 13 Y) B UU UX Jq;let U0:=TJ (D 14 Y) B;let U1:=TK (D 15 Y) B;let U2:=TL (D 16 Y) B;let U3:=TM (D 17 Y) B;let U4:=TN (D 18 Y) B U3;let gW:=TQ (Z:=⟨l.prog,w,K,mg,base⟩) ⟨fQ,gy,⟨ZO X G lH,lI⟩,lJ⟩ B af C5;let iq:=TR (Z:=⟨l.prog,w,K,mg,base⟩) (bC.at 0 Y) B af;let du:=TU (Z:=⟨l.prog,w,K,mg,base⟩) (bC.at 1 Y) B af
 let bM:=TV (Z:=⟨l.prog,w,K,mg,base⟩) (bC.at 2 Y) B af U0 UZ U1;let fR:=T1 (Z:=⟨l.prog,w,K,mg,base⟩) (bC.at 3 Y) B af UY bM;let bU:=T3 (Z:=⟨l.prog,w,K,mg,base⟩) (bC.at 4 Y) B af rK;let dy:=T4 (Z:=⟨l.prog,w,K,mg,base⟩) (bC.at 5 Y) B af bM U4;let b7:=T6 (Z:=⟨l.prog,w,K,mg,base⟩) (bC.at 6 Y) B af dy;let gq:=T7 (Z:=⟨l.prog,w,K,mg,base⟩) (bC.at 7 Y) B (eW.v X G) af bU rK b7 U2;let gr:=T9 (Z:=⟨l.prog,w,K,mg,base⟩) (bC.at 8 Y) B af bU b7;let gX:=T_ (Z:=⟨l.prog,w,K,mg,base⟩) (bC.at 9 Y) B af bU b7;let gY:=Ua (Z:=⟨l.prog,w,K,mg,base⟩) (bC.at 10 Y) B af dy;let U5:=Ub (D 19 Y) B
 let U6:=Uc (D 21 Y) B;let uJ:=Ud (D 22 Y) B U5;let Jr:=Ut (D 23 Y) B 3;let U7:=Ue (D 24 Y) B uJ;let U8:=Ug (D 25 Y) B uJ U7;let U9:=Uh (D 26 Y) B;let U_:=Ui (D 27 Y) B U9;let Va:=Uj (D 28 Y) B U_;let Vb:=Uk (D 29 Y) B;let Vc:=Ul (D 30 Y) B;let Vd:=Um (D 31 Y) B;let Ve:=Uo (D 32 Y) B uJ Vd;let Vf:=Uq (D 33 Y) B af gq gY gr gX;let Js:=Ur (D 34 Y) B Va Vc;let Vg:=Us (D 35 Y) B;let Vh:=Uu (D 36 Y) B af uJ Js Vb Jr iq fR du bM;let⟨fo,Wl,ao,Fo⟩:=D 20 (x:="_law_open") (st:=w_) Y;calc UE (Z:=⟨l.prog,w,K,mg,base⟩) F B ⟨Uw Fo B.list B.enumerate,ao,Fo.kp,Fo.binds lD⟩ af U8 U6 gW Vh uJ Js Ve Vg Jr Vf bM du
theorem Vi{K:El}{h:I}(X:K.In h)(LS:eT K C4):∀t∈dU,∃cc,q29 h cc t.T:=λt ht=>LS.code X t.T (show t.T∈dU.map (·.T) from Yn ht)
end LJ
open PySem PySem.W PyProof.Rows
end
open LJ L2
inductive PySem.W.Fast:Prop|tw16634795044432437405|tw7449749129501210349|tw18127303999844562268|tw18254043135249634482|tw9121261990062721640|tw5237939185090411449|tw6121329529184643214|tw8617009197725862311|tw6233247269591065419|tw15307478216028359761|tw801931894403764931|tw272782683221640106|tw15527734465856770167|tw12200407683118483325|tw17497940779774829469|tw17220253165714484459|tw1033337711556242656|tw12780469276988532328|tw11686592166089574936|tw7864662814016957789|tw10253745175370057602|tw3204186316264003225|tw8582132753596843991|tw18083145973712349032|tw1762573221223325221|tw10688608797706439222|tw13992400622364375571|tw1224434813464786932|tw11011139022674135593|tw12935143562291585414|tw688544538316785455|tw9152678203402959376|tw14950339073577603001|tw17900325641083077848|tw18081920955957072464|tw15925717973986084283|tw7613083701530605896|tw206164726902614407|tw13454913006407635877|tw18146370577403163889|tw17725376987525752924|tw9739046874810081100|tw1506461929594500230|tw7438115702258047442|tw3064287733004399692|tw12012007432143275789|tw13407567319262386232|tw14911827367223242153|tw10547476956106119404|tw9439022498600118799|tw4704399267135525394|tw15342701030791477400|tw15891008962737885036|tw14327253586834473069|tw10841809099821240010|tw11495100577461754822|tw14488260720933755269|tw8265349964491445745|tw9258320755810000511|tw15053643871476413567|tw1974115347497387850|tw1263919465494537983|tw2615115917729559487|tw3129471096436574458|tw13540537134605948002|tw16789370938784811487|tw8370876241409792125|tw14009552094948245095|tw6828457096072706737|tw9504127543424953597|tw15861800331337926954|tw15847644659392994545|tw1867163583023263261|tw7382126687465889037|tw16577115959397803082|tw5352758884543027331|tw10658839245631810784|tw3177545498520926018|tw9279510439751702975|tw11476777339303171346|tw8397526659077025702|tw8786093615782815288|tw17390685268986902542|tw10564527747718017445|tw10947709962006450563|tw15082646593733514113|tw15494286536852633281|tw15903694706433007176|tw912108813372419865|tw13959822074249172085|tw754960209226760653|tw14932631942884747279|tw10340389817435105993|tw16529157958400229574|tw2810328649858536070|tw17988845647205700465|tw7718897649390169870|tw11536683306283942515|tw18181764917831208527|tw5756823701213557486|tw3985208122486172039|tw6419561020699851561|tw13703369968967520531|tw18438554810573711473|tw5046391167407780489|tw6421925628611173773|tw16259728499196782704|tw5320036470076971492|tw11267944492996629410|tw5119441640393532409|tw8375323120803520075|tw5901684818939193708|tw4483573201582752131|tw9376826095815530101|tw7366190500595170930|tw8989513713758087662|tw3846450281322629156|tw282534931851404631|tw7521534455972161118|tw2232013775252682037|tw1267147142640023564|tw4137109444470277227|tw12668052546665939031|tw4812805226298421594|tw10436342084695650498|tw17338280802575723203|tw15785234495957537831|tw10129070593201269318|tw5418412052130948826|tw3061528506047831286|tw15101268235697163003|tw13784697536437220825|tw14639975852085867571|tw18131970919081837961|tw18301591166517953085|tw2234978660855742960|tw18093535999051262388|tw14692029508541638248|tw7195751837527159745|tw8491506058427294006|tw15991457150401380039|tw17157910368220623389|tw8988954732836451033|tw1704935129851184312|tw12959769330635204897|tw3881268596456972920|tw17754287930704873343|tw4010004341926887915|tw7779882833223007264|tw9308912932817223493|tw11306597423638401648|tw9625569668120586094|tw882117624557234692|tw11861874342676072045|tw336552581961646409|tw16306232410051912899|tw8506161470512425477|tw6905795150762818270|tw13529708518784680769|tw9387688964576141723|tw12986280749335162136|tw16366983838537565327|tw4919712731543217160|tw11891076254280638049|tw9447846254396832187|tw14130168159759927958|tw3737247979474274398|tw12047429335199935698|tw1984006223864374796|tw18030111816080387698|tw13288102019846039143|tw11590827941152545452|tw10593168887606774486|tw577615138375851126|tw15378690613712100393|tw13351107466894151632|tw14427616963251545057|tw7821453281740942017|tw14065060808743885382|tw9895752361404792585|tw2587599619569150188|tw14988275477913867972|tw4719090549118663572|tw13830560466171141287|tw8898860670789790259|tw280793892823736416|tw1312614128547612536|tw14937354687757282577|tw17665477001631649032|tw6040490934030948003|tw11793634575279287856|tw18168923974808281588|tw8553292997005904583|tw5236928017896923662|tw11952079902237443371|tw16882014510135829099|tw6367269786621188031|tw13650955960532327966|tw11673839150067007069|tw17387061194177091231|tw13877046235269108111|tw15704817154628408298|tw2012149315858691505|tw1846365695145247832|tw9001233545183130448|tw14129395622698928552|tw10288077053992751810|tw10749606884497639904|tw12499644271656279367|tw4873230846363274923|tw10370201236063948045|tw18243686246250171244|tw2284068759901875089|tw4957125995152682190|tw8655135562681309336|tw5562562420142334493|tw7054121847652283981|tw3327159840699764970|tw10809486864419101918|tw7379228384209838639|tw14432645508502442529|tw10184580077574968160|tw4115913042948650409|tw13948225995618097504|tw4908908081434493261|tw3135920693987667096|tw17094630855647673048|tw13709044165337802406|tw17293415036802908713|tw2931284431497755386|tw22088673449007914|tw9295484688762485098|tw14610348100318954378|tw4861363804170703151|tw441774087466499434|tw14271531204397983840|tw13083596896245210416|tw880024725131782381|tw11404207391667317677|tw15947751671889825127|tw14837179435256266618|tw13011534914825020815|tw533347897048827157|tw9743733527574230548|tw9720909417140238207|tw12843076134382119724|tw14481973440449646494|tw5118686381391050686|tw2198844058928648629|tw13735822513822432192|tw15502852846835573054|tw890810641934259345|tw268690042391166015|tw6115710051272433309|tw15483154401679767400|tw637219309309520123|tw6005550496219506145|tw15834939678129995910|tw16492074461751921490|tw13054533635694707243|tw6012208588002931325|tw16537013199487131014|tw9381969298978261807|tw16526122512823062432|tw10784035582764409153|tw2064318020413868267|tw2159509559038783568|tw5868610545114545877|tw5614706385202580233|tw407651439206372188|tw14631185905822430765|tw15102804469495692284|tw6869554599285364840|tw11165013866165125795|tw15785391612971908333|tw3203674138842270647
set_option maxRecDepth 100000 in
set_option maxHeartbeats 0 in
theorem PySem.Challenge.cw_lotjoin_k60_what_a_keeper_tells_holds : PySem.Challenge.rw_lotjoin_k60_what_a_keeper_tells.Holds := by
 w_on;o_law;k_head;(case hw=>w_witness2)
 k_fill
 refine LJ.Qw (l:=PySem.Challenge.rw_lotjoin_k60_what_a_keeper_tells) (kk:=19) LJ.dU rfl rfl rfl ⟨rfl,by decide,by decide,rfl⟩ ?C (λP=>by kernel_rfl) ?F
 case C =>
  intro w h KX;refine LJ.Vi KX ?_
  repeat' first|exact LJ.eT.nil|refine LJ.uD (by k_is) (by k_is) (by k_is) (by k_is) (by kernel_rfl) ?_
 case F =>
  intro w mg fa h KX G mD;refine' LJ.UM KX G mD ?dD ?dL ?dN ?aKeeper ?kKeeper ?mKeeper ?iKeeper ?fKeeper ⟨_,by k_is,_,rfl⟩ ⟨_,by k_is,_,rfl⟩ ⟨_,by k_is,_,rfl⟩
  (case dD=>repeat' first|exact LJ.gQ.nil|refine LJ.Cq (by k_is) (by k_is) (by k_is) (by k_is) ?_)
  (case dL=>repeat' first|exact LJ.eT.nil|refine LJ.uD (by k_is) (by k_is) (by k_is) (by k_is) (by kernel_rfl) ?_)
  (case dN=>repeat' first|exact q1h _|refine LJ.Sa (by k_is) ?_)
  (case aKeeper=>k_is)
  (case kKeeper=>exact⟨⟨by k_is,by k_is,by k_is,by k_is⟩,by repeat' first|exact q1h _|refine List.forall_mem_cons.mpr ⟨(by k_is:Xx _ _ _=_),?_⟩⟩)
  (case mKeeper=>repeat' first|exact LJ.gR.nil|refine LJ.allM (by k_is) (by k_is) (by k_is) (by k_is) (by k_is) ?_)
  (case iKeeper=>exact⟨by k_is,by k_is,by k_is,by k_is⟩)
  (case fKeeper=>exact L2.u9 (by k_is) (by k_is) (by k_is))
