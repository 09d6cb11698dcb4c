import PyProof.Rows.All
import Wide.All
import OpenK.AllK
import Wide.FinOn
import Lean
import PyProof.Rows.SetFrom
import PyProof.TupleKey
import PyProof.SetRoads
import PySem.SetOps
import PyProof.EqAt
import PyProof.EqKinds
import PyProof.TupleCall
import KE.KDictList
import KE.KDictLaws
import PyProof.NeKinds
import PyProof.Draws
import KE.KSortTup
import KE.KLam
import PyProof.ListRange
import PyProof.TupleOfSeq
import KE.KNestM
import PyProof.MinMaxWalk
import PyProof.ReprRoads
import PyProof.CallFns
import PyProof.FitsInt
import KE.KMinKey
import PySem.Challenge.RW_lotjoin_k04_lists_of_ways_refused
open PySem renaming wpAny_bind->lK,Heap.get?_push_of_some->pf,W.Frag->tu,wpAny_pure->zi,Heap.lt_size->EC,Heap.get?_push_size->My,W.kitOne->Xe,Value.ref->Xj,Spec->Xm,W.nsIn->XA,W.mg_of->XB,wpAny_holding->XI,Str.ofString->XW,W.keepIn->XZ,wpAny_field->X0,Builtin.Tuple.tupleExact->X7,wpAny_newObj_type->X9,Builtin.Slice.slicePlaces->Yb,W.kia_one->Yd,Heap.get?_update_self->Yg,wpAny_callSpecial?_slot->Ym,Builtin.SmallTypes.nextOf->Yq,Value.none->Yr,mem_of_lookup->Ys,SetTable.layClean.free->Yw,NameKind.cell->Yx,Heap.size_push->Yy,Builtin.SmallTypes.ownedTupleIsFree->Yz,wpAny_loadPart'->YB,wpAny_mono->YD,F.plainAttrs_list->YF,NameKind.free->YI,wpAny_seqItems->YK,W.fnOf->YL,Heap.get?_update_other->YN,PyData.shownAll->YS,W.findIn->YW,wpAny_truthy_bool->YY,wpAny_pyIter_enum->Y3,wpAny_call_entry->Y7,Builtin.Slice.sliceApplied->Y9,Around.in1_handled->Y_,F.slot_tuple_iterator_next->Za,wpAny_setField_rec->Zd,wpAny_pyIter_list->Zh,wpAny_setState_of->Zi,Builtin.List.listTooLong->Zk,Heap.SameBut.update->Zl,wpAny_Call_Name_kw->Zx,wpAny_pyIter_tuple->Zy,Obj.data_mapFields->Zz,F.called_set->ZA,SetTable.probe.go->ZE,wpAny_loadPart_at->ZL,Str.length_append->ZM,SetTable->ZO,Value.bool->ZQ,Heap.get?_none_of_le->ZR,Builtin.Tuple.tupleItemsOf->ZS,Heap.SameBut->ZW,Builtin.Slice.sliceAdjust->Z0,Builtin.SmallTypes.ownedTupleHandOut->Z2,wpAny_standAt->Z4,F.args_tuple_add_2->Z5,Value.builtin->Z6,wpAny_passesOwn->Z9,W.callWith_K->q0b,Value.int->q0d,F.entry_tuple_add->q0e,codeAny_mono->q0l,W.cellsFrom_some->q0m,W.codeIn->q0n,F.slot_tuple_add->q0o,wpAny_typeOf->q0p,W.exmOne->q0v,boot_len->q0w,Obj.isFreed_of_fields->q0y,wpAny_forIn_list->q0A,SeqAt.EqAt->q0B,call_meets->q0D,wpAny_onRaise->q0E,codeAny_call_builtin->q0G,wpAny_updateSeq_pair->q0H,wpAny_execs_nil->q0J,SeqAt.EqAt.same->q0K,F.slot_dict_setdefault->q0M,F.args_tuple_iterator_next_1->q0N,F.slot_zip_next->q0P,PyData.depthAll->q0Q,F.entry_tuple_iterator_next->q0S,SeqAt.EqAt.int_str->q0W,SeqAt.EqAt.str_int->q0X,Calls.Name_function_global->q0Y,wpAny_call->q0Z,SeqAt.EqAt.int_int->q00,Heap.IsSliceOf.new->q02,wpAny_letOwnedTupleGo_enum->q03,Code.quiet_builtin->q04,F.excBase_ValueError->q05,wpAny_setField->q06,Builtin.Slice.sliceFields->q1a,W.methodObj->q1c,sizeLine_eq->q1d,wpAny_sequenceKey->q1e,slot_list_getitem->q1f,wpAny_getItem_list_slice->q1i,wpAny_attempt->q1k,F.store_ValueError->q1l,F.slot_dict_values->q1n,F.slot_list_append->q1o,F.type_list_append->q1p,Builtin.Range.rangeSize->q1r,noFill_tuple_add->q1s,F.attr_ValueError->q1v,F.plainAttrs_dict->q1x,Value.type->q1B,Obj.mapSeq->q1D,Calls.callWith_builtin->q1E,SetTable.insertAt_perm->q1H,Obj.putSet->q1I,W.instObj->q1P,codeAny_builtin->q1S,PassesOwn.never->q1T,wpAny_isTrue_Compare1->q1V,wpAny_eqIsQuiet_tuple->q1W,W.lookIn->q12,SeqAt.EqAt.none_bool->q13,SeqAt.EqAt.bool_none->q14,SeqAt.EqAt.bool_bool->q15,Heap.MadeExcOf->q18,Around.under_plainId->q1_,Value.str->q2b,SeqAt.EqAt.none_int->q2e,SeqAt.EqAt.none_str->q2f,SeqAt.EqAt.bool_int->q2g,SeqAt.EqAt.bool_str->q2h,SeqAt.EqAt.int_none->q2i,SeqAt.EqAt.int_bool->q2j,SeqAt.EqAt.str_none->q2k,SeqAt.EqAt.str_bool->q2l,call_enumerate_list->q2m,Heap.get?_update_ne->q2n,wpAny_isSubtype_exc->q2o,EntryCells.newEntry->q2r,SetTable.fill->q2w,Paired.length->q2x,seq_tuple_add->q2y,evalPart_none->q2A,SeqAt.EqAt.str_str->q2L,tupleKind_room_in1->q2N,Walks.list->q2O,wpAny_rule->q2P,SeqAt.EqAt.of_refs->q2Q,W.mg_none_of->q2S,PyData.showableAll->q2U,Value.isInt_shape->q2Y,wpAny_assign_Name->q2Z,W.hasDictIn->q20,W.specialIn->q21,W.kitx_list->q22,W.kitx_dict->q23,Around.under->q24,Code.isFrame->q25,concat_meets->q26,seqIndex_neg->q28,Heap.get?_push_at->q3c,W.isFn->q3d,wpAny_storeSet_of->q3h,F.args_zip_next_1->q3k,PyData.hasDictAll->q3l,wpAny_execs_cons->q3o,W.plainGet->q3p,putSet_of->q3u,F.entry_zip_next->q3A,wpAny_pyIter_zip->q3B,Value.float->q3D,seqIndex_of->q3F,Shared.heap->q3I,wpAny_letGo->q3K,wpAny_specialOf->q3N,W.takesIn->q3O,F.slot_int_rmul->q3Q,W.OpenLaw->q3R,pushCells_keeps->q3S,codeAny_of_tree->q3T,wpAny_ite_split->q3V,wpAny_Name->q33,W.InstAt->q34,typeIs_int->q38,fitsIndex_both->q3_,call->q4b,wpAny_loadPart->q4c,SeqAt.RcAt->q4e,SetFound.there->q4h,SetTable.grown->q4i,PyData.hasDict->q4l,repr_of_reads'->q4m,SetTable.fits->q4u,Value.isStrOf->q4v,rangeSize_one->q4x,intBits_le_64->q4y,evalPart_some->q4G,call_list_seq->q4I,Obj.mapFields->q4L,Within->q44,preSum->q4_
open List renaming getElem?_eq_some_iff->ph,getElem?_eq_getElem->pj,length_map->qJ,size_toArray->Ez,length_cons->EA,length_append->EB,mem_cons->Mt,mem_cons_of_mem->Mu,mem_cons_self->Mv,getD_eq_getElem?_getD->VP,getElem?_map->W5,getElem?_append_left->W6,replicate->W7,getElem?_append_right->W8,mem_iff_getElem?->Xb,not_mem_nil->Xd,mem_map->Xh,length_take->Xi,map_cons->Xl,lookup_cons->Xn,map_append->Xo,mem_singleton->Xr,mem_of_getElem?->Xu,mem_append->Xv,mem_append_right->Xw,length_singleton->Xx,range->Xy,getElem?_set_self->Xz,mem_range->XC,take_of_length_le->XD,map_map->XE,mem_iff_getElem->XF,getElem?_set_ne->XG,drop_eq_getElem_cons->XJ,getElem?_take_of_lt->XM,all_eq_true->XN,length_drop->XO,set_cons_zero->XR,set_cons_succ->XT,map_congr_left->X8,nodup_append->X_,mem_append_left->Ya,length_nil->Ye,replicate_succ->Yf,length_set->Yn,exists_cons_of_length_eq_add_one->Yo,length_range->Yt,length_replicate->Yu,getElem?_toArray->Yv,getElem?_cons_succ->YE,getElem?_range->YQ,filterMap_cons->YR,getElem_mem->YT,append_assoc->YX,any_eq_false->YZ,map_nil->Y5,any_cons->Y6,mem_filterMap->Y8,take_succ->Zb,append_nil->Ze,flatten_cons->Zg,length_reverse->Zm,countP_cons->Zn,getElem?_replicate->Zo,nodup_nil->Zq,length_eq_zero_iff->Zr,getElem?_cons_zero->Zt,nodup_cons->ZD,find?_cons->ZF,getElem?_eq_none->ZI,mem_of_mem_drop->ZP,mem_of_mem_take->ZT,getElem_inj->ZV,getElem_map->ZX,mem_of_find?_eq_some->Z1,eq_of_mem_replicate->Z3,find?_some->Z8,find?_eq_none->q0a,contains_cons->q0c,drop_zero->q0j,pairwise_map->q0k,drop_of_length_le->q0r,take_zero->q0s,reverse_cons->q0t,length_filterMap_eq_countP->q0x,nodup_range->q0z,mem_filter->q0I,nil_append->q0L,filterMap_map->q0V,length_eraseIdx_of_lt->q07,mem_or_eq_of_mem_set->q08,pairwise_iff_getElem->q09,extract_eq_take_drop->q0_,ext_getElem?->q1b,all_cons->q1j,length_eq_one_iff->q1K,find?_cons_of_pos->q1L,find?_cons_of_neg->q1M,foldl_cons->q1O,of_mem_zip->q1Q,forIn_cons->q1R,countP_eq_length->q1U,Perm.append_left->q1X,Perm.refl->q10,forIn_nil->q17,take_succ_cons->q2p,replicate_zero->q2s,filter_sublist->q2t,length_take_le->q2u,map_take->q2C,map_drop->q2D,pairwise_cons->q2H,zip_cons_cons->q2K,filter_append->q2R,take_sublist->q2X,Pairwise.nil->q2_,getElem_take->q3i,Sublist.refl->q3j,take_length->q3v,any_eq_true->q3w,drop_length->q3x,zipIdx_cons->q3z,length->q3E,lookup->q3G,map_id->q3J,zipIdx_nil->q3X,Perm.cons->q31,Perm.swap->q32,foldl->q39,cons.inj->q4K,all_map->q5c,filter->q6v,drop->q7w,Perm->q7x
open Nat renaming le_refl->vQ,ne_of_lt->Xg,lt_of_lt_of_le->Xk,zero_le->Xq,le_trans->XH,zero_add->XU,le_of_ble_eq_true->Yh,lt_succ_of_lt->Yi,sub_self->Yl,lt_irrefl->YH,le_of_lt->Y4,le_add_right->Zs,ne_of_gt->Zv,succ.inj->ZC,le_of_lt_succ->ZJ,lt_succ_self->ZU,succ_pos->q0g,lt_of_le_of_lt->q0U,le_of_not_lt->q1q,succ_ne_self->q1u,lt_trans->q1y,sub_zero->q1A,ble->q1J,ble_eq_true_of_le->q1Y,le_succ->q16,reduceAdd->q2E,le_of_succ_le->q3a,lt_of_succ_le->q3b,min_self->q3g,not_lt_zero->q3U,min_eq_left->q3Y,succ_add->q42,mul_comm->q43,mod_lt->q60,not_lt->q6_
open Bool renaming false_ne_true->Mw,false_eq_true->VQ,and_eq_true->W9,not_true->XX,not_false->Zc,not_eq_true->ZY,true_and->Z7,eq_iff_iff->Z_,and_false->q0q,not_eq_true'->q0u,or_true->q1F,true_or->q1G,false_and->q11,and_true->q2B,false_bne->q4k,or_false->q4H
open Array renaming length_toList->Mx,getElem?_eq_getElem->VT,getElem?_toList->Xp,getElem?_eq_some_iff->XQ,getD_eq_getD_getElem?->YG,toList_setIfInBounds->YJ,toList_filterMap->Zu,getElem?_setIfInBounds->ZH,toList_replicate->q0h,toList_push->q0i,mem_toList_iff->q0F,getElem_mem_toList->q1g,size_setIfInBounds->q1h,getElem?_eq_none->q1z,replicate->q1N,toList_extract->q1Z,size_map->q19,toList_append->q2c,size_extract->q2F,foldl_toList->q2I,forIn_toList->q2J,size_append->q2W,size_push->q3M,getD->q4g,toList->q45
open LawfulBEq renaming eq_of_beq->Xc
open Option renaming map_eq_some_iff->Xf,some.inj->Xt,isSome_iff_exists->Zj,bind_some->Zp,getD_none->q0C,isSome->q2v,isSome_some->q2M,isSome_map->q3e,map_some->q3L,none->q53,map->q61
open PyProof renaming Rows.slot_tuple_getitem->Xs,Rows.callWith_type1->Yj,Rows.F.plain_set_update_loop->q0f,Rows.boot_isinstance->q0O,Rows.entry_tuple_getitem->q0R,Rows.args_tuple_getitem->q01,Rows.F.entry_set_update_loop->q1w,Rows.subscriptTail_builtinR->q1C,Rows.tupleItemsOf_->q2z,Rows.IsTup.new->q3r,Rows.tail_any->q37
open False renaming elim->X1
open Int renaming emod_lt_of_pos->Yc,emod_nonneg->YA,toNat_natCast->YM,toNat->Zf,ofNat.inj->q1m,toNat_of_nonneg->q2q,ediv_one->q27,zero_add->q3f,ofNat->q3s,mul_one->q5Z
open ForInStep renaming yield->YC
open Ne renaming symm->YV
open True renaming intro->Zw
open Sum renaming inl->ZK,inr->q2a,inl.inj->q3C
open Or renaming inl->ZN,inr->q3n
open Classical renaming byContradiction->ZZ
open Function renaming comp->q4M
open Prod renaming fst->q57
open PUnit renaming unit->q7h
set_option Elab.async false
set_option linter.all false
set_option maxRecDepth 100000
abbrev aM:=PySem.Value->PySem.Shared->Prop
local macro_rules | `(tactic| trivial) => `(tactic| first|exact ZN rfl|exact q3n rfl)
abbrev VR:=@if_neg
abbrev VS:=@decide_eq_true
abbrev W_:=@decide_eq_false
abbrev Xa:=@if_pos
abbrev XY:=@if_false
abbrev Yk:=@of_decide_eq_true
abbrev Yp:=@or_false
abbrev YO:=@decide_eq_true_eq
abbrev YU:=@if_true
abbrev q1t:=@beq_self_eq_true
theorem el7{α β γ ε:Type}{A B C:α→β→γ→ε→Prop}{R:Prop}(h:∃F ad δ K, A F ad δ K∧B F ad δ K∧C F ad δ K)(k:∀F ad δ K, A F ad δ K→B F ad δ K→C F ad δ K→R): R:=h.elim λF h=>h.elim λa h=>h.elim λd h=>h.elim λK h=>k F a d K h.1 h.2.1 h.2.2
theorem el5{α β:Type}{A B C:α→β→Prop}{R:Prop}(h:∃F ad, A F ad∧B F ad∧C F ad)(k:∀F ad, A F ad→B F ad→C F ad→R): R:=h.elim λF h=>h.elim λa h=>k F a h.1 h.2.1 h.2.2
theorem el3{α:Type}{A B:α→Prop}{R:Prop}(h:∃F, A F∧B F)(k:∀F, A F→B F→R): R:=h.elim λF h=>k F h.1 h.2
set_option compiler.extract_closed false
local macro_rules | `(tactic| symm) => `(tactic| first|lia|omega (config:={}))
local macro_rules | `(⋯) => `(by symm)
abbrev K3:=PySem.Value->PySem.Shared->Prop
open Option renaming some->U,some->ζ,none->Z,none->η
open Bool renaming true->θ,false->ι
open Decidable renaming decide->S,decide->μ
open PySem renaming Value->J,Value->ν,Addr->O,Addr->ξ,Shared->L,Shared->ο,Str->R,Str->π,wpAny->G,wpAny->ρ,model->M,model->ς,Expr->B,Expr->υ,Stmt->o,Stmt->χ,Program->n,Program->ψ,World->g,World->ω,Heap->I,Heap->Α,Around->q,Around->Β,Obj->f,Obj->Γ,Scope->u,Scope->Δ,Pos->y,Pos->Ε,Env->t,Env->Ζ
theorem Y{α:Sort u}{a:α}:a=a:=rfl
section
open Lean in
local macro_rules
 |`(tactic|let $d:letDecl)=>do
  let d:=d.raw[0]
  if d.getKind==`Lean.Parser.Term.letPatDecl then
   let p←d[0].rewriteBottomUpM fun s=>match s.getKind with
    |`ident=>`(rcasesPat|$(⟨s⟩):ident)
    |`Lean.Parser.Term.hole=>`(rcasesPat|_)
    |`Lean.Parser.Term.anonymousCtor=>do
     let a←s[1].getSepArgs.mapM fun x=>`(Parser.Tactic.rcasesPatLo|$(⟨x⟩):rcasesPat)
     `(rcasesPat|⟨$a,*⟩)
    |_=>pure s
   pure (mkNode `Lean.Parser.Tactic.obtain #[mkAtom "obtain",mkNullNode #[mkNode `Lean.Parser.Tactic.rcasesPatMed #[mkNullNode #[p]]],mkNullNode (if d[2].getNumArgs==0 then #[] else #[mkAtom ":",d[2][0][1]]),mkNullNode #[mkAtom ":=",mkNullNode #[d[4]]]])
  else `(tactic|have $(⟨mkNode `Lean.Parser.Term.letDecl #[d]⟩):letDecl)
open Lean in
local macro_rules
 |`(fun $bs* => $e)=>do
  if (← getRef)[1][2].getAtomVal != "↦" then Macro.throwUnsupported
  let ps←bs.mapM fun s=>do
   let p←s.raw.rewriteBottomUpM fun s=>match s.getKind with
    |`ident=>`(rcasesPat|$(⟨s⟩):ident)
    |`Lean.Parser.Term.hole=>`(rcasesPat|_)
    |`Lean.Parser.Term.anonymousCtor=>do
     let a←s[1].getSepArgs.mapM fun x=>`(Parser.Tactic.rcasesPatLo|$(⟨x⟩):rcasesPat)
     `(rcasesPat|⟨$a,*⟩)
    |_=>pure s
   `(rintroPat|$(⟨p⟩):rcasesPat)
  `(by rintro $ps*;exact $e)
local macro_rules |`(tactic|calc $e:term)=>`(tactic|refine $e)
local macro_rules |`(tactic|ext $p*)=>`(tactic|rintro $p*)
local macro_rules |`(↑$x)=>`(($x).length)
local macro_rules |`(⇑$x)=>`(($x).heap.objs.size)
local macro_rules |`($x⁻¹)=>`(by simpa using $x)
open Lean in
local macro_rules
 |`(-$x)=>if x.raw.getKind==`Lean.Parser.Term.typeAscription||x.raw.isOfKind `num||(x.raw.isOfKind `Lean.Parser.Term.paren&&!x.raw[1].isOfKind `Lean.Parser.Term.app&&!x.raw[1].isOfKind `«term-_»&&!x.raw[1].isOfKind `«term_×_»&&!x.raw[1].isOfKind `Lean.Parser.Term.arrow) then Macro.throwUnsupported else `(List $x)
open Lean in
local macro_rules
 |`(tactic|erw[$ls,*] $[$l:location]?)=>do
  let a←ls.getElems.mapM fun r=>do
   let t:Term:=⟨r.raw[1]⟩
   if r.raw[0].getNumArgs==0 then `(Parser.Tactic.simpLemma|$t:term) else `(Parser.Tactic.simpLemma|←$t:term)
  `(tactic|simp only[$a,*] $[$l]?)
namespace LJS
open PySem PySem.SetTable
noncomputable def nx(m i:Nat):Nat:=(i*5+1)%(m+1)
noncomputable def lr(m:Nat):Nat->Nat->Nat
 |0,i=>i
 |n+1,i=>lr m n (nx m i)
theorem vB(m:Nat):∀a b i,lr m (a+b) i=lr m b (lr m a i)
 |0,b,i=>by rw[XU];rfl
 |a+1,b,i=>by rw[q42];calc vB m a b (nx m i)
noncomputable def xS(m:Nat):Nat->Nat->-Nat
 |0,_=>[]
 |n+1,i=>i::xS m n (nx m i)
theorem Dt(m:Nat):∀{n i e:Nat},e∈xS m n i->∃k,k<n/\lr m k i=e
 |0,_,_,h=>nomatch h
 |n+1,i,e,h=>by
  rcases Mt.mp h with rfl|h
  .exact⟨0,q0g _,Y⟩
  .let⟨k,hk,e⟩:=Dt m h
   calc⟨k+1,Nat.succ_lt_succ hk,e⟩
def Mk(m:Nat):Prop:=m=7\/m=31\/m=127
noncomputable def rT(m:Nat):Bool:=(Xy (m+1)).all λe=>(xS m (m+1) 0).contains e
theorem Du(h:Mk m):rT m=θ/\lr m (m+1) 0=0:=by
 rcases h with rfl|rfl|rfl<;>calc⟨by decide +kernel,by decide +kernel⟩
theorem mZ(h:Mk m)(he:e<=m):∃k,k<=m/\lr m k 0=e:=by
 let:=XN.mp (Du h).1 e (XC.mpr (Nat.lt_succ_of_le he));let⟨k,hk,q⟩:=Dt m (List.contains_iff_mem.mp this);calc⟨k,ZJ hk,q⟩
theorem JX(h:Mk m)(hi:i<=m)(he:e<=m):∃n,n<=m/\lr m n i=e:=by
 let⟨a,ha,rfl⟩:=mZ h hi;let⟨b,hb,rfl⟩:=mZ h he
 by_cases VJ:a<=b
 .refine⟨b-a,⋯,?_⟩
  rw[<-vB];congr 1;symm
 .refine⟨m+1-a+b,⋯,?_⟩
  rw[<-vB,show a+(m+1-a+b)=(m+1)+b by symm,vB,(Du h).2]
noncomputable def lp(m:Nat):Nat->Nat->Nat->Nat×Nat
 |0,i,p=>(i,p)
 |n+1,i,p=>lp m n (leap m i p).1 (leap m i p).2
theorem xT(m:Nat):∀a b i p,lp m (a+b) i p=lp m b (lp m a i p).1 (lp m a i p).2
 |0,b,i,p=>by rw[XU];rfl
 |a+1,b,i,p=>by rw[q42];calc xT m a b _ _
theorem Dv(m:Nat):∀n i,lp m n i 0=(lr m n i,0)
 |0,i=>Y
 |n+1,i=>by
  show lp m n (leap m i 0).1 (leap m i 0).2=_;let e:leap m i 0=(nx m i,0):=by unfold leap nx;simp
  rw[e];calc Dv m n _
theorem Dw(m i p:Nat):(leap m i p).1<=m:=ZJ (q60 _ (q0g _))
theorem Dy(m:Nat):∀n i p,(lp m n i p).2=p / 32 ^ n
 |0,i,p=>by simp[lp]
 |n+1,i,p=>by
  show(lp m n (leap m i p).1 (leap m i p).2).2=_;rw[Dy m n];show p / 32 / 32 ^ n=_;rw[Nat.div_div_eq_div_mul,Nat.pow_succ,q43]
theorem reach(h:Mk m)(hp:p<2 ^ 64)(he:e<=m):∃n,n<=13+m/\(lp m n i p).1=e:=by
 let z:(lp m 13 i p).2=0:=by
  rw[Dy];exact Nat.div_eq_of_lt (q1y hp (by decide))
 let q:(lp m 13 i p).1<=m:=by
  rw[xT m 12 1];exact Dw _ _ _
 let⟨n,hn,en⟩:=JX h q he;calc⟨13+n,⋯,?_⟩;rw[xT,z,Dv];calc en
theorem Dz(j:Nat):has #[] j=ι:=by unfold has;simp
theorem rV{t:SetTable}(hd:t.dummies = #[])(j:Nat):t.slot j=.empty\/∃i,t.slot j=.live i/\i<t.place.size/\j∈t.place.toList:=by
 unfold slot;rw[hd,Dz];dsimp only
 by_cases c:(t.place[below t.place j]?==U j)=θ
 .right
  rw[Xa c];let e:=Xc c;let⟨hl,ev⟩:=XQ.mp e;exact⟨_,Y,hl,by rw[<-ev];calc q1g hl⟩
 .left
  rw[VR c];rfl
theorem JY{t:SetTable}(hd:t.dummies = #[])(hj:j∉t.place.toList):t.slot j=.empty:=by
 rcases rV hd j with h|⟨_,_,_,h⟩
 .exact h
 .calc absurd h hj
theorem DA:∀{l l':-Nat},l.Nodup->(∀x∈l,x∈l')->↑l<=↑l'
 |[],_,_,_=>Xq _
 |a::l,l',hn,hs=>by
  let ha:a∈l':=hs a (Mv ..);let gQ:=ZD.mp hn;let ih:=DA (l:=l) (l':=l'.erase a) gQ.2 λx hx=>(List.mem_erase_of_ne (λz=>gQ.1 (by rw[<-z];calc hx))).mpr (hs x (Mu _ hx));rw[List.length_erase_of_mem ha] at ih;let:=List.length_pos_of_mem ha;rw[EA];symm
theorem JZ{l:-Nat}(h:↑l<=m):∃e,e<=m/\e∉l:=by
 calc ZZ λno=>?_;let all:∀e,e∈Xy (m+1)->e∈l:=λe he=>ZZ λz=>no ⟨e,ZJ (XC.mp he),z⟩;let:↑(Xy (m+1))<=↑l:=DA q0z all;rw[Yt] at this;symm
noncomputable def stateOf(t:SetTable)(i p:Nat):Probe:=⟨i,runEnd t.mask i-i,i,p,Z⟩
theorem DB(m i:Nat):runEnd m i-i<=9:=by unfold runEnd;split<;>symm
section
variable{t:SetTable}{f:Nat->Int}{h:Int}
theorem oF(F:Nat)(p:Probe):ZE t f h (F+1) p=(match t.slot p.j with
  |.empty=>U (.empty p.j p.dummy)
  |.dummy=>ZE t f h F (t.advance {p with dummy:=U p.j})
  |.live i=>if f i==h then U (.candidate p.j i (t.advance p)) else ZE t f h F (t.advance p)):=rfl
theorem DC(hd:t.dummies = #[])(hf:∀i,i<t.place.size->f i≠h):∀(k F:Nat)(p:Probe),p.more=k->p.dummy=Z →
  (∃j,ZE t f h (F+k+1) p=U (.empty j Z))\/ZE t f h (F+k+1) p=ZE t f h F (stateOf t (leap t.mask p.i p.perturb).1 (leap t.mask p.i p.perturb).2)
 |0,F,p,hm,rW=>by
  show(∃j,ZE t f h (F+1) p=_)\/ZE t f h (F+1) p=_;rw[oF];rcases rV hd p.j with e|⟨i,e,hi,_⟩
  .left;rw[e];exact⟨p.j,by rw[rW]⟩
  .right
   rw[e];show(if(f i==h)=θ then _ else _)=_;rw[VR (by ext z;calc hf i hi (Xc z))];unfold advance;rw[hm,VR ⋯,rW];rfl
 |k+1,F,p,hm,rW=>by
  let ih:=DC hd hf k F {p with j:=p.j+1,more:=p.more-1} (by show p.more-1=k;symm) rW;rw[show F+(k+1)+1=(F+k+1)+1 by symm,oF];rcases rV hd p.j with e|⟨i,e,hi,_⟩
  .left;rw[e];exact⟨p.j,by rw[rW]⟩
  .rw[e]
   show(∃j,(if(f i==h)=θ then _ else _)=_)\/(if(f i==h)=θ then _ else _)=_;rw[VR (by ext z;calc hf i hi (Xc z))];let ea:t.advance p={p with j:=p.j+1,more:=p.more-1}:=by unfold advance;rw[Xa ⋯]
   rw[ea];calc ih
theorem DD(hd:t.dummies = #[])(hf:∀i,i<t.place.size->f i≠h):∀(n F i p:Nat),10*(n+1)<=F->t.slot (lp t.mask n i p).1=.empty->∃j,ZE t f h F (stateOf t i p)=U (.empty j Z)
 |0,F,i,p,hF,hs=>by
  let⟨G,rfl⟩:∃G,F=G+1:=⟨F-1,⋯⟩;rw[oF];let e:t.slot (stateOf t i p).j=.empty:=hs;rw[e];exact⟨i,Y⟩
 |n+1,F,i,p,hF,hs=>by
  let hr:=DB t.mask i;let⟨G,hG⟩:∃G,F=G+(runEnd t.mask i-i)+1:=⟨F-(runEnd t.mask i-i)-1,⋯⟩;let:=DC (f:=f) (h:=h) hd hf (runEnd t.mask i-i) G (stateOf t i p) Y Y;rw[<-hG] at this;rcases this with h1|h1
  .exact h1
  .rw[h1]
   calc DD hd hf n G _ _ ⋯ hs
theorem xU(h:Int):bits h<2 ^ 64:=by
 unfold bits;let:=Yc h (show(0:Int)<2 ^ 64 by decide);let:=YA h (show(2 ^ 64:Int)≠0 by decide);symm
theorem J0(hd:t.dummies = #[])(hm:Mk t.mask)(hz:t.place.size<=t.mask)(hf:∀i,i<t.place.size->f i≠h):∃j,t.probe f h (t.probeStart h)=U (.empty j Z):=by
 let⟨e,he,ne⟩:=JZ (l:=t.place.toList) (m:=t.mask) (by rw[Mx];calc hz);let⟨n,hn,en⟩:=reach hm (i:=bits h%(t.mask+1)) (xU h) he;calc DD hd hf n _ _ _ (by unfold turns;symm) (by rw[en];calc JY hd ne)
end
section
variable{m:Nat}{owner:Array (Option Nat)}
theorem xV(F i p:Nat):Yw m owner (F+1) i p=(match(Xy (runEnd m i+1-i)).find? λk=>(owner.getD (i+k) (U 0)).isNone with
   |some k=>U (i+k)
   |none=>Yw m owner F (leap m i p).1 (leap m i p).2):=rfl
theorem xW:∀(n F i p:Nat),n+1<=F->(owner.getD (lp m n i p).1 (U 0)).isNone=θ->∃j,Yw m owner F i p=U j/\(owner.getD j (U 0)).isNone=θ
 |0,F,i,p,hF,hs=>by
  let⟨G,rfl⟩:∃G,F=G+1:=⟨F-1,⋯⟩;rw[xV]
  cases hc:(Xy (runEnd m i+1-i)).find? λk=>(owner.getD (i+k) (U 0)).isNone with
  |some k =>
   let:=Z8 hc;exact⟨i+k,Y,this⟩
  |none =>
   let:=q0a.mp hc 0 (XC.mpr (by unfold runEnd;split<;>symm));exact absurd hs this
 |n+1,F,i,p,hF,hs=>by
  let⟨G,rfl⟩:∃G,F=G+1:=⟨F-1,⋯⟩;rw[xV]
  cases hc:(Xy (runEnd m i+1-i)).find? λk=>(owner.getD (i+k) (U 0)).isNone with
  |some k =>
   let:=Z8 hc;exact⟨i+k,Y,this⟩
  |none=>calc xW n G _ _ ⋯ hs
end
structure Ow(m:Nat)(owner:Array (Option Nat))(k:Nat):Prop where
 size:owner.size=m+1
 cnt:owner.toList.countP q2v=k
 lt:∀x,U x∈owner.toList->x<k
theorem xX:∀{l:-(Option Nat)}{j k:Nat},l[j]?=U Z->(l.set j (U k)).countP q2v=l.countP q2v+1
 |[],j,k,h=>by simp at h
 |x::l,0,k,h=>by
  simp at h;subst h;rw[XR,Zn,Zn];rfl
 |x::l,j+1,k,h=>by
  simp at h;rw[XT,Zn,Zn,xX h];symm
theorem getD_none{owner:Array (Option Nat)}(h:(owner.getD j (U 0)).isNone=θ):owner.toList[j]?=U Z:=by
 rw[YG] at h;rw[Xp]
 cases e:owner[j]? with
 |none=>rw[e] at h;cases h
 |some x =>
  rw[e] at h
  cases x with
  |none=>rfl
  |some y=>cases h
theorem DE{owner:Array (Option Nat)}(O:Ow m owner k)(hk:k<=m):∃e,e<=m/\(owner.getD e (U 0)).isNone=θ:=by
 refine ZZ λno=>?_
 let all:∀x∈owner.toList,x.isSome=θ:=by
  ext x hx;let⟨e,he⟩:=Xb.mp hx
  cases x with
  |some y=>rfl
  |none =>
   let hl:=(ph.mp he).1;rw[Mx,O.size] at hl;calc absurd ⟨e,ZJ hl,?_⟩ no;rw[YG,<-Xp,he];rfl
 let:=q1U.mpr all;rw[O.cnt,Mx,O.size] at this;symm
theorem J1{owner:Array (Option Nat)}(hm:Mk m)(O:Ow m owner k)(hk:k<=m)(h:Int):∃j,Yw m owner (turns m) (bits h%(m+1)) (bits h)=U j/\Ow m (owner.setIfInBounds j (U k)) (k+1):=by
 let⟨e,he,hn⟩:=DE O hk;let⟨n,gQ,en⟩:=reach hm (i:=bits h%(m+1)) (xU h) he;let⟨j,ej,hj⟩:=xW (m:=m) (owner:=owner) n (turns m) (bits h%(m+1)) (bits h) (by unfold turns;symm) (by rw[en];calc hn);refine⟨j,ej,by rw[q1h];calc O.size,?_,λx hx=>?_⟩
 .rw[YJ,xX (getD_none hj),O.cnt]
 .rw[YJ] at hx
  rcases q08 hx with h|h
  .exact Yi (O.lt x h)
  .cases h;calc ZU _
theorem DF(m:Nat):Ow m (q1N (m+1) Z) 0:=by
 refine⟨by simp,?_,λx hx=>?_⟩
 .rw[q0h]
  exact List.countP_eq_zero.mpr λx hx=>by rw[Z3 hx];decide
 .rw[q0h] at hx
  cases Z3 hx
noncomputable def hZ(m:Nat)(owner:Array (Option Nat)):-(Nat×Nat):=(Xy (m+1)).filterMap λj=>(owner.getD j Z).map (j,·)
theorem DG(O:Ow m owner k):↑(hZ m owner)=k:=by
 unfold hZ;rw[q0x,<-O.cnt]
 let e:owner.toList=(Xy (m+1)).map λj=>owner.getD j Z:=by
  calc q1b λi=>?_;rw[Xp,W5]
  by_cases hi:i<m+1
  .rw[YQ hi,q3L,VT (by rw[O.size];calc hi),YG,VT (by rw[O.size];calc hi)];rfl
  .rw[q1z (by rw[O.size];symm),ZI (by rw[Yt];symm)];rfl
 rw[e,List.countP_map];calc List.countP_congr λj _=>?_;simp
theorem J2{α:Type}{es:Array α}{order:Array Nat}(h:∀k∈order.toList,k<es.size):(order.filterMap (es[·]?)).size=order.size/\∀e∈(order.filterMap (es[·]?)).toList,e∈es.toList:=by
 constructor
 .rw[<-Mx,Zu,q0x,q1U.mpr λk hk=>?_,Mx]
  rw[VT (h k hk)];rfl
 .ext e he
  rw[Zu] at he;let⟨k,_,q⟩:=Y8.mp he;calc Xb.mpr ⟨k,by rw[Xp];calc q⟩
theorem J3(t:SetTable)(hd:t.dummies = #[])(j:Nat):(t.put j).1.dummies = #[]/\(t.put j).1.mask=t.mask/\(t.put j).1.place.size=t.place.size+1/\(t.put j).1.led=t.led/\(t.put j).1.plain=t.plain/\(t.put j).1.moves=t.moves/\(t.put j).1.finger=t.finger:=by
 unfold put;dsimp only;rw[hd,Dz];calc⟨Y,Y,?_,Y,Y,Y,Y⟩;unfold insertAt;erw[q2W,q3M,q2F];symm
theorem J4{α:Type}(xs:Array α)(p:Nat)(x:α):(insertAt xs p x).size=xs.size+1:=by
 unfold insertAt;erw[q2W,q3M,q2F];symm
end LJS
namespace LJS
open PySem PySem.SetTable PyProof.Rows
structure e7(t:SetTable)(es:Array (Int×J))(hs:-Int):Prop where
 rX:t.dummies = #[]
 rY:Mk t.mask
 m8:t.place.size=es.size
 num:es.size=↑hs
 gR:t.tooFull=ι
 ins:∀e∈es.toList,e.1∈hs
def jB(h:I)(S:O)(hs:-Int):Prop:=∃o es ep t,h.get? S=U o/\o.ExactSet/\o.data=.set es ep t/\e7 t es hs
section
variable{t:SetTable}{es:Array (Int×J)}{hs:-Int}
theorem e7.fill(T:e7 t es hs):t.fill=es.size:=by
 unfold q2w;rw[T.m8,T.rX];rfl
theorem e7.lt(T:e7 t es hs):es.size*5<t.mask*3:=by
 let:=T.gR;unfold tooFull at this;rw[T.fill] at this;let:=of_decide_eq_false this;symm
theorem e7.fits(T:e7 t es hs):t.fits es.size=θ:=by
 let:=T.lt;unfold q4u;rw[T.fill,T.m8];simp;symm
theorem e7.rZ(T:e7 t es hs):t.gaveWay=ι:=by
 unfold SetTable.gaveWay;rcases T.rY with h|h|h<;>rw[h]<;>rfl
end
theorem J7:sizeAbove (grown 5)-1=31:=by decide +kernel
theorem J8:sizeAbove (grown 19)-1=127:=by decide +kernel
section
variable{prog:n}{w:g}{A:q}{E:aM}{s:L}
end
end LJS
namespace LJS
open PySem PySem.SetTable
def Up(xs:Array Nat):Prop:=xs.toList.Pairwise (· < ·)
theorem Up.lt{xs:Array Nat}(u:Up xs){i k:Nat}(J_:i<k)(hk:k<xs.size):xs[i]'⋯<xs[k]:=by
 let:=q09.mp u i k (by rw[Mx];symm) (by rw[Mx];calc hk) J_;simpa using this
theorem xY{xs:Array Nat}(u:Up xs)(j:Nat):∀(fuel lo hi:Nat),hi<=xs.size->lo<=hi->hi-lo<=fuel->(∀i,(h:i<xs.size)->i<lo->xs[i]<j)->(∀i,(h:i<xs.size)->hi<=i->j<=xs[i]) →
  below.go xs j fuel lo hi<=xs.size/\(∀i,(h:i<xs.size)->i<below.go xs j fuel lo hi->xs[i]<j)/\(∀i,(h:i<xs.size)->below.go xs j fuel lo hi<=i->j<=xs[i])
 |0,lo,hi,h1,h2,h3,a,b=>by
  let:lo=hi:=by symm
  subst this;exact⟨h1,a,b⟩
 |fuel+1,lo,hi,h1,h2,h3,a,b=>by
  unfold below.go
  by_cases c:lo<hi
  .rw[Xa c]
   let hm:(lo+hi) / 2<xs.size:=by symm
   let em:xs.getD ((lo+hi) / 2) j=xs[(lo+hi) / 2]:=by rw[YG,VT hm];rfl
   erw[em]
   by_cases d:xs[(lo+hi) / 2]<j
   .rw[Xa d]
    refine xY u j fuel _ hi h1 ⋯ ⋯ (λi eV hl=>?_) b
    by_cases e:i<(lo+hi) / 2
    .exact q1y (u.lt e hm) d
    .let:i=(lo+hi) / 2:=by symm
     subst this;exact d
   .rw[VR d]
    refine xY u j fuel lo _ ⋯ ⋯ ⋯ a λi eV hl=>?_
    by_cases e:(lo+hi) / 2<i
    .exact Y4 (q0U (q1q d) (u.lt e eV))
    .let:i=(lo+hi) / 2:=by symm
     subst this;exact q1q d
  .rw[VR c]
   let:lo=hi:=by symm
   subst this;calc⟨h1,a,b⟩
theorem vC{xs:Array Nat}(u:Up xs)(j:Nat):below xs j<=xs.size/\(∀i,(h:i<xs.size)->i<below xs j->xs[i]<j)/\(∀i,(h:i<xs.size)->below xs j<=i->j<=xs[i]) :=
 xY u j xs.size 0 xs.size (vQ _) (Xq _) ⋯ (λi _ h=>by symm) (λi h h'=>by symm)
theorem Ka{t:SetTable}(u:Up t.place){j:Nat}(hj:j∉t.place.toList):Up (t.put j).1.place:=by
 let⟨h0,h1,h2⟩:=vC u j;show Up (insertAt t.place (below t.place j) j);unfold Up insertAt;generalize below t.place j=p at h0 h1 h2
 let eL:(((t.place.extract 0 p).push j)++t.place.extract p t.place.size).toList=t.place.toList.take p++([j]++t.place.toList.drop p):=by
  erw[q2c,q0i,q1Z,q0_,q0j,q1A,YX];let e2:List.take (t.place.size-p) (q7w p t.place.toList)=q7w p t.place.toList:=XD (by rw[XO,Mx];calc vQ _);rw[e2]
 rw[eL]
 let lo:∀x∈t.place.toList.take p,x<j:=by
  ext x hx;let⟨i,hi,e⟩:=XF.mp hx;rw[Xi,Mx] at hi;let:=h1 i ⋯ ⋯;rw[<-e];simpa using this
 let eV:∀x∈t.place.toList.drop p,j<x:=by
  ext x hx;let⟨i,hi,e⟩:=XF.mp hx;rw[XO,Mx] at hi;let:=h2 (p+i) ⋯ ⋯;let xZ:j<=x:=by rw[<-e];simpa using this
  calc Nat.lt_of_le_of_ne xZ λz=>hj ?_;rw[z];exact ZP hx
 refine List.pairwise_append.mpr ⟨u.sublist (q2X _ _),?_,λa ha b hb=>?_⟩
 .exact q2H.mpr ⟨eV,u.sublist (List.drop_sublist _ _)⟩
 .rcases Mt.mp hb with rfl|hb
  .exact lo a ha
  .calc q1y (lo a ha) (eV b hb)
theorem Kb(n:Nat)(f:Nat->Option Nat):(((Xy n).filterMap λj=>(f j).map λx=>(j,x)).map (·.1)).Pairwise (· < ·):=by
 rw[q0k];calc List.Pairwise.filterMap _ (λa a' dP b hb b' hb'=>?_) (List.pairwise_lt_range (n:=n));let⟨x,_,rfl⟩:=Xf.mp hb;let⟨y,_,rfl⟩:=Xf.mp hb';calc dP
theorem Kc(m:Nat)(owner:Array (Option Nat)):((hZ m owner).map (·.1)).Pairwise (· < ·):=Kb (m+1) λj=>owner.getD j Z
theorem x4{t:SetTable}{f:Nat->Int}{h:Int}:∀{fuel:Nat}{p:Probe}{j:Nat}{d:Option Nat},ZE t f h fuel p=U (.empty j d)->t.slot j=.empty
 |0,_,_,_,e=>nomatch e
 |fuel+1,p,j,d,e=>by
  rw[oF] at e
  cases q:t.slot p.j with
  |empty =>
   rw[q] at e;cases e
   exact q
  |dummy =>
   rw[q] at e;exact x4 e
  |live i =>
   rw[q] at e
   by_cases c:(f i==h)=θ
   .erw[c,YU] at e;cases e
   .erw[c,XY] at e;calc x4 e
theorem Kd{t:SetTable}(u:Up t.place){j:Nat}(e:t.slot j=.empty):j∉t.place.toList:=by
 ext hm;let⟨i,hi,ei⟩:=XF.mp hm;let eV:i<t.place.size:=by rw[<-Mx];exact hi
 let x5:t.place[i]=j:=by simpa using ei
 let⟨h0,h1,h2⟩:=vC u j;let a:¬ i<below t.place j:=λz=>by let:=h1 i eV z;symm
 let b:¬ below t.place j<i:=λz=>by
  let:=h2 (below t.place j) ⋯ (vQ _);let:=u.lt z eV;symm
 let eb:below t.place j=i:=by symm
 unfold slot at e;rw[eb] at e;let:(t.place[i]?==U j)=θ:=by rw[VT eV,x5];simp
 erw[this,YU] at e;cases e
def kE(owner:Array (Option Nat))(k:Nat):Prop:=(owner.toList.filterMap id).Perm (Xy k)
theorem x6:∀{l:-(Option Nat)}{j k:Nat},l[j]?=U Z->((l.set j (U k)).filterMap id).Perm (k::l.filterMap id)
 |[],j,k,h=>by simp at h
 |x::l,0,k,h=>by
  simp at h;subst h;exact q10 _
 |x::l,j+1,k,h=>by
  simp at h
  cases x with
  |none =>
   show((l.set j (U k)).filterMap id).Perm (k::l.filterMap id);exact x6 h
  |some y =>
   calc(q31 y (x6 h)).trans (q32 _ _ _)
theorem Ke{owner:Array (Option Nat)}{j k:Nat}(P:kE owner k)(h:owner.toList[j]?=U Z):kE (owner.setIfInBounds j (U k)) (k+1):=by
 unfold kE at P ⊢;rw[YJ,List.range_succ];calc(x6 h).trans ((q31 k P).trans (List.perm_append_singleton k _).symm)
theorem Kg{m:Nat}{owner:Array (Option Nat)}{k:Nat}(hm:Mk m)(O:Ow m owner k)(Pm:kE owner k)(hk:k<=m)(h:Int):∃j,Yw m owner (turns m) (bits h%(m+1)) (bits h)=U j/\Ow m (owner.setIfInBounds j (U k)) (k+1)/\kE (owner.setIfInBounds j (U k)) (k+1):=by
 let⟨e,he,hn⟩:=DE O hk;let⟨n,gQ,en⟩:=reach hm (i:=bits h%(m+1)) (xU h) he;let⟨j,ej,hj⟩:=xW (m:=m) (owner:=owner) n (turns m) (bits h%(m+1)) (bits h) (by unfold turns;symm) (by rw[en];calc hn);refine⟨j,ej,⟨by rw[q1h];calc O.size,?_,λx hx=>?_⟩,Ke Pm (getD_none hj)⟩
 .rw[YJ,xX (getD_none hj),O.cnt]
 .rw[YJ] at hx
  rcases q08 hx with h|h
  .exact Yi (O.lt x h)
  .cases h;calc ZU _
theorem DH{m:Nat}(hm:Mk m):∀(hs:-Int)(owner:Array (Option Nat))(k:Nat),Ow m owner k->kE owner k->k+↑hs<=m+1 →
  ∃aO,(hs.foldl (init:=U (owner,k)) λacc h=>do
   let(owner,k) <- acc
   let j <- Yw m owner (turns m) (bits h%(m+1)) (bits h)
   pure (owner.setIfInBounds j (U k),k+1))=U (aO,k+↑hs)/\Ow m aO (k+↑hs)/\kE aO (k+↑hs)
 |[],owner,k,O,Pm,_=>⟨owner,Y,O,Pm⟩
 |h::hs,owner,k,O,Pm,hl=>by
  rw[EA] at hl ⊢;let⟨j,ej,O',P'⟩:=Kg hm O Pm ⋯ h;let⟨o2,e2,O2,P2⟩:=DH hm hs _ (k+1) O' P' ⋯;calc⟨o2,?_,by rw[show k+(↑hs+1)=k+1+↑hs by symm];calc⟨O2,P2⟩⟩;rw[q1O,show k+(↑hs+1)=k+1+↑hs by symm,<-e2];congr 1;show(do let j <- Yw m owner (turns m) (bits h%(m+1)) (bits h);pure (owner.setIfInBounds j (U k),k+1))=_;rw[ej];rfl
theorem Kh(m:Nat):kE (q1N (m+1) Z) 0:=by
 unfold kE;rw[q0h,List.filterMap_eq_nil_iff.mpr λx hx=>by rw[Z3 hx];rfl];calc q10 _
theorem Ki{m:Nat}(hm:Mk m)(hs:Array Int)(hz:hs.size<=m+1):∃owner,layClean m hs=U owner/\Ow m owner hs.size/\kE owner hs.size:=by
 let⟨o,e,O,Pm⟩:=DH hm hs.toList _ 0 (DF m) (Kh m) (by rw[Mx];symm);rw[XU,Mx] at O Pm;calc⟨o,?_,O,Pm⟩;unfold layClean;rw[<-q2I,e];rfl
theorem Kj{m:Nat}{owner:Array (Option Nat)}(hs:owner.size=m+1):(hZ m owner).map (·.2)=owner.toList.filterMap id:=by
 unfold hZ;rw[List.map_filterMap]
 let e:owner.toList=(Xy (m+1)).map λj=>owner.getD j Z:=by
  calc q1b λi=>?_;rw[Xp,W5]
  by_cases hi:i<m+1
  .rw[YQ hi,q3L,VT (by rw[hs];calc hi),YG,VT (by rw[hs];calc hi)];rfl
  .rw[q1z (by rw[hs];symm),ZI (by rw[Yt];symm)];rfl
 rw[e,q0V];congr 1;funext j;show q61 (λx:Nat×Nat=>x.2) (q61 (λx=>(j,x)) (owner.getD j Z))=owner.getD j Z;cases owner.getD j Z<;>rfl
end LJS
namespace LJS
open PySem PySem.SetTable PyProof.Rows
section
variable{t:SetTable}{es:Array (Int×J)}{led:Bool}{ks:-Int}
end
section
variable{prog:n}{w:g}{A:q}{E:aM}{s:L}
theorem DI{ks:-Int}:∀{vs:-J},ItemsAre (intKind prog w) ks vs->∀v∈vs,∃i t,v=.int i t:=by
 induction ks with
 |nil=>ext vs h v hv;cases h;cases hv
 |cons k ks ih =>
  ext vs h v hv
  cases h with
  |cons h1 h2 =>
   rcases Mt.mp hv with rfl|hv
   .let⟨t,e⟩:=q2Y (k:=k) (v:=v) (by first|exact h1|simpa[intKind] using h1)
    exact⟨_,_,e⟩
   .calc ih h2 v hv
theorem Kk{ks:-Int}{a:O}{Q:Bool->L->Prop}(hk:IsTupleKey (intKind prog w) s.heap ks a)(h:∀b,Q b s):G (M prog w) A (hashByValue 8 (.ref a)) Q E s:=by
 let hT:=hk.typeIs;let⟨o,ah,n,ho,_,hd,hi⟩:=hk;show G _ _ (hashByValue (7+1) (.ref a)) _ _ _;unfold hashByValue;calc lK (q3N hT F.slot_tuple_hash.lookup ?_);show G _ _ (seqItems? (.ref a) >>= _) _ _ s;calc lK (YK ho hd ?_);calc lK ?_;show G _ _ (forIn ah _ _) _ _ s;rw[<-q2J];refine q0A _ (λrest _ s'=>s'=s/\∀v∈rest,∃i t,v=q0d i t) _ ?_ ?_ _ _ ⟨Y,DI hi⟩
 .ext v rest r s' ⟨rfl,e8⟩
  let⟨i,t,rfl⟩:=e8 v Mv;let e:hashByValue 7 (.int i t)=pure θ:=by unfold hashByValue;rfl
  rw[e];calc lK (zi ?_);erw[XX,VQ,XY];exact zi ⟨Y,λu hu=>e8 u (Mu _ hu)⟩
 .ext ⟨r1,r2⟩ s' ⟨rfl,_⟩
  cases r1 with
  |none=>exact zi (h _)
  |some b=>calc zi (h _)
theorem x8{h h':I}{ks:-Int}{a:O}(x:IsTupleKey (intKind prog w) h ks a)(k:∀o,h.get? a=U o->h'.get? a=U o):IsTupleKey (intKind prog w) h' ks a:=by
 let⟨o,ah,n,ho,r⟩:=x;calc⟨o,ah,n,k o ho,r⟩
noncomputable abbrev hT(prog:n)(w:g)(ks:-Int):Int:=tupleKeyHash (intKind prog w) ks
theorem Kl{h h':I}{S:O}{hs:-Int}(x:jB h S hs)(k:∀o,h.get? S=U o->h'.get? S=U o):jB h' S hs:=by
 let⟨o,es,ep,t,ho,r⟩:=x;calc⟨o,es,ep,t,k o ho,r⟩
end
section
variable{prog:ψ}{w:g}{A:q}{R:Result->L->Prop}{I S:O}{fp wr:-O}{G:Array GenState->Array GenState->Prop}{n:Nat}{P:Nat->J->Prop}{St:Nat->L->Prop}
end
noncomputable abbrev fM(led:Bool):f:={cls:=.type "set",dict:=none,data:=.set #[] 0 (.fresh 0 0 led)}
section
variable{prog:n}{w:g}{A:q}{E:aM}{s:L}
end
section
variable{prog:n}{w:g}{A:q}{I S:O}{o:f}{es:Array (Int×J)}{ep:Nat}{t:SetTable}{ks:-Int}
end
section
variable{prog:n}{w:g}{A:q}{S:O}{o:f}{es:Array (Int×J)}{ep:Nat}{t:SetTable}{ks:-Int}
end
end LJS
namespace L2
open PySem PySem.Spec PyProof.Rows
abbrev Key:=Sum Int R
noncomputable def qu:Key->J->Bool
 |.inl k,v=>Value.isInt k v
 |.inr x,v=>q4v x v
noncomputable def x9(w:g):Key->Int
 |.inl k=>hashInt k
 |.inr x=>hashStr w x
theorem lu:∀{k:Key}{v:J},qu k v=θ->(∃i t,k=ZK i/\v=q0d i t)\/(∃x t,k=q2a x/\v=q2b x t)
 |.inl i,v,h=>by
  let⟨t,e⟩:=q2Y (k:=i) (v:=v) h;exact .inl ⟨i,t,Y,e⟩
 |.inr x,v,h=>by
  let⟨t,e⟩:=Value.isStrOf_shape (x:=x) (v:=v) h;calc .inr ⟨x,t,Y,e⟩
theorem Km(i:Int)(t:Tok):qu (.inl i) (.int i t)=θ:=by simp[qu,Value.isInt]
theorem Kn(x:R)(t:Tok):qu (.inr x) (.str x t)=θ:=by simp[qu,q4v]
theorem Ko(a b:Int):S ((ZK a:Key)=ZK b)=(a==b):=by
 by_cases e:a=b
 .subst e;simp
 .let h:¬ (ZK a:Key)=ZK b:=λq=>e (q3C q)
  rw[W_ h];calc(beq_eq_false_iff_ne.mpr e).symm
theorem Kq(a b:R):S ((q2a a:Key)=q2a b)=S (a=b):=by
 by_cases e:a=b
 .subst e;simp
 .let h:¬ (q2a a:Key)=q2a b:=λq=>e (Sum.inr.inj q)
  rw[W_ h,W_ e]
theorem Kr(a:Int)(b:R):S ((ZK a:Key)=q2a b)=ι:=W_ (λq=>nomatch q)
theorem Ks(a:R)(b:Int):S ((q2a a:Key)=ZK b)=ι:=W_ (λq=>nomatch q)
noncomputable def gi(prog:n)(w:g):PySem.KeyKind prog w Key where
 is:=qu
 hash:=x9 w
 inj:=λv a b ha hb=>by
  rcases lu ha with⟨i,t,rfl,rfl⟩|⟨x,t,rfl,rfl⟩
  .rcases lu hb with⟨j,u,rfl,e⟩|⟨y,u,rfl,e⟩
   .injection e with e1 _;rw[e1]
   .exact nomatch e
  .rcases lu hb with⟨j,u,rfl,e⟩|⟨y,u,rfl,e⟩
   .exact nomatch e
   .injection e with e1 _;rw[e1]
 byValue:=λk v h=>by
  rcases lu h with⟨i,t,rfl,rfl⟩|⟨x,t,rfl,rfl⟩<;>rfl
 pyHash:=λhv h=>by
  rcases lu hv with⟨i,t,rfl,rfl⟩|⟨x,t,rfl,rfl⟩
  .exact wpAny_pyHash_int h
  .exact wpAny_pyHash_str h
 eqBool:=λhu hv h=>by
  rcases lu hu with⟨i,t,rfl,rfl⟩|⟨x,t,rfl,rfl⟩
  .rcases lu hv with⟨j,u,rfl,rfl⟩|⟨y,u,rfl,rfl⟩
   .rw[Ko] at h;exact wpAny_eqBool_int h
   .rw[Kr] at h;exact q0W i t y u _ _ _ _ h
  .rcases lu hv with⟨j,u,rfl,rfl⟩|⟨y,u,rfl,rfl⟩
   .rw[Ks] at h;exact q0X x t j u _ _ _ _ h
   .rw[Kq] at h;exact wpAny_eqBool_str h
 «strs» := λk x t v h=>by
  rcases lu h with⟨i,u,rfl,e⟩|⟨y,u,rfl,e⟩
  .exact nomatch e
  .injection e with e1 _
   subst e1;cases v<;>rfl
theorem Kt(prog:n)(w:g)(i:Int)(t:Tok):(gi prog w).is (.inl i) (.int i t)=θ:=Km i t
theorem Ku(prog:n)(w:g)(x:R)(t:Tok):(gi prog w).is (.inr x) (.str x t)=θ:=Kn x t
inductive V where
 |non|bl (b:Bool)|int (i:Int)|str (x:R)|byt (b:Array UInt8)|flt (b:UInt64)|ref (a:O)|ty (n:String)
 deriving DecidableEq
def RelV:V->J->Prop
 |.non,u=>u=Yr
 |.bl b,u=>u=ZQ b
 |.int i,u=>∃t,u=q0d i t
 |.str x,u=>∃t,u=q2b x t
 |.byt b,u=>∃t,u=Value.bytes b t
 |.flt b,u=>∃t,u=q3D b t
 |.ref a,u=>u=Xj a
 |.ty n,u=>u=q1B n
abbrev Vals:-V->-J->Prop:=Paired RelV
theorem Vals.length{xs:-V}{us:-J}(r:Vals xs us):↑xs=↑us:=q2x r
theorem Vals.get:∀{xs:-V}{us:-J}{i:Nat}{x:V},Vals xs us->xs[i]?=U x->∃u,us[i]?=U u/\RelV x u
 |_,_,_,_,.nil,e=>by simp at e
 |_,_,0,_,.cons r _,e=>by simp at e;subst e;exact⟨_,Y,r⟩
 |_,_,i+1,x,.cons _ t,e=>by
  let⟨u,h1,h2⟩:=Vals.get (i:=i) (x:=x) t e⁻¹;calc⟨u,by simpa using h1,h2⟩
theorem Vals.set{x:V}{u:J}(r:RelV x u):∀{xs:-V}{us:-J}(i:Nat),Vals xs us->Vals (xs.set i x) (us.set i u)
 |_,_,_,.nil=>.nil
 |_,_,0,.cons _ t=>.cons r t
 |_,_,i+1,.cons q t=>.cons q (Vals.set r i t)
theorem Vals.append:∀{xs ys:-V}{us ws:-J},Vals xs us->Vals ys ws->Vals (xs++ys) (us++ws)
 |_,_,_,_,.nil,s=>s
 |_,_,_,_,.cons r t,s=>.cons r (Vals.append t s)
theorem Vals.take:∀{xs:-V}{us:-J}(n:Nat),Vals xs us->Vals (xs.take n) (us.take n)
 |_,_,0,_=>.nil
 |_,_,_+1,.nil=>.nil
 |_,_,n+1,.cons r t=>.cons r (Vals.take n t)
theorem Vals.drop:∀{xs:-V}{us:-J}(n:Nat),Vals xs us->Vals (xs.drop n) (us.drop n)
 |_,_,0,r=>r
 |_,_,_+1,.nil=>.nil
 |_,_,n+1,.cons _ t=>Vals.drop n t
def eF:Option V->Option J->Prop
 |some v,some u=>RelV v u
 |none,none=>True
 |_,_=>False
def KV{κ:Type}:-(κ×V)->-(κ×J)->Prop:=Paired λ(p:κ×V) (q:κ×Value)=>p.1=q.1/\RelV p.2 q.2
noncomputable def kV:Key->V
 |.inl i=>.int i
 |.inr x=>.str x
inductive HO where
 |lst (xs:-V)
 |tup (xs:-V)
 |dK (kvs:-(Key×V))|dT (kvs:-(-Key×V))
 |set (S:Int->Bool) (n:Nat)
 |ins (C dx:O) (fs:-(R×V))
 |own (x:O)
 |xd (fs:-(R×V))
 |met (f x:O)
 |rng (lo hi:Int)
 |frz (o:Γ) (u:HO)
 |tbl (ps:Array J)
 |ext (φ:I->Prop)
abbrev Hp:=O->Option HO
noncomputable def upd(H:Hp)(a:O)(o:HO):Hp:=λb=>if b=a then U o else H b
theorem aY{H:Hp}{a:O}{o:HO}:upd H a o a=U o:=by unfold upd;rw[Xa Y]
theorem aC{H:Hp}{a b:O}{o:HO}(h:b≠a):upd H a o b=H b:=by unfold upd;rw[VR h]
theorem m9{H:Hp}{a b:O}{o u:HO}(h:H a=U o)(h':H b=U u)(d:o≠u):a≠b:=by
 ext e;subst e;rw[h] at h';calc d (Xt h')
theorem bD{H:Hp}{a b:O}{o:HO}(h:H a=U o)(h':H b=Z):a≠b:=by
 ext e;subst e;rw[h] at h';cases h'
section
variable(P:n)(w:g)
def aD(H:Hp)(h:I)(a:O):HO->Prop
 |.lst xs=>↑xs<=sizeLine/\∃(ah:-J)(n:Nat),Vals xs ah/\h.get? a=U {cls:=.type "list",data:=.seq ah.toArray n}
 |.tup xs=>↑xs<=sizeLine/\∃ah:-J,Vals xs ah/\IsTup h a ah.toArray
 |.dK kvs=>↑kvs<=sizeLine/\(a==sysModules)=ι/\∃vs,KV kvs vs/\h.DictOf (gi P w) a vs
 |.dT kvs=>↑kvs<=sizeLine/\(a==sysModules)=ι/\∃xs:-(-Key×O×J),
   Paired (λ(p:-Key×V) (q:-Key×Addr×Value)=>p.1=q.1/\H q.2.1=U (.tup (p.1.map kV))/\RelV p.2 q.2.2) kvs xs ∧
   ∃o es ep,h.get? a=U o/\o.ExactDict/\o.data=.dict es ep/\es.toList=xs.map (entryOfKey (tupleKind (gi P w)))/\(xs.map (·.1)).Nodup
 |.set S n=>h.SetOf (intKind P w) a S n
 |.ins C dx fs=>H dx=U (.own a)/\fs.length<=1000/\dx≠a/\h.get? a=U (q1P C dx) ∧
   ∃mA,h.Ns1 dx mA/\(∀f,eF (fs.lookup f) (mA f))/\q44 mA (fs.map (·.1))
 |.own _=>∃o,h.get? a=U o
 |.xd fs=>∃mA,h.Ns1 a mA/\∀f,eF (fs.lookup f) (mA f)
 |.rng lo hi=>∃t u v,h.get? a=U {cls:=.type "range",data:=.fields #[.int lo t,.int hi u,.int 1 v]}
 |.frz o u=>h.get? a=U o/\aD H h a u
 |.tbl ps=>h.get? a=U {cls:=.none,data:=.fields ps}
 |.met f x=>h.get? a=U (q1c (.ref f) (.ref x))
 |.ext φ=>φ h/\(∃o,h.get? a=U o)/\∀h1 h2:I,φ h1->(∀o,h1.get? a=U o->h2.get? a=U o)->φ h2
def bY(H:Hp)(h:I):Prop:=∀a o,H a=U o->aD P w H h a o
end
section
variable{P:n}{w:g}{H H':Hp}{h h':I}{a:O}{o:HO}
theorem aD.lt(x:aD P w H h a o):a<h.objs.size:=by
 cases o with
 |lst xs=>let⟨_,_,_,_,e⟩:=x;exact EC e
 |tup xs=>let⟨_,_,_,p⟩:=x;exact p.lt
 |dK kvs=>let⟨_,_,_,_,o,_,_,e,_⟩:=x;exact EC e
 |dT kvs=>let⟨_,_,_,_,o,_,_,e,_⟩:=x;exact EC e
 |set S n=>let⟨o,_,_,_,e,_⟩:=x;exact EC e
 |ins C dx fs=>let⟨_,_,_,e,_⟩:=x;exact EC e
 |own y=>let⟨_,e⟩:=x;exact EC e
 |xd fs=>let⟨_,⟨_,_,_,e,_⟩,_⟩:=x;exact EC e
 |rng lo hi=>let⟨_,_,_,e⟩:=x;exact EC e
 |frz ob u=>let⟨e,_⟩:=x;exact EC e
 |tbl ps=>exact EC (show h.get? a=U _ from x)
 |met f y=>exact EC (show h.get? a=U _ from x)
 |ext φ=>let⟨_,⟨_,e⟩,_⟩:=x;calc EC e
theorem Paired.oG{α β:Type}{F G:α->β->Prop}:∀{l₁:-α}{l₂:-β},Paired F l₁ l₂->(∀a b,F a b->G a b)->Paired G l₁ l₂
 |_,_,.nil,_=>.nil
 |_,_,.cons r t,f=>.cons (f _ _ r) (Paired.oG t f)
theorem aD.dQ(x:aD P w H h a o)(k:∀b u,(b=a\/H b=U (.own a))->h.get? b=U u->h'.get? b=U u)
  (ho:∀b,H b=U (.own a)->H' b=U (.own a)) (ht:∀b xs,H b=U (.tup xs)->H' b=U (.tup xs)):aD P w H' h' a o:=by
 induction o with
 |lst xs=>let⟨z,ah,n,r,e⟩:=x;exact⟨z,ah,n,r,k _ _ (.inl Y) e⟩
 |tup xs=>let⟨z,ah,r,ob,e,c⟩:=x;exact⟨z,ah,r,ob,k _ _ (.inl Y) e,c⟩
 |dK kvs=>let⟨z,y,vs,r,ob,es,ep,e,c⟩:=x;exact⟨z,y,vs,r,ob,es,ep,k _ _ (.inl Y) e,c⟩
 |dT kvs =>
  let⟨z,y,xs,r,ob,es,ep,e,c⟩:=x;exact⟨z,y,xs,Paired.oG r λp q z=>⟨z.1,ht _ _ z.2.1,z.2.2⟩,ob,es,ep,k _ _ (.inl Y) e,c⟩
 |set S n=>let⟨ob,es,ep,t,e,c⟩:=x;exact⟨ob,es,ep,t,k _ _ (.inl Y) e,c⟩
 |ins C dx fs =>
  let⟨d,z,ne,e,mA,⟨od,es,ep,e2,c⟩,r⟩:=x;exact⟨ho _ d,z,ne,k _ _ (.inl Y) e,mA,⟨od,es,ep,k _ _ (.inr d) e2,c⟩,r⟩
 |own y=>let⟨ob,e⟩:=x;exact⟨ob,k _ _ (.inl Y) e⟩
 |xd fs=>let⟨mA,⟨od,es,ep,e,c⟩,r⟩:=x;exact⟨mA,⟨od,es,ep,k _ _ (.inl Y) e,c⟩,r⟩
 |rng lo hi=>let⟨t,u,v,e⟩:=x;exact⟨t,u,v,k _ _ (.inl Y) e⟩
 |frz ob u ih=>let⟨e,q⟩:=x;exact⟨k _ _ (.inl Y) e,ih q⟩
 |tbl ps =>
  let e:h.get? a=U {cls:=.none,data:=.fields ps}:=x;show h'.get? a=U {cls:=.none,data:=.fields ps};exact k a _ (.inl Y) e
 |met f y =>
  let e:h.get? a=U (q1c (.ref f) (.ref y)):=x;show h'.get? a=U (q1c (.ref f) (.ref y));exact k a _ (.inl Y) e
 |ext φ=>let⟨p,⟨o,e⟩,st⟩:=x;calc⟨st _ _ p λo q=>k _ _ (.inl Y) q,⟨o,k _ _ (.inl Y) e⟩,st⟩
theorem bY.lt(x:bY P w H h)(e:H a=U o):a<h.objs.size:=(x a o e).lt
theorem bY.fresh(x:bY P w H h)(e:h.objs.size<=a):H a=Z:=by
 cases q:H a with
 |none=>rfl
 |some u=>calc absurd (Xk (x.lt q) e) (YH _)
theorem bY.kept(x:bY P w H h)(k:∀b u,h.get? b=U u->h'.get? b=U u):bY P w H h':=λa o e =>
 (x a o e).dQ (λb u _ q=>k b u q) (λ_ q=>q) λ_ _ q=>q
theorem bY.laid(x:bY P w H h)(k:∀b u,h.get? b=U u->h'.get? b=U u)(hp:h.objs.size<=a)(new:aD P w (upd H a o) h' a o):bY P w (upd H a o) h':=λb u e=>by
 let hn:=x.fresh hp
 by_cases hb:b=a
 .subst hb;rw[aY] at e;cases e;exact new
 .rw[aC hb] at e
  calc(x b u e).dQ (λc v _ q=>k c v q) (λc q=>by rw[aC (bD q hn)];calc q) λc xs q=>by rw[aC (bD q hn)];calc q
end
def Rd(H:Hp)(a:O)(u:HO):Prop:=H a=U u\/∃o,H a=U (.frz o u)
theorem Rd.ok{P:n}{w:g}{H:Hp}{h:I}{a:O}{u:HO}(r:Rd H a u)(x:bY P w H h):aD P w H h a u:=by
 rcases r with r|⟨o,r⟩
 .exact x a u r
 .let⟨_,q⟩:=x a _ r
  calc q
def oH:Option HO->Prop
 |some (.lst _)=>True
 |some (.dK _)=>True
 |some (.dT _)=>True
 |some (.set _ _)=>True
 |some (.ins _ _ _)=>True
 |some (.ext _)=>True
 |_=>False
section
variable{P:n}{w:g}{H:Hp}{h h':I}{x e:O}{o':HO}
theorem bY.write(ok:bY P w H h)(mu:oH (H x))(he:e=x\/H e=U (.own x))(k:∀b u,b≠e->h.get? b=U u->h'.get? b=U u)(kF:∃u,h'.get? e=U u)
  (new:aD P w (upd H x o') h' x o'):bY P w (upd H x o') h':=λb u q=>by
 let r_:∀c y,H c=U (.own y)->c≠x:=λc y r z=>by subst z;rw[r] at mu;exact mu
 let x_:∀c xs,H c=U (.tup xs)->c≠x:=λc xs r z=>by subst z;rw[r] at mu;exact mu
 by_cases hb:b=x
 .subst hb;rw[aY] at q;cases q;exact new
 .rw[aC hb] at q
  by_cases oJ:b=e
  .let q':H b=U (.own x):=by
    rcases he with z|z
    .exact absurd (oJ.trans z) hb
    .rw[oJ];exact z
   rw[q] at q';cases q';let⟨v,hv⟩:=kF;exact⟨v,by rw[oJ];calc hv⟩
  .refine (ok b u q).dQ (λc v hc r=>k c v ?_ r) (λc r=>by rw[aC (r_ c b r)];calc r) λc xs r=>by rw[aC (x_ c xs r)];exact r
   rcases hc with rfl|hc
   .exact oJ
   .ext rfl
    rcases he with z|z
    .exact r_ c b hc z
    .rw[hc] at z;cases z;calc hb Y
end
structure Un(fs ex:-O)(H H':Hp)(h h':I):Prop where
 keep:∀b o,h.get? b=U o->H b=Z->b∉fs->b∉ex->h'.get? b=U o
 slot:∀b o,h.get? b=U o->H b=Z->b∈fs->b∉ex->∃sl,h'.get? b=U {o with slots:=sl}
 free:∀b o,h.get? b=U o->H b=Z->b∉ex->H' b=Z
 there:∀b o,h.get? b=U o->b∉ex->∃o',h'.get? b=U o'
 cA:∀b xs,H b=U (.tup xs)->H' b=U (.tup xs)
 cQ:∀b o u,H b=U (.frz o u)->H' b=U (.frz o u)
 dR:∀b ps,H b=U (.tbl ps)->∃more,H' b=U (.tbl (ps++more))
section
variable{fs Kv ex VL:-O}{H H1 H2:Hp}{h h1 h2 h':I}{a x e:O}{o:HO}
theorem Un.any(u:Un fs ex H H1 h h1){b:O}{ob:f}(q:h.get? b=U ob)(n:H b=Z)(hx:b∉ex):∃sl,h1.get? b=U {ob with slots:=sl}:=by
 by_cases hb:b∈fs
 .exact u.slot b ob q n hb hx
 .calc⟨ob.slots,u.keep b ob q n hb hx⟩
theorem Un.kept(k:∀b u,h.get? b=U u->h'.get? b=U u):Un fs ex H H h h' :=
 ⟨λb ob q _ _ _=>k b ob q,λb ob q _ _ _=>⟨ob.slots,k b ob q⟩,λ_ _ _ n _=>n,λb ob q _=>⟨ob,k b ob q⟩,λ_ _ q=>q,λ_ _ _ q=>q,λ_ ps q=>⟨#[],by rw[q];simp⟩⟩
theorem Un.refl:Un fs ex H H h h:=Un.kept λ_ _ q=>q
theorem Un.laid(k:∀b u,h.get? b=U u->h'.get? b=U u)(hp:h.objs.size<=a)(hn:H a=Z):Un fs ex H (upd H a o) h h' where
 keep:=λb u q _ _ _=>k b u q
 slot:=λb u q _ _ _=>⟨u.slots,k b u q⟩
 free:=λb u q n _=>by rw[aC (Xg (Xk (EC q) hp))];exact n
 there:=λb u q _=>⟨u,k b u q⟩
 cA:=λb xs q=>by rw[aC (bD q hn)];exact q
 cQ:=λb u xs q=>by rw[aC (bD q hn)];exact q
 dR:=λb ps q=>⟨#[],by rw[aC (bD q hn),q];simp⟩
theorem Un.write(mu:oH (H x))(he:e=x\/H e=U (.own x))(k:∀b u,b≠e->h.get? b=U u->h'.get? b=U u)(kF:∃u,h'.get? e=U u):Un fs ex H (upd H x o) h h':=by
 let hx:∀b,H b=Z->b≠x:=λb n z=>by subst z;rw[n] at mu;exact mu
 let hb:∀b,H b=Z->b≠e:=λb n z=>by
  subst z;rcases he with r|r
  .exact hx b n r
  .rw[n] at r;cases r
 let hm:∀b u,H b=U u->¬ oH (U u)->b≠x:=λb u q nm z=>by subst z;rw[q] at mu;exact nm mu
 refine⟨λb u q n _ _=>k b u (hb b n) q,λb u q n _ _=>⟨u.slots,k b u (hb b n) q⟩,λb u q n _=>by rw[aC (hx b n)];calc n,λb u q _=>?_,
  λb xs q=>by rw[aC (hm b _ q λz=>z)];calc q,λb u xs q=>by rw[aC (hm b _ q λz=>z)];calc q,λb ps q=>⟨#[],by rw[aC (hm b _ q λz=>z),q];simp⟩⟩
 by_cases oJ:b=e
 .subst oJ;exact kF
 .calc⟨u,k b u oJ q⟩
end
noncomputable def vD(h:I)(H:Hp):-O:=(Xy h.objs.size).filter λa=>(H a).isSome
noncomputable def fN(h:I)(H:Hp):I:=PySem.W.hideAll h (vD h H)
theorem Kw(h:I)(H:Hp):(fN h H).objs.size=h.objs.size:=PySem.W.hideAll_size _ _
theorem Kx{h:I}{H:Hp}{b:O}{o:f}(e:h.get? b=U o)(n:H b=Z):(fN h H).get? b=U o :=
 PySem.W.hideAll_get _ e λhm=>by
  let q:(H b).isSome=θ:=(q0I.mp hm).2;rw[n] at q;simp at q
theorem Ky{h:I}{H:Hp}{b:O}{o:f}(e:(fN h H).get? b=U o):h.get? b=U o/\H b=Z:=by
 let e':h.get? b=U o:=PySem.W.of_hideAll (vD h H) e;refine⟨e',?_⟩
 cases q:H b with
 |none=>rfl
 |some x =>
  let hm:b∈vD h H:=q0I.mpr ⟨XC.mpr (EC e'),by simp[q]⟩;let z:(fN h H).get? b=Z:=PySem.W.hideAll_none (vD h H) hm;rw[z] at e;cases e
structure Mod(K:tu)(mg:R->Option J)(base:I):Prop where
 jC:K.In base
 glob:base.Ns mainGlobals mg
 blt:∃mb,base.Ns builtinsNs mb/\∀x:R,x≠"__name__" -> mb x=bootBuiltins x
 nolimit:base.NoLimit
structure Cx where
 prog:n
 w:g
 K:tu
 mg:R->Option J
 base:I
 A:q
 N:-R
 s₀:L
 H₀:Hp
 env:t
 outer:-t
 stack:-t
 ex:-O
 fn:R->Bool
 calm:Bool
 pn:-(O×f)
 xe:J->L->Prop
noncomputable def dM(l:-t):-O:=l.filterMap (·.frame)
noncomputable abbrev Cx.fs(X:Cx):-O:=dM X.outer
def qv(sc:u)(x:R):Prop:=sc.names.lookup x=U .local\/sc.names.lookup x=U .cell\/sc.names.lookup x=U .free
def Loc(sc:u)(x:R):Prop:=sc.names.lookup x=U .local\/sc.names.lookup x=U .cell
abbrev bf(x:R):Prop:=(x==("__debug__" : R))=ι
abbrev d5(X:Cx)(x:R):Prop:=X.fn x=θ\/X.env.scope.names.lookup x=U .local
abbrev cj(X:Cx)(e:B)(es:-B):Prop:=starEach (e::es) X.env=(ι,eval e X.env)::starEach es X.env
abbrev cR(X:Cx)(p:y)(es:-B):Prop:=(backTo p (starEach es X.env)).any (·.1)=ι
abbrev aq:=-(O×f)
def Look(env:t)(h:I)(m:R->Option J)(x:R)(u:J):Prop :=
 (env.kindOf x=U .local/\m x=U u)\/((env.kindOf x=U .cell\/env.kindOf x=U .free)/\∃c,env.cells.lookup x=U c/\h.IsCell c (U u))
structure Cx.Ok(X:Cx):Prop where
 mod:Mod X.K X.mg X.base
 kind:X.env.scope.kind=.function
 glob:X.env.globals=mainGlobals
 blt:X.env.builtins=builtinsNs
 above:⇑X.s₀<=X.env.locals
 inj:∀x y c,X.env.cells.lookup x=U c->X.env.cells.lookup y=U c->x=y
 has:∀x,(X.env.kindOf x=U .cell\/X.env.kindOf x=U .free)->∃c,X.env.cells.lookup x=U c
 m_:∀x c,X.fn x=θ->X.env.cells.lookup x=U c->⇑X.s₀<=c
 hd:X.calm=θ->X.A.handled=Z
 frames:X.A.frames=U X.stack
 oK:X.stack=X.outer\/(X.stack=X.env::X.outer/\X.env.frame=U X.env.locals)
 sd:∀b∈X.ex,b≠X.env.locals/\∀x c,X.env.cells.lookup x=U c->c≠b
 bs:∀b o,X.base.get? b=U o->X.s₀.heap.get? b=U o/\X.H₀ b=Z
 jD:X.base.objs.size<=⇑X.s₀
 gj:∀b o,X.base.get? b=U o->b∉X.ex
 gT:∀b∈X.ex,b∉X.fs
 cS:X.s₀.heap.FunFrames X.base X.outer
 kG:∀b∈X.fs,X.H₀ b=Z
structure Inv(X:Cx)(pins:aq)(σ:-(Option V))(H:Hp)(s:L):Prop where
 ok:X.Ok
 os:s.os=X.s₀.os
 bare:AllBare s.gens
 base:Un X.fs X.ex X.H₀ H X.s₀.heap s.heap
 loc:∃m,s.heap.Ns X.env.locals m/\∀(i:Nat)(x:R)(v:V),X.N[i]?=U x->σ[i]?=U (U v)->qv X.env.scope x->∃u,RelV v u/\Look X.env s.heap m x u
 cell:∀x c,X.env.cells.lookup x=U c->∃v,s.heap.IsCell c v
 free:H X.env.locals=Z
 bw:∀x c,X.env.cells.lookup x=U c->H c=Z
 pin:∀p∈X.pn++pins,s.heap.get? p.1=U p.2/\H p.1=Z/\p.1≠X.env.locals/\p.1∉X.fs/\∀v,p.2.data≠.cell v
 aH:bY X.prog X.w H s.heap
 len:↑σ=↑X.N
section
variable{X:Cx}{pins:aq}{σ:-(Option V)}{H H':Hp}{s:L}{h':I}
theorem Cx.Ok.ya(ok:X.Ok){b:O}{o:f}(e:X.base.get? b=U o):b∉X.fs:=λhb=>by
 let:=(ok.cS.mem hb).1;rw[e] at this;cases this
theorem Inv.bs(I:Inv X pins σ H s):∀b o,X.base.get? b=U o->s.heap.get? b=U o/\H b=Z:=λb o e =>
 ⟨I.base.keep b o (I.ok.bs b o e).1 (I.ok.bs b o e).2 (I.ok.ya e) (I.ok.gj b o e),I.base.free b o (I.ok.bs b o e).1 (I.ok.bs b o e).2 (I.ok.gj b o e)⟩
theorem Inv.bk(I:Inv X pins σ H s):∀b o,X.base.get? b=U o->s.heap.get? b=U o:=λb o e=>(I.bs b o e).1
theorem Inv.mod(I:Inv X pins σ H s):Mod X.K X.mg X.base:=I.ok.mod
theorem Inv.cB(I:Inv X pins σ H s):X.K.In s.heap:=I.ok.mod.jC.keeps I.bk
theorem Inv.lt(I:Inv X pins σ H s):X.env.locals<⇑s:=let⟨_,hn,_⟩:=I.loc;hn.lt
theorem Inv.sz(I:Inv X pins σ H s):⇑X.s₀<=⇑s:=XH I.ok.above (Y4 I.lt)
theorem Inv.yb(I:Inv X pins σ H s){a:O}(h:⇑s<=a):a∉X.fs:=λhb=>by
 let⟨_,o,ho,_⟩:=I.ok.cS.mem hb;calc absurd (Xk (EC ho) (XH I.sz h)) (YH _)
theorem Inv.lz(I:Inv X pins σ H s):∀x c,X.env.cells.lookup x=U c->c≠X.env.locals:=λx c e z=>by
 let⟨v,o,ho,hd⟩:=I.cell x c e;let⟨m,⟨o',es,ep,jE,sg,_⟩,_⟩:=I.loc;rw[z,jE] at ho;cases ho;rw[sg] at hd;cases hd
theorem Inv.cS(I:Inv X pins σ H s):s.heap.FunFrames X.base X.outer:=by
 let all:∀(l:-t),(∀b∈dM l,b∈X.fs)->X.s₀.heap.FunFrames X.base l->s.heap.FunFrames X.base l:=by
  ext l
  induction l with
  |nil=>ext _ _;trivial
  |cons env r ih =>
   ext hs hl;let⟨hk,⟨L,o,hf,hn,ho,hd⟩,hr⟩:=hl;let hL:L∈X.fs:=hs L (by unfold dM;rw[YR,hf];calc Mv);let⟨sl,e⟩:=I.base.slot L o ho (I.ok.kG L hL) hL λz=>I.ok.gT L z hL;exact⟨hk,⟨L,_,hf,hn,e,hd⟩,ih (λb hb=>hs b (by unfold dM;rw[YR,hf];calc Mu _ hb)) hr⟩
 calc all X.outer (λ_ hb=>hb) I.ok.cS
theorem Inv.stack(I:Inv X pins σ H s):s.heap.FunFrames X.base X.stack:=by
 rcases I.ok.oK with e|⟨e,hf⟩
 .rw[e];exact I.cS
 .rw[e]
  let⟨m,hn,_⟩:=I.loc;calc .cons (by rw[I.ok.kind];decide) hf hn ?_ I.cS;calc ZR (XH I.ok.jD I.ok.above)
theorem Inv.fO(I:Inv X pins σ H s):∀b∈dM X.stack,b∈X.env.locals::X.fs:=λb hb=>by
 rcases I.ok.oK with e|⟨e,hf⟩
 .rw[e] at hb;exact Mu _ hb
 .rw[e] at hb
  unfold dM at hb;rw[YR,hf] at hb;calc hb
theorem Inv.di(I:Inv X pins σ H s):∀b∈dM X.stack,H b=Z:=λb hb=>by
 rcases Mt.mp (I.fO b hb) with e|hb
 .rw[e];exact I.free
 .let⟨_,o,ho,_⟩:=I.ok.cS.mem hb
  calc I.base.free b o ho (I.ok.kG b hb) λz=>I.ok.gT b z hb
theorem Inv.step{g':Array GenState}{t':Nat}{d':Drawn}{ch:-O}(I:Inv X pins σ H s)
  (kH:∀b∈ch,(b∈X.ex\/⇑X.s₀<=b)/\b≠X.env.locals/\(∀x c,X.env.cells.lookup x=U c->c≠b)/\∀p∈X.pn++pins,p.1≠b)
  (keep:∀b o,b≠X.env.locals->b∉X.fs->b∉ch->s.heap.get? b=U o->H b=Z->h'.get? b=U o)
  (slot:∀b o,b≠X.env.locals->b∈X.fs->b∉ch->s.heap.get? b=U o->H b=Z->∃sl,h'.get? b=U {o with slots:=sl}) (free:∀b o,b∉ch->s.heap.get? b=U o->H b=Z->H' b=Z)
  (there:∀b o,b∉ch->s.heap.get? b=U o->∃o',h'.get? b=U o')
  (cA:∀b xs,H b=U (.tup xs)->H' b=U (.tup xs)) (cQ:∀b o u,H b=U (.frz o u)->H' b=U (.frz o u)) (dR:∀b ps,H b=U (.tbl ps)->∃more,H' b=U (.tbl (ps++more)))
  (ns:∀m,s.heap.Ns X.env.locals m->h'.Ns X.env.locals m) (aH:bY X.prog X.w H' h') (hg:AllBare g') :
  Inv X pins σ H' {s with heap:=h',gens:=g',drawn:=d',toks:=t'}:=by
 let DJ:∀b o,X.s₀.heap.get? b=U o->b≠X.env.locals:=λb o e=>Xg (Xk (EC e) I.ok.above)
 let vE:∀b o,X.s₀.heap.get? b=U o->b∉X.ex->b∉ch:=λb o e hx hb=>by
  rcases(kH b hb).1 with z|z
  .exact hx z
  .exact absurd (Xk (EC e) z) (YH _)
 let cellK:∀x c,X.env.cells.lookup x=U c->∀v,s.heap.IsCell c v->h'.IsCell c v:=λx c e v ⟨o,ho,hd⟩↦by
  let jF:c∉ch:=λz=>(kH c z).2.2.1 x c e Y
  by_cases hc:c∈X.fs
  .let⟨sl,q⟩:=slot c o (I.lz x c e) hc jF ho (I.bw x c e)
   exact⟨_,q,hd⟩
  .exact⟨o,keep c o (I.lz x c e) hc jF ho (I.bw x c e),hd⟩
 refine⟨I.ok,I.os,hg,⟨λb o e n hb hx=>?_,λb o e n hb hx=>?_,λb o e n hx=>?_,λb o e hx=>?_,λb xs e=>cA b xs (I.base.cA b xs e),λb o xs e=>cQ b o xs (I.base.cQ b o xs e),λb ps e=>?_⟩,?_,λx c e=>?_,?_,λx c e=>?_,λp hp=>?_,aH,I.len⟩
 .exact keep b o (DJ b o e) hb (vE b o e hx) (I.base.keep b o e n hb hx) (I.base.free b o e n hx)
 .let⟨sl,e1⟩:=I.base.slot b o e n hb hx
  let⟨lA,e2⟩:=slot b _ (DJ b o e) hb (vE b o e hx) e1 (I.base.free b o e n hx);exact⟨lA,e2⟩
 .let⟨o',e1⟩:=I.base.there b o e hx
  exact free b o' (vE b o e hx) e1 (I.base.free b o e n hx)
 .let⟨o',e1⟩:=I.base.there b o e hx
  exact there b o' (vE b o e hx) e1
 .let⟨m1,e1⟩:=I.base.dR b ps e
  let⟨m2,e2⟩:=dR b _ e1;exact⟨m1++m2,by rw[e2,Array.append_assoc]⟩
 .let⟨m,hn,hl⟩:=I.loc
  calc⟨m,ns m hn,λi x v e1 e2 e3=>?_⟩;let⟨u,r,l⟩:=hl i x v e1 e2 e3;calc⟨u,r,?_⟩;rcases l with l|⟨k,c,e,z⟩
  .exact .inl l
  .exact .inr ⟨k,c,e,cellK x c e _ z⟩
 .let⟨v,z⟩:=I.cell x c e
  exact⟨v,cellK x c e v z⟩
 .let⟨m,⟨o,_,_,ho,_⟩,_⟩:=I.loc
  exact free _ o (λz=>(kH _ z).2.1 Y) ho I.free
 .let⟨v,o,ho,hd⟩:=I.cell x c e
  exact free c o (λz=>(kH c z).2.2.1 x c e Y) ho (I.bw x c e)
 .let⟨e,n,ne,nf,d⟩:=I.pin p hp
  let jF:p.1∉ch:=λz=>(kH p.1 z).2.2.2 p hp Y;calc⟨keep p.1 p.2 ne nf jF e n,free p.1 p.2 jF e n,ne,nf,d⟩
theorem Inv.un{t':Nat}(I:Inv X pins σ H s)(u:Un X.fs [] H H' s.heap h')(aH:bY X.prog X.w H' h'):Inv X pins σ H' {s with heap:=h',toks:=t'}:=by
 let⟨m,⟨o,es,ep,ho,r⟩,_⟩:=id I.loc;let⟨sl,hL⟩:=u.any ho I.free (by simp)
 exact I.step (g':=s.gens) (d':=s.drawn) (ch:=[]) (λ_ z=>nomatch z) (λb o _ hb _ e n=>u.keep b o e n hb (by simp)) (λb o _ hb _ e n=>u.slot b o e n hb (by simp)) (λb o _ e n=>u.free b o e n (by simp)) (λb o _ e=>u.there b o e (by simp)) u.cA u.cQ u.dR (λm' hm=>by
  let⟨o',sh,yc,jE,r'⟩:=hm;rw[ho] at jE;cases jE
  calc⟨_,sh,yc,hL,r'⟩) aH I.bare
theorem Inv.call{g':Array GenState}{t':Nat}{d':Drawn}{ch:-O}(I:Inv X pins σ H s)(u:Un (dM X.stack) ch H H' s.heap h')(aH:bY X.prog X.w H' h')(hg:AllBare g')
  (kH:∀b∈ch,(b∈X.ex\/⇑X.s₀<=b)/\b≠X.env.locals/\(∀x c,X.env.cells.lookup x=U c->c≠b)/\∀p∈X.pn++pins,p.1≠b) :
  Inv X pins σ H' {s with heap:=h',gens:=g',drawn:=d',toks:=t'}:=by
 let⟨m,⟨o,es,ep,ho,r⟩,_⟩:=id I.loc;let⟨sl,hL⟩:=u.any ho I.free λz=>(kH _ z).2.1 Y
 exact I.step (ch:=ch) kH (λb o hL hb hc e n=>u.keep b o e n (λz=>(Mt.mp (I.fO b z)).elim hL hb) hc) (λb o _ _ hc e n=>u.any e n hc) (λb o hc e n=>u.free b o e n hc) (λb o hc e=>u.there b o e hc) u.cA u.cQ u.dR (λm' hm=>by
  let⟨o',sh,yc,jE,r'⟩:=hm;rw[ho] at jE;cases jE
  calc⟨_,sh,yc,hL,r'⟩) aH hg
theorem Inv.turned{t':Nat}{it:O}(I:Inv X pins σ H s)(k:∀b o,b≠it->s.heap.get? b=U o->h'.get? b=U o)(hn:H it=Z)(hL:it≠X.env.locals)
  (h1:it∈X.ex\/⇑X.s₀<=it) (h2:∀x c,X.env.cells.lookup x=U c->c≠it) (h3:∀p∈X.pn++pins,p.1≠it):Inv X pins σ H {s with heap:=h',toks:=t'}:=by
 let DK:∀b u,H b=U u->b≠it:=λb u e z=>by rw[z,hn] at e;cases e
 refine I.step (g':=s.gens) (d':=s.drawn) (ch:=[it]) (λb hb=>?_) (λb o _ _ hc e _=>k b o (λz=>hc (by simp[z])) e) (λb o _ _ hc e _=>⟨o.slots,k b o (λz=>hc (by simp[z])) e⟩) (λ_ _ _ _ n=>n)
  (λb o hc e=>⟨o,k b o (λz=>hc (by simp[z])) e⟩) (λ_ _ e=>e) (λ_ _ _ e=>e) (λb ps e=>⟨#[],by rw[e];simp⟩) (λm hm=>?_) (λb u e=>?_) I.bare
 .let e:b=it:=by simpa using hb
  subst e;exact⟨h1,hL,h2,h3⟩
 .let⟨o,es,ep,ho,r⟩:=hm
  exact⟨o,es,ep,k _ o (YV hL) ho,r⟩
 .refine (I.aH b u e).dQ (λc v hc q=>k c v ?_ q) (λ_ q=>q) λ_ _ q=>q
  rcases hc with z|z
  .rw[z];exact DK b u e
  .calc DK c _ z
theorem Inv.tok(I:Inv X pins σ H s)(t:Nat):Inv X pins σ H {s with toks:=t}:=I.un (h':=s.heap) (t':=t) Un.refl I.aH
theorem Inv.kept{t':Nat}(I:Inv X pins σ H s)(k:∀b u,s.heap.get? b=U u->h'.get? b=U u):Inv X pins σ H {s with heap:=h',toks:=t'}:=I.un (Un.kept k) (I.aH.kept k)
theorem Inv.laid{a:O}{o:HO}{t':Nat}(I:Inv X pins σ H s)(k:∀b u,s.heap.get? b=U u->h'.get? b=U u)(hp:⇑s<=a)(new:aD X.prog X.w (upd H a o) h' a o):
  Inv X pins σ (upd H a o) {s with heap:=h',toks:=t'}:=I.un (Un.laid k hp (I.aH.fresh hp)) (I.aH.laid k hp new)
theorem Inv.write{x e:O}{o:HO}{t':Nat}(I:Inv X pins σ H s)(mu:oH (H x))(he:e=x\/H e=U (.own x))(k:∀b u,b≠e->s.heap.get? b=U u->h'.get? b=U u)(kF:∃u,h'.get? e=U u)
  (new:aD X.prog X.w (upd H x o) h' x o):Inv X pins σ (upd H x o) {s with heap:=h',toks:=t'}:=I.un (Un.write mu he k kF) (I.aH.write mu he k kF new)
theorem Inv.h9{gk:aq}(I:Inv X pins σ H s)(h:∀p∈gk,s.heap.get? p.1=U p.2/\H p.1=Z/\p.1≠X.env.locals/\p.1∉X.fs/\∀v,p.2.data≠.cell v):Inv X gk σ H s :=
 ⟨I.ok,I.os,I.bare,I.base,I.loc,I.cell,I.free,I.bw,λp hp=>(Xv.mp hp).elim (λz=>I.pin p (Ya _ z)) (h p),I.aH,I.len⟩
theorem yd{N:-R}(hN:N.Nodup){i j:Nat}{x:R}(a:N[i]?=U x)(b:N[j]?=U x):i=j:=by
 let⟨h1,e1⟩:=ph.mp a;let⟨h2,e2⟩:=ph.mp b;calc(ZV hN).mp (e1.trans e2.symm)
theorem DL{M:Model}{A:Β}{E:aM}{i:Nat}{x:R}{v:V}{u:J}{Q:Unit->L->Prop}(I:Inv X pins σ H s)(hN:X.N.Nodup)(hi:X.N[i]?=U x)(hx:Loc X.env.scope x)(r:RelV v u)
  (h:∀s',Inv X pins (σ.set i (U v)) H s'->(∃a,ZW a s.heap s'.heap/\(a=X.env.locals\/X.env.cells.lookup x=U a))->Q () s') (hf:d5 X x:=by first|exact .inl Y|exact .inr Y|assumption):G M A (storeName X.env x u) Q E s:=by
 let⟨m,hn,hl⟩:=id I.loc;let ye:(X.env.scope.kind==.class||(X.env.scope.kind==.module&&X.env.locals != X.env.globals))=ι:=by rw[I.ok.kind];rfl
 let DM:i<↑σ:=by rw[I.len];exact(ph.mp hi).1
 let lz:=I.lz
 let tracked:∀{a:O}{h':Α},(∃o,s.heap.get? a=U o/\H a=Z)->ZW a s.heap h'->bY X.prog X.w H h':=λ{a h'} ha hs b ob e=>by
  let⟨_,_,nh⟩:=ha;calc(I.aH b ob e).dQ (λc w' hc q=>(hs.2 c ?_).trans q) (λ_ q=>q) λ_ _ q=>q;ext rfl;rcases hc with rfl|hc
  .rw[nh] at e;cases e
  .rw[nh] at hc;cases hc
 rcases hx with hk|hk
 .refine wpAny_storeName_local hk hn (λh' gQ hs=>?_) ye
  let⟨oL,_,_,DN,_⟩:=id hn;refine h _ ⟨I.ok,I.os,I.bare,⟨λb o e n hb hx=>?_,λb o e n hb hx=>?_,I.base.free,λb o e hx=>?_,I.base.cA,I.base.cQ,I.base.dR⟩,⟨_,gQ,λj y v' e1 e2 e3=>?_⟩,λy c e=>?_,I.free,I.bw,λp hp=>?_,tracked ⟨oL,DN,I.free⟩ hs,by simpa using I.len⟩ ⟨_,hs,.inl Y⟩
  .exact (hs.2 b (Xg (Xk (EC e) I.ok.above))).trans (I.base.keep b o e n hb hx)
  .let⟨sl,e1⟩:=I.base.slot b o e n hb hx
   exact⟨sl,(hs.2 b (Xg (Xk (EC e) I.ok.above))).trans e1⟩
  .let⟨o',e1⟩:=I.base.there b o e hx
   exact⟨o',(hs.2 b (Xg (Xk (EC e) I.ok.above))).trans e1⟩
  .by_cases hj:j=i
   .subst hj
    rw[hi] at e1;cases e1;rw[Xz DM] at e2;cases e2
    exact⟨u,r,.inl ⟨hk,by simp⟩⟩
   .rw[XG (YV hj)] at e2
    let⟨u',r',q⟩:=hl j y v' e1 e2 e3;calc⟨u',r',?_⟩;rcases q with⟨k,e⟩|⟨k,c,e,z⟩
    .refine .inl ⟨k,?_⟩
     let:y≠x:=λe=>hj (yd hN e1 (e▸hi));simp[this,e]
    .exact .inr ⟨k,c,e,z.sameBut hs (lz y c e)⟩
  .let⟨w',z⟩:=I.cell y c e
   exact⟨w',z.sameBut hs (lz y c e)⟩
  .let⟨e,n,ne,nf,d⟩:=I.pin p hp
   exact⟨(hs.2 p.1 ne).trans e,n,ne,nf,d⟩
 .let iG:X.fn x=θ:=by
   rcases hf with z|z
   .exact z
   .rw[z] at hk;cases hk
  let⟨c,hc⟩:=I.ok.has x (.inl hk);let⟨w',z⟩:=I.cell x c hc;calc wpAny_storeName_cell I.ok.kind hk hc z (λh' ni hs=>?_);let⟨oc,DO,yf⟩:=id z;refine h {s with heap:=h'} ⟨I.ok,I.os,I.bare,⟨λb o e n hb hx=>?_,λb o e n hb hx=>?_,I.base.free,λb o e hx=>?_,I.base.cA,I.base.cQ,I.base.dR⟩,⟨m,hn.sameBut hs (YV (lz x c hc)),λj y v' e1 e2 e3=>?_⟩,λy c' e=>?_,I.free,I.bw,λp hp=>?_,tracked ⟨oc,DO,I.bw x c hc⟩ hs,by simpa using I.len⟩ ⟨c,hs,.inr hc⟩
  .exact (hs.2 b (Xg (Xk (EC e) (I.ok.m_ x c iG hc)))).trans (I.base.keep b o e n hb hx)
  .let⟨sl,e1⟩:=I.base.slot b o e n hb hx
   exact⟨sl,(hs.2 b (Xg (Xk (EC e) (I.ok.m_ x c iG hc)))).trans e1⟩
  .let⟨o',e1⟩:=I.base.there b o e hx
   exact⟨o',(hs.2 b (Xg (Xk (EC e) (I.ok.m_ x c iG hc)))).trans e1⟩
  .by_cases hj:j=i
   .subst hj
    rw[hi] at e1;cases e1;rw[Xz DM] at e2;cases e2
    exact⟨u,r,.inr ⟨.inl hk,c,hc,ni⟩⟩
   .rw[XG (YV hj)] at e2
    let⟨u',r',q⟩:=hl j y v' e1 e2 e3;calc⟨u',r',?_⟩;rcases q with q|⟨k,c',e,z'⟩
    .exact .inl q
    .refine .inr ⟨k,c',e,z'.sameBut hs ?_⟩
     ext rfl;exact hj (yd hN e1 (I.ok.inj _ _ _ e hc▸hi))
  .by_cases hcc:c'=c
   .subst hcc;exact⟨_,ni⟩
   .let⟨w2,z2⟩:=I.cell y c' e
    exact⟨w2,z2.sameBut hs hcc⟩
  .let⟨e,n,ne,nf,d⟩:=I.pin p hp
   calc⟨(hs.2 p.1 ?_).trans e,n,ne,nf,d⟩;ext q;rw[q,DO] at e;let q':oc=p.2:=Xt e;calc d w' (by rw[<-q'];calc yf)
theorem vF{M:Model}{A:q}{E:aM}{i:Nat}{x:R}{v:V}{u:J}{Q:Unit->L->Prop}(I:Inv X pins σ H s)(hN:X.N.Nodup)(hi:X.N[i]?=U x)(hx:Loc X.env.scope x)(r:RelV v u)
  (h:∀s',Inv X pins (σ.set i (U v)) H s'->Q () s') (hf:d5 X x:=by first|exact .inl Y|exact .inr Y|assumption):G M A (storeName X.env x u) Q E s :=
 DL I hN hi hx r (λs' I' _=>h s' I') hf
theorem Inv.h_{s':L}{ch:-O}(I:Inv X pins σ H s)(ho:s'.os=s.os)(u:Un (dM X.stack) ch H H' s.heap s'.heap)(aH:bY X.prog X.w H' s'.heap)(hg:AllBare s'.gens)
  (kH:∀b∈ch,(b∈X.ex\/⇑X.s₀<=b)/\b≠X.env.locals/\(∀x c,X.env.cells.lookup x=U c->c≠b)/\∀p∈X.pn++pins,p.1≠b):Inv X pins σ H' s':=by
 let⟨h',g',d',t',o'⟩:=s';let e:o'=s.os:=ho;subst e;calc I.call (g':=g') (t':=t') (d':=d') u aH hg kH
end
abbrev XK:=J->Option O->Hp->Prop
abbrev St:=-(Option V)
abbrev VK:=V->Hp->Prop
abbrev TE:=St->Hp->VK->Prop
abbrev TT:=St->Hp->(Bool->Hp->Prop)->Prop
abbrev TA:=St->Hp->(-V->Hp->Prop)->Prop
structure Ends where
 nx:St->Hp->Prop
 rt:VK
 bk:St->Hp->Prop:=λ_ _=>False
 ct:St->Hp->Prop:=λ_ _=>False
abbrev TS:=Ends->St->Hp->Prop
def EP(X:Cx)(pins:aq)(σ:St)(Q:VK)(u:J)(s':L):Prop:=∃v H',Inv X pins σ H' s'/\RelV v u/\Q v H'
def TP(X:Cx)(pins:aq)(σ:St)(Q:Bool->Hp->Prop)(b:Bool)(s':L):Prop:=∃H',Inv X pins σ H' s'/\Q b H'
def AP(X:Cx)(pins:aq)(σ:St)(Q:-V->Hp->Prop)(us:-J)(s':L):Prop:=∃vs H',Inv X pins σ H' s'/\Vals vs us/\Q vs H'
def SP(X:Cx)(pins:aq)(D:Ends)(f:Flow)(s':L):Prop :=
 match f with
 |.next=>∃σ' H',Inv X pins σ' H' s'/\D.nx σ' H'
 |.brk=>∃σ' H',Inv X pins σ' H' s'/\D.bk σ' H'
 |.cont=>∃σ' H',Inv X pins σ' H' s'/\D.ct σ' H'
 |.ret u=>∃v σ' H',Inv X pins σ' H' s'/\RelV v u/\D.rt v H'
structure JE(X:Cx)(e:B)(t:TE):Prop where
 out:∀(pins:aq)(s:L)(σ:St)(H:Hp)(Q:VK),Inv X pins σ H s->t σ H Q->G (M X.prog X.w) X.A (eval e X.env) (EP X pins σ Q) X.xe s
instance {X:Cx} {e:B} {t:TE}:CoeFun (JE X e t) (λ_=>∀(pins:aq)(s:L)(σ:St)(H:Hp)(Q:VK),Inv X pins σ H s->t σ H Q->G (M X.prog X.w) X.A (eval e X.env) (EP X pins σ Q) X.xe s):=⟨JE.out⟩
structure JT(X:Cx)(e:B)(t:TT):Prop where
 out:∀(pins:aq)(s:L)(σ:St)(H:Hp)(Q:Bool->Hp->Prop),Inv X pins σ H s->t σ H Q->G (M X.prog X.w) X.A (isTrue e X.env (eval e X.env)) (TP X pins σ Q) X.xe s
instance {X:Cx} {e:B} {t:TT}:CoeFun (JT X e t) (λ_=>∀(pins:aq)(s:L)(σ:St)(H:Hp)(Q:Bool->Hp->Prop),Inv X pins σ H s->t σ H Q->G (M X.prog X.w) X.A (isTrue e X.env (eval e X.env)) (TP X pins σ Q) X.xe s):=⟨JT.out⟩
structure JW(X:Cx)(e:B)(t:TT):Prop where
 out:∀(whole:Sem J)(pins:aq)(s:L)(σ:St)(H:Hp)(Q:Bool->Hp->Prop),Inv X pins σ H s->t σ H Q->G (M X.prog X.w) X.A (isTrue e X.env whole) (TP X pins σ Q) X.xe s
instance {X:Cx} {e:B} {t:TT}:CoeFun (JW X e t) (λ_=>∀(whole:Sem J)(pins:aq)(s:L)(σ:St)(H:Hp)(Q:Bool->Hp->Prop),Inv X pins σ H s->t σ H Q->G (M X.prog X.w) X.A (isTrue e X.env whole) (TP X pins σ Q) X.xe s):=⟨JW.out⟩
theorem JW.jt{X:Cx}{e:B}{t:TT}(h:JW X e t):JT X e t:=⟨h.out _⟩
structure JA(X:Cx)(es:-B)(t:TA):Prop where
 out:∀(pos:y)(pins:aq)(s:L)(σ:St)(H:Hp)(Q:-V->Hp->Prop),Inv X pins σ H s->t σ H Q->G (M X.prog X.w) X.A (spliced (backTo pos (starEach es X.env))) (AP X pins σ Q) X.xe s
instance {X:Cx} {es:-B} {t:TA}:CoeFun (JA X es t) (λ_=>∀(pos:y)(pins:aq)(s:L)(σ:St)(H:Hp)(Q:-V->Hp->Prop),Inv X pins σ H s->t σ H Q->G (M X.prog X.w) X.A (spliced (backTo pos (starEach es X.env))) (AP X pins σ Q) X.xe s):=⟨JA.out⟩
structure JS(X:Cx)(st:o)(t:TS):Prop where
 out:∀(pins:aq)(s:L)(σ:St)(H:Hp)(D:Ends),Inv X pins σ H s->t D σ H->G (M X.prog X.w) X.A (exec st X.env) (SP X pins D) X.xe s
instance {X:Cx} {st:o} {t:TS}:CoeFun (JS X st t) (λ_=>∀(pins:aq)(s:L)(σ:St)(H:Hp)(D:Ends),Inv X pins σ H s->t D σ H->G (M X.prog X.w) X.A (exec st X.env) (SP X pins D) X.xe s):=⟨JS.out⟩
structure bR(X:Cx)(st:-o)(t:TS):Prop where
 out:∀(pins:aq)(s:L)(σ:St)(H:Hp)(D:Ends),Inv X pins σ H s->t D σ H->G (M X.prog X.w) X.A (execs st X.env) (SP X pins D) X.xe s
instance {X:Cx} {st:-o} {t:TS}:CoeFun (bR X st t) (λ_=>∀(pins:aq)(s:L)(σ:St)(H:Hp)(D:Ends),Inv X pins σ H s->t D σ H->G (M X.prog X.w) X.A (execs st X.env) (SP X pins D) X.xe s):=⟨bR.out⟩
theorem aS{α:Type}{t:Sem α}{Q Q':α->L->Prop}{M:Model}{A:q}{E:aM}{s:L}(h:G M A t Q E s)(hQ:∀a s,Q a s->Q' a s):G M A t Q' E s:=YD h hQ λ_ _ x=>x
section
variable{X:Cx}
def b6(i:Nat):TE:=fun σ H Q=>∃v,σ[i]?=U (U v)/\Q v H
def tC(v:V):TE:=λ_ H Q=>Q v H
theorem DP{i:Nat}{x:R}{pos:y}(hN:X.N[i]?=U x)(hv:qv X.env.scope x)(hd:bf x:=by decide)(fE:(x==("__classdict__" : R))=ι:=by decide):JE X (.Name x pos) (b6 i):=by
 calc⟨?_⟩;ext pins s σ H Q I h;let⟨v,e,h⟩:=h;let⟨m,hn,hl⟩:=I.loc;let⟨u,r,l⟩:=hl i x v hN e hv;let fin:EP X pins σ Q u s:=⟨v,H,I,r,h⟩;rcases l with⟨hk,hm⟩|⟨hk,c,hc,nk⟩
 .exact q33 (wpAny_loadName_local I.ok.kind hk hn hm fin) hd
 .rcases hk with hk|hk
  .exact q33 (wpAny_loadName_cell I.ok.kind hk hc nk fin) hd
  .calc q33 (wpAny_loadName_free I.ok.kind hk hc nk fin fE) hd
theorem jG{i j pos}:JE X (.Constant (.int i) j pos) (tC (.int i)):=⟨λ_ _ _ H _ I h=>wpAny_Constant_int ⟨.int i,H,I.tok _,⟨_,Y⟩,h⟩⟩
theorem yg{b j pos}:JE X (.Constant (.bool b) j pos) (tC (.bl b)):=⟨λ_ _ _ H _ I h=>Constant_bool ⟨.bl b,H,I,Y,h⟩⟩
theorem Kz{j pos}:JE X (.Constant .none j pos) (tC .non):=⟨λ_ _ _ H _ I h=>Constant_none ⟨.non,H,I,Y,h⟩⟩
theorem si{x j pos}:JE X (.Constant (.str x) j pos) (tC (.str x)):=⟨λ_ _ _ H _ I h=>Calls.Constant_str ⟨.str x,H,I.tok _,⟨_,Y⟩,h⟩
⟩
def Gl(X:Cx)(x:R):Prop:=X.env.kindOf x=U .globalImplicit
theorem sj{E:aM}{pins:aq}{s:L}{σ:St}{H:Hp}{x:R}{u:J}{pos:y}{Q:aM}(I:Inv X pins σ H s)(hg:Gl X x)(hm:X.mg x=U u)(h:Q u s)
  (hd:bf x:=by decide):G (M X.prog X.w) X.A (eval (.Name x pos) X.env) Q E s :=
 q0Y I.ok.kind hg (Calls.loadGlobal_global (by rw[I.ok.glob];calc I.mod.glob.keeps I.bk) hm h) hd
theorem nq{E:aM}{pins:aq}{s:L}{σ:St}{H:Hp}{x:R}{u:J}{pos:y}{Q:aM}(I:Inv X pins σ H s)(hg:Gl X x)(hm:X.mg x=Z)(hv:bootBuiltins x=U u)(h:Q u s)
  (hn:x≠"__name__" := by decide) (hd:bf x:=by decide):G (M X.prog X.w) X.A (eval (.Name x pos) X.env) Q E s:=by
 let⟨mb,h1,h2⟩:=I.mod.blt;calc q0Y I.ok.kind hg (Calls.loadGlobal_builtin (by rw[I.ok.glob];calc I.mod.glob.keeps I.bk) hm (by rw[I.ok.blt];calc h1.keeps I.bk) ((h2 x hn).trans hv) h) hd
theorem qA{x:R}{v:V}{u:J}{pos:y}(hg:Gl X x)(hm:X.mg x=U u)(r:RelV v u)(hd:bf x:=by decide):JE X (.Name x pos) (tC v):=⟨λ_ _ _ H _ I h=>sj I hg hm ⟨v,H,I,r,h⟩ hd⟩
theorem DQ{x:R}{v:V}{u:J}{pos:y}(hg:Gl X x)(hm:X.mg x=Z)(hv:bootBuiltins x=U u)(r:RelV v u)(hn:x≠"__name__" := by decide)(hd:bf x:=by decide):JE X (.Name x pos) (tC v):=⟨λ_ _ _ H _ I h=>nq I hg hm hv ⟨v,H,I,r,h⟩ hn hd
⟩
variable{a b:B}{ta tb:TE}{pos:y}
structure JC(X:Cx)(op:CmpOp)(a b:B)(t:TE):Prop where
 out:∀(pins:aq)(s:L)(σ:St)(H:Hp)(Q:VK),Inv X pins σ H s->t σ H Q →
  G (M X.prog X.w) X.A (eval a X.env) (λv s₁=>G (M X.prog X.w) X.A (eval b X.env) (λu s₂=>G (M X.prog X.w) X.A (compareOp op v u) (EP X pins σ Q) X.xe s₂) X.xe s₁) X.xe s
instance {X:Cx} {op:CmpOp} {a b:B} {t:TE}:CoeFun (JC X op a b t) (λ_=>∀(pins:aq)(s:L)(σ:St)(H:Hp)(Q:VK),Inv X pins σ H s->t σ H Q->G (M X.prog X.w) X.A (eval a X.env) (λv s₁=>G (M X.prog X.w) X.A (eval b X.env) (λu s₂=>G (M X.prog X.w) X.A (compareOp op v u) (EP X pins σ Q) X.xe s₂) X.xe s₁) X.xe s):=⟨JC.out⟩
theorem KA(b:B){op:CmpOp}(h:op≠.In)(h2:op≠.NotIn):behindInMarks op b=ι:=by
 let e1:(op==CmpOp.In)=ι:=by cases op<;>first|rfl|exact absurd Y h
 let e2:(op==CmpOp.NotIn)=ι:=by cases op<;>first|rfl|exact absurd Y h2
 cases b<;>simp[behindInMarks,e1,e2]
def sk(ta:TE):TE:=fun σ H Q=>ta σ H λx H1=>Q (.bl (S (x=.non))) H1
theorem RelV.jH{x:V}{v:J}(r:RelV x v):(v==Yr)=S (x=.non):=by
 cases x with
 |non=>cases r;rfl
 |bl _=>cases r;rfl
 |int _=>let⟨t,rfl⟩:=r;rfl
 |str _=>let⟨t,rfl⟩:=r;rfl
 |byt _=>let⟨t,rfl⟩:=r;rfl
 |flt _=>let⟨t,rfl⟩:=r;rfl
 |ref _=>cases r;rfl
 |ty _=>cases r;rfl
theorem KC{j pos'}(ha:JE X a ta):JC X .Is a (.Constant .none j pos') (sk ta):=by
 calc⟨?_⟩;ext pins s σ H Q I h;calc aS (ha pins s σ H _ I h) λv s1 h0_=>el5 h0_ λx H1 I1 r1 q1=>?_;calc Constant_none (is_none_gen ⟨.bl _,H1,I1,by rw[r1.jH];rfl,q1⟩)
def tB(t:TE):TT:=fun σ H Q=>t σ H λx H1=>∃c,x=.bl c/\Q c H1
theorem DR{op:CmpOp}{t:TE}(h:JC X op a b t)(h1:behindInMarks op b=ι:=by first|exact KA _ (by decide) (by decide)|rfl):JT X (.Compare a [op] [b] pos) (tB t):=by
 calc⟨?_⟩;ext pins s σ H Q I hw;calc q1V (aS (h pins s σ H _ I hw) λv s1 h1=>aS h1 λu s2 h2=>aS h2 λc s3 h0_=>el5 h0_ λx H1 I1 r1 q1=>?_) h1;let⟨d,rfl,q⟩:=q1;cases r1
 calc YY ⟨H1,I1,q⟩
theorem yh{e:B}{t:TE}(h:JE X e t)(he:∀whole,isTrue e X.env whole=(do let v <- whole;standAt e.pos;holding [v] (truthy v)):=by ext _;rfl):JT X e (tB t):=by
 calc⟨?_⟩;ext pins s σ H Q I hw;calc isTrue_plain (aS (h pins s σ H _ I hw) λv s1 h0_=>el5 h0_ λx H1 I1 r1 q1=>?_) (he _);let⟨d,rfl,q⟩:=q1;cases r1
 calc YY ⟨H1,I1,q⟩
variable{tA vG:TT}{rest:-B}
def so(t u:TT):TT:=fun σ H Q=>t σ H λc H1=>if c=θ then u σ H1 Q else Q ι H1
def DT(t u:TT):TT:=fun σ H Q=>t σ H λc H1=>if c=θ then Q θ H1 else u σ H1 Q
def yi(t:TT):TT:=fun σ H Q=>t σ H λc H1=>Q (!c) H1
theorem KD(ha:JT X a tA):JW X (.BoolOp .And [a] pos) tA:=by
 calc⟨?_⟩;ext wh pins s σ H Q I h;refine isTrue_and (aS (ha pins s σ H Q I h) λc s1 e=>?_)
 cases c with
 |true=>exact isTrue_and_nil e
 |false=>calc e
theorem DU(ha:JT X a tA):JW X (.BoolOp .Or [a] pos) tA:=by
 calc⟨?_⟩;ext wh pins s σ H Q I h;refine isTrue_or (aS (ha pins s σ H Q I h) λc s1 e=>?_)
 cases c with
 |false=>exact isTrue_or_nil e
 |true=>calc e
theorem KG(ha:JT X a tA)(hb:JW X (.BoolOp .And (b::rest) pos) vG):JW X (.BoolOp .And (a::b::rest) pos) (so tA vG):=by
 calc⟨?_⟩;ext wh pins s σ H Q I h;refine isTrue_and (aS (ha pins s σ H _ I h) λc s1 h0_=>el3 h0_ λH1 I1 q1=>?_)
 cases c with
 |true=>exact hb wh pins s1 σ H1 Q I1 q1
 |false=>calc⟨H1,I1,q1⟩
theorem yj(ha:JT X a tA)(hb:JW X (.BoolOp .Or (b::rest) pos) vG):JW X (.BoolOp .Or (a::b::rest) pos) (DT tA vG):=by
 calc⟨?_⟩;ext wh pins s σ H Q I h;refine isTrue_or (aS (ha pins s σ H _ I h) λc s1 h0_=>el3 h0_ λH1 I1 q1=>?_)
 cases c with
 |true=>exact⟨H1,I1,q1⟩
 |false=>calc hb wh pins s1 σ H1 Q I1 q1
theorem yk(ha:JT X a tA):JT X (.UnaryOp .Not a pos) (yi tA):=by
 calc⟨?_⟩;ext pins s σ H Q I h;calc isTrue_not (ha pins s σ H (λc H1=>Q (!c) H1) I h)
def KH(ta tb:TE):TE:=fun σ H Q=>ta σ H λx H1=>∃c,x=.bl c/\if c=θ then tb σ H1 Q else Q (.bl ι) H1
def KI(ta:TE):TE:=fun σ H Q=>ta σ H λx H1=>∃c,x=.bl c/\Q (.bl (!c)) H1
theorem KJ{op}{t:TE}(h:JE X a t):JE X (.BoolOp op [a] pos) t:=⟨λpins s σ H Q I hw=>BoolOp_one (h pins s σ H Q I hw)⟩
theorem KN(ha:JE X a ta)(hb:JE X (.BoolOp .And (b::rest) pos) tb):JE X (.BoolOp .And (a::b::rest) pos) (KH ta tb):=by
 calc⟨?_⟩;ext pins s σ H Q I h;calc BoolOp_and (aS (ha pins s σ H _ I h) λv s1 h0_=>el5 h0_ λx H1 I1 r1 q1=>?_);let⟨c,rfl,q1⟩:=q1;cases r1
 refine YY ?_
 cases c with
 |true=>exact hb pins s1 σ H1 Q I1 q1
 |false=>calc⟨.bl ι,H1,I1,Y,q1⟩
theorem KO(ha:JE X a ta):JE X (.UnaryOp .Not a pos) (KI ta):=by
 calc⟨?_⟩;ext pins s σ H Q I h;calc UnaryOp_ (aS (ha pins s σ H _ I h) λv s1 h0_=>el5 h0_ λx H1 I1 r1 q1=>?_);let⟨c,rfl,q1⟩:=q1;cases r1
 calc not_of (YY ⟨.bl (!c),H1,I1,Y,q1⟩)
def DW(t:TT)(ta tb:TE):TE:=fun σ H Q=>t σ H λc H1=>if c=θ then ta σ H1 Q else tb σ H1 Q
theorem ym{c:B}(hc:JT X c tA)(ha:JE X a ta)(hb:JE X b tb):JE X (.IfExp c a b pos) (DW tA ta tb):=by
 calc⟨?_⟩;ext pins s σ H Q I h;refine wpAny_IfExp (aS (hc pins s σ H _ I h) λd s1 h0_=>el3 h0_ λH1 I1 q1=>?_)
 cases d with
 |true=>exact ha pins s1 σ H1 Q I1 q1
 |false=>calc hb pins s1 σ H1 Q I1 q1
end
def aX(K:tu)(H:Hp)(a:O)(xs:-V):Prop :=
 Rd H a (.lst xs) ∨
  ∃(o:f)(ah:Array J)(n:Nat),K.lookup a=U o/\o.cls=.type "list" /\ o.dict=Z/\o.data=.seq ah n/\ah.size<=sizeLine/\Vals xs ah.toList
def bo(K:tu)(H:Hp)(a:O)(xs:-V):Prop :=
 Rd H a (.tup xs) ∨
  ∃(o:f)(ah:Array J)(n:Nat),K.lookup a=U o/\o.cls=.type "tuple" /\ o.data=.seq ah n/\ah.size<=sizeLine/\Vals xs ah.toList
noncomputable def yn:J->Option V
 |.none=>U .non
 |.bool b=>U (.bl b)
 |.int i _=>U (.int i)
 |.str x _=>U (.str x)
 |.bytes b _=>U (.byt b)
 |.float b _=>U (.flt b)
 |.ref a=>U (.ref a)
 |.type n=>U (.ty n)
 |_=>Z
theorem RelV.abs{x:V}{u:J}(r:RelV x u):yn u=U x:=by
 cases x with
 |non=>cases r;rfl
 |bl _=>cases r;rfl
 |int _=>let⟨t,rfl⟩:=r;rfl
 |str _=>let⟨t,rfl⟩:=r;rfl
 |byt _=>let⟨t,rfl⟩:=r;rfl
 |flt _=>let⟨t,rfl⟩:=r;rfl
 |ref _=>cases r;rfl
 |ty _=>cases r;rfl
theorem RelV.inj{x y:V}{u:J}(r:RelV x u)(q:RelV y u):x=y:=Xt (r.abs.symm.trans q.abs)
theorem Vals.inj:∀{xs ys:-V}{us:-J},Vals xs us->Vals ys us->xs=ys
 |_,_,_,.nil,.nil=>Y
 |_,_,_,.cons r t,.cons r' t'=>by rw[r.inj r',Vals.inj t t']
section
variable{X:Cx}{pins:aq}{σ:St}{H:Hp}{s:L}{a:O}{xs ys:-V}
theorem aX.of{K:tu}(h:H a=U (.lst xs)):aX K H a xs:=.inl (.inl h)
theorem bo.of{K:tu}(h:H a=U (.tup xs)):bo K H a xs:=.inl (.inl h)
theorem Inv.list(I:Inv X pins σ H s)(h:aX X.K H a xs):∃ah:-J,Vals xs ah/\PlainL s.heap a ah.toArray/\↑xs<=sizeLine:=by
 rcases h with h|⟨o,ah,n,hk,hc,hd,hs,hz,r⟩
 .let⟨z,ah,n,r,e⟩:=h.ok I.aH
  exact⟨ah,r,⟨_,n,e,Y,Y,Y⟩,z⟩
 .refine⟨ah.toList,r,⟨o,n,I.cB a o hk,hc,hd,by simpa using hs⟩,?_⟩
  let e:=↑r;erw[Mx] at e;symm
theorem Inv.tuple(I:Inv X pins σ H s)(h:bo X.K H a xs):∃ah:-J,Vals xs ah/\IsTup s.heap a ah.toArray/\↑xs<=sizeLine:=by
 rcases h with h|⟨o,ah,n,hk,hc,hs,hz,r⟩
 .let⟨z,ah,r,p⟩:=h.ok I.aH
  exact⟨ah,r,p,z⟩
 .refine⟨ah.toList,r,⟨o,I.cB a o hk,hc,n,by simpa using hs⟩,?_⟩
  let e:=↑r;erw[Mx] at e;symm
theorem Inv.eG(I:Inv X pins σ H s)(h:aX X.K H a xs)(h':aX X.K H a ys):xs=ys:=by
 let⟨ah,r,⟨o,n,e,_,_,d⟩,_⟩:=I.list h;let⟨its',r',⟨o',n',e',_,_,d'⟩,_⟩:=I.list h';rw[e] at e';cases e';rw[d] at d';injection d' with d1 _;let:ah=its':=by simpa using congrArg q45 d1
 subst this;calc r.inj r'
theorem Inv.dS(I:Inv X pins σ H s)(h:bo X.K H a xs)(h':bo X.K H a ys):xs=ys:=by
 let⟨ah,r,⟨o,e,_,n,d⟩,_⟩:=I.tuple h;let⟨its',r',⟨o',e',_,n',d'⟩,_⟩:=I.tuple h';rw[e] at e';cases e';rw[d] at d';injection d' with d1 _;let:ah=its':=by simpa using congrArg q45 d1
 subst this;calc r.inj r'
end
noncomputable abbrev Cx.e_(X:Cx)(E:aM):Cx:={X with xe:=E}
noncomputable abbrev Cx.nv(X:Cx):Cx:=X.e_ λ_ _=>False
theorem Cx.Ok.e_{X:Cx}(ok:X.Ok)(E:aM):(X.e_ E).Ok :=
 ⟨ok.mod,ok.kind,ok.glob,ok.blt,ok.above,ok.inj,ok.has,ok.m_,ok.hd,ok.frames,ok.oK,ok.sd,ok.bs,ok.jD,ok.gj,ok.gT,ok.cS,ok.kG⟩
theorem Cx.Ok.cm{X:Cx}{E:aM}(ok:(X.e_ E).Ok):X.Ok :=
 ⟨ok.mod,ok.kind,ok.glob,ok.blt,ok.above,ok.inj,ok.has,ok.m_,ok.hd,ok.frames,ok.oK,ok.sd,ok.bs,ok.jD,ok.gj,ok.gT,ok.cS,ok.kG⟩
section
variable{X:Cx}{pins:aq}{σ:St}{H:Hp}{s:L}{E:aM}
theorem Inv.e_(I:Inv X pins σ H s)(E:aM):Inv (X.e_ E) pins σ H s:=⟨I.ok.e_ E,I.os,I.bare,I.base,I.loc,I.cell,I.free,I.bw,I.pin,I.aH,I.len⟩
theorem Inv.cm(I:Inv (X.e_ E) pins σ H s):Inv X pins σ H s:=⟨I.ok.cm,I.os,I.bare,I.base,I.loc,I.cell,I.free,I.bw,I.pin,I.aH,I.len⟩
theorem SP.cm{D:Ends}{f:Flow}{s':L}(h:SP (X.e_ E) pins D f s'):SP X pins D f s':=by
 cases f with
 |next=>let⟨σ',H',I,q⟩:=h;exact⟨σ',H',I.cm,q⟩
 |brk=>let⟨σ',H',I,q⟩:=h;exact⟨σ',H',I.cm,q⟩
 |cont=>let⟨σ',H',I,q⟩:=h;exact⟨σ',H',I.cm,q⟩
 |ret u=>let⟨v,σ',H',I,r,q⟩:=h;calc⟨v,σ',H',I.cm,r,q⟩
theorem bR.nv{st:-o}{t:TS}(h:bR X.nv st t):bR X st t:=⟨λpins s σ H D I hw =>
 YD (h pins s σ H D (I.e_ _) hw) (λ_ _ q=>q.cm) λ_ _ z=>X1 z⟩
end
section
variable{X:Cx}{st:o}{rest:-o}{t u:TS}{e:B}{te:TE}{pos:y}
def KP:TS:=λD σ H=>D.nx σ H
def jI(t u:TS):TS:=λD σ H=>t {D with nx:=u D} σ H
theorem ig:bR X [] KP:=⟨λ_ _ σ H _ I h=>q0J ⟨σ,H,I,h⟩⟩
theorem lB(h1:JS X st t)(h2:bR X rest u):bR X (st::rest) (jI t u):=by
 calc⟨?_⟩;ext pins s σ H D I h;refine q3o (aS (h1 pins s σ H {D with nx:=u D} I h) λf s1 q=>?_)
 cases f with
 |next =>
  let⟨σ',H',I',q⟩:=q;exact h2 pins s1 σ' H' D I' q
 |ret v=>exact q
 |brk=>exact q
 |cont=>calc q
theorem kI(h1:JS X st t):bR X [st] t:=by
 calc⟨?_⟩;ext pins s σ H D I h;refine q3o (aS (h1 pins s σ H D I h) λf s1 q=>?_)
 cases f with
 |next=>exact q0J q
 |ret v=>exact q
 |brk=>exact q
 |cont=>calc q
theorem Inv.quiet{pins:aq}{σ:St}{H:Hp}{s:L}(I:Inv X pins σ H s):interactive X.env=ι:=by simp[interactive,I.ok.kind]
def DX(te:TE):TS:=λD σ H=>te σ H λ_ H1=>D.nx σ H1
theorem vH(he:JE X e te)(hs:swapsWith e Z pos.line X.env=pure ι:=by rfl):JS X (.Expr e pos) (DX te):=by
 calc⟨?_⟩;ext pins s σ H D I h;calc wpAny_Expr_any (aS (he pins s σ H _ I h) λv s1 h0_=>el5 h0_ λx H1 I1 r1 q1 =>⟨σ,H1,I1,q1⟩) I.quiet hs
def oM(te:TE):TS:=λD σ H=>te σ H D.rt
theorem qB(he:JE X e te):JS X (.Return (U e) pos) (oM te):=by
 calc⟨?_⟩;ext pins s σ H D I h;calc wpAny_Return_some (aS (he pins s σ H _ I h) λv s1 h0_=>el5 h0_ λx H1 I1 r1 q1 =>⟨x,σ,H1,I1,r1,q1⟩)
def yo(c:TT)(t u:TS):TS:=λD σ H=>c σ H λb H1=>if b=θ then t D σ H1 else u D σ H1
theorem DY{c:B}{a b:-o}{tc:TT}(hc:JT X c tc)(ha:bR X a t)(hb:bR X b u):JS X (.If c a b pos) (yo tc t u):=by
 calc⟨?_⟩;ext pins s σ H D I h;refine wpAny_If (aS (hc pins s σ H _ I h) λd s1 h0_=>el3 h0_ λH1 I1 q1=>?_)
 cases d with
 |true=>exact ha pins s1 σ H1 D I1 q1
 |false=>calc hb pins s1 σ H1 D I1 q1
def KQ:TS:=λ_ _ _=>False
theorem iH{KR:-o}:bR X KR KQ:=⟨λ_ _ _ _ _ _ h=>h.elim⟩
end
abbrev TG:=V->St->Hp->(St->Hp->Prop)->Prop
abbrev jf:=-V->St->Hp->(St->Hp->Prop)->Prop
structure JG(X:Cx)(target:B)(t:TG):Prop where
 out:∀(pins:aq)(s:L)(σ:St)(H:Hp)(v:V)(u:J)(Q:St->Hp->Prop),Inv X pins σ H s->RelV v u->t v σ H Q →
  G (M X.prog X.w) X.A (assign target X.env u) (λ_ s'=>∃σ' H',Inv X pins σ' H' s'/\Q σ' H') X.xe s
instance {X:Cx} {target:B} {t:TG}:CoeFun (JG X target t) (λ_=>∀(pins:aq)(s:L)(σ:St)(H:Hp)(v:V)(u:J)(Q:St->Hp->Prop),Inv X pins σ H s->RelV v u->t v σ H Q->G (M X.prog X.w) X.A (assign target X.env u) (λ_ s'=>∃σ' H',Inv X pins σ' H' s'/\Q σ' H') X.xe s):=⟨JG.out⟩
structure ij(X:Cx)(ts:-B)(t:jf):Prop where
 out:∀(pins:aq)(s:L)(σ:St)(H:Hp)(vs:-V)(us:-J)(Q:St->Hp->Prop),Inv X pins σ H s->Vals vs us->t vs σ H Q →
  G (M X.prog X.w) X.A (assignInOrder ((assignEach ts X.env).map (·.2)) us) (λ_ s'=>∃σ' H',Inv X pins σ' H' s'/\Q σ' H') X.xe s
instance {X:Cx} {ts:-B} {t:jf}:CoeFun (ij X ts t) (λ_=>∀(pins:aq)(s:L)(σ:St)(H:Hp)(vs:-V)(us:-J)(Q:St->Hp->Prop),Inv X pins σ H s->Vals vs us->t vs σ H Q->G (M X.prog X.w) X.A (assignInOrder ((assignEach ts X.env).map (·.2)) us) (λ_ s'=>∃σ' H',Inv X pins σ' H' s'/\Q σ' H') X.xe s):=⟨ij.out⟩
abbrev oN:=V->V->V->Hp->(Hp->Prop)->Prop
def su(X:Cx)(t:oN):Prop :=
 ∀(pins:aq)(s:L)(σ:St)(H:Hp)(o i v:V)(ov iv u:J)(Q:Hp->Prop),Inv X pins σ H s->RelV o ov->RelV i iv->RelV v u->t o i v H Q →
  G (M X.prog X.w) X.A (setItem ov iv u) (λ_ s'=>∃H',Inv X pins σ H' s'/\Q H') X.xe s
section
variable{X:Cx}{pos:y}
def gm(i:Nat):TG:=λv σ H Q=>Q (σ.set i (U v)) H
theorem sv{i:Nat}{x:R}(hN:X.N.Nodup)(hi:X.N[i]?=U x)(hx:Loc X.env.scope x)(hf:d5 X x:=by first|exact .inl Y|exact .inr Y|assumption):JG X (.Name x pos) (gm i):=by
 calc⟨?_⟩;ext pins s σ H v u Q I r h;calc q2Z (vF I hN hi hx r (λs' I'=>⟨_,H,I',h⟩) hf)
def sx:jf:=λvs σ H Q=>vs=[]/\Q σ H
def yp(t:TG)(u:jf):jf:=λvs σ H Q=>∃v r,vs=v::r/\t v σ H fun σ' H'=>u r σ' H' Q
theorem fP:ij X [] sx:=by
 calc⟨?_⟩;ext pins s σ H vs us Q I r h;let⟨e,h⟩:=h;subst e;cases r
 calc assignInOrder_nil ⟨σ,H,I,h⟩
theorem sy{e:B}{es:-B}{t:TG}{u:jf}(h1:JG X e t)(h2:ij X es u)
  (hs:(assignEach (e::es) X.env).map (·.2)=assign e X.env::(assignEach es X.env).map (·.2):=by rfl):ij X (e::es) (yp t u):=by
 calc⟨?_⟩;ext pins s σ H vs us Q I r h;let⟨v,vr,e1,h⟩:=h;subst e1
 cases r with
 |cons r rr =>
  rw[hs];calc assignInOrder_cons (aS (h1 pins s σ H _ _ _ I r h) λ_ s1 ⟨σ1,H1,I1,q1⟩=>?_);calc h2 pins s1 σ1 H1 _ _ Q I1 rr q1
def sA(K:tu)(n:Nat)(t:jf):TG:=λv σ H Q=>∃a xs,v=.ref a/\bo K H a xs/\↑xs=n/\t xs σ H Q
theorem yq{es:-B}{k:Nat}{t:jf}{n:Nat}(hc:X.calm=θ)(h:ij X es t)
  (hn:↑(assignEach es X.env)=n:=by rfl) (f9:(assignEach es X.env).findIdx? (·.1)=Z:=by rfl):JG X (.Tuple es k pos) (sA X.K n t):=by
 calc⟨?_⟩;ext pins s σ H v u Q I r hw;let⟨a,xs,e1,hq,hl,hw⟩:=hw;subst e1;cases r
 let⟨ah,rv,ht,hz⟩:=I.tuple hq;calc assign_Tuple_tuple (I.ok.hd hc) ht (by simp[hn,<-hl,rv.length]) f9 λh' hx=>?_;let I1:Inv X pins σ H {s with heap:=h'}:=I.kept (t':=s.toks) λb o e=>hx b o (Xg (EC e)) e;calc h pins _ σ H xs _ Q I1 rv⁻¹ hw
def sC(to ti:TE)(t:oN):TG:=λv σ H Q=>to σ H λo H1=>ti σ H1 λi H2=>t o i v H2 λH3=>Q σ H3
theorem DZ{o i:B}{to ti:TE}{t:oN}(ho:JE X o to)(hi:JE X i ti)(hs:su X t)
  (ha:∀v,assign (.Subscript o i pos) X.env v=(do
   let ov <- holding [v] (eval o X.env)
   let iv <- holding [v,ov] (eval i X.env)
   standAt pos
   holding [v,ov,iv] (setItem ov iv v)
   release [v,ov,iv] []):=by ext _;rfl):JG X (.Subscript o i pos) (sC to ti t):=by
 calc⟨?_⟩;ext pins s σ H v u Q I r h;rw[ha];calc lK (XI (aS (ho pins s σ H _ I h) λov s1 h0_=>el5 h0_ λx H1 I1 r1 q1=>?_));calc lK (XI (aS (hi pins s1 σ H1 _ I1 q1) λiv s2 h0_=>el5 h0_ λy H2 I2 r2 q2=>?_));calc lK (Z4 (lK (XI (aS (hs pins s2 σ H2 x y v ov iv u _ I2 r1 r2 r q2) λ_ s3 h0_=>el3 h0_ λH3 I3 q3=>?_))));calc wpAny_release ⟨σ,H3,I3,q3⟩
def cC(te:TE)(g:TG):TS:=λD σ H=>te σ H λx H1=>g x σ H1 D.nx
theorem yr{tg e:B}{te:TE}{g:TG}(he:JE X e te)(hg:JG X tg g)(hs:swapsWithSole [tg] e pos.line X.env=pure ι:=by rfl)(hw:swappedStores [tg] e X.env=pure Z:=by rfl)
  (h1:(assignEach [tg] X.env).map (·.2)=[assign tg X.env]:=by rfl):JS X (.Assign [tg] e pos) (cC te g):=by
 calc⟨?_⟩;ext pins s σ H D I h;calc wpAny_Assign_stores (aS (he pins s σ H _ I h) λv s1 h0_=>el5 h0_ λx H1 I1 r1 q1=>?_) hs hw;rw[h1];calc aS (hg pins s1 σ H1 x v _ I1 r1 q1) λ_ s2 q=>q
theorem ny{i:Nat}{x:R}{e:B}{te:TE}{pos':Ε}(hN:X.N.Nodup)(hi:X.N[i]?=U x)(hx:Loc X.env.scope x)(he:JE X e te)(hs:swapsWith e (U (.Name x pos')) pos.line X.env=pure ι:=by rfl)(hf:d5 X x:=by first|exact .inl Y|exact .inr Y|assumption):
  JS X (.Assign [.Name x pos'] e pos) (cC te (gm i)):=by
 calc⟨?_⟩;ext pins s σ H D I h;calc wpAny_Assign_Name (aS (he pins s σ H _ I h) λv s1 h0_=>el5 h0_ λy H1 I1 r1 q1=>?_) hs;calc vF I1 hN hi hx r1 (λs2 I2=>⟨_,H1,I2,q1⟩) hf
end
structure It where
 go:Nat->Hp->Prop
 qC:Nat->Hp->V->Hp->Prop
 stop:Nat->Hp->Prop
def b7(X:Cx)(pins:aq)(H:Hp)(b:O):Prop :=
 H b=Z/\b≠X.env.locals/\b∉X.fs/\(b∈X.ex\/⇑X.s₀<=b)/\(∀x c,X.env.cells.lookup x=U c->c≠b)/\∀p∈X.pn++pins,p.1≠b
theorem Inv.iI{X:Cx}{pins:aq}{σ:St}{H H':Hp}{s:L}{b:O}(I:Inv X pins σ H s)(hb:⇑s<=b)(hn:H' b=Z):b7 X pins H' b:=by
 refine⟨hn,Zv (Xk I.lt hb),I.yb hb,.inr (XH I.sz hb),λx c e z=>?_,λp hp z=>?_⟩
 .let⟨v,q⟩:=I.cell x c e
  exact absurd (Xk q.lt (by rw[z];calc hb)) (YH _)
 .calc absurd (Xk (EC (I.pin p hp).1) (by rw[z];calc hb)) (YH _)
structure Turn(P:n)(w:g)(K:tu)(tg:B)(J:It)(fp:-O)(it:O)(tn:Nat->I->Prop):Prop where
 mem:it∈fp
 obj:∀i h,tn i h->∀b∈fp,∃o,h.get? b=U o/\∀v,o.data≠.cell v
 keep:∀i h h',tn i h->(∀b∈fp,∀o,h.get? b=U o->h'.get? b=U o)->tn i h'
 item:∀(X:Cx),X.prog=P->X.w=w->X.K=K->X.calm=θ->∀(i:Nat)(pins:aq)(s:L)(σ:St)(H:Hp)(E:aM),Inv X pins σ H s->(∀b∈fp,b7 X pins H b)->tn i s.heap->J.go i H →
  G (M P w) X.A (pyNext (.ref it)) (λr s1=>∃u,r=U u ∧
   G (M P w) X.A (letOwnedTupleGo tg (.ref it) u) (λ_ s2=>∃x H',Inv X pins σ H' s2/\RelV x u/\J.qC i H x H'/\tn (i+1) s2.heap/\∀b∈fp,H' b=Z) E s1) E s
 done:∀(X:Cx),X.prog=P->X.w=w->X.K=K->X.calm=θ->∀(i:Nat)(pins:aq)(s:L)(σ:St)(H:Hp)(E:aM),Inv X pins σ H s->(∀b∈fp,b7 X pins H b)->tn i s.heap->J.stop i H →
  G (M P w) X.A (pyNext (.ref it)) (λr s1=>r=Z/\Inv X pins σ H s1) E s
 self:∀(A:q)(i:Nat)(s:L)(Q:aM)(E:aM),tn i s.heap->Q (.ref it) s->G (M P w) A (pyIter (.ref it)) Q E s
abbrev TI:=St->Hp->(It->Hp->Prop)->Prop
def yt(X:Cx)(pins:aq)(σ:St)(tg:B)(R:It->Hp->Prop)(yu:ν)(s2:L):Prop :=
 ∃(it:O)(fp:-O)(tn:Nat->I->Prop)(J:It)(H':Hp),yu=.ref it/\Inv X pins σ H' s2/\Turn X.prog X.w X.K tg J fp it tn/\tn 0 s2.heap/\(∀b∈fp,b7 X pins H' b)/\R J H'
structure JI(X:Cx)(tg iter:B)(wi:TI):Prop where
 out:∀(pins:aq)(s:L)(σ:St)(H:Hp)(R:It->Hp->Prop),Inv X pins σ H s->wi σ H R →
  G (M X.prog X.w) X.A (eval iter X.env) (λv s1=>G (M X.prog X.w) X.A (pyIter v) (yt X pins σ tg R) X.xe s1) X.xe s
instance {X:Cx} {tg iter:B} {wi:TI}:CoeFun (JI X tg iter wi) (λ_=>∀(pins:aq)(s:L)(σ:St)(H:Hp)(R:It->Hp->Prop),Inv X pins σ H s->wi σ H R->G (M X.prog X.w) X.A (eval iter X.env) (λv s1=>G (M X.prog X.w) X.A (pyIter v) (yt X pins σ tg R) X.xe s1) X.xe s):=⟨JI.out⟩
theorem yw {M:Model} {A:q} {E:aM} {s:L} {tg:B} {it:O} {u:J} {o:f} {n:String} {vs:Array J} {Q:Unit->L->Prop} (ho:s.heap.get? it=U o) (hc:o.cls = .type n) (hd:o.data = .fields vs)
  (hn:["enumerate", "zip", "dict_itemiterator", "dict_reverseitemiterator", "odict_iterator", "itertools.zip_longest", "itertools.pairwise"].contains n=ι) (hQ:Q () s):G M A (letOwnedTupleGo tg (.ref it) u) Q E s:=by
 unfold letOwnedTupleGo
 cases tg<;>first
  | exact zi hQ
  | (cases u<;>first
    | exact zi hQ
    | (refine lK (wpAny_load ho ?_)
       rw[hc,hd];show G M A (if (["enumerate", "zip", "dict_itemiterator", "dict_reverseitemiterator", "odict_iterator", "itertools.zip_longest", "itertools.pairwise"].contains n && vs[0]? == U (rawInt _))=θ then _ else _) Q E s;rw[VR (by ext h;rw[hn,q11] at h;cases h)]
       calc zi hQ))
noncomputable def D0(K:tu)(a:O):It :=
 ⟨λi H=>∃xs x,aX K H a xs/\xs[i]?=U x,λi H x H'=>H'=H/\∀xs,aX K H a xs->xs[i]?=U x,λi H=>∃xs,aX K H a xs/\↑xs<=i⟩
noncomputable def D1(K:tu)(a:O):It :=
 ⟨λi H=>∃xs x,bo K H a xs/\xs[i]?=U x,λi H x H'=>H'=H/\∀xs,bo K H a xs->xs[i]?=U x,λi H=>∃xs,bo K H a xs/\↑xs<=i⟩
noncomputable def sD(lo:Int)(n:Nat):It:=⟨λi _=>i<n,λi H x H'=>H'=H/\x=.int (lo+i),λi _=>n<=i⟩
theorem KU{P:n}{w:g}{K:tu}{tg:B}(a it:O):Turn P w K tg (D0 K a) [it] it (λi h=>h.IsListIter it a i) where
 mem:=by simp
 obj:=λi h st b hb=>by
  let e:b=it:=by simpa using hb
  subst e;let⟨o,e,c,d⟩:=st;exact⟨o,e,λv z=>by rw[d] at z;cases z⟩
 keep:=λi h h' st k=>st.at λo e=>k it (by simp) o e
 item:=by
  ext X hP hw hK hc i pins s σ H E I hf st hg;subst hP hw hK;let⟨xs,x,hq,hx⟩:=hg;let⟨ah,rv,p,hz⟩:=I.list hq;let⟨u,hu,ru⟩:=rv.get hx;let⟨f0,f1,f2,f3,f4,f5⟩:=hf it (by simp);calc wpAny_pyNext_list_item st p.isList (x:=u) hu⁻¹ λh' gJ sb=>?_;let I1:Inv X pins σ H {s with heap:=h'}:=I.turned (t':=s.toks) (λb o hb e=>(sb.2 b hb).trans e) f0 f1 f3 f4 f5;let⟨o,e,c,d⟩:=id gJ;exact⟨u,Y,yw (s:={s with heap:=h'}) e c d (by decide) ⟨x,H,I1,ru,⟨Y,λys hy=>by rw[I.eG hy hq];calc hx⟩,gJ,λb hb=>(hf b hb).1⟩⟩
 done:=by
  ext X hP hw hK hc i pins s σ H E I hf st hg;subst hP hw hK;let⟨xs,hq,hx⟩:=hg;let⟨ah,rv,p,hz⟩:=I.list hq;let⟨f0,f1,f2,f3,f4,f5⟩:=hf it (by simp);let hl:=↑rv;exact wpAny_pyNext_list_end (I.ok.hd hc) st p.isList (by simp;symm) λh' eb=>⟨Y,I.turned (t':=s.toks) (λb o hb e=>eb b o hb e) f0 f1 f3 f4 f5⟩
 self:=λ_ _ _ _ _ st h=>wpAny_pyIter_listiter st h
theorem KW{P:n}{w:g}{K:tu}{tg:B}(a it:O):Turn P w K tg (D1 K a) [it] it (λi h=>h.IsTupleIter it a i) where
 mem:=by simp
 obj:=λi h st b hb=>by
  let e:b=it:=by simpa using hb
  subst e;let⟨o,e,c,d⟩:=st;exact⟨o,e,λv z=>by rw[d] at z;cases z⟩
 keep:=λi h h' st k=>st.at λo e=>k it (by simp) o e
 item:=by
  ext X hP hw hK hc i pins s σ H E I hf st hg;subst hP hw hK;let⟨xs,x,hq,hx⟩:=hg;let⟨ah,rv,p,hz⟩:=I.tuple hq;let⟨u,hu,ru⟩:=rv.get hx;let⟨f0,f1,f2,f3,f4,f5⟩:=hf it (by simp);calc wpAny_pyNext_tuple_item st (show s.heap.IsTuple a ah.toArray from p) (x:=u) hu⁻¹ λh' gJ sb=>?_;let I1:Inv X pins σ H {s with heap:=h'}:=I.turned (t':=s.toks) (λb o hb e=>(sb.2 b hb).trans e) f0 f1 f3 f4 f5;let⟨o,e,c,d⟩:=id gJ;exact⟨u,Y,yw (s:={s with heap:=h'}) e c d (by decide) ⟨x,H,I1,ru,⟨Y,λys hy=>by rw[I.dS hy hq];calc hx⟩,gJ,λb hb=>(hf b hb).1⟩⟩
 done:=by
  ext X hP hw hK hc i pins s σ H E I hf st hg;subst hP hw hK;let⟨xs,hq,hx⟩:=hg;let⟨ah,rv,p,hz⟩:=I.tuple hq;let⟨f0,f1,f2,f3,f4,f5⟩:=hf it (by simp);let hl:=↑rv;exact wpAny_pyNext_tuple_end (I.ok.hd hc) st (show s.heap.IsTuple a ah.toArray from p) (by simp;symm) λh' eb=>⟨Y,I.turned (t':=s.toks) (λb o hb e=>eb b o hb e) f0 f1 f3 f4 f5⟩
 self:=λ_ _ _ _ _ st h=>wpAny_pyIter_tupleiter st h
theorem KY{P:ψ}{w:g}{K:tu}{tg:B}(it:O)(lo:Int)(n:Nat):Turn P w K tg (sD lo n) [it] it (λi h=>IsRangeIter h it (lo+(i:Nat)*1) ((n:Int)-(i:Nat)) 1) where
 mem:=by simp
 obj:=λi h st b hb=>by
  let e:b=it:=by simpa using hb
  subst e
  exact⟨_,st,λv z=>by
   let z':Data.fields _=Data.cell v:=z
   cases z'⟩
 keep:=λi h h' st k=>k it (by simp) _ st
 item:=by
  ext X hP hw hK hc i pins s σ H E I hf st hg;subst hP hw hK;let⟨f0,f1,f2,f3,f4,f5⟩:=hf it (by simp);let W:=Walks.range (prog:=X.prog) (w:=X.w) (I.ok.hd hc) it lo 1 n;calc W.item i s _ _ hg st λv h' tk hv gJ kk=>?_;let⟨t,rfl⟩:=hv;let I1:Inv X pins σ H {s with heap:=h',toks:=tk}:=I.turned (λb o hb e=>kk b o hb⁻¹ e) f0 f1 f3 f4 f5;calc⟨_,Y,yw (s:={s with heap:=h',toks:=tk}) (n:="range_iterator") gJ Y Y (by decide) ⟨.int (lo+i),H,I1,⟨t,?_⟩,⟨Y,Y⟩,gJ,λb hb=>(hf b hb).1⟩⟩;rw[q5Z]
 done:=by
  ext X hP hw hK hc i pins s σ H E I hf st hg;subst hP hw hK;let⟨f0,f1,f2,f3,f4,f5⟩:=hf it (by simp);exact wpAny_pyNext_range_end (I.ok.hd hc) st (by let:n<=i:=hg;symm) λh' eb=>⟨Y,I.turned (t':=s.toks) (λb o hb e=>eb b o hb e) f0 f1 f3 f4 f5⟩
 self:=λ_ _ _ _ _ st h=>wpAny_pyIter_rangeiter st h
section
variable{X:Cx}{tg:B}
theorem D2{pins:aq}{σ:St}{H:Hp}{s:L}{R:It->Hp->Prop}{E:aM}{lo hi:Int}{t u v:Tok}{tk:Nat}(I:Inv X pins σ H s)(h1 : -(2 ^ 62)<=lo)(h2:lo<2 ^ 62)(h3 : -(2 ^ 62)<=hi)(h4:hi<2 ^ 62)
  (q:R (sD lo (hi-lo).toNat) H):G (M X.prog X.w) X.A (pyIter (.ref ⇑s)) (yt X pins σ tg R) E {s with heap:=s.heap.push {cls:=.type "range",data:=.fields #[.int lo t,.int hi u,.int 1 v]},toks:=tk}:=by
 calc wpAny_pyIter_range (IsRange.new ..) (small_one h1 h2 h3 h4) ?_;let I1:Inv X pins σ H {s with heap:=s.heap.push {cls:=.type "range",data:=.fields #[.int lo t,.int hi u,.int 1 v]},toks:=tk}:=I.kept λb o e=>pf _ e
 refine⟨(s.heap.push {cls:=.type "range",data:=.fields #[.int lo t,.int hi u,.int 1 v]}).objs.size,[(s.heap.push {cls:=.type "range",data:=.fields #[.int lo t,.int hi u,.int 1 v]}).objs.size],_,_,H,Y,
  I1.kept (t':=tk) λb o e=>pf _ e,KY _ lo (hi-lo).toNat,?_,λb hb=>?_,q⟩
 .let e1:lo+((0:Nat):Int)*1=lo:=by simp
  let e2:(((hi-lo).toNat:Nat):Int)-((0:Nat):Int)=q1r lo hi 1:=by rw[q4x];split<;>symm
  show IsRangeIter _ _ (lo+((0:Nat):Int)*1) ((((hi-lo).toNat:Nat):Int)-((0:Nat):Int)) 1;rw[e1,e2];exact My _ Y
 .let e:b=(s.heap.push {cls:=.type "range",data:=.fields #[.int lo t,.int hi u,.int 1 v]}).objs.size:=by simpa using hb
  subst e;calc I1.iI (vQ _) (I1.aH.fresh (vQ _))
def KZ(ta:TA):TI:=fun σ H R=>ta σ H λvs H1=>∃j:Int,vs=[.int j] /\ -(2 ^ 62)<=j/\j<2 ^ 62/\R (sD 0 j.toNat) H1
def K4(ta:TA):TI:=fun σ H R=>ta σ H λvs H1=>∃i j:Int,vs=[.int i,.int j]/\(-(2 ^ 62)<=i/\i<2 ^ 62 /\ -(2 ^ 62)<=j/\j<2 ^ 62)/\R (sD i (j-i).toNat) H1
theorem K5{a:B}{ta:TA}{p pos:y}(hg:Gl X "range")(hm:X.mg "range" = Z)(ha:JA X [a] ta)(hs:starEach [a] X.env=[(ι,eval a X.env)]:=by rfl):JI X tg (.Call (.Name "range" p) [a] [] pos) (KZ ta):=by
 calc⟨?_⟩;ext pins s σ H R I h;calc Call_ (nq I hg hm boot_range (Yj (aS (ha pos pins s σ H _ I h) λus s1 h0_=>el5 h0_ λvs H1 I1 r1 q1=>?_) hs Y));let⟨j,e,q1,q2,q⟩:=q1;subst e
 cases r1 with
 |cons r rr =>
  cases rr
  let⟨t,rfl⟩:=r;calc call_range_1 (D2 I1 ⋯ ⋯ q1 q2 q⁻¹)
theorem K6{a b:B}{ta:TA}{p pos:y}(hg:Gl X "range")(hm:X.mg "range" = Z)(ha:JA X [a,b] ta)(hs:starEach [a,b] X.env=[(ι,eval a X.env),(ι,eval b X.env)]:=by rfl)(dj:starEach [b] X.env=[(ι,eval b X.env)]:=by rfl):
  JI X tg (.Call (.Name "range" p) [a,b] [] pos) (K4 ta):=by
 calc⟨?_⟩;ext pins s σ H R I h;calc Call_ (nq I hg hm boot_range (Yj (aS (ha pos pins s σ H _ I h) λus s1 h0_=>el5 h0_ λvs H1 I1 r1 q1=>?_) (by rw[hs,dj]) (by rw[dj];rfl)));let⟨i,j,e,⟨q1,q2,q3,q4⟩,q⟩:=q1;subst e
 cases r1 with
 |cons r rr =>
  cases rr with
  |cons r' rr =>
   cases rr
   let⟨t,rfl⟩:=r;let⟨t',rfl⟩:=r';calc call_range_2 (D2 I1 q1 q2 q3 q4 q)
def sE(wi:TI)(g:TG)(tb:TS):TS:=λD σ H=>wi σ H λJ H1=>∃W:Nat->Nat->St->Hp->Prop,(∃m,W 0 m σ H1)/\∀i m σ H,W i m σ H →
 (J.stop i H/\D.nx σ H)\/(J.go i H/\∃N:St->Hp->Prop,(∀σ' H',N σ' H'->∃m',m'<m/\W (i+1) m' σ' H')/\∀x H',J.qC i H x H'->g x σ H' fun σ2 H2=>tb {D with nx:=N,ct:=N,bk:=D.nx} σ2 H2)
noncomputable def sF(fp:-O)(h:I):-(O×f):=fp.filterMap λb=>(h.get? b).map λo=>(b,o)
theorem vI{fp:-O}{h:I}{b:O}{o:f}(hb:b∈fp)(e:h.get? b=U o):(b,o)∈sF fp h:=Y8.mpr ⟨b,hb,by rw[e];rfl⟩
theorem K7{fp:-O}{h:I}{p:O×f}(hp:p∈sF fp h):p.1∈fp/\h.get? p.1=U p.2:=by
 let⟨b,hb,e⟩:=Y8.mp hp
 cases q:h.get? b with
 |none=>rw[q] at e;cases e
 |some o =>
  rw[q] at e;let e':(b,o)=p:=Xt e;subst e';calc⟨hb,q⟩
theorem Inv.pinned{pins:aq}{σ:St}{H:Hp}{s:L}{fp:-O}(I:Inv X pins σ H s)(hf:∀b∈fp,b7 X pins H b)(ho:∀b∈fp,∃o,s.heap.get? b=U o/\∀v,o.data≠.cell v):Inv X (pins++sF fp s.heap) σ H s :=
 I.h9 λp hp=>(Xv.mp hp).elim (λz=>I.pin p (Xw _ z)) λz=>by
  let⟨hb,e⟩:=K7 z;let⟨f0,f1,f2,_⟩:=hf p.1 hb;let⟨o,e',d⟩:=ho p.1 hb;rw[e] at e';cases e';calc⟨e,f0,f1,f2,d⟩
theorem Inv.dm{pins pl:aq}{σ:St}{H:Hp}{s:L}(I:Inv X (pins++pl) σ H s):Inv X pins σ H s:=I.h9 λp hp=>I.pin p (Xw _ (Ya _ hp))
theorem yx{iter:B}{body:-χ}{wi:TI}{g:TG}{tb:TS}{pos:y}(hp:PassesOwn (M X.prog X.w) X.A X.env X.xe)(hc:X.calm=θ)(hi:JI X tg iter wi)(hg:JG X tg g)(hb:bR X body tb)
  (hs:∀x,foldedSetIterable iter X.env x=pure x:=by ext _;rfl):JS X (.For tg iter body [] pos) (sE wi g tb):=by
 calc⟨?_⟩;ext pins s σ H D I h;calc wpAny_For (aS (hi pins s σ H _ I h) λv s1 h1=>aS h1 λyu s2 h2=>?_) hs;let⟨it,fp,tn,J,H2,e,I2,T,jJ,f2,W,⟨m0,w0⟩,turn⟩:=h2;subst e;let gU:∀{H':Hp},(∀b∈fp,H' b=Z)->∀b∈fp,b7 X pins H' b:=λhn b hb=>⟨hn b hb,(f2 b hb).2⟩;calc codeAny_forLoop_any (λn s'=>∃i σ' H',Inv X pins σ' H' s'/\tn i s'.heap/\(∀b∈fp,H' b=Z)/\W i n σ' H') ?_ m0 ⟨0,σ,H2,I2,jJ,λb hb=>(f2 b hb).1,w0⟩;ext n s3 ⟨i,σ3,H3,I3,nA,sG,w3⟩;rcases turn i n σ3 H3 w3 with⟨stop,qn⟩|⟨go,N,hN,step⟩
 .refine Z9 hp (aS (T.done X Y Y Y hc i pins s3 σ3 H3 X.xe I3 (gU sG) nA stop) λr s4 ⟨hr,I4⟩=>?_)
  subst hr;exact q0J ⟨σ3,H3,I4,qn⟩
 .refine Z9 hp (aS (T.item X Y Y Y hc i pins s3 σ3 H3 X.xe I3 (gU sG) nA go) λr s4 ⟨u,hr,h4⟩=>?_)
  subst hr;calc Z9 hp (aS h4 λ_ s5 ⟨x,H5,I5,r5,y5,oO,yy⟩=>?_);let yz:=I5.pinned (gU yy) (T.obj _ _ oO);calc Z9 hp (aS (hg _ s5 σ3 H5 x u _ yz r5 (step x H5 y5)) λ_ s6 ⟨σ6,H6,I6,q6⟩=>?_);refine Z9 hp (aS (hb _ s6 σ6 H6 _ I6 q6) λf s7 q7=>?_)
  let again:∀{σ7:St}{H7:Hp},Inv X (pins++sF fp s5.heap) σ7 H7 s7->N σ7 H7->∃m,m<n/\∃i σ' H',Inv X pins σ' H' s7/\tn i s7.heap/\(∀b∈fp,H' b=Z)/\W i m σ' H':=λ{σ7 H7} I7 n7=>by
   let⟨m',hm,w7⟩:=hN σ7 H7 n7;calc⟨m',hm,i+1,σ7,H7,I7.dm,T.keep _ _ _ oO λb hb o e=>(I7.pin (b,o) (Xw _ (Xw _ (vI hb e)))).1,λb hb=>?_,w7⟩;let⟨o,e,d⟩:=T.obj _ _ oO b hb;exact(I7.pin (b,o) (Xw _ (Xw _ (vI hb e)))).2.1
  cases f with
  |next=>let⟨σ7,H7,I7,n7⟩:=q7;exact again I7 n7
  |cont=>let⟨σ7,H7,I7,n7⟩:=q7;exact again I7 n7
  |brk=>let⟨σ7,H7,I7,q7⟩:=q7;exact⟨σ7,H7,I7.dm,q7⟩
  |ret v=>let⟨x7,σ7,H7,I7,r7,q7⟩:=q7;calc⟨x7,σ7,H7,I7.dm,r7,q7⟩
end
abbrev R2:=V->V->Hp->VK->Prop
def de(X:Cx)(f:J->J->Sem J)(r:R2):Prop :=
 ∀(pins:aq)(s:L)(σ:St)(H:Hp)(x y:V)(v u:J)(Q:VK),Inv X pins σ H s->RelV x v->RelV y u->r x y H Q →
  G (M X.prog X.w) X.A (f v u) (EP X pins σ Q) X.xe s
def yA(X:Cx)(f:J->Sem J)(r:V->Hp->VK->Prop):Prop :=
 ∀(pins:aq)(s:L)(σ:St)(H:Hp)(x:V)(v:J)(Q:VK),Inv X pins σ H s->RelV x v->r x H Q →
  G (M X.prog X.w) X.A (f v) (EP X pins σ Q) X.xe s
def f_(X:Cx)(f:J)(r:-V->Hp->VK->Prop):Prop :=
 ∀(pins:aq)(s:L)(σ:St)(H:Hp)(xs:-V)(us:-J)(Q:VK),Inv X pins σ H s->Vals xs us->r xs H Q →
  G (M X.prog X.w) X.A (call f us) (EP X pins σ Q) X.xe s
def qD(r:R2)(ta tb:TE):TE:=fun σ H Q=>ta σ H λx H1=>tb σ H1 λy H2=>r x y H2 Q
def K8(r:V->Hp->VK->Prop)(ta:TE):TE:=fun σ H Q=>ta σ H λx H1=>r x H1 Q
def rI(C:Int->Int->Prop)(g:Int->Int->V):R2:=λx y H Q=>∃i j,x=.int i/\y=.int j/\C i j/\Q (g i j) H
def lC(g:Int->Int->V):R2:=λx y H Q=>∃i j,x=.int i/\y=.int j/\Q (g i j) H
def rU(g:Int->V):V->Hp->VK->Prop:=λx H Q=>∃i,x=.int i/\Q (g i) H
section
variable{X:Cx}{a b c:B}{ta tb tc:TE}{pos:y}
theorem oP(ha:JE X a ta)(hb:JE X b tb){pins:aq}{s:L}{σ:St}{H:Hp}{R:V->V->Hp->Prop}(I:Inv X pins σ H s)
  (h:ta σ H λx H1=>tb σ H1 λy H2=>R x y H2) {Q:aM} {f:J->J->Sem J}
  (hf:∀v u s2 x y H2,Inv X pins σ H2 s2->RelV x v->RelV y u->R x y H2->G (M X.prog X.w) X.A (f v u) Q X.xe s2) :
  G (M X.prog X.w) X.A (eval a X.env) (λv s₁=>G (M X.prog X.w) X.A (eval b X.env) (λu s₂=>G (M X.prog X.w) X.A (f v u) Q X.xe s₂) X.xe s₁) X.xe s:=by
 calc aS (ha pins s σ H _ I h) λv s1 h0_=>el5 h0_ λx H1 I1 r1 q1=>?_;calc aS (hb pins s1 σ H1 _ I1 q1) λu s2 h0_=>el5 h0_ λy H2 I2 r2 q2=>?_;calc hf v u s2 x y H2 I2 r1 r2 q2
theorem oQ{op:Operator}{r:R2}(ho:de X (binaryOp op) r)(ha:JE X a ta)(hb:JE X b tb):JE X (.BinOp a op b pos) (qD r ta tb):=by
 calc⟨?_⟩;ext pins s σ H Q I h;calc wpAny_BinOp (oP ha hb I h λv u s2 x y H2 I2 rx ry q=>ho pins s2 σ H2 x y v u Q I2 rx ry q)
theorem D3{op:UnaryOp}{r:V->Hp->VK->Prop}(ho:yA X (unaryOp op) r)(ha:JE X a ta):JE X (.UnaryOp op a pos) (K8 r ta):=by
 calc⟨?_⟩;ext pins s σ H Q I h;calc UnaryOp_ (aS (ha pins s σ H _ I h) λv s1 h0_=>el5 h0_ λx H1 I1 r1 q1 =>ho pins s1 σ H1 x v Q I1 r1 q1)
theorem vJ{f:J->J->Sem J}{C:Int->Int->Prop}{g:Int->Int->Int}
  (rule:∀(i j:Int)(t u:Tok)(s:L)(Q:aM)(E:aM),C i j->Q (.int (g i j) s.toks) {s with toks:=s.toks+1}->G (M X.prog X.w) X.A (f (.int i t) (.int j u)) Q E s) :
  de X f (rI C λi j=>.int (g i j)):=by
 ext pins s σ H x y v u Q I rx ry h;let⟨i,j,rfl,rfl,hc,q⟩:=h;let⟨t,rfl⟩:=rx;let⟨t',rfl⟩:=ry;calc rule i j t t' s _ _ hc ⟨.int (g i j),H,I.tok _,⟨_,Y⟩,q⟩
theorem sI{f:J->J->Sem J}{g:Int->Int->Int}
  (rule:∀(i j:Int)(t u:Tok)(s:L)(Q:aM)(E:aM),Q (.int (g i j) s.toks) {s with toks:=s.toks+1}->G (M X.prog X.w) X.A (f (.int i t) (.int j u)) Q E s) :
  de X f (lC λi j=>.int (g i j)):=by
 ext pins s σ H x y v u Q I rx ry h;let⟨i,j,rfl,rfl,q⟩:=h;let⟨t,rfl⟩:=rx;let⟨t',rfl⟩:=ry;calc rule i j t t' s _ _ ⟨.int (g i j),H,I.tok _,⟨_,Y⟩,q⟩
theorem lD{f:J->J->Sem J}{g:Int->Int->Bool}
  (rule:∀(i j:Int)(t u:Tok)(s:L)(Q:aM)(E:aM),Q (.bool (g i j)) s->G (M X.prog X.w) X.A (f (.int i t) (.int j u)) Q E s) :
  de X f (lC λi j=>.bl (g i j)):=by
 ext pins s σ H x y v u Q I rx ry h;let⟨i,j,rfl,rfl,q⟩:=h;let⟨t,rfl⟩:=rx;let⟨t',rfl⟩:=ry;calc rule i j t t' s _ _ ⟨.bl (g i j),H,I,Y,q⟩
def sJ(i j:Int):Prop:=j≠0/\j.natAbs<1073741824
def cU(i j:Int):Prop:=0<=j/\j<=1000000/\i.natAbs<2 ^ 64
def lE(i j:Int):Prop:=(-(2 ^ 64)<i/\i<2 ^ 64)\/(-(2 ^ 64)<j/\j<2 ^ 64)
theorem lE.ok{i j:Int}(h:lE i j):IntMulOk i j:=by
 rcases h with⟨h1,h2⟩|⟨h1,h2⟩
 .exact .of_left (q4y h1 h2)
 .calc .of_right (q4y h1 h2)
theorem D4:de X (binaryOp .Add) (lC λi j=>.int (i+j)):=sI λ_ _ _ _ _ _ _ q=>add_int q
theorem K9:de X (binaryOp .Sub) (lC λi j=>.int (i-j)):=sI λ_ _ _ _ _ _ _ q=>sub_int q
theorem K_:de X (binaryOp .Mult) (rI lE λi j=>.int (i*j)):=vJ λ_ _ _ _ _ _ _ hc q=>mul_int q hc.ok
theorem La:de X (binaryOp .FloorDiv) (rI sJ λi j=>.int (i.fdiv j)):=vJ λ_ _ _ _ _ _ _ hc q=>floordiv_int hc.1 q (.inl (PyProof.noPylong_small hc.2))
theorem yB:de X (binaryOp .Mod) (rI (λ_ j=>0<j) λi j=>.int (i%j)):=vJ λi j _ _ _ _ _ hc q=>by
 let h1:(0:Int)<j:=hc;calc mod_int' ⋯ (by rw[Int.fmod_eq_emod_of_nonneg i ⋯];calc q)
theorem Lb:de X (binaryOp .Pow) (rI cU λi j=>.int (i ^ j.toNat)):=vJ λ_ _ _ _ _ _ _ hc q=>pow_int_small hc.1 hc.2.1 hc.2.2 q
theorem Lc{f:J->Sem J}{g:Int->Int}
  (rule:∀(i:Int)(t:Tok)(s:L)(Q:aM)(E:aM),Q (.int (g i) s.toks) {s with toks:=s.toks+1}->G (M X.prog X.w) X.A (f (.int i t)) Q E s) :
  yA X f (rU λi=>.int (g i)):=by
 ext pins s σ H x v Q I rx h;let⟨i,rfl,q⟩:=h;let⟨t,rfl⟩:=rx;calc rule i t s _ _ ⟨.int (g i),H,I.tok _,⟨_,Y⟩,q⟩
theorem D5:yA X (unaryOp .USub) (rU λi=>.int (-(i:Int))):=Lc λ_ _ _ _ _ q=>neg_int q
end
noncomputable def yC:V->V->Bool
 |.non,.non=>θ|.non,.int _=>θ|.int _,.non=>θ|.non,.bl _=>θ|.bl _,.non=>θ|.non,.str _=>θ|.str _,.non=>θ
 |.int _,.int _=>θ|.bl _,.bl _=>θ|.str _,.str _=>θ|.byt _,.byt _=>θ
 |.int _,.str _=>θ|.str _,.int _=>θ|.bl _,.str _=>θ|.str _,.bl _=>θ
 |_,_=>ι
def Ld:R2:=λx y H Q=>yC x y=θ/\Q (.bl (!S (x=y))) H
theorem Le{i j:Int}:S (V.int i=V.int j)=(i==j):=by
 rw[Z_];simp
theorem Lf{i j:Bool}:S (V.bl i=V.bl j)=(i==j):=by
 rw[Z_];simp
theorem Lg{i j:R}:S (V.str i=V.str j)=(i==j):=by
 rw[Z_];simp
theorem Lh{i j:Array UInt8}:S (V.byt i=V.byt j)=(i.toList==j.toList):=by
 rw[Z_];cases i
 cases j
 simp
section
variable{X:Cx}{a b c:B}{ta tb tc:TE}{pos:y}
theorem gK{pins:aq}{σ:St}{H:Hp}{s:L}{Q:VK}{k k':Bool}(I:Inv X pins σ H s)(q:Q (.bl k) H)(e:k=k'):EP X pins σ Q (.bool k') s:=by
 subst e;calc⟨.bl k,H,I,Y,q⟩
theorem Li:de X (compareOp .NotEq) Ld:=by
 ext pins s σ H x y v u Q I rx ry h;let⟨hs,q⟩:=h
 cases x with
 |non =>
  cases rx
  cases y with
  |non=>cases ry;exact PySem.EqNone.ne_none_none (gK I q (by simp))
  |bl j=>cases ry;exact PySem.EqNone.ne_none_bool (gK I q (by simp))
  |int j=>let⟨t',rfl⟩:=ry;exact PySem.EqNone.ne_none_int (gK I q (by simp))
  |str j=>let⟨t',rfl⟩:=ry;exact PySem.EqNone.ne_none_str (gK I q (by simp))
  |_=>exact absurd (show ι=θ from hs) Mw
 |bl i =>
  cases rx
  cases y with
  |non=>cases ry;exact PySem.EqNone.ne_bool_none (gK I q (by simp))
  |bl j=>cases ry;exact ne_bool (gK I q (congrArg not Lf))
  |str j=>let⟨t',rfl⟩:=ry;exact PySem.EqMixed.ne_bool_str (gK I q (by simp))
  |_=>exact absurd (show ι=θ from hs) Mw
 |int i =>
  let⟨t,rfl⟩:=rx
  cases y with
  |non=>cases ry;exact PySem.EqNone.ne_int_none (gK I q (by simp))
  |int j=>let⟨t',rfl⟩:=ry;exact ne_int (gK I q (congrArg not Le))
  |str j=>let⟨t',rfl⟩:=ry;exact PySem.EqMixed.ne_int_str (gK I q (by simp))
  |_=>exact absurd (show ι=θ from hs) Mw
 |str i =>
  let⟨t,rfl⟩:=rx
  cases y with
  |non=>cases ry;exact PySem.EqNone.ne_str_none (gK I q (by simp))
  |bl j=>cases ry;exact PySem.EqMixed.ne_str_bool (gK I q (by simp))
  |int j=>let⟨t',rfl⟩:=ry;exact PySem.EqMixed.ne_str_int (gK I q (by simp))
  |str j=>let⟨t',rfl⟩:=ry;exact ne_str (gK I q (congrArg not Lg))
  |_=>exact absurd (show ι=θ from hs) Mw
 |byt i =>
  let⟨t,rfl⟩:=rx
  cases y with
  |byt j=>let⟨t',rfl⟩:=ry;exact PySem.W.ne_bytes (gK I q (congrArg not Lh))
  |_=>exact absurd (show ι=θ from hs) Mw
 |_=>cases y<;>calc absurd (show ι=θ from hs) Mw
theorem D6:de X (compareOp .Lt) (lC λi j=>.bl (S (i<j))):=lD λ_ _ _ _ _ _ _ q=>lt_int q
theorem Lj:de X (compareOp .LtE) (lC λi j=>.bl (S (i<=j))):=lD λ_ _ _ _ _ _ _ q=>le_int q
theorem Lk:de X (compareOp .Gt) (lC λi j=>.bl (S (j<i))):=lD λ_ _ _ _ _ _ _ q=>gt_int q
theorem Ll:de X (compareOp .GtE) (lC λi j=>.bl (S (j<=i))):=lD λ_ _ _ _ _ _ _ q=>ge_int q
theorem Lm:de X (compareOp .Is) (λx y H Q=>y=.non/\Q (.bl (S (x=.non))) H):=by
 ext pins s σ H x y v u Q I rx ry h;let⟨rfl,q⟩:=h;cases ry
 refine is_none_gen (gK I q ?_)
 cases x<;>first
  |(cases rx;rfl)
  |(let⟨t,rfl⟩:=rx;rfl)
theorem D7(b:B){op:CmpOp}(h:op≠.In:=by decide)(h2:op≠.NotIn:=by decide):behindInMarks op b=ι:=by
 let e1:(op==CmpOp.In)=ι:=by cases op<;>first|rfl|exact absurd Y h
 let e2:(op==CmpOp.NotIn)=ι:=by cases op<;>first|rfl|exact absurd Y h2
 cases b<;>simp[behindInMarks,e1,e2]
theorem Ln{op:CmpOp}{r:R2}(ho:de X (compareOp op) r)(ha:JE X a ta)(hb:JE X b tb)(hm:behindInMarks op b=ι):JE X (.Compare a [op] [b] pos) (qD r ta tb):=by
 calc⟨?_⟩;ext pins s σ H Q I h;calc wpAny_Compare1 (oP ha hb I h λv u s2 x y H2 I2 rx ry q=>ho pins s2 σ H2 x y v u Q I2 rx ry q) hm
def Lo(t:TE):TT:=fun σ H Q=>t σ H λx H'=>∃k,x=.bl k/\Q k H'
theorem yD{op:CmpOp}{r:R2}(ho:de X (compareOp op) r)(ha:JE X a ta)(hb:JE X b tb)(hm:behindInMarks op b=ι):JT X (.Compare a [op] [b] pos) (Lo (qD r ta tb)):=by
 calc⟨?_⟩;ext pins s σ H Q I h
 refine q1V (aS (ha pins s σ H _ I h) λv s1 h0_=>el5 h0_ λx H1 I1 r1 q1 =>aS (hb pins s1 σ H1 _ I1 q1) λu s2 h0_=>el5 h0_ λy H2 I2 r2 q2 =>
  aS (ho pins s2 σ H2 x y v u _ I2 r1 r2 q2) λc s3 ⟨z,H3,I3,r3,k,e,q3⟩=>?_) hm
 subst e;cases r3
 calc YY ⟨H3,I3,q3⟩
def Lp(r r':R2)(ta tb tc:TE):TE:=fun σ H Q=>ta σ H λx H1=>tb σ H1 λy H2=>r x y H2 λz H3=>∃k,z=.bl k ∧
 (if k=θ then tc σ H3 λw' H4=>r' y w' H4 Q else Q (.bl ι) H3)
theorem Lq{op oR:CmpOp}{r r':R2}(ho:de X (compareOp op) r)(jE:de X (compareOp oR) r')(ha:JE X a ta)(hb:JE X b tb)(hc:JE X c tc)
  (hm:lastMarks [op,oR] [b,c]=ι:=by with_unfolding_all rfl):JE X (.Compare a [op,oR] [b,c] pos) (Lp r r' ta tb tc):=by
 calc⟨?_⟩;ext pins s σ H Q I h
 refine Compare_chain (aS (ha pins s σ H _ I h) λv s1 h0_=>el5 h0_ λx H1 I1 r1 q1 =>chain_link (aS (hb pins s1 σ H1 _ I1 q1) λu s2 h0_=>el5 h0_ λy H2 I2 r2 q2 =>
  aS (ho pins s2 σ H2 x y v u _ I2 r1 r2 q2) λd s3 ⟨z,H3,I3,r3,k,e,q3⟩=>?_)) hm
 subst e;cases r3
 refine YY ?_
 cases k with
 |false=>exact ite_ff ⟨.bl ι,H3,I3,Y,q3⟩
 |true=>calc ite_tt (chain_last (aS (hc pins s3 σ H3 _ I3 q3) λw' s4 ⟨z',H4,I4,r4,q4⟩↦jE pins s4 σ H4 y z' u w' Q I4 r2 r4 q4))
theorem oS:(sizeLine:Nat)<2 ^ 63:=by rw[q1d];decide
theorem Lr:de X (binaryOp .Add) (λx y H Q=>∃i j,x=.str i/\y=.str j/\↑i+↑j<=sizeLine/\Q (.str (i++j)) H):=by
 ext pins s σ H x y v u Q I rx ry h;let⟨i,j,rfl,rfl,hz,q⟩:=h;let⟨t,rfl⟩:=rx;let⟨t',rfl⟩:=ry;calc add_str (λt' tk=>⟨.str (i++j),H,I.tok _,⟨_,Y⟩,q⟩) hz
theorem vals1{x:V}{us:-J}(r:Vals [x] us):∃u,us=[u]/\RelV x u:=by
 cases r with
 |cons r1 r2=>cases r2;calc⟨_,Y,r1⟩
theorem vals2{x y:V}{us:-J}(r:Vals [x,y] us):∃u w',us=[u,w']/\RelV x u/\RelV y w':=by
 cases r with
 |cons r1 r2 =>
  cases r2 with
  |cons r3 r4=>cases r4;calc⟨_,_,Y,r1,r3⟩
theorem Ls(hc:X.calm=θ):f_ X (.builtin "max") (λxs H Q=>∃i j,xs=[.int i,.int j]/\Q (.int (if j>i then j else i)) H):=by
 ext pins s σ H xs us Q I r h;let⟨i,j,rfl,q⟩:=h;let⟨u,w',rfl,⟨t,rfl⟩,⟨t',rfl⟩⟩:=vals2 r;refine max_two_ints (I.ok.hd hc) λh' tk k=>⟨_,H,I.kept k,?_,q⟩
 by_cases hj:j>i
 .rw[Xa hj,Xa hj];exact⟨_,Y⟩
 .rw[VR hj,VR hj];calc⟨_,Y⟩
theorem Lu(hc:X.calm=θ):f_ X (.builtin "min") (λxs H Q=>∃i j,xs=[.int i,.int j]/\Q (.int (if j<i then j else i)) H):=by
 ext pins s σ H xs us Q I r h;let⟨i,j,rfl,q⟩:=h;let⟨u,w',rfl,⟨t,rfl⟩,⟨t',rfl⟩⟩:=vals2 r;refine min_two_ints (I.ok.hd hc) λh' tk k=>⟨_,H,I.kept k,?_,q⟩
 by_cases hj:j<i
 .rw[Xa hj,Xa hj];exact⟨_,Y⟩
 .rw[VR hj,VR hj];calc⟨_,Y⟩
end
structure oU(h:I)(x dx C:O)(mA:R->Option J):Prop where
 obj:h.get? x=U (q1P C dx)
 ns:h.Ns1 dx mA
 ne:dx≠x
theorem yE{h:I}{dx:O}{mA:R->Option J}(n:h.Ns1 dx mA):∃od,h.get? dx=U od/\∀name,q12 name od=U (mA name):=by
 let⟨o,es,ep,ho,hd,hk,_,hm⟩:=n;calc⟨o,ho,λname=>?_⟩;let e:=hm name;unfold nsFind findBy at e;rw[<-Array.find?_toList] at e;unfold q12;rw[hd];dsimp only;split
 .rename_i y q
  rw[q] at e;exact congrArg U e
 .rename_i q
  rw[q] at e
  let a:es.toList.any (·.refKey)=ι:=by
   rw[YZ];ext y hy;let⟨z,t,yF⟩:=hk y (q0F.mp hy);simp[DictEntry.refKey,yF]
  let a':¬ es.toList.any (·.refKey)=θ:=by rw[a];exact Mw
  rw[VR a'];calc congrArg U e
theorem oU.look{h:Α}{x dx C:O}{mA:R->Option J}(I:oU h x dx C mA):∃od,q34 h x (q1P C dx) C (U od)/\∀name,q12 name od=U (mA name) :=
 let⟨od,ho,hl⟩:=yE I.ns
 ⟨od,⟨I.obj,Y,Y,ho⟩,hl⟩
section
variable{prog:n}{w:g}{A:q}{E:aM}{s:L}{K:tu}{x dx C f:O}{mA:R->Option J}{name:R}{v:J}
end
theorem eF.some_of{v:V}{o:Option J}(r:eF (U v) o):∃u,o=U u/\RelV v u:=by
 cases o with
 |none=>exact(show False from r).elim
 |some u=>calc⟨u,Y,r⟩
theorem Lw{v:V}{u:J}(r:RelV v u):PySem.W.handedIn u=θ:=by
 cases v with
 |non=>cases(show u=Yr from r);rfl
 |bl b=>cases(show u=ZQ b from r);rfl
 |int i=>let⟨t,e⟩:=(show ∃t,u=q0d i t from r);cases e;rfl
 |str x=>let⟨t,e⟩:=(show ∃t,u=q2b x t from r);cases e;rfl
 |byt b=>let⟨t,e⟩:=(show ∃t,u=Value.bytes b t from r);cases e;rfl
 |flt b=>let⟨t,e⟩:=(show ∃t,u=q3D b t from r);cases e;rfl
 |ref a=>cases(show u=Xj a from r);rfl
 |ty n=>cases(show u=q1B n from r);rfl
section
variable{P:n}{w:g}{H H':Hp}{h h':I}{a C dx:O}{fs Kv:-(R×V)}
theorem Lx(aH:bY P w H h)(e:H a=U (.ins C dx fs)):∃mA,oU h a dx C mA/\(∀f,eF (fs.lookup f) (mA f))/\q44 mA (fs.map (·.1))/\fs.length<=1000/\H dx=U (.own a):=by
 let⟨d,z,ne,ob,mA,n,r,q⟩:=(show aD P w H h a (.ins C dx fs) from aH a _ e);calc⟨mA,⟨ob,n,ne⟩,r,q,z,d⟩
end
structure yG(K:tu)(C:O):Prop where
 pg:q3p K C Str.empty=θ
 hd:q20 K C=θ
 po:PySem.W.plainOver K C=θ
 sa:YW K (.ref C) "__setattr__" = U (U (.builtin "object.__setattr__"))
theorem yG.get{K:tu}{C:O}(c:yG K C)(f:R):q3p K C f=θ:=c.pg
def sL(K:tu)(C:O)(f:R):Prop:=YW K (.ref C) f=U Z
section
variable{X:Cx}{pins:aq}{σ:St}{H:Hp}{s:L}{a C dx:O}{fs:-(R×V)}{f:R}{v:V}{A:q}{E:aM}
theorem Ly{prog:n}{w:g}{env:t}{e:B}{f:R}{pos:y}{s:L}{Q:aM}(hb:attributeBase e f env (eval e env)=eval e env)
  (h:G (M prog w) A (eval e env) (λo s₁=>G (M prog w) A (getAttr o f θ) Q E s₁) E s):G (M prog w) A (eval (.Attribute e f pos) env) Q E s :=
 Attribute_any_ h (by rw[arm_eval_Attribute,hb])
end
section
variable{X:Cx}{o e value:B}{f:R}{pos pos' yH:y}{ta tv:TE}
end
section
variable{X:Cx}{pins:aq}{σ:St}{H:Hp}{s:L}{A:q}{E:aM}{Q:aM}{c:J}{b:Bool}
inductive dq (K:tu) (H:Hp):V->J->Prop where
 |non:dq K H .non (.type "NoneType")
 |bl (x:Bool):dq K H (.bl x) (.type "bool")
 |int (i:Int):dq K H (.int i) (.type "int")
 |str (x:R):dq K H (.str x) (.type "str")
 |flt (x:UInt64):dq K H (.flt x) (.type "float")
 |lst {a:O} {xs:-V} (e:H a=U (.lst xs)):dq K H (.ref a) (.type "list")
 |frz {a:O} {o:f} {xs:-V} (e:H a=U (.frz o (.lst xs))):dq K H (.ref a) (.type "list")
 |tup {a:O} {xs:-V} (e:H a=U (.tup xs)):dq K H (.ref a) (.type "tuple")
 |dK {a:O} {kvs:-(Key×V)} (e:H a=U (.dK kvs)):dq K H (.ref a) (.type "dict")
 |dT {a:O} {kvs:-(-Key×V)} (e:H a=U (.dT kvs)):dq K H (.ref a) (.type "dict")
 |ins {a C dx:O} {fs:-(R×V)} (e:H a=U (.ins C dx fs)) (cl:yG K C) (ha:YW K (.ref C) "__class__" = U (U (.builtin "object.__class__")))
   (hn:q21 K (.builtin "object.__class__") "__get__" = U (U (.builtin "getset_descriptor.__get__"))) (vK:q3O K (.builtin "object.__class__")=U θ)
   (hm:PySem.W.mroIn K C (.type "object")=U θ):dq K H (.ref a) (.ref C)
theorem Lz{x:V}{u t:ν}(I:Inv X pins σ H s)(rx:RelV x u)(ty:dq X.K H x t)(e:Xe X.K t c=U b)(h:∀tk,Q (.bool b) {s with toks:=tk}):
  G (M X.prog X.w) A (call (.builtin "isinstance") [u,c]) Q E s:=by
 cases ty with
 |non=>cases(show u=Yr from rx);exact Yd PySem.W.kitx_none I.cB Zw e (λz=>nomatch z) h
 |bl y=>cases(show u=ZQ y from rx);exact Yd PySem.W.kitx_bool I.cB Zw e (λz=>nomatch z) h
 |int i=>let⟨t,q⟩:=(show ∃t,u=q0d i t from rx);cases q;exact Yd PySem.W.kitx_int I.cB Zw e (λz=>nomatch z) h
 |str y=>let⟨t,q⟩:=(show ∃t,u=q2b y t from rx);cases q;exact Yd PySem.W.kitx_str I.cB Zw e (λz=>nomatch z) h
 |flt y=>let⟨t,q⟩:=(show ∃t,u=q3D y t from rx);cases q;exact Yd PySem.W.kitx_float I.cB Zw e (λz=>nomatch z) h
 | @lst a xs ea =>
  cases(show u=Xj a from rx)
  let⟨_,_,n,_,h1⟩:=(show aD X.prog X.w H s.heap a (.lst xs) from I.aH a _ ea);exact Yd q22 I.cB ⟨_,h1,Y⟩ e (λz=>nomatch z) h
 | @frz a ob xs ea =>
  cases(show u=Xj a from rx)
  let⟨_,_,_,n,_,h1⟩:=(show aD X.prog X.w H s.heap a (.frz ob (.lst xs)) from I.aH a _ ea);exact Yd q22 I.cB ⟨_,h1,Y⟩ e (λz=>nomatch z) h
 | @tup a xs ea =>
  cases(show u=Xj a from rx)
  let⟨_,_,_,p⟩:=(show aD X.prog X.w H s.heap a (.tup xs) from I.aH a _ ea);let⟨o,h1,h2,_⟩:=p;exact Yd PySem.W.kitx_tuple I.cB ⟨o,h1,h2⟩ e (λz=>nomatch z) h
 | @dK a kvs ea =>
  cases(show u=Xj a from rx)
  let⟨_,_,vs,_,p⟩:=(show aD X.prog X.w H s.heap a (.dK kvs) from I.aH a _ ea);let⟨o,es,ep,h1,h2,_⟩:=p;exact Yd q23 I.cB ⟨o,h1,h2.1⟩ e (λz=>nomatch z) h
 | @dT a kvs ea =>
  cases(show u=Xj a from rx)
  let⟨_,_,xs,_,o,es,ep,h1,h2,_⟩:=(show aD X.prog X.w H s.heap a (.dT kvs) from I.aH a _ ea);exact Yd q23 I.cB ⟨o,h1,h2.1⟩ e (λz=>nomatch z) h
 | @ins a C dx fs ea cl ha hn vK hm =>
  cases(show u=Xj a from rx)
  let⟨mA,O,_⟩:=Lx I.aH ea;let⟨od,J,_⟩:=O.look;calc Yd (PySem.W.kitx_own (cl.get _) cl.hd ha hn vK hm) I.cB J e (λz=>nomatch z) h
end
structure aZ(k:Nat)(A:q):Prop where
 hd:A.handled=Z
 dp:A.depth+3*k+5<recursionLimit
 un:A.units+16*k+200<cLine
 gd:A.guards=U []
theorem aZ.mono{j k:Nat}{A:q}(r:aZ k A)(h:j<=k):aZ j A:=⟨r.hd,by let:=r.dp;symm,by let:=r.un;symm,r.gd⟩
theorem aZ.deeper{k:Nat}{A:q}(r:aZ (k+1) A)(env:t):aZ k (A.deeper env) :=
 ⟨r.hd,by let:=r.dp;show A.depth+1+3*k+5<_;symm,by let:=r.un;show A.units+3+16*k+200<_;symm,r.gd⟩
theorem LA{A:q}{C:O}{us:-J}{kw:-(R×J)}:(A.under (.builtin "type.__call__" ⟨.ref C::us,kw⟩)).depth=A.depth+1:=by
 first|rfl|simp[q24,Code.weight,Code.isCreation,Code.isGuard,Code.isCaller,Code.frames,q25,guardIds]
theorem LB{A:q}{C:O}{us:-J}{kw:-(R×J)}:(A.under (.builtin "type.__call__" ⟨.ref C::us,kw⟩)).units=A.units+1:=by
 first|rfl|simp[q24,Code.cUnits,Code.frames,q25]
theorem aZ.make{k:Nat}{A:q}(r:aZ (k+1) A)(C:O)(us:-J)(kw:-(R×J)):aZ k (A.under (.builtin "type.__call__" ⟨.ref C::us,kw⟩)) :=
 ⟨r.hd,by let:=r.dp;rw[LA];symm,by let:=r.un;rw[LB];symm,r.gd⟩
theorem aZ.depth{k:Nat}{A:q}(r:aZ k A):A.depth<recursionLimit:=by let:=r.dp;symm
theorem aZ.units{k:Nat}{A:q}(r:aZ k A):A.units+64<cLine:=by let:=r.un;symm
def dU:TA:=λ_ H Q=>Q [] H
def eB(ta:TE)(tr:TA):TA:=fun σ H Q=>ta σ H λx H1=>tr σ H1 λxs H2=>Q (x::xs) H2
section
variable{X:Cx}{e:B}{es:-B}{te:TE}{t:TA}{pos:y}
theorem aE:JA X [] dU:=⟨λ_ _ _ _ H Q I h=>Calls.spliced_nil ⟨[],H,I,.nil,h⟩⟩
theorem gn(ha:JE X e te)(hr:JA X es t)(hs:cj X e es:=by rfl):JA X (e::es) (eB te t):=by
 calc⟨?_⟩;ext pos pins s σ H Q I h;rw[hs];show G _ _ (spliced ((ι,eval e X.env)::backTo pos (starEach es X.env))) _ _ s;calc Calls.spliced_cons (aS (ha pins s σ H _ I h) λu s1 h0_=>el5 h0_ λx H1 I1 r1 q1=>?_);calc aS (hr pos pins s1 σ H1 _ I1 q1) λus s2 h0_=>el5 h0_ λxs H2 I2 r2 q2 =>⟨x::xs,H2,I2,.cons r1 r2,q2⟩
def yI(t:TA):TE:=fun σ H Q=>t σ H λxs H1=>↑xs<=sizeLine/\∀p,H1 p=Z->Q (.ref p) (upd H1 p (.tup xs))
def oV(t:TA):TE:=fun σ H Q=>t σ H λxs H1=>↑xs<=sizeLine/\∀p,H1 p=Z->Q (.ref p) (upd H1 p (.lst xs))
theorem LC{x1}(h:JA X es t):JE X (.Tuple es x1 pos) (yI t):=by
 calc⟨?_⟩;ext pins s σ H Q I hq;calc wpAny_Tuple_spliced (aS (h pos pins s σ H _ I hq) λus s1 ⟨xs,H1,I1,r,z,q⟩=>⟨by rw[<-↑r];calc z,?_⟩);let hf:H1 ⇑s1=Z:=I1.aH.fresh (vQ _);calc⟨.ref ⇑s1,upd H1 ⇑s1 (.tup xs),I1.laid (t':=s1.toks) (λb u e=>pf _ e) (vQ _) ?_,Y,q _ hf⟩;calc⟨z,us,r,⟨_,My _ Y,Y,_,Y⟩⟩
theorem jK(h:JA X es t):JE X (.List es pos) (oV t):=by
 calc⟨?_⟩;ext pins s σ H Q I hq;calc wpAny_List_spliced (aS (h pos pins s σ H _ I hq) λus s1 ⟨xs,H1,I1,r,z,q⟩=>⟨by rw[<-↑r];calc z,?_⟩);let hf:H1 ⇑s1=Z:=I1.aH.fresh (vQ _);calc⟨.ref ⇑s1,upd H1 ⇑s1 (.lst xs),I1.laid (t':=s1.toks) (λb u e=>pf _ e) (vQ _) ?_,Y,q _ hf⟩;calc⟨z,us,0,r,My _ Y⟩
end
abbrev Sp:=-V->Hp->VK->XK->Prop
abbrev ik:=-t->Hp->L->XK->J->L->Prop
structure gW(P:n)(w:g)(K:tu)(mg:R->Option J)(base:I)(A:q)(outer:-t)(s:L)(H:Hp):Prop where
 frames:A.frames=U outer
 mod:Mod K mg base
 bs:∀b o,base.get? b=U o->s.heap.get? b=U o/\H b=Z
 jD:base.objs.size<=⇑s
 cS:s.heap.FunFrames base outer
 kG:∀b∈dM outer,H b=Z
 aH:bY P w H s.heap
 bare:AllBare s.gens
def CE(outer:-t)(P:n)(w:g)(H:Hp)(s:L)(Q:VK)(u:J)(s':L):Prop :=
 ∃v H',s'.os=s.os/\AllBare s'.gens/\Un (dM outer) [] H H' s.heap s'.heap/\bY P w H' s'.heap/\RelV v u/\Q v H'
def CR(CX:ik)(outer:-t)(P:n)(w:g)(H:Hp)(s:L)(Q:VK)(E:XK)(r:Result)(s':L):Prop :=
 match r with
 |.ok (.ret u)=>CE outer P w H s Q u s'
 |.ok _=>False
 |.error e=>CX outer H s E e s'
structure bt(P:n)(w:g)(K:tu)(mg:R->Option J)(base:I)(CX:ik)(k:Nat)(f:O)(fd:FuncData)(ps:-R)(sp:Sp):Prop where
 len:∀vs H Q E,sp vs H Q E->↑vs=↑ps
 run:∀(A:q)(outer:-t)(s:L)(H:Hp)(args:Args)(us:-J)(vs:-V)(Q:VK)(E:XK),aZ k A->gW P w K mg base A outer s H->BindsTo s fd args (ps.zip us)->Vals vs us->sp vs H Q E →
  codeAny (M P w) A (.call (.ref f) args) (CR CX outer P w H s Q E) s
theorem bt.imp{P:n}{w:g}{K:tu}{mg:R->Option J}{base:I}{CX:ik}{k:Nat}{f:O}{fd:FuncData}{ps:-R}{sp D8:Sp}(F:bt P w K mg base CX k f fd ps sp)
  (h:∀vs H Q E,D8 vs H Q E->sp vs H Q E):bt P w K mg base CX k f fd ps D8 :=
 ⟨λvs H Q E q=>F.len vs H Q E (h _ _ _ _ q),λA outer s H args us vs Q E hr he hb hv hs=>F.run A outer s H args us vs Q E hr he hb hv (h _ _ _ _ hs)⟩
theorem gW.make{P:n}{w:g}{K:tu}{mg:R->Option J}{base:I}{A:q}{outer:-t}{s:L}{H:Hp}(e:gW P w K mg base A outer s H)(C:O)(us:-J)(kw:-(R×J)):
  gW P w K mg base (A.under (.builtin "type.__call__" ⟨.ref C::us,kw⟩)) outer s H:=⟨by first|exact e.frames|(simpa[q24,Code.envs,q25,pushEnvs] using e.frames),e.mod,e.bs,e.jD,e.cS,e.kG,e.aH,e.bare⟩
section
variable{X:Cx}{pins:aq}{σ:St}{H:Hp}{s s':L}
theorem Inv.sM(I:Inv X pins σ H s):gW X.prog X.w X.K X.mg X.base X.A X.stack s H :=
 ⟨I.ok.frames,I.ok.mod,I.bs,XH I.ok.jD I.sz,I.stack,I.di,I.aH,I.bare⟩
theorem Inv.after{Q:VK}{u:J}(I:Inv X pins σ H s)(h:CE X.stack X.prog X.w H s Q u s'):EP X pins σ Q u s':=by
 let⟨v,H',os,bare,un,aH,r,q⟩:=h;let⟨hh,g,d,t,yJ⟩:=s';obtain rfl:yJ=s.os:=os;calc⟨v,H',I.call (h':=hh) (g':=g) (d':=d) (t':=t) (ch:=[]) un aH bare (λb z=>absurd z (by simp)),r,q⟩
end
def nB(sp:Sp)(nD:-V)(E:XK)(t:TA):TE:=fun σ H Q=>t σ H λvs H1=>sp (vs++nD) H1 Q E
def Binds(K:tu)(fd:FuncData)(ps:-R)(ds:-J):Prop :=
 ∀(s:L)(us:-J),K.In s.heap->↑(us++ds)=↑ps->BindsTo s fd ⟨us,[]⟩ (ps.zip (us++ds))
theorem Binds.all{K:tu}{fd:FuncData}{ps:-R}(h:∀us:-J,↑us=↑ps->bindArgs fd ⟨us,[]⟩=pure (ps.zip us)):Binds K fd ps []:=λs us _ hl=>by
 rw[Ze] at hl ⊢;calc .of_eq (h us hl)
def jL(CX:ik)(X:Cx)(E:XK):Prop:=∀(pins:aq)(σ:St)(H:Hp)(s:L)(e:J)(s':L),Inv X pins σ H s->CX X.stack H s E e s'->X.xe e s'
section
variable{X:Cx}{CX:ik}{k:Nat}{f C:O}{fd:FuncData}{ps:-R}{sp:Sp}{nD:-V}{ds:-J}{E:XK}{x m:R}{p pos apos:y}{e o:B}{es:-B}{ta:TE}{t:TA}
theorem D9{pins:aq}{σ:St}{H:Hp}{s:L}{Q:VK}{us:-J}{vs:-V}(F:bt X.prog X.w X.K X.mg X.base CX k f fd ps sp)(hr:aZ k X.A)(hb:Binds X.K fd ps ds)(hd:Vals nD ds)(hx:jL CX X E)
  (I:Inv X pins σ H s) (r:Vals vs us) (h:sp (vs++nD) H Q E):G (M X.prog X.w) X.A (call (.ref f) us) (EP X pins σ Q) X.xe s:=by
 let r2:Vals (vs++nD) (us++ds):=r.append hd;let hl:↑(us++ds)=↑ps:=by rw[<-↑r2];exact F.len _ _ _ _ h
 refine q0Z (q0l (F.run X.A X.stack s H ⟨us,[]⟩ (us++ds) (vs++nD) Q E hr I.sM (hb s us I.cB hl) r2 h) λr s' hq=>?_)
 cases r with
 |error e=>exact hx pins σ H s e s' I hq
 |ok fl =>
  cases fl with
  |ret u=>exact I.after hq
  |next=>exact X1 hq
  |brk=>exact X1 hq
  |cont=>calc X1 hq
theorem qE(F:bt X.prog X.w X.K X.mg X.base CX k f fd ps sp)(hr:aZ k X.A)(hg:Gl X x)(hm:X.mg x=U (.ref f))(hk:XZ X.K (.ref f)=θ)(hb:Binds X.K fd ps ds)(hd:Vals nD ds)(hx:jL CX X E)
  (ha:JA X (e::es) t) (cn:bf x:=by decide) (he:cj X e es:=by rfl) (bV:cR X pos es:=by rfl) :
  JE X (.Call (.Name x p) (e::es) [] pos) (nB sp nD E t):=by
 calc⟨?_⟩;ext pins s σ H Q I h;calc Zx (sj I hg hm ?_ cn);calc q0b (h₀:=X.base) I.ok.mod.jC hk (aS (ha pos pins s σ H _ I h) λus s1 h0_=>el5 h0_ λvs H1 I1 r q =>⟨I1.cB,?_⟩) he bV;calc D9 F hr hb hd hx I1 r q
end
section
variable{X:Cx}{CX:ik}{k:Nat}{f C:O}{fd:FuncData}{ps ks:-R}{sp:Sp}{E:XK}{x m:R}{p pos apos sN:y}{e o:B}{es:-B}{VM:-Keyword}{te ta:TE}{t tk:TA}{nm:Option R}
variable{g:-J->-J->-J}{gV:-V->-V->-V}
end
structure kJ(N P:-R)(sc:u):Prop where
 kind:sc.kind=.function
 co:sc.isCoroutine=ι
 gen:sc.isGenerator=ι
 nd:N.Nodup
 pre:N.take ↑P=P
 par:∀x∈P,sc.names.lookup x=U .local\/sc.names.lookup x=U .cell
 oW:∀y∈sc.names,y.2≠.free
theorem D_{kindOf:R->Option NameKind}{x:R}:∀{binds:-(R×J)}{m:R->Option J},(∀v,(x,v)∉binds)->bindL kindOf binds m x=m x
 |[],_,_=>Y
 |(n,v)::r,m,h=>by
  unfold bindL;rw[D_ λw hw=>h w (Mu _ hw)];split
  .let:x≠n:=by ext rfl;exact h v Mv
   simp[this]
  .rfl
theorem Ea{kindOf:R->Option NameKind}{x:R}:∀{binds:-(R×J)}{m:R->Option J},(∀v,(x,v)∉binds)->bindC kindOf binds m x=m x
 |[],_,_=>Y
 |(n,v)::r,m,h=>by
  unfold bindC;rw[Ea λw hw=>h w (Mu _ hw)];split
  .rfl
  .let:x≠n:=by ext rfl;exact h v Mv
   simp[this]
theorem Eb{kindOf:R->Option NameKind}{x:R}{v:J}:∀{P:-R}{vs:-J}{i:Nat}{m:R->Option J},P.Nodup->P[i]?=U x->vs[i]?=U v->kindOf x=U .local →
  bindL kindOf (P.zip vs) m x=U v
 |[],_,_,_,_,h,_,_=>by simp at h
 |_::_,[],_,_,_,_,h,_=>by simp at h
 |p::P,w::vs,0,m,nd,h1,h2,hk=>by
  simp at h1 h2;subst h1;subst h2;show bindL kindOf ((p,w)::P.zip vs) m p=_;unfold bindL;rw[D_ λv hv=>(ZD.mp nd).1 (q1Q hv).1,Xa hk];simp
 |p::P,w::vs,i+1,m,nd,h1,h2,hk=>by
  show bindL kindOf ((p,w)::P.zip vs) m x=_;unfold bindL;calc Eb (i:=i) (ZD.mp nd).2 h1⁻¹ h2⁻¹ hk
theorem Ec{kindOf:R->Option NameKind}{x:R}{v:J}:∀{P:-R}{vs:-J}{i:Nat}{m:R->Option J},P.Nodup->P[i]?=U x->vs[i]?=U v->kindOf x≠U .local →
  bindC kindOf (P.zip vs) m x=U v
 |[],_,_,_,_,h,_,_=>by simp at h
 |_::_,[],_,_,_,_,h,_=>by simp at h
 |p::P,w::vs,0,m,nd,h1,h2,hk=>by
  simp at h1 h2;subst h1;subst h2;show bindC kindOf ((p,w)::P.zip vs) m p=_;unfold bindC;rw[Ea λv hv=>(ZD.mp nd).1 (q1Q hv).1,VR hk];simp
 |p::P,w::vs,i+1,m,nd,h1,h2,hk=>by
  show bindC kindOf ((p,w)::P.zip vs) m x=_;unfold bindC;calc Ec (i:=i) (ZD.mp nd).2 h1⁻¹ h2⁻¹ hk
noncomputable def start(N:-R)(vs:-V):St:=vs.map U++W7 (↑N-↑vs) Z
noncomputable def aQ(CX:ik)(P:n)(w:g)(K:tu)(mg:R->Option J)(base:I)(N:-R)(qual:R)(scope:u)(f:O)(cd:J)(A:q)(outer:-t)(s:L)(H:Hp)(E:XK):Cx where
 prog:=P
 w:=w
 K:=K
 mg:=mg
 base:=base
 A:=A.deeper (envOfC qual scope ⇑s f cd)
 N:=N
 s₀:=s
 H₀:=H
 env:=envOfC qual scope ⇑s f cd
 outer:=outer
 stack:=envOfC qual scope ⇑s f cd::outer
 ex:=[]
 calm:=true
 fn:=λ_=>θ
 pn:=[]
 xe:=λe s'=>G (M P w) (A.deeper (envOfC qual scope ⇑s f cd)) (leaving (envOfC qual scope ⇑s f cd) e) (λ_ sO=>CX outer H s E e sO) (λe' sO=>CX outer H s E e' sO) s'
theorem Ed{sc:u}{n:Nat}{x:R}(h:sc.names.lookup x=U .cell):∃c,(cellsFrom n sc.names []).lookup x=U c:=by
 let q:=q0m sc.names n [] (.inl h);calc Zj.mp q
theorem LD{CX:ik}{P:ψ}{w:g}{K:tu}{mg:R->Option J}{base:I}{N ps:-R}{qual:R}{scope:Δ}{f:O}{cd:J}{A:Β}{outer:-t}{s s1:L}{H:Hp}{E:XK}{us:-J}{vs:-V}
  (S:kJ N ps scope) (hd:A.handled=Z) (e0:gW P w K mg base A outer s H) (hl:↑vs=↑ps) (r:Vals vs us)
  (x:InCallC s ⇑s (bindL (envOfC qual scope ⇑s f cd).kindOf (ps.zip us) λ_=>Z) (cellsFrom (⇑s+1) scope.names []) (bindC (envOfC qual scope ⇑s f cd).kindOf (ps.zip us) λ_=>Z) s1) :
  Inv (aQ CX P w K mg base N qual scope f cd A outer s H E) [] (start N vs) H s1:=by
 let bV:↑ps<=↑N:=by let:=congrArg q3E S.pre;rw[Xi] at this;symm
 let⟨h1,tk,rfl,hk⟩:=x.done;let sP:∀b:O,b∉(aQ CX P w K mg base N qual scope f cd A outer s H E).ex:=λb z=>absurd (show b∈([]:-O) from z) (by simp)
 refine⟨⟨e0.mod,S.kind,Y,Y,vQ _,λy z c h1 h2=>?_,λy hy=>?_,λy c _ h=>?_,λ_=>hd,Around.frames_deeper e0.frames,.inr ⟨Y,Y⟩,λb z=>absurd z (sP b),e0.bs,e0.jD,λb _ _=>sP b,λb z=>absurd z (sP b),e0.cS,e0.kG⟩,
  Y,e0.bare,Un.kept hk,⟨_,x.toInCall.ns,λi y v h1 h2 h3=>?_⟩,λy c h=>⟨_,x.cell y c h⟩,e0.aH.fresh (vQ _),λy c h=>?_,λp hp=>absurd (show p∈([]:aq) from hp) (by simp),e0.aH.kept hk,?_⟩
 .exact name_of_addr x.apart (Ys h1) (Ys h2)
 .let hy:scope.names.lookup y=U .cell\/scope.names.lookup y=U .free:=hy
  rcases hy with hy|hy
  .exact Ed hy
  .exact absurd Y (S.oW _ (Ys hy))
 .exact Y4 (x.above y c (Ys h))
 .let hi:i<↑vs:=by
   unfold start at h2
   by_cases hi:i<↑vs
   .exact hi
   .rw[W8 hi⁻¹] at h2
    rw[Zo] at h2;split at h2<;>cases h2
  let ha:vs[i]?=U v:=by
   unfold start at h2;rw[W6 hi⁻¹,W5] at h2
   cases e:vs[i]? with
   |none=>rw[e] at h2;cases h2
   |some a=>rw[e] at h2;cases h2;rfl
  let⟨u,hu,rv⟩:=r.get ha
  let hp:ps[i]?=U y:=by
   rw[<-S.pre,XM ⋯];exact h1
  let Ee:ps.Nodup:=by rw[<-S.pre];exact S.nd.sublist (q2X _ _)
  calc⟨u,rv,?_⟩;rcases S.par y (Xu hp) with k|k
  .exact .inl ⟨k,Eb Ee hp hu k⟩
  .let⟨c,e⟩:=Ed (n:=⇑s+1) k
   calc .inr ⟨.inl k,c,e,?_⟩;let q:=x.cell y c e;rw[Ec Ee hp hu (by show scope.names.lookup y≠_;rw[k];decide)] at q;exact q
 .exact e0.aH.fresh (Y4 (x.above y c (Ys h)))
 .unfold start
  show _=↑N;rw[EB,qJ,Yu];symm
theorem Ef{CX:ik}{P:ψ}{w:g}{K:tu}{mg:R->Option ν}{base:Α}{k:Nat}{f:O}{name qual:R}{params:Arguments}{body:-χ}{scope:Δ}{dV kV doc pm aT ct oc:ν}{an od:Option O}
  {lF:Array (Option ν)} {N ps:-R} {sp:Sp} (lk:K.lookup f=U ⟨oc,od,.func (YL name qual params body scope dV kV doc pm an aT ct),lF⟩) (fE:q0n K aT qual=θ) (S:kJ N ps scope)
  (len:∀vs H Q E,sp vs H Q E->↑vs=↑ps)
  (eI:∀(A:Β)(outer:-Ζ)(s:L)(H:Hp)(vs:-V)(Q:VK)(E:XK),aZ k (A.deeper (envOfC qual scope ⇑s f aT))->sp vs H Q E →
   ∃t,bR (aQ CX P w K mg base N qual scope f aT A outer s H E) body t/\t {nx:=λ_ H'=>Q .non H',rt:=Q} (start N vs) H) :
  bt P w K mg base CX (k+1) f (YL name qual params body scope dV kV doc pm an aT ct) ps sp:=by
 calc⟨len,λA outer s H args us vs Q E hr e0 hb r kK=>?_⟩;let hl:=len _ _ _ _ kK;let KX:K.In s.heap:=e0.mod.jC.keeps λb o e=>(e0.bs b o e).1;let lim:s.heap.NoLimit:=e0.mod.nolimit.keeps λb o e=>(e0.bs b o e).1
 let sQ:∀y∈ps.zip us,scope.names.lookup y.1=U .local\/(scope.names.lookup y.1=U .cell/\((cellsFrom (⇑s+1) scope.names []).lookup y.1).isSome=θ):=λ⟨n,v⟩ hy↦by
  rcases S.par n (q1Q hy).1 with q|q
  .exact .inl q
  .exact .inr ⟨q,q0m _ _ _ (.inl q)⟩
 calc codeAny_call_function hr.depth (KX _ _ lk) Y S.co S.gen Y (PySem.W.codeRec_of KX fE) (hb _ _ _ _ ?_);calc wpAny_newFunctionEnv_cells S.kind sQ λenv he s1 x=>?_;subst he;calc⟨lim.keeps x.toInCall.keep,codeAny_func ?_⟩;let⟨t,ht,hq⟩:=eI A outer s H vs Q E (hr.deeper _) kK;let I:Inv (aQ CX P w K mg base N qual scope f aT A outer s H E) [] (start N vs) H s1:=LD S hr.hd e0 hl r x;refine YD (ht [] s1 (start N vs) H _ I hq) (λfl s' hs=>?_) λe s' hs=>hs
 let fin:∀{σ':St}{H':Hp}{v:V}{u:ν},Inv (aQ CX P w K mg base N qual scope f aT A outer s H E) [] σ' H' s'->RelV v u->Q v H'->CE outer P w H s Q u s' :=
  λ{σ' H' v u} J rv q=>⟨v,H',J.os,J.bare,J.base,J.aH,rv,q⟩
 cases fl with
 |ret u =>
  let⟨v,σ',H',J,rv,q⟩:=hs;exact fin J rv q
 |next =>
  let⟨σ',H',J,q⟩:=hs;exact fin (v:=V.non) (u:=Yr) J Y q
 |brk =>
  let⟨_,_,_,q⟩:=hs;exact X1 q
 |cont =>
  let⟨_,_,_,q⟩:=hs;calc X1 q
section
variable{X:Cx}{x:R}{p pos:y}{e:B}{es:-B}{t:TA}{id T:String}{r:-V->Hp->VK->Prop}
def sR(r:-V->Hp->VK->Prop)(t:TA):TE:=fun σ H Q=>t σ H λvs H1=>r vs H1 Q
theorem vL(hc:f_ X (.builtin id) r)(hg:Gl X x)(hm:X.mg x=Z)(hv:bootBuiltins x=U (.builtin id))(ha:JA X (e::es) t)(hn:x≠"__name__" := by decide)(cn:bf x:=by decide)
  (he:cj X e es:=by rfl) (bV:cR X pos es:=by rfl):JE X (.Call (.Name x p) (e::es) [] pos) (sR r t):=by
 calc⟨?_⟩;ext pins s σ H Q I h;calc Zx (nq I hg hm hv ?_ hn cn);calc PyProof.Rows.callWith_builtin1 (aS (ha pos pins s σ H _ I h) λus s1 h0_=>el5 h0_ λvs H1 I1 r1 q1 =>hc pins s1 σ H1 vs us Q I1 r1 q1) he bV
theorem nE(hc:f_ X (.type T) r)(hg:Gl X x)(hm:X.mg x=Z)(hv:bootBuiltins x=U (.type T))(ha:JA X (e::es) t)(hn:x≠"__name__" := by decide)(cn:bf x:=by decide)
  (he:cj X e es:=by rfl) (bV:cR X pos es:=by rfl):JE X (.Call (.Name x p) (e::es) [] pos) (sR r t):=by
 calc⟨?_⟩;ext pins s σ H Q I h;calc Zx (nq I hg hm hv ?_ hn cn);calc Yj (aS (ha pos pins s σ H _ I h) λus s1 h0_=>el5 h0_ λvs H1 I1 r1 q1 =>hc pins s1 σ H1 vs us Q I1 r1 q1) he bV
end
end L2
namespace HT
open PySem PyProof.Rows
noncomputable def lexLt:-Int->-Int->Bool
 |[],[]=>ι
 |[],_::_=>θ
 |_::_,[]=>ι
 |x::xs,y::ys=>if x=y then lexLt xs ys else S (x<y)
theorem LF(x y:Int)(xs ys:-Int):lexLt (x::xs) (y::ys)=if x=y then lexLt xs ys else S (x<y):=rfl
theorem LG:lexLt [] []=ι:=rfl
theorem LH(y:Int)(ys:-Int):lexLt [] (y::ys)=θ:=rfl
theorem LI(x:Int)(xs:-Int):lexLt (x::xs) []=ι:=rfl
theorem LL(A:q)(s:L)(a:Int)(t:Tok)(c:Int)(u:Tok):∃e,q0B A s (.int a t) (.int c u) e/\(e=θ↔a=c) :=
 ⟨(a==c),q00 a t c u,by simp⟩
theorem LM(A:q)(s:L)(a:Int)(t:Tok)(c:Int)(u:Tok)(prog:n)(w:g)(E:aM)(Q:aM)(h:Q (.bool (S (a<c))) s):
  G (M prog w) A (richCompare .Lt (.int a t) (.int c u)) Q E s :=
 (PyProof.Rows.lt_int h:G (M prog w) A (compareOp .Lt (.int a t) (.int c u)) Q E s)
section
open PySem.SeqAt
open PySem.AutoSeq1 (wpAny_loadPart')
open PySem.MeetsSeq PySem.MeetsSeq2 PySem.MeetsSeq3
theorem LN(l b:O)(items bM:Array J)(n n2:Nat)(dd nF:Option O)(sl nG:Array (Option J))(ns ms:-Int)(hi:IntsAre items.toList ns)(hj:IntsAre bM.toList ms):
  Meets (Builtin.«tuple.__lt__» ⟨[.ref l,.ref b],[]⟩)
   (λ_ R s=>s.heap.get? l=U {cls:=.type "tuple",dict:=dd,data:=.seq items n,slots:=sl}/\s.heap.get? b=U {cls:=.type "tuple",dict:=nF,data:=.seq bM n2,slots:=nG} ∧
    R (.ok (.ret (.bool (lexLt ns ms)))) s) :=
 .of_wp λprog w A R s h=>by
  let⟨hp,g,d,tk,os⟩:=s;let⟨hl,hb,h⟩:=h;let f2:=AutoSeq1.sub_tuple_tuple;let z1:items.size=ns.length:=by rw[<-↑hi];simp
  let z2:bM.size=↑ms:=by rw[<-↑hj];simp
  wp_walk using YB hl,YB hb,q0A _ (λrest b s'=>b.1=Z/\s'=⟨hp,g,d,tk,os⟩/\∃(vs ws:-J)(qF qG:-Int),rest=vs.zip ws ∧
   IntsAre vs qF/\IntsAre ws qG/\↑qF+bM.size=↑qG+items.size/\R (.ok (.ret (.bool (lexLt qF qG)))) ⟨hp,g,d,tk,os⟩) _
  case turn =>
   ext⟨y,x⟩ rest b s' ⟨hb',rfl,vs,ws,qF,qG,hz,yK,vM,hlen,hR⟩
   cases yK with
   |nil=>rw[List.zip_nil_left] at hz;cases hz
   |cons a t yL =>
    cases vM with
    |nil=>rw[List.zip_nil_right] at hz;cases hz
    |cons c u yM =>
     rw[q2K] at hz;injection hz with LO hrest;injection LO with hy hx;subst hy hx;rw[LF] at hR;erw[EA] at hlen;let⟨e,he,sS⟩:=LL A.in1 ⟨hp,g,d,tk,os⟩ a t c u;refine lK (he prog w _ _ ?_)
     cases e with
     |true =>
      rw[Xa (sS.mp Y)] at hR
      wp_walk
      exact⟨Y,Y,_,_,_,_,hrest,yL,yM,⋯,hR⟩
     |false =>
      rw[VR (λq=>absurd (sS.mpr q) Mw)] at hR;let LP:=LM A.in1 ⟨hp,g,d,tk,os⟩ a t c u prog w
      wp_walk using LP
      exact⟨_,Y,by simpa using hR⟩
  case fin =>
   ext⟨b1,b2⟩ s' ⟨hb',rfl,vs,ws,qF,qG,hz,yK,vM,hlen,hR⟩;simp only at hb';subst hb'
   let hv:lexLt qF qG=S (items.size<bM.size):=by
    cases yK with
    |nil =>
     cases vM with
     |nil =>
      erw[Ye] at hlen;rw[LG];exact(W_ ⋯).symm
     |cons c u hw =>
      erw[Ye,EA] at hlen;rw[LH];exact(VS ⋯).symm
    |cons a t hv =>
     cases vM with
     |nil =>
      erw[Ye,EA] at hlen;rw[LI];exact(W_ ⋯).symm
     |cons c u hw =>
      rw[q2K] at hz;cases hz
   rw[hv] at hR
   wp_walk
   exact⟨_,Y,by simpa[Builtin.Tuple.tupleCompareSizes] using hR⟩
  case h =>
   calc⟨Y,Y,items.toList,bM.toList,ns,ms,Y,hi,hj,⋯,h⟩
end
section
variable{prog:n}{w:g}{A:q}{E:aM}{s:L}
theorem LQ{l b:O}{items bM:Array J}{ns ms:-Int}{Q:aM}(hl:IsTup s.heap l items)(hb:IsTup s.heap b bM)(hi:IntsAre items.toList ns)(hj:IntsAre bM.toList ms)
  (hu:A.units<cLine) (h:Q (.bool (lexLt ns ms)) s):G (M prog w) A (compareOp .Lt (.ref l) (.ref b)) Q E s:=by
 let⟨⟨cls,dd,data,sl⟩,ho,hc,n,hd⟩:=id hl;let⟨⟨sT,nF,data2,nG⟩,jg,nH,n2,hd2⟩:=id hb;simp only at hc hd nH hd2;subst hc hd nH hd2
 exact richCompare_meets_room (op:=.Lt) ⟨_,ho,Y⟩ ⟨_,jg,Y⟩ PySem.F.slot_tuple_lt PySem.F.entry_tuple_lt (PySem.F.args_tuple_lt_2 _ _) (LN l b items bM n n2 dd nF sl nG ns ms hi hj)
  ⟨ho,jg,show ZQ (lexLt ns ms)≠Value.notImplemented/\Q (.bool (lexLt ns ms)) s from⟨(λx=>nomatch x),h⟩⟩ hu
theorem LR{t b:O}{vs ws:-J}{Q:aM}(ht:IsTup s.heap t vs.toArray)(hb:IsTup s.heap b ws.toArray)(hv:vs≠[])
  (h1:ws=[]->Q (.ref t) s) (h2:ws≠[]->Q (.ref ⇑s) {s with heap:=s.heap.push {cls:=.type "tuple",data:=.seq (vs++ws).toArray}})
  (hsz:↑vs+↑ws<=sizeLine):G (M prog w) A (binaryOp .Add (.ref t) (.ref b)) Q E s:=by
 let⟨⟨cls,dd,data,sl⟩,ho,hc,n,hd⟩:=id ht;let⟨⟨sT,nF,data2,nG⟩,jg,nH,n2,hd2⟩:=id hb;simp only at hc hd nH hd2;subst hc hd nH hd2;let e:vs.toArray++ws.toArray=(vs++ws).toArray:=by simp
 by_cases hw:ws=[]
 .exact q26 ⟨_,ho,Y⟩ ⟨_,jg,Y⟩ q1s q2y q0o q0e (Z5 _ _)
   (tuple_addW1 t b vs.toArray ws.toArray n n2 dd nF sl nG hv⁻¹ (by simp[hw])) ⟨ho,jg,h1 hw⟩
 .refine q26 ⟨_,ho,Y⟩ ⟨_,jg,Y⟩ q1s q2y q0o q0e (Z5 _ _)
   (tuple_addW2 t b vs.toArray ws.toArray n n2 dd nF sl nG hv⁻¹ hw⁻¹ (by rw[Ez,Ez];calc hsz)) ⟨ho,jg,?_⟩
  rw[e];calc h2 hw
noncomputable def aP(n d:Nat):Option Int->Nat
 |none=>d
 |some v=>if v<0 then(v+(n:Int)).toNat else min v.toNat n
theorem yN(n d:Nat):aP n d Z=d:=rfl
theorem nJ(n d k:Nat):aP n d (U (k:Int))=min k n:=by
 show(if(k:Int)<0 then((k:Int)+(n:Int)).toNat else min (k:Int).toNat n)=min k n;rw[VR ⋯,YM]
theorem LU(n d:Nat)(hd:d<=n)(o:Option Int):aP n d o<=n:=by
 cases o with
 |none=>exact hd
 |some v =>
  show(if v<0 then(v+(n:Int)).toNat else min v.toNat n)<=n
  by_cases hv:v<0
  .rw[Xa hv];symm
  .rw[VR hv];calc Nat.min_le_right _ _
theorem Eg(v:Int)(n d:Nat):(if v<0 then max (v+(n:Int)) 0 else min v (n:Int))=((aP n d (U v):Nat):Int):=by
 show(if v<0 then max (v+(n:Int)) 0 else min v (n:Int))=(((if v<0 then(v+(n:Int)).toNat else min v.toNat n):Nat):Int)
 by_cases hv:v<0
 .erw[Xa hv];symm
 .erw[VR hv];symm
theorem LV(lo hi:Option Int)(n:Nat):Z0 lo hi 1 (n:Int)=(((aP n 0 lo:Nat):Int),((aP n n hi:Nat):Int)):=by
 let h1:¬ ((1:Int)<0):=by symm
 unfold Z0;erw[h1,XY];refine Prod.ext ?_ ?_
 .cases lo with
  |none=>rfl
  |some v=>exact Eg v n 0
 .cases hi with
  |none=>rfl
  |some v=>calc Eg v n n
theorem LW(i j:Nat):Yb (i:Int) (j:Int) 1=j-i:=by
 unfold Yb;let h1:(1:Int)>0:=by symm
 erw[h1,YU,q27];split<;>symm
theorem sU{v:J}{o:Option Int}{Q:Option Int->L->Prop}(p:IsPart v o)(h:Q o s):G (M prog w) A (Builtin.Slice.slicePartIndex v) Q E s:=by
 cases p with
 |none=>exact slicePart_none h
 |int i t=>calc slicePart_int h
theorem Eh{sl:O}{vl vu:J}{lo hi:Option Int}{n:Nat}{Q:Int×Int×Nat->L->Prop}(hs:s.heap.IsSliceOf sl vl vu .none)(pl:IsPart vl lo)(pu:IsPart vu hi)
  (h:Q (((aP n 0 lo:Nat):Int),1,aP n n hi-aP n 0 lo) s):G (M prog w) A (Y9 (.ref sl) (pure (n:Int))) Q E s:=by
 let⟨os,iJ,lG,kM⟩:=id hs;unfold Y9 q1a;calc lK (lK (X0 iJ kM (x:=vl) Y (lK (X0 iJ kM (x:=vu) Y (lK (X0 iJ kM (x:=.none) Y (zi ?_)))))));calc lK (slicePart_none ?_);show G _ _ (if((1:Int)==0)=θ then _ else _) _ _ s;rw[VR (by decide)];refine lK (sU pl (lK (sU pu (lK (zi ?_)))))
 show G _ _ (match Z0 lo hi 1 (n:Int) with|(lo,hi)=>pure (lo,(1:Int),Yb lo hi 1)) _ _ s;rw[LV lo hi n];show G _ _ (pure (((aP n 0 lo:Nat):Int),(1:Int),Yb ((aP n 0 lo:Nat):Int) ((aP n n hi:Nat):Int) 1)) _ _ s;rw[LW];calc zi h
theorem LX(xs:Array J)(i k:Nat):((Xy k).filterMap λ(m:Nat)=>xs[((i:Int)+(m:Int)*1).toNat]?).toArray=((xs.toList.drop i).take k).toArray:=by
 let e:(λ(m:Nat)=>xs[((i:Int)+(m:Int)*1).toNat]?)=λm=>xs[i+m]?:=by
  funext m;let:((i:Int)+(m:Int)*1).toNat=i+m:=by symm
  rw[this]
 rw[e];let:=pick_run xs i k;rw[q0V] at this;let e2:((λx=>xs[x]?)∘λx=>i+x)=λm=>xs[i+m]?:=Y;rw[e2] at this;rw[this]
theorem LY{t sl:O}{items:Array J}{vl vu:J}{lo hi:Option Int}{Q:aM}(ht:IsTup s.heap t items)(hs:s.heap.IsSliceOf sl vl vu .none)(pl:IsPart vl lo)(pu:IsPart vu hi)
  (hw:¬ (aP items.size 0 lo=0/\aP items.size items.size hi=items.size))
  (h:Q (.ref ⇑s) {s with heap:=s.heap.push {cls:=.type "tuple",data:=.seq ((items.toList.drop (aP items.size 0 lo)).take (aP items.size items.size hi-aP items.size 0 lo)).toArray}})
  (hsz:items.size<=sizeLine):G (M prog w) A (getItem (.ref t) (.ref sl)) Q E s:=by
 let dr:sizeOk (.seq ((items.toList.drop (aP items.size 0 lo)).take (aP items.size items.size hi-aP items.size 0 lo)).toArray):=by
  show((items.toList.drop (aP items.size 0 lo)).take (aP items.size items.size hi-aP items.size 0 lo)).toArray.size<=sizeLine;rw[Ez,Xi,XO,Mx];symm
 let hj:aP items.size items.size hi<=items.size:=LU _ _ (vQ _) hi;let⟨os,iJ,lG,kM⟩:=id hs;let sV:s.TypeIs (.ref sl) "slice" := ⟨os,iJ,lG⟩;unfold getItem
 try with_reducible refine XI ?_
 first|refine lK (zi ?_)|skip
 refine lK (q1e ht.typeIs (by decide) ?_)
 refine lK (Ym (name:=XW "__getitem__") ht.typeIs Xs
  (Y7 Xs ht.typeIs q0R ?_ (q01 _ _)))
 show G _ _ (ZS (.ref t) >>= _) _ _ s;calc lK (q2z ht ?_);calc lK (q0p sV ?_);rw[Xa (by decide)];refine lK (Eh hs pl pu ?_)
 let LZ:¬ ((((aP items.size 0 lo:Nat):Int)==0&&(1:Int)==1&&(aP items.size items.size hi-aP items.size 0 lo)==items.size)=θ):=by
  ext q;rw[W9,W9] at q;let q1:((aP items.size 0 lo:Nat):Int)=0:=Xc q.1.1;let q2:aP items.size items.size hi-aP items.size 0 lo=items.size:=Xc q.2;exact hw ⟨⋯,⋯⟩
 show G _ _ (if(((aP items.size 0 lo:Nat):Int)==0&&(1:Int)==1&&(aP items.size items.size hi-aP items.size 0 lo)==items.size)=θ then _ else _) _ _ s;rw[VR LZ,LX]
 first
  |exact lK (m:=X7 _) (X9 (zi ⟨_,Y,zi h⟩) dr)
  |exact lK (m:=X7 _) (X9 (lK (zi (zi ⟨_,Y,zi h⟩))) dr)
  |exact lK (lK (m:=X7 _) (X9 (zi (zi ⟨_,Y,zi h⟩)) dr))
  |calc lK (lK (m:=X7 _) (X9 (zi ⟨_,Y,zi h⟩) dr))
end
end HT
namespace L2
open PySem PySem.Spec PyProof.Rows
abbrev TO:=St->Hp->(Option Int->Hp->Prop)->Prop
def PO(X:Cx)(e:Option B)(t:TO):Prop :=
 ∀(pins:aq)(s:L)(σ:St)(H:Hp)(Q:Option Int->Hp->Prop),Inv X pins σ H s->t σ H Q →
  G (M X.prog X.w) X.A (evalPart e X.env) (λu s'=>∃o H',Inv X pins σ H' s'/\IsPart u o/\Q o H') X.xe s
def L7:TO:=λ_ H Q=>Q Z H
def L8(t:TE):TO:=fun σ H Q=>t σ H λx H1=>∃i,x=.int i/\Q (U i) H1
theorem intsAre_of{ns:-Int}:∀{us:-J},Vals (ns.map V.int) us->IntsAre us ns:=by
 induction ns with
 |nil=>ext us r;rw[Y5] at r;cases r;exact .nil
 |cons n ns ih =>
  ext us r;rw[Xl] at r
  cases r with
  |cons r1 r2 =>
   let⟨t,e⟩:=r1;subst e;calc .cons n t (ih r2)
section
variable{X:Cx}{e:B}{te:TE}{lo hi:Option B}{tl th:TO}{pos p2:y}
theorem Ei:PO X Z L7:=by
 ext pins s σ H Q I h;rw[q2A];calc zi ⟨Z,H,I,.none,h⟩
theorem vN(h:JE X e te):PO X (U e) (L8 te):=by
 ext pins s σ H Q I hw;rw[q4G];calc aS (h pins s σ H _ I hw) λu s1 h0_=>el5 h0_ λx H1 I1 r1 q1=>?_;let⟨i,rfl,q⟩:=q1;let⟨t,rfl⟩:=r1;calc⟨U i,H1,I1,.int i t,q⟩
def nK(X:Cx)(r:V->Option Int->Option Int->Hp->VK->Prop):Prop :=
 ∀(pins:aq)(s:L)(σ:St)(H:Hp)(x:V)(v vl vu:J)(lo hi:Option Int)(sl:O)(Q:VK),Inv X pins σ H s->RelV x v->s.heap.IsSliceOf sl vl vu .none->IsPart vl lo->IsPart vu hi->r x lo hi H Q →
  ∃T id,typeLookup (.type T) "__getitem__" = pure (U (.builtin id))/\s.TypeIs v T/\G (M X.prog X.w) X.A (getItem v (.ref sl)) (EP X pins σ Q) X.xe s
theorem nK.or{r r':V->Option Int->Option Int->Hp->VK->Prop}(h:nK X r)(h':nK X r'):nK X (λx lo hi H Q=>r x lo hi H Q\/r' x lo hi H Q):=by
 ext pins s σ H x v vl vu lo hi sl Q I rx hs pl pu q;rcases q with q|q
 .exact h pins s σ H x v vl vu lo hi sl Q I rx hs pl pu q
 .calc h' pins s σ H x v vl vu lo hi sl Q I rx hs pl pu q
def L9(r:V->Option Int->Option Int->Hp->VK->Prop)(te:TE)(tl th:TO):TE:=fun σ H Q=>te σ H λx H1=>tl σ H1 λl H2=>th σ H2 λu H3=>r x l u H3 Q
theorem yO{r:V->Option Int->Option Int->Hp->VK->Prop}(hr:nK X r)(he:JE X e te)(hl:PO X lo tl)(hu:PO X hi th):JE X (.Subscript e (.Slice lo hi Z p2) pos) (L9 r te tl th):=by
 calc⟨?_⟩;ext pins s σ H Q I h;calc Subscript_ (aS (he pins s σ H _ I h) λv s1 h0_=>el5 h0_ λx H1 I1 r1 q1=>?_);calc wpAny_Slice (aS (hl pins s1 σ H1 _ I1 q1) λvl s2 h0_=>el5 h0_ λl H2 I2 pl q2 =>aS (hu pins s2 σ H2 _ I2 q2) λvu s3 h0_=>el5 h0_ λu H3 I3 pu q3=>?_);rw[q2A];calc zi ?_;let I4:Inv X pins σ H3 {s3 with heap:=s3.heap.push {cls:=.type "slice",data:=.fields #[vl,vu,.none]}}:=I3.kept (t':=s3.toks) λb ob q=>pf _ q;let⟨T,id,hT,ht,hg⟩:=hr pins {s3 with heap:=s3.heap.push {cls:=.type "slice",data:=.fields #[vl,vu,.none]}} σ H3 x v vl vu l u ⇑s3 Q I4 r1 (q02 ..) pl pu q3
 show G (M X.prog X.w) X.A (subscriptTail e (.Slice lo hi Z p2) v (.ref ⇑s3)) (EP X pins σ Q) X.xe {s3 with heap:=s3.heap.push {cls:=.type "slice",data:=.fields #[vl,vu,.none]}};calc q37 (ops:=[.ref ⇑s3,v]) ht hT hg (by with_unfolding_all rfl)
noncomputable def cq(xs:-V)(lo hi:Option Int):-V:=(xs.drop (HT.aP ↑xs 0 lo)).take (HT.aP ↑xs ↑xs hi-HT.aP ↑xs 0 lo)
theorem Ej(xs:-V)(lo hi:Option Int):↑(cq xs lo hi)<=↑xs:=by
 unfold cq;rw[Xi,XO];symm
def yP(K:tu):V->Option Int->Option Int->Hp->VK->Prop:=λx lo hi H Q=>∃a xs,x=.ref a/\bo K H a xs ∧
 ¬ (HT.aP ↑xs 0 lo=0/\HT.aP ↑xs ↑xs hi=↑xs)/\∀p,H p=Z->Q (.ref p) (upd H p (.tup (cq xs lo hi)))
theorem L_:nK X (yP X.K):=by
 ext pins s σ H x v vl vu lo hi sl Q I rx hs pl pu h;let⟨a,xs,rfl,hx,hw,q⟩:=h;cases rx
 let⟨ah,r,ht,hz⟩:=I.tuple hx;let hlen:ah.toArray.size=↑xs:=by rw[Ez];exact r.length.symm
 calc⟨"tuple",_,Xs.lookup,ht.typeIs,?_⟩;calc HT.LY ht hs pl pu (by rw[hlen];calc hw) ?_ (by rw[hlen];calc hz);rw[hlen];calc⟨.ref ⇑s,_,I.laid (t':=s.toks) (o:=.tup (cq xs lo hi)) (λb ob q=>pf _ q) (vQ _) ?_,Y,q _ (I.aH.fresh (vQ _))⟩;calc⟨XH (Ej xs lo hi) hz,_,(r.drop (HT.aP ↑xs 0 lo)).take (HT.aP ↑xs ↑xs hi-HT.aP ↑xs 0 lo),q3r _ _⟩
def yQ(K:tu):R2:=λx y H Q=>∃a b ns ms,x=.ref a/\y=.ref b/\bo K H a (ns.map V.int)/\bo K H b (ms.map V.int)/\Q (.bl (HT.lexLt ns ms)) H
theorem Ma(hu:X.A.units<cLine):de X (compareOp .Lt) (yQ X.K):=by
 ext pins s σ H x y v u Q I rx ry h;let⟨a,b,ns,ms,rfl,rfl,ha,hb,q⟩:=h;cases rx
 cases ry
 let⟨ah,r1,p1,_⟩:=I.tuple ha;let⟨aU,r2,p2,_⟩:=I.tuple hb;let i1:IntsAre ah.toArray.toList ns:=intsAre_of r1;let i2:IntsAre aU.toArray.toList ms:=intsAre_of r2;calc HT.LQ p1 p2 i1 i2 hu ⟨.bl (HT.lexLt ns ms),H,I,Y,q⟩
def Mb(K:tu):R2:=λx y H Q=>∃a b xs ys,x=.ref a/\y=.ref b/\bo K H a xs/\bo K H b ys/\xs≠[]/\↑xs+↑ys<=sizeLine ∧
 (ys=[]->Q (.ref a) H)/\(ys≠[]->∀p,H p=Z->Q (.ref p) (upd H p (.tup (xs++ys))))
theorem Vals.eC{xs:-V}{us:-J}(r:Vals xs us):us=[]↔xs=[]:=by
 cases r with
 |nil=>simp
 |cons _ _=>simp
theorem Mc:de X (binaryOp .Add) (Mb X.K):=by
 ext pins s σ H x y v u Q I rx ry h;let⟨a,b,xs,ys,rfl,rfl,ha,hb,hx,hz,q1,q2⟩:=h;cases rx
 cases ry
 let⟨ah,r1,p1,_⟩:=I.tuple ha;let⟨aU,r2,p2,_⟩:=I.tuple hb;calc HT.LR p1 p2 (λz=>hx (r1.eC.mp z)) (λz=>⟨.ref a,H,I,Y,q1 (r2.eC.mp z)⟩) (λz=>?_) (by rw[<-↑r1,<-↑r2];calc hz);calc⟨.ref ⇑s,_,I.laid (t':=s.toks) (o:=.tup (xs++ys)) (λb ob q=>pf _ q) (vQ _) ?_,Y,q2 (λw=>z (r2.eC.mpr w)) _ (I.aH.fresh (vQ _))⟩;calc⟨by rw[EB];calc hz,_,r1.append r2,q3r _ _⟩
end
noncomputable def iK(n:Nat)(i:Int):Option Nat:=if 0<=i then(if i<n then U i.toNat else Z) else if -(n:Int)<=i then U (i+n).toNat else Z
noncomputable def d3{α:Type}(xs:-α)(i:Int):Option α:=(iK ↑xs i).bind λj=>xs[j]?
theorem Ek{n:Nat}{i:Int}{j:Nat}(h:iK n i=U j):seqIndex? i n=U j/\j<n /\ -(n:Int)<=i/\i<n:=by
 unfold iK at h
 by_cases h0:0<=i
 .rw[Xa h0] at h
  by_cases h1:i<n
  .rw[Xa h1] at h
   let e:i.toNat=j:=Xt h;exact⟨by rw[q3F h0 h1,e],⋯,⋯,h1⟩
  .rw[VR h1] at h;cases h
 .rw[VR h0] at h
  by_cases h1 : -(n:Int)<=i
  .rw[Xa h1] at h
   let e:(i+n).toNat=j:=Xt h;exact⟨by rw[q28 ⋯ h1,e],⋯,h1,⋯⟩
  .rw[VR h1] at h;cases h
theorem yR{α:Type}{xs:-α}{i:Int}{v:α}(h:d3 xs i=U v):∃j,seqIndex? i ↑xs=U j/\xs[j]?=U v/\j<↑xs /\ -(↑xs:Int)<=i/\i<↑xs:=by
 unfold d3 at h
 cases e:iK ↑xs i with
 |none=>rw[e] at h;cases h
 |some j =>
  rw[e] at h;let⟨h1,h2,h3,h4⟩:=Ek e;calc⟨j,h1,h,h2,h3,h4⟩
theorem jh{α:Type}{xs:-α}{j:Nat}{v:α}(h:xs[j]?=U v):d3 xs (j:Int)=U v:=by
 let hj:j<↑xs:=(ph.mp h).1
 let e:iK ↑xs (j:Int)=U j:=by
  unfold iK;rw[Xa ⋯,Xa ⋯];simp
 unfold d3;rw[e];calc h
def yS(b:B):Prop:=∀o i,subscripted b ι o i=operate [o,i] (getItem o i)
def sW(X:Cx)(r:R2):Prop :=
 ∀(value slice:B)(pins:aq)(s:L)(σ:St)(H:Hp)(x y:V)(v u:J)(Q:VK),Inv X pins σ H s->RelV x v->RelV y u->r x y H Q →
  subscripted slice ι v u=operate [v,u] (getItem v u)->G (M X.prog X.w) X.A (subscriptTail value slice v u) (EP X pins σ Q) X.xe s
def yT(X:Cx)(id:String)(r:V->-V->Hp->VK->Prop):Prop :=
 ∀(pins:aq)(s:L)(σ:St)(H:Hp)(x:V)(xs:-V)(v:J)(us:-J)(Q:VK),Inv X pins σ H s->RelV x v->Vals xs us->r x xs H Q →
  G (M X.prog X.w) X.A (call (.builtin id) (v::us)) (EP X pins σ Q) X.xe s
section
variable{X:Cx}{a b:B}{ta tb:TE}{pos:y}
theorem sX{r:R2}(hr:sW X r)(ha:JE X a ta)(hb:JE X b tb)(hs:yS b):JE X (.Subscript a b pos) (qD r ta tb):=by
 calc⟨?_⟩;ext pins s σ H Q I h;calc Subscript_ (oP ha hb I h λv u s2 x y H2 I2 rx ry q=>hr a b pins s2 σ H2 x y v u Q I2 rx ry q (hs _ _))
def sY(K:tu):R2:=λx y H Q=>∃p xs i v,x=.ref p/\y=.int i/\aX K H p xs/\d3 xs i=U v/\Q v H
def yU(K:tu):R2:=λx y H Q=>∃p xs i v,x=.ref p/\y=.int i/\bo K H p xs/\d3 xs i=U v/\Q v H
def yV:R2:=λx y H Q=>∃z i c,x=.str z/\y=.int i/\↑z<=sizeLine/\d3 z.cps.toList i=U c/\Q (.str ⟨#[c]⟩) H
theorem sZ:sW X (sY X.K):=by
 ext value slice pins s σ H x y v u Q I rx ry h hs;let⟨p,xs,i,z,rfl,rfl,hq,he,q⟩:=h;cases rx
 let⟨t,rfl⟩:=ry;let⟨ah,r,pl,hz⟩:=I.list hq;let⟨j,h1,h2,h3,h4,h5⟩:=yR he;let⟨w,ew,s_⟩:=r.get h2;let hl:=↑r;let hn:=oS;let fin:EP X pins σ Q w s:=⟨z,H,I,s_,q⟩
 by_cases h0:0<=i
 .let hj:i.toNat=j:=by
   rw[q3F h0 h5] at h1;exact Xt h1
  exact item_listR pl.isList h0 ⋯ (by rw[hj];simpa using ew) fin hs
 .let hj:(i+(ah.toArray.size:Int)).toNat=j:=by
   rw[q28 ⋯ h4] at h1;rw[Ez,<-hl];exact Xt h1
  exact q1C (x:=w) pl.isList.typeIs q1f.lookup
   (wpAny_getItem_list_neg (Q:=λr s'=>r=w/\EP X pins σ Q r s') pl.isList ⋯ (by rw[Ez]<;>symm) ⋯ (by rw[hj];simpa using ew) ⟨Y,fin⟩) hs
theorem Md:sW X (yU X.K):=by
 ext value slice pins s σ H x y v u Q I rx ry h hs;let⟨p,xs,i,z,rfl,rfl,hq,he,q⟩:=h;cases rx
 let⟨t,rfl⟩:=ry;let⟨ah,r,pl,hz⟩:=I.tuple hq;let⟨j,h1,h2,h3,h4,h5⟩:=yR he;let⟨w,ew,s_⟩:=r.get h2;let hl:=↑r;let hn:=oS;let fin:EP X pins σ Q w s:=⟨z,H,I,s_,q⟩
 exact q1C (x:=w) pl.typeIs slot_tuple_getitem.lookup
  (getItem_tuple (j:=j) (Q:=λr s'=>r=w/\EP X pins σ Q r s') pl ⋯ ⋯ (by rw[Ez,<-hl];calc h1) ew⁻¹ ⟨Y,fin⟩) hs
theorem Me:sW X yV:=by
 ext value slice pins s σ H x y v u Q I rx ry h hs;let⟨z,i,c,rfl,rfl,hz,he,q⟩:=h;let⟨t,rfl⟩:=rx;let⟨t',rfl⟩:=ry;let⟨j,h1,h2,h3,h4,h5⟩:=yR he;let hl:↑z.cps.toList=↑z:=by simp[Str.length]
 rw[hl] at h1 h4 h5;let hn:=oS
 exact q37 (typeIs_str s z t) slot_str_getitem.lookup (getItem_str (c:=c) (by
  let e1:S (i < -(2 ^ 63:Int))=ι:=W_ ⋯;let e2:S (i ≥ 2 ^ 63)=ι:=W_ ⋯
  rw[e1,e2,q4H]) (by rw[h1];simpa using h2) ⟨.str ⟨#[c]⟩,H,I.tok _,⟨_,Y⟩,q⟩) hs
theorem Mf(ah:-J)(n j:Nat)(u:J):q1D (·.setIfInBounds j u) {cls:=.type "list",data:=.seq ah.toArray n}={cls:=.type "list",data:=.seq (ah.set j u).toArray n}:=by
 simp[q1D]
theorem Inv.lst{pins:aq}{σ:St}{H:Hp}{s:L}{p:O}{xs:-V}(I:Inv X pins σ H s)(h:H p=U (.lst xs)):
  ∃(ah:-J)(n:Nat),Vals xs ah/\s.heap.get? p=U {cls:=.type "list",data:=.seq ah.toArray n}/\↑xs<=sizeLine:=by
 let⟨z,ah,n,r,e⟩:=I.aH p _ h;calc⟨ah,n,r,e,z⟩
theorem Inv.oX{pins:aq}{σ:St}{H:Hp}{s:L}{p:O}{xs ys:-V}{ah its':-J}{n n':Nat}{f:Γ->Γ}(I:Inv X pins σ H s)(h:H p=U (.lst xs))
  (ho:s.heap.get? p=U {cls:=.type "list",data:=.seq ah.toArray n}) (hf:f {cls:=.type "list",data:=.seq ah.toArray n}={cls:=.type "list",data:=.seq its'.toArray n'}) (r:Vals ys its') (hz:↑ys<=sizeLine) (t:Nat) :
  Inv X pins σ (upd H p (.lst ys)) {s with heap:=s.heap.update p f,toks:=t}:=by
 let e:(s.heap.update p f).get? p=U {cls:=.type "list",data:=.seq its'.toArray n'}:=by
  rw[Yg f ho (by rw[hf]<;>rfl),hf]
 calc I.write (x:=p) (e:=p) (by rw[h];trivial) (.inl Y) (λb u hb q=>(YN _ _ (YV hb)).trans q) ⟨_,e⟩ ?_;calc⟨hz,its',n',r,e⟩
def El:V->V->V->Hp->(Hp->Prop)->Prop:=λo i v H Q=>∃p xs k j,o=.ref p/\i=.int k/\H p=U (.lst xs)/\iK ↑xs k=U j/\Q (upd H p (.lst (xs.set j v)))
theorem set_list:su X El:=by
 ext pins s σ H o i v ov iv u Q I ro ri rv h;let⟨p,xs,k,j,rfl,rfl,hp,hj,q⟩:=h;cases ro
 let⟨t,rfl⟩:=ri;let⟨ah,n,r,ho,hz⟩:=I.lst hp;let⟨h1,h2,h3,h4⟩:=Ek hj;let hl:=↑r;let hn:=oS
 let I':Inv X pins σ (upd H p (.lst (xs.set j v))) {s with heap:=s.heap.update p (q1D (·.setIfInBounds j u))} :=
  I.oX hp ho (Mf ah n j u) (r.set rv j) (by rw[Yn];calc hz) s.toks
 by_cases h0:0<=k
 .let hk:k.toNat=j:=by
   rw[q3F h0 h4] at h1;exact Xt h1
  exact PySem.W.ki_setAt ho h0 ⋯ (by rw[Ez,<-hl];calc h4) (by rw[hk];calc⟨_,I',q⟩)
 .let hk:(k+(ah.toArray.size:Int)).toNat=j:=by
   rw[q28 ⋯ h3] at h1;rw[Ez,<-hl];exact Xt h1
  calc PySem.W.ki_setBack ho ⋯ (by rw[Ez,<-hl];calc h3) ⋯ (by rw[hk];calc⟨_,I',q⟩)
theorem Mg(lo hi:Option Int)(n:Nat):(sliceBounds lo hi Z n).1=((HT.aP n 0 lo:Nat):Int)/\(sliceBounds lo hi Z n).2.1=((HT.aP n n hi:Nat):Int)/\(sliceBounds lo hi Z n).2.2=1:=by
 refine⟨?_,?_,Y⟩
 .cases lo with
  |none=>simp[sliceBounds,HT.aP]
  |some i =>
   erw[sliceBounds,HT.aP,q0C,show(1:Int)>0 by decide,YU]
   by_cases h:i<0
   .erw[h,YU]<;>symm
   .erw[h,XY]<;>symm
 .cases hi with
  |none=>simp[sliceBounds,HT.aP]
  |some i =>
   erw[sliceBounds,HT.aP,q0C,show(1:Int)>0 by decide,YU]
   by_cases h:i<0
   .erw[h,YU]<;>symm
   .erw[h,XY]<;>symm
theorem Mh(ah:-J)(lo hi:Option Int):slicePick ah.toArray lo hi Z=((ah.drop (HT.aP ↑ah 0 lo)).take (HT.aP ↑ah ↑ah hi-HT.aP ↑ah 0 lo)).toArray:=by
 let⟨h1,h2,h3⟩:=Mg lo hi ah.toArray.size;unfold slicePick;rw[h1,h2,h3];erw[sliceRange_one,pick_run,Ez]<;>rfl
def yW(K:tu):V->Option Int->Option Int->Hp->VK->Prop:=λx lo hi H Q=>∃a xs,x=.ref a/\aX K H a xs/\∀p,H p=Z->Q (.ref p) (upd H p (.lst (cq xs lo hi)))
theorem fQ:nK X (yW X.K):=by
 ext pins s σ H x v vl vu lo hi sl Q I rx hs pl pu h;let⟨a,xs,rfl,hx,q⟩:=h;cases rx
 let⟨ah,r,ht,hz⟩:=I.list hx;let hlen:=↑r;calc⟨"list",_,q1f.lookup,ht.isList.typeIs,?_⟩;calc q1i ht.isList hs pl pu .none (by simp) ?_ (by rw[Ez]<;>symm);rw[Mh,<-hlen];calc⟨.ref ⇑s,_,I.laid (t':=s.toks) (o:=.lst (cq xs lo hi)) (λb ob q=>pf _ q) (vQ _) ?_,Y,q _ (I.aH.fresh (vQ _))⟩;calc⟨XH (Ej xs lo hi) hz,_,0,(r.drop (HT.aP ↑xs 0 lo)).take (HT.aP ↑xs ↑xs hi-HT.aP ↑xs 0 lo),My _ Y⟩
noncomputable def ji:V->Bool
 |.non=>θ
 |.bl _=>θ
 |.int _=>θ
 |.str _=>θ
 |_=>ι
noncomputable def fF:V->V->Bool
 |.non,.non=>θ
 |.bl a,.bl b=>a==b
 |.bl a,.int b=>(if a then 1 else 0)==b
 |.int a,.bl b=>a==(if b then 1 else 0)
 |.int a,.int b=>a==b
 |.str a,.str b=>a==b
 |_,_=>ι
theorem Mi{A:q}{s:L}{y x:V}{u v:J}(ry:RelV y u)(rx:RelV x v)(fy:ji y=θ)(fx:ji x=θ):q0B A s u v (fF y x):=by
 cases y with
 |non =>
  cases ry
  cases x with
  |non=>cases rx;exact q0K _
  |bl b=>cases rx;exact q13 b
  |int b=>let⟨t,rfl⟩:=rx;exact q2e b t
  |str b=>let⟨t,rfl⟩:=rx;exact q2f b t
  |_=>exact absurd (show ι=θ from fx) Mw
 |bl a =>
  cases ry
  cases x with
  |non=>cases rx;exact q14 a
  |bl b=>cases rx;exact q15 a b
  |int b=>let⟨t,rfl⟩:=rx;exact q2g a b t
  |str b=>let⟨t,rfl⟩:=rx;exact q2h a b t
  |_=>exact absurd (show ι=θ from fx) Mw
 |int a =>
  let⟨t',rfl⟩:=ry
  cases x with
  |non=>cases rx;exact q2i a t'
  |bl b=>cases rx;exact q2j a t' b
  |int b=>let⟨t,rfl⟩:=rx;exact q00 a t' b t
  |str b=>let⟨t,rfl⟩:=rx;exact q0W a t' b t
  |_=>exact absurd (show ι=θ from fx) Mw
 |str a =>
  let⟨t',rfl⟩:=ry
  cases x with
  |non=>cases rx;exact q2k a t'
  |bl b=>cases rx;exact q2l a t' b
  |int b=>let⟨t,rfl⟩:=rx;exact q0X a t' b t
  |str b=>let⟨t,rfl⟩:=rx;exact q2L a t' b t
  |_=>exact absurd (show ι=θ from fx) Mw
 |_=>calc absurd (show ι=θ from fy) Mw
noncomputable def nM(x:V)(u:J):Bool:=match u with
 |.none=>fF .non x
 |.bool b=>fF (.bl b) x
 |.int i _=>fF (.int i) x
 |.str z _=>fF (.str z) x
 |_=>ι
theorem yX{x y:V}{u:J}(r:RelV y u)(f:ji y=θ):nM x u=fF y x:=by
 cases y with
 |non=>cases r;rfl
 |bl b=>cases r;rfl
 |int i=>let⟨t,rfl⟩:=r;rfl
 |str z=>let⟨t,rfl⟩:=r;rfl
 |_=>calc absurd (show ι=θ from f) Mw
theorem yY{A:q}{s:L}{x:V}{v:J}(rx:RelV x v)(fx:ji x=θ):∀{xs:-V}{us:-J},Vals xs us->xs.all ji=θ->∀u∈us,q0B A s u v (nM x u)
 |_,_,.nil,_=>λu hu=>by cases hu
 |y::xs,u::us,.cons r t,f=>λu' hu=>by
  rw[q1j,W9] at f;rcases Mt.mp hu with rfl|hu
  .rw[yX r f.1];exact Mi r rx f.1 fx
  .calc yY rx fx t f.2 u' hu
theorem Em:f_ X (.builtin "len") (λxs H Q=>∃p ys,xs=[.ref p]/\(aX X.K H p ys\/bo X.K H p ys)/\Q (.int ↑ys) H):=by
 ext pins s σ H xs us Q I r h;let⟨p,ys,rfl,hq,q⟩:=h;let⟨u,rfl,rx⟩:=vals1 r;cases rx
 let hn:=oS;rcases hq with hq|hq
 .let⟨ah,r',pl,hz⟩:=I.list hq
  let hlen:=↑r';exact Calls.call_len_list pl.isList (by erw[Ez]<;>symm) ⟨.int ↑ys,H,I.tok _,⟨s.toks+1,by rw[Ez,hlen]⟩,q⟩
 .let⟨ah,r',pl,hz⟩:=I.tuple hq
  let hlen:=↑r';calc len_tuple pl (by erw[Ez]<;>symm) ⟨.int ↑ys,H,I.tok _,⟨s.toks+1,by rw[Ez,hlen]⟩,q⟩
theorem Mj:f_ X (.builtin "len") (λxs H Q=>∃z,xs=[.str z]/\↑z<=sizeLine/\Q (.int ↑z) H):=by
 ext pins s σ H xs us Q I r h;let⟨z,rfl,hz,q⟩:=h;let⟨u,rfl,t,rfl⟩:=vals1 r;let hn:=oS;calc len_str ⋯ ⟨.int ↑z,H,I.tok _,⟨_,Y⟩,q⟩
theorem yZ:f_ X (.type "list") (λxs H Q=>∃p ys,xs=[.ref p]/\(aX X.K H p ys\/bo X.K H p ys)/\∀l,H l=Z->Q (.ref l) (upd H l (.lst ys))):=by
 ext pins s σ H xs us Q I r h;let⟨p,ys,rfl,hq,q⟩:=h;let⟨u,rfl,rx⟩:=vals1 r;cases rx
 let fin:∀(ah:-J),Vals ys ah->↑ys<=sizeLine->∀(h':Α)(c':Nat),(∀b o',s.heap.get? b=U o'->h'.get? b=U o') →
   h'.get? ⇑s=U {cls:=.type "list",dict:=none,data:=.seq ah.toArray c',slots := #[]}->EP X pins σ Q (.ref ⇑s) {s with heap:=h'}:=λah r' hz h' c' kp e =>
  ⟨.ref ⇑s,_,I.laid (t':=s.toks) kp (vQ _) (show aD X.prog X.w _ h' _ (.lst ys) from⟨hz,ah,c',r',e⟩),Y,q _ (I.aH.fresh (vQ _))⟩
 rcases hq with hq|hq
 .let⟨ah,r',pl,hz⟩:=I.list hq
  let hlen:=↑r';let⟨o,ho,hc,n,hd⟩:=pl.isList;exact q4I p (.inl Y) ho hc hd (λh' c' kp e=>fin ah r' hz h' c' kp e) (by erw[Ez]<;>symm)
 .let⟨ah,r',pl,hz⟩:=I.tuple hq
  let hlen:=↑r';let⟨o,ho,hc,n,hd⟩:=pl;calc q4I p (.inr Y) ho hc hd (λh' c' kp e=>fin ah r' hz h' c' kp e) (by erw[Ez]<;>symm)
theorem En:f_ X (.type "tuple") (λxs H Q=>∃p ys,xs=[.ref p]/\((aX X.K H p ys/\∀l,H l=Z->Q (.ref l) (upd H l (.tup ys)))\/(bo X.K H p ys/\Q (.ref p) H))):=by
 ext pins s σ H xs us Q I r h;let⟨p,ys,rfl,h⟩:=h;let⟨u,rfl,rx⟩:=vals1 r;cases rx
 rcases h with⟨hq,q⟩|⟨hq,q⟩
 .let⟨ah,r',pl,hz⟩:=I.list hq
  let hlen:=↑r';calc call_tuple_list pl.isList (λh' kp=>?_) (by erw[Ez]<;>symm);let I1:Inv X pins σ H {s with heap:=h'}:=I.kept (t':=s.toks) kp
  let I2:Inv X pins σ (upd H h'.objs.size (.tup ys)) {s with heap:=h'.push {cls:=.type "tuple",data:=.seq ah.toArray}} :=
   I1.laid (t':=s.toks) (λb o e=>pf _ e) (vQ _) (show aD X.prog X.w _ _ _ (.tup ys) from⟨hz,ah,r',q3r _ _⟩)
  exact⟨.ref h'.objs.size,_,I2,Y,q _ (I1.aH.fresh (vQ _))⟩
 .let⟨ah,r',pl,hz⟩:=I.tuple hq
  calc call_tuple_same pl ⟨.ref p,H,I,Y,q⟩
def y0(K:tu)(T:String)(x:V)(H:Hp):Prop:=match x with
 |.str _=>T="str"
 |.int _=>T="int"
 |.ref p=>(T="list" /\ ∃xs,aX K H p xs)\/(T="tuple" /\ ∃o,K.lookup p=U o/\o.cls=.type "tuple" /\ o.dict=Z) ∨
   (T="dict" /\ ((∃kvs,H p=U (.dK kvs))\/∃kvs,H p=U (.dT kvs)))\/(T="set" /\ ∃S n,H p=U (.set S n))
 |_=>False
theorem Eo{pins:aq}{σ:St}{H:Hp}{s:L}{T:String}{x:V}{v:J}(I:Inv X pins σ H s)(r:RelV x v)(ty:y0 X.K T x H):
  s.TypeIs v T/\∀a,v=.ref a->∃ob,s.heap.get? a=U ob/\ob.dict=Z:=by
 cases x with
 |str z =>
  let⟨t,rfl⟩:=r;cases(show T="str" from ty)
  exact⟨typeIs_str s z t,λ_ e=>nomatch e⟩
 |int i =>
  let⟨t,rfl⟩:=r;cases(show T="int" from ty)
  exact⟨q38 s i t,λ_ e=>nomatch e⟩
 |ref p =>
  cases r
  rcases ty with⟨rfl,xs,hq⟩|⟨rfl,o,hk,hc,hd⟩|⟨rfl,hk⟩|⟨rfl,S,n,hk⟩
  .let⟨ah,_,pl,_⟩:=I.list hq
   calc⟨pl.isList.typeIs,λa e=>?_⟩;cases e
   let⟨o,n,e,c,hd,_⟩:=pl;exact⟨o,e,hd⟩
  .refine⟨⟨o,I.cB p o hk,hc⟩,λa e=>?_⟩
   cases e
   exact⟨o,I.cB _ o hk,hd⟩
  .let z:∃o,s.heap.get? p=U o/\o.ExactDict:=by
    rcases hk with⟨kvs,hk⟩|⟨kvs,hk⟩
    .let⟨_,_,_,_,o,_,_,e,ex,_⟩:=I.aH p _ hk
     exact⟨o,e,ex⟩
    .let⟨_,_,_,_,o,_,_,e,ex,_⟩:=I.aH p _ hk
     exact⟨o,e,ex⟩
   let⟨o,e,ex⟩:=z;calc⟨⟨o,e,ex.1⟩,λa e2=>?_⟩;cases e2
   exact⟨o,e,ex.2.1⟩
  .let⟨o,_,_,_,e,ex,_⟩:=I.aH p _ hk
   calc⟨⟨o,e,ex.1⟩,λa e2=>?_⟩;cases e2
   exact⟨o,e,ex.2.1⟩
 |_=>calc X1 ty
def tj(K:tu)(T:String)(r:V->-V->Hp->VK->Prop)(to:TE):TE:=fun σ H Q=>to σ H λx H1=>y0 K T x H1/\r x [] H1 Q
def qH(K:tu)(T:String)(r:V->-V->Hp->VK->Prop)(to:TE)(t:TA):TE:=fun σ H Q=>to σ H λx H1=>y0 K T x H1/\t σ H1 λxs H2=>r x xs H2 Q
variable{o e:B}{es:-B}{to:TE}{t:TA}{name:R}{apos fc:y}{T id:String}{r:V->-V->Hp->VK->Prop}
theorem Ml(pa:PlainAttrs T)(slot:Slot T name id)(y3:typeOf (.builtin id)=pure (.type "method_descriptor"))(hm:yT X id r)(ho:JE X o to)
  (jM:attributeBase o name X.env (eval o X.env)=eval o X.env:=by rfl) (jN:(apos.endLine==fc.line)=θ:=by rfl):JE X (.Call (.Attribute o name apos) [] [] fc) (tj X.K T r to):=by
 calc⟨?_⟩;ext pins s σ H Q I h;calc wpAny_Call_method0_late jM jN (aS (ho pins s σ H _ I h) λv s1 ⟨x,H1,I1,r1,ty,q1⟩=>?_);let⟨h1,h2⟩:=Eo I1 r1 ty;calc⟨T,id,pa,slot,y3,h1,h2,q1E Y (PySem.evalArgs_none (hm pins s1 σ H1 x [] v [] Q I1 r1 .nil q1))⟩
theorem oY(pa:PlainAttrs T)(slot:Slot T name id)(y3:typeOf (.builtin id)=pure (.type "method_descriptor"))(hm:yT X id r)(ho:JE X o to)(ha:JA X (e::es) t)
  (jM:attributeBase o name X.env (eval o X.env)=eval o X.env:=by rfl)
  (y4:((backTo fc (starEach (e::es) X.env)).all (λx => !x.1)&&(backToKw fc (keywordEach [] X.env)).all (λx=>x.1.isSome)
   && S (↑(e::es)+↑([]:-Keyword)+(if([]:-Keyword).isEmpty then 0 else 1)<30))=θ:=by rfl)
  (jN:(apos.endLine==fc.line)=θ:=by rfl) (hs:cj X e es:=by rfl) (oZ:cR X fc es:=by rfl) :
  JE X (.Call (.Attribute o name apos) (e::es) [] fc) (qH X.K T r to t):=by
 calc⟨?_⟩;ext pins s σ H Q I h;calc wpAny_Call_method_late jM y4 jN Y (aS (ho pins s σ H _ I h) λv s1 ⟨x,H1,I1,r1,ty,q1⟩=>?_);let⟨h1,h2⟩:=Eo I1 r1 ty;calc⟨T,id,pa,slot,y3,h1,h2,?_⟩;let hA:=ha fc pins s1 σ H1 _ I1 q1;rw[hs] at hA ⊢;calc q1E (by show(ι||(backTo fc (starEach es X.env)).any (·.1))=ι;rw[oZ]<;>rfl) (Calls.evalArgs_plain ?_);calc aS hA λus s2 h0_=>el5 h0_ λvs H2 I2 r2 q2 =>hm pins s2 σ H2 x vs v us Q I2 r1 r2 q2
end
def o8(X:Cx)(id:String)(r:V->-V->Hp->VK->Prop):Prop :=
 ∀(pins:aq)(s:L)(σ:St)(H:Hp)(x:V)(xs:-V)(v:J)(us:-J)(Q:VK),Inv X pins σ H s->RelV x v->Vals xs us->r x xs H Q →
  G (M X.prog X.w) X.A (call (.builtin id) (v::us)) (EP X pins σ Q) X.xe s
theorem Vals.one:∀{x:V}{us:-J},Vals [x] us->∃u,us=[u]/\RelV x u:=by
 ext x us h
 cases h with
 |cons r h=>cases h;calc⟨_,Y,r⟩
theorem Vals.two:∀{x y:V}{us:-J},Vals [x,y] us->∃u v,us=[u,v]/\RelV x u/\RelV y v:=by
 ext x y us h
 cases h with
 |cons r h =>
  let⟨v,rfl,q⟩:=Vals.one h;calc⟨_,_,Y,r,q⟩
theorem Vals.eraseIdx:∀{xs:-V}{us:-J}(i:Nat),Vals xs us->Vals (xs.eraseIdx i) (us.eraseIdx i)
 |_,_,_,.nil=>.nil
 |_,_,0,.cons _ t=>t
 |_,_,i+1,.cons r t=>.cons r (Vals.eraseIdx i t)
theorem Vals.rep{xs:-V}{us:-J}(h:Vals xs us):∀k:Nat,Vals (W7 k xs).flatten (W7 k us).flatten
 |0=>.nil
 |k+1=>by
  rw[Yf,Yf,Zg,Zg];calc Vals.append h (Vals.rep h k)
theorem Ep{α:Type}:∀(l:-α)(i:Nat),↑(l.eraseIdx i)<=↑l
 |[],_=>vQ _
 |_::_,0=>q16 _
 |_::r,i+1=>Nat.succ_le_succ (Ep r i)
theorem foldl_rep(ah:-J):∀(k:Nat)(acc:-J),
  q39 (λx1 x2=>x1++x2) acc.toArray (W7 k ah.toArray)=(acc++(W7 k ah).flatten).toArray
 |0,acc=>by simp
 |k+1,acc=>by
  let e:acc.toArray++ah.toArray=(acc++ah).toArray:=by simp
  let e2:(acc++ah)++(W7 k ah).flatten=acc++(W7 (k+1) ah).flatten:=by
   rw[Yf,Zg,YX]
  rw[<-e2,<-foldl_rep ah k (acc++ah),<-e,Yf,q1O]
section
variable{X:Cx}{pins:aq}{σ:St}{H:Hp}{s:L}{l b:O}{xs ys zs:-V}
theorem Inv.o9{ah its':-J}{n:Nat}{f:Array J->Array J}{t':Nat}(I:Inv X pins σ H s)(hH:H l=U (.lst xs))
  (e:s.heap.get? l=U {cls:=.type "list",data:=.seq ah.toArray n}) (hf:f ah.toArray=its'.toArray) (hv:Vals ys its') (hz:↑ys<=sizeLine) :
  Inv X pins σ (upd H l (.lst ys)) {s with heap:=s.heap.update l (q1D f),toks:=t'}:=by
 let q:=PySem.IsL.update e f;rw[hf] at q;calc I.write (x:=l) (e:=l) (by rw[hH];calc trivial) (.inl Y) (λb' u hb hu=>(YN s.heap (q1D f) (YV hb)).trans hu) ⟨_,q⟩ ?_;calc⟨hz,its',_,hv,q⟩
theorem Inv.bN{ah:-J}{t':Nat}(I:Inv X pins σ H s)(hv:Vals ys ah)(hz:↑ys<=sizeLine):
  Inv X pins σ (upd H ⇑s (.lst ys)) {s with heap:=s.heap.push {cls:=.type "list",data:=.seq ah.toArray},toks:=t'} :=
 I.laid (λ_ _ q=>pf _ q) (vQ _) ⟨hz,ah,0,hv,My _ Y⟩
theorem Inv.fresh(I:Inv X pins σ H s):H ⇑s=Z:=I.aH.fresh (vQ _)
theorem Inv.gX(I:Inv X pins σ H s)(hH:H l=U (.lst xs)):↑xs<=sizeLine/\∃(ah:-J)(n:Nat),Vals xs ah/\↑xs=↑ah/\s.heap.get? l=U {cls:=.type "list",data:=.seq ah.toArray n}:=by
 let⟨z,ah,n,r,e⟩:=I.aH l _ hH;calc⟨z,ah,n,r,↑r,e⟩
theorem Er{n:Nat}(h:n<=sizeLine):Zk n=ι:=by
 unfold Zk;calc W_ ⋯
end
section
variable{X:Cx}
def y6:V->-V->Hp->VK->Prop:=λx vs H Q=>∃l xs y,x=.ref l/\vs=[y]/\H l=U (.lst xs)/\↑xs<sizeLine/\Q .non (upd H l (.lst (xs++[y])))
theorem y7:o8 X "list.append" y6:=by
 ext pins s σ H x vs v us Q I rx rv h;let⟨l,xs,y,rfl,rfl,hH,hz,q⟩:=h;cases rx
 let⟨u,rfl,ru⟩:=rv.one;let⟨z,ah,n,r,hl,e⟩:=I.gX hH;calc q0D F.slot_list_append ⟨_,e,Y⟩ F.entry_list_append (F.args_list_append_2 _ _) (PySem.list_append l ah.toArray n u (by rw[Ez];symm)) ⟨e,?_⟩;calc⟨.non,_,I.o9 (its':=ah++[u]) hH e (by simp) (r.append (.cons ru .nil)) ?_,Y,q⟩;rw[EB,Xx];symm
def Es:V->-V->Hp->VK->Prop:=λx vs H Q=>∃l b xs zs,x=.ref l/\vs=[.ref b]/\H l=U (.lst xs)/\H b=U (.lst zs)/\↑xs+↑zs<=sizeLine/\Q .non (upd H l (.lst (xs++zs)))
theorem Mm:o8 X "list.extend" Es:=by
 ext pins s σ H x vs v us Q I rx rv h;let⟨l,b,xs,zs,rfl,rfl,hH,hB,hz,q⟩:=h;cases rx
 let⟨u,rfl,ru⟩:=rv.one;cases ru
 let⟨z,ah,n,r,hl,e⟩:=I.gX hH;let⟨z2,aU,n2,r2,qI,e2⟩:=I.gX hB;let hsz:ah.toArray.size+aU.toArray.size<=sizeLine:=by rw[Ez,Ez];symm
 let jO:¬ (!ah.toArray.isEmpty&&Zk (ah.toArray.size+aU.toArray.size))=θ:=by
  rw[Er hsz,q0q];exact Mw
 refine q0D F.slot_list_extend ⟨_,e,Y⟩ F.entry_list_extend (F.args_list_extend_2 _ _)
  (AutoSeq1.list_extend_list_list_0 l ah.toArray n b aU.toArray n2 jO (by rw[Ez];symm) ⋯) ⟨e,e2,?_⟩
 calc⟨.non,_,I.o9 (its':=ah++aU) hH e (by simp) (r.append r2) ?_,Y,q⟩;rw[EB];symm
def Et:V->-V->Hp->VK->Prop:=λx vs H Q=>∃l xs i k y,x=.ref l/\vs=[.int i]/\H l=U (.lst xs) /\ -(2 ^ 63)<=i/\i<2 ^ 63/\seqIndex? i ↑xs=U k/\xs[k]?=U y/\Q y (upd H l (.lst (xs.eraseIdx k)))
theorem Mn:o8 X "list.pop" Et:=by
 ext pins s σ H x vs v us Q I rx rv h;let⟨l,xs,i,k,y,rfl,rfl,hH,h1,h2,hk,hy,q⟩:=h;cases rx
 let⟨u,rfl,ru⟩:=rv.one;let⟨t,rfl⟩:=ru;let⟨z,ah,n,r,hl,e⟩:=I.gX hH;let⟨w,hw,s_⟩:=r.get hy
 refine q0D F.slot_list_pop ⟨_,e,Y⟩ F.entry_list_pop (F.args_list_pop_2 _ _)
  (MeetsSeq.list_pop_at l ah.toArray n i t k w (q3_ h1 h2) (by rw[Ez,<-hl];calc hk) (by rw[<-Xp];calc hw) (by rw[Ez];symm)) ⟨e,?_⟩
 refine⟨y,_,I.o9 (its':=ah.eraseIdx k) hH e ?_ (r.eraseIdx k) ?_,s_,q⟩
 .show ah.toArray.eraseIdxIfInBounds k=(ah.eraseIdx k).toArray
  rw[List.eraseIdxIfInBounds_toArray]
 .let:=Ep xs k
  symm
def y8:R2:=λx y H Q=>∃l b xs zs,x=.ref l/\y=.ref b/\H l=U (.lst xs)/\H b=U (.lst zs)/\↑xs+↑zs<=sizeLine/\∀p,H p=Z->Q (.ref p) (upd H p (.lst (xs++zs)))
theorem vO:de X (binaryOp .Add) y8:=by
 ext pins s σ H x y v u Q I rx ry h;let⟨l,b,xs,zs,rfl,rfl,hH,hB,hz,q⟩:=h;cases rx
 cases ry
 let⟨z,ah,n,r,hl,e⟩:=I.gX hH;let⟨z2,aU,n2,r2,qI,e2⟩:=I.gX hB;calc PySem.P.add_list e e2 ?_ (by rw[Ez,Ez];symm);let ea:ah.toArray++aU.toArray=(ah++aU).toArray:=by simp
 rw[ea];calc⟨.ref _,_,I.bN (t':=s.toks) (r.append r2) (by rw[EB];symm),Y,q _ I.fresh⟩
def y9:R2:=λx y H Q=>∃l k xs,x=.ref l/\y=.int k/\H l=U (.lst xs) /\ -(2 ^ 63)<=k/\k<2 ^ 63/\↑xs*k.toNat<=sizeLine ∧
 ∀p,H p=Z->Q (.ref p) (upd H p (.lst (W7 k.toNat xs).flatten))
theorem len_rep{α:Type}(xs:-α)(k:Nat):(W7 k xs).flatten.length=k*↑xs:=by
 induction k with
 |zero=>simp
 |succ k ih=>rw[Yf,Zg,EB,ih,Nat.succ_mul,Nat.add_comm]
theorem Mo:de X (binaryOp .Mult) y9:=by
 ext pins s σ H x y v u Q I rx ry h;let⟨l,k,xs,rfl,rfl,hH,h1,h2,hz,q⟩:=h;cases rx
 let⟨t,rfl⟩:=ry;let⟨z,ah,n,r,hl,e⟩:=I.gX hH;let hlen:ah.toArray.size*k.toNat<=sizeLine:=by rw[Ez,<-hl];exact hz
 let y_:¬ ah.toArray.size*k.toNat>(2 ^ 63-1) / 8:=by
  let:(sizeLine:Nat)<=(2 ^ 63-1) / 8:=by decide
  symm
 let za:¬ (!Builtin.List.listFitsIndex k)=θ:=by
  rw[q3_ h1 h2];exact Mw
 let jO:¬ Zk (ah.toArray.size*k.toNat)=θ:=by
  rw[Er hlen];exact Mw
 let zb:q39 (λx1 x2=>x1++x2) #[] (W7 (if ah.toArray.isEmpty=θ then 0 else k.toNat) ah.toArray)=(W7 k.toNat ah).flatten.toArray:=by
  let f0:∀m:Nat,q39 (λx1 x2=>x1++x2) #[] (W7 m ah.toArray)=(W7 m ah).flatten.toArray:=λm=>by
   let:=foldl_rep ah m [];rw[q0L] at this;exact this
  rw[f0]
  cases ah with
  |nil=>simp
  |cons a r'=>rw[VR (by simp)]
 refine wpAny_binaryOp_repeat_ref (T:="list") (U:="int") (by decide) ⟨_,e,Y⟩ (λs'=>q38 s' k t) noFill_list_mul F.fills_int_mul q3Q repeat_list F.slot_int_index.lookup
  (q0D q3Q (q38 s k t) F.entry_int_rmul (F.args_int_rmul_2 _ _) (int___rmul___int_list k t l ah.toArray n)
   ⟨e,Y,⟨_,e,Y⟩,q0D F.slot_list_mul ⟨_,e,Y⟩ F.entry_list_mul (F.args_list_mul_2 _ _) (AutoListH.list___mul___list_int_3 l ah.toArray n k t za y_ jO) ⟨e,?_⟩⟩)
 rw[zb];calc⟨.ref _,_,I.bN (t':=s.toks) (r.rep k.toNat) (by rw[len_rep,q43];calc hz),Y,q _ I.fresh⟩
end
section
variable{prog:n}{w:g}{A:q}{E:aM}{s:L}
end
section
variable{X:Cx}
end
end L2
namespace Att
open PySem PySem.W PySem.Calls PyProof.Rows
theorem d6{P:Params}{h:I}:∀(ns:-Int)(vs:-J),WellAll P h vs (ns.map WData.int)->IntsAre vs ns:=by
 ext ns
 induction ns with
 |nil =>
  ext vs w;rw[Y5] at w;cases w
  exact .nil
 |cons n ns ih =>
  ext vs w;rw[Xl] at w
  cases w with
  |cons a b =>
   cases a
   calc .cons _ _ (ih _ b)
theorem iL{l:OpenLaw}{n:Nat}(hn:l.most=U n){P:Params}{h:I}{args:-WData}{vals:-J}
  (lH:l.row.toRowW.claim.pre args=θ) (zc:WellAll P h vals args) :
  ∃a vs ns,vals=[Xj a]/\args=[WData.list (ns.map WData.int)]/\h.get? a=U {cls:=.type "list",data:=.seq vs.toArray}/\IntsAre vs ns/\ns.length<=n:=by
 let Mp:WShape.hasAll [] args [.list .int]=θ:=(pre_splitW lH).1;let hc:l.pre.holds [] {args:=args}=θ:=(pre_splitW lH).2;let⟨d,r,rfl,h1,h2⟩:=hasAllW_cons Mp;obtain rfl:=hasAllW_nil h2;let⟨xs,rfl,h3⟩:=hasW_list h1;let⟨ns,rfl⟩:=items_int h3
 let hlen:ns.length<=n:=by
  unfold OpenLaw.pre at hc
  let h4:(WTm.not (.lt (.lit (.int (n:Int))) (.len (.arg 0)))).holds [] {args:=[.list (ns.map .int)]}=θ:=by
   let h4:=(holds_andW hc).1;rw[hn] at h4;exact h4
  let h5:=condW_of h4 (w_not (w_lt w_lit (w_len_list (w_arg Y))));rw[qJ] at h5;calc q1q λq=>?_;let q':(n:Int)<((ns.length:Nat):Int):=by symm
  first
   |(rw[VS q'] at h5;calc absurd h5 (by decide))
   |(simp at h5;symm)
 cases zc with
 |cons w1 w2 =>
  cases w2
  cases w1 with
  |list ho e8=>calc⟨_,_,ns,Y,Y,ho,d6 ns _ e8,hlen⟩
theorem iM(l:OpenLaw)(args:-WData):l.row.toRowW.claim.post args (.bool θ) args=θ :=
 postW_of (r:=l.row.toRowW) (X:=(θ==θ))
  (show WShape.has [] (.bool θ) .bool=θ by first|rfl|decide|simp[WShape.has,WShape.arms,WShape.armsAll])
  (show(WTm.eq .res (.lit (.bool θ))).value [] {args:=args,res:=U (.bool θ),after:=args}=U (.bool (θ==θ)) from w_eq_bool (w_res Y) w_lit) Y
theorem gq{l:OpenLaw}{n:Nat}{q:ψ}{loose:-R}{XP:(R->Option J)->I->Prop}{YP:g->I->Prop}{d:DefRec}
  (hn:l.most=U n) (tw:d.params.defaults=[])
  (call:∀(w:g)(s₀ s₁:L)(mg mb:R->Option J)(fa:O)(o:Γ)(pm cd doc:J)(a:O)(vs:-J)(ns:-Int),
   Ground q loose [] XP w s₀ mg mb s₁.heap->YP w s₁.heap →
   s₁.heap.get? fa=U o->o.data=.func (docDef d.name d.params d.body d.scope pm cd doc)->s₁.heap.CodeRec cd d.name->mg d.name=U (.ref fa) →
   s₁.heap.get? a=U {cls:=.type "list",data:=.seq vs.toArray}->IntsAre vs ns->ns.length<=n->s₁.gens = #[] →
   codeAny (M l.prog w) callerA (.call (.ref fa) ⟨[.ref a],[]⟩) (λr s'=>r=.ok (.ret (.bool θ))/\OldK s₁.heap s'.heap/\s'.os=s₁.os/\AllBare s'.gens) s₁) :
  WalkO q loose XP YP l.row.toRowW d [] (λf vs=>q4b f vs):=by
 ext w s₀ s₁ mg mb G Y fa o pm cd doc dV kV ho hd fE hD lJ hg args vals as lH Mq VN zc VO;obtain rfl:dV=.none:=Dflts.none hD tw;obtain rfl:kV=.none:=Dflts.noKw hD;let⟨a,vs,ns,rfl,rfl,o_,hints,hlen⟩:=iL hn lH zc;calc enter_call (q0l (call w s₀ s₁ mg mb fa o pm cd doc a vs ns G Y ho (fd_plain hd) fE lJ o_ hints hlen hg) λr s' hq=>?_);let⟨rfl,h2,h3,h4⟩:=hq;calc⟨.inl ⟨.bool θ,.bool θ,[],rfl,λ_=>rfl,.bool θ,iM l _,λ_=>⟨q2_,λ_ hm=>(nomatch hm)⟩⟩,h2,h3,h4⟩
section
variable{prog:n}{w:g}{A:q}{E:aM}{s:L}{K:Frag}
end
end Att
namespace L2
open PySem PySem.Spec PyProof.Rows
theorem Eu:∀{vs:-J}{ns:-Int},IntsAre vs ns->Vals (ns.map V.int) vs
 |_,_,.nil=>.nil
 |_,_,.cons n t h=>.cons ⟨t,Y⟩ (Eu h)
def pd(H:Hp):Prop:=∀b,H b=Z\/∃o xs,H b=U (.frz o (.lst xs))
theorem Mr{P:ψ}{w:g}{K:tu}{mg mb:R->Option J}{CX:ik}{k:Nat}{fa a:O}{fd:FuncData}{x:R}{sp:Sp}{s₁:L}{vs:-J}{ns:-Int}
  (KX:K.In s₁.heap) (Ew:s₁.heap.Ns mainGlobals mg) (hb:s₁.heap.Ns builtinsNs mb) (Ms:∀x:R,x≠"__name__" -> mb x=bootBuiltins x) (zd:s₁.heap.NoLimit) (hg:s₁.gens = #[])
  (ha:s₁.heap.get? a=U {cls:=.type "list",data:=.seq vs.toArray}) (hi:IntsAre vs ns) (hl:ns.length<=sizeLine) (hr:aZ k callerA)
  (F:∀base:I,K.In base->base.Ns mainGlobals mg->bt P w K mg base CX k fa fd [x] sp) (tE:∀(s:L)(u:J),BindsTo s fd ⟨[u],[]⟩ [(x,u)])
  (kK:∀H:Hp,pd H->aX K H a (ns.map V.int)->sp [.ref a] H (λv _=>v=.bl θ) λ_ _ _=>False)
  (ze:∀H e s',CX [] H s₁ (λ_ _ _=>False) e s'->False) :
  codeAny (M P w) callerA (.call (.ref fa) ⟨[.ref a],[]⟩) (λr s'=>r=.ok (.ret (.bool θ))/\OldK s₁.heap s'.heap/\s'.os=s₁.os/\AllBare s'.gens) s₁:=by
 let rv:=Eu hi;let zf:=↑hi
 let core:∀H:Hp,pd H->aX K H a (ns.map V.int)->bY P w H s₁.heap->(∀b,H b≠Z->b=a)->(H a≠Z->K.lookup a=Z) →
   codeAny (M P w) callerA (.call (.ref fa) ⟨[.ref a],[]⟩) (λr s'=>r=.ok (.ret (.bool θ))/\OldK s₁.heap s'.heap/\s'.os=s₁.os/\AllBare s'.gens) s₁:=by
  ext H hO hS aH hA hK;let ip:∀{b:O}{o:f},s₁.heap.get? b=U o->H b=Z->(fN s₁.heap H).get? b=U o:=λe n=>Kx e n
  let sP:∀{b:O}{o:f}{es:Array DictEntry}{ep:Nat},s₁.heap.get? b=U o->o.data=.dict es ep->H b=Z:=λ{b o es ep} e d=>by
   cases q:H b with
   |none=>rfl
   |some u =>
    let e':b=a:=hA b (by rw[q];simp);subst e';rw[ha] at e;cases e;let d':Data.seq vs.toArray _=Data.dict es ep:=d;cases d'
  let vP:∀{b:O}{m:R->Option J},s₁.heap.Ns b m->(fN s₁.heap H).Ns b m:=λ{b m} ⟨o,es,ep,e,d,r⟩=>⟨o,es,ep,ip e (sP e d),d,r⟩
  let Ex:K.In (fN s₁.heap H):=λb o e=>ip (KX b o e) (by
   cases q:H b with
   |none=>rfl
   |some u =>
    let e':b=a:=hA b (by rw[q];simp);subst e'
    rw[hK (by rw[q];simp)] at e;cases e)
  let hM:Mod K mg (fN s₁.heap H):=⟨Ex,vP Ew,⟨mb,vP hb,Ms⟩,let⟨mc,h1,h2⟩:=zd;⟨mc,vP h1,h2⟩⟩;let e0:gW P w K mg (fN s₁.heap H) callerA [] s₁ H:=⟨Y,hM,λb o e=>Ky e,Nat.le_of_eq (Kw _ _),trivial,λb hb=>absurd (show b∈([]:-O) from hb) (by simp),aH,.of_eq hg⟩;refine q0l ((F _ Ex (vP Ew)).run callerA [] s₁ H ⟨[.ref a],[]⟩ [.ref a] [.ref a] _ _ hr e0 (tE s₁ (.ref a)) (.cons Y .nil) (kK H hO hS)) λr s' h=>?_
  cases r with
  |error e=>exact(ze H e s' h).elim
  |ok fl =>
   cases fl with
   |next=>exact X1 h
   |brk=>exact X1 h
   |cont=>exact X1 h
   |ret u =>
    let⟨v,H',os,bare,un,zg,r',q⟩:=h;let q':v=.bl θ:=q;subst q';obtain rfl:u=ZQ θ:=r';refine⟨Y,OldK.of_keep λb o e=>?_,os,bare⟩
    cases q:H b with
    |none=>exact un.keep b o e q (by ext z;calc absurd (show b∈([]:-O) from z) (by simp)) (by simp)
    |some u =>
     rcases hO b with z|⟨ob,xs,z⟩
     .rw[q] at z;cases z
     .let z2:=un.cQ b ob _ z
      let⟨e1,_⟩:=aH b _ z;let⟨e2,_⟩:=zg b _ z2;rw[e] at e1;cases e1;exact e2
 cases hk:K.lookup a with
 |some o =>
  let e:=KX a o hk;rw[ha] at e;cases e
  refine core (λ_=>Z) (λ_=>.inl Y) (.inr ⟨_,vs.toArray,_,hk,Y,Y,Y,by rw[Ez,zf];calc hl,by simpa using rv⟩) (λb u z=>by let z':(Z:Option HO)=U u:=z;cases z') (λb z=>absurd Y z) λz=>absurd Y z
 |none =>
  refine core (λb=>if b=a then U (.frz {cls:=.type "list",data:=.seq vs.toArray} (.lst (ns.map V.int))) else Z) (λb=>?_) (.inl (.inr ⟨{cls:=.type "list",data:=.seq vs.toArray},Xa Y⟩)) (λb u z=>?_) (λb z=>?_) λ_=>hk
  .by_cases hb:b=a
   .exact .inr ⟨_,_,Xa hb⟩
   .exact .inl (VR hb)
  .by_cases hb:b=a
   .let z':=(Xa hb).symm.trans z
    cases z'
    subst hb;exact⟨ha,by rw[qJ];calc hl,vs,_,rv,ha⟩
   .let z':=(VR hb).symm.trans z
    cases z'
  .by_cases hb:b=a
   .exact hb
   .calc absurd (VR hb) z
theorem Ey{l:q3R}{n k:Nat}{q:ψ}{loose:-R}{XP:(R->Option J)->I->Prop}{YP:ω->I->Prop}{d:DefRec}{K:Params->tu}{CX:ω->ik}{sp:ω->Sp}{x:R}
  (hn:l.most=U n) (zh:n<=sizeLine) (tw:d.params.defaults=[]) (hr:aZ k callerA)
  (hY:∀(w:ω)(h:I),YP w h->(K w.params).In h)
  (F:∀(w:ω)(mg:R->Option J)(fa:O)(h:I),(K w.params).In h->h.Ns mainGlobals mg->mg d.name=U (.ref fa) →
   ∃fd:FuncData,(∀(s:L)(u:J),BindsTo s fd ⟨[u],[]⟩ [(x,u)]) ∧
    ∀base:I,(K w.params).In base->base.Ns mainGlobals mg->bt l.prog w (K w.params) mg base (CX w) k fa fd [x] (sp w))
  (kK:∀(w:ω)(H:Hp)(a:O)(ns:-Int),ns.length<=n->pd H->aX (K w.params) H a (ns.map V.int)->sp w [.ref a] H (λv _=>v=.bl θ) λ_ _ _=>False)
  (ze:∀(w:ω)(H:Hp)(s:L)(e:J)(s':L),CX w [] H s (λ_ _ _=>False) e s'->False) :
  PySem.W.WalkO q loose XP YP l.row.toRowW d [] (λf vs=>q4b f vs):=by
 calc Att.gq hn tw λw s₀ s₁ mg mb fa o pm cd doc a vs ns G Y ho hd fE lJ o_ hints hlen hg=>?_;let KX:=hY w _ Y;let⟨fd,hb,hF⟩:=F w mg fa _ KX G.T.g lJ;calc Mr KX G.T.g G.T.b G.T.builtins G.T.nolimit hg o_ hints (XH hlen zh) hr hF hb (λH hO hS=>kK w H a ns hlen hO hS) λH e s'=>ze w H s₁ e s'
noncomputable def inClass(s:o)(j:Nat):o:=match s with
 |.ClassDef _ _ _ body _ _ _ _ _ _ _=>body.getD j (.Pass ⟨0,0,0,0⟩)
 |_=>.Pass ⟨0,0,0,0⟩
noncomputable def kN(s:o):Arguments:=match s with
 |.FunctionDef _ a _ _ _ _ _ _ _ _=>a
 |_=>{posonlyargs:=[],args:=[],vararg:=none,kwonlyargs:=[],kw_defaults:=[],kwarg:=none,defaults:=[]}
noncomputable def d7(s:o):-o:=match s with
 |.FunctionDef _ _ b _ _ _ _ _ _ _=>b
 |_=>[]
noncomputable def cD(s:o):u:=match s with
 |.FunctionDef _ _ _ _ _ _ sc _ _ _=>sc
 |_=>{kind:=.function,names:=[],isGenerator:=false,isCoroutine:=false}
abbrev fG:ik:=λ_ _ _ _ _ _=>False
abbrev E0:XK:=λ_ _ _=>False
theorem pk{X:Cx}:jL fG X E0:=λ_ _ _ _ _ _ _ h=>h.elim
structure gb(K:tu)(x qual:R)(st:o)(f:O)(fd:FuncData):Prop where
 ex:∃(oc:J)(od:Option O)(kV doc pm:J)(an:Option O)(aT ct:J)(lF:Array (Option J)),
  fd=YL x qual (kN st) (d7 st) (cD st) .none kV doc pm an aT ct/\K.lookup f=U ⟨oc,od,.func fd,lF⟩/\q0n K aT qual=θ
 kp:XZ K (.ref f)=θ
section
variable{P:n}{w:g}{K:tu}{mg:R->Option J}{base:I}
theorem gb.qK{x qual:R}{st:o}{f:O}{fd:FuncData}{N ps:-R}{k:Nat}{sp:Sp}(F:gb K x qual st f fd)(S:kJ N ps (cD st))(len:∀vs H Q E,sp vs H Q E->↑vs=↑ps)
  (eI:∀(aT:J)(A:Β)(outer:-Ζ)(s:L)(H:Hp)(vs:-V)(Q:VK)(E:XK),aZ k (A.deeper (envOfC qual (cD st) ⇑s f aT))->sp vs H Q E →
   ∃t,bR (aQ fG P w K mg base N qual (cD st) f aT A outer s H E).nv (d7 st) t/\t {nx:=λ_ H'=>Q .non H',rt:=Q} (start N vs) H):bt P w K mg base fG (k+1) f fd ps sp:=by
 let⟨oc,od,kV,doc,pm,an,aT,ct,lF,rfl,lk,fE⟩:=F.ex;calc Ef lk fE S len λA outer s H vs Q E hr kK=>?_;let⟨t,h,q⟩:=eI aT A outer s H vs Q E hr kK;calc⟨t,h.nv,q⟩
theorem gb.binds{x qual:R}{st:o}{f:O}{fd:FuncData}{ps:-R}(F:gb K x qual st f fd)
  (h:∀(kV doc pm:J)(an:Option O)(aT ct:J)(us:-J),↑us=↑ps->bindArgs (YL x qual (kN st) (d7 st) (cD st) .none kV doc pm an aT ct) ⟨us,[]⟩=pure (ps.zip us)):Binds K fd ps []:=by
 let⟨oc,od,kV,doc,pm,an,aT,ct,lF,rfl,lk,fE⟩:=F.ex;calc .all (h kV doc pm an aT ct)
theorem ED{x qual:R}{st:o}{f:O}{oc:J}{od an:Option O}{lF:Array (Option J)}{kV doc pm aT ct:J}(l:K.lookup f=U ⟨oc,od,.func (YL x qual (kN st) (d7 st) (cD st) .none kV doc pm an aT ct),lF⟩)
  (c:q0n K aT qual=θ) (k:XZ K (.ref f)=θ):gb K x qual st f (YL x qual (kN st) (d7 st) (cD st) .none kV doc pm an aT ct):=⟨⟨oc,od,kV,doc,pm,an,aT,ct,lF,Y,l,c⟩,k⟩
end
theorem lM{n:Nat}(h:n<=1000):n<sizeLine:=q0U h (by decide)
section
variable{X:Cx}
theorem jv(i:Nat){x:R}{pos:y}(hN:X.N[i]?=U x:=by rfl)(hv:qv X.env.scope x:=by first|exact ZN Y|exact q3n (ZN Y)|calc q3n (q3n Y))(hd:bf x:=by decide)
  (fE:(x==("__classdict__" : R))=ι:=by decide):JE X (.Name x pos) (b6 i):=DP hN hv hd fE
end
theorem pq{A B:Prop}(h:B):if ι=θ then A else B:=by
 rw[VR Mw];calc h
theorem zj{A B:Prop}(h:A):if θ=θ then A else B:=by
 rw[Xa Y];calc h
theorem zk{c A B:Prop}[Decidable c](h1:c->A)(h2:¬ c->B):if c then A else B:=by
 by_cases h:c
 .rw[Xa h]
  exact h1 h
 .rw[VR h]
  calc h2 h
theorem Mz{c A B:Prop}[Decidable c](hc:c)(h:B):if(!S c)=θ then A else B:=by
 rw[VS hc];calc pq h
def ar(H H':Hp):Prop:=∀b o,H b=U o->H' b=U o
theorem ar.trans{H H1 H2:Hp}(a:ar H H1)(b:ar H1 H2):ar H H2:=λc o h=>b c o (a c o h)
theorem ar.free{H H':Hp}(e:ar H H'){l:O}(h:H' l=q53):H l=q53:=by
 cases q:H l with
 |none=>rfl
 |some o =>
  rw[e l o q] at h;cases h
theorem ar.seq{K:tu}{H H':Hp}{a:O}{xs:-V}(e:ar H H')(h:aX K H a xs):aX K H' a xs:=by
 rcases h with(h|⟨o,h⟩)|h
 .exact .inl (.inl (e _ _ h))
 .exact .inl (.inr ⟨o,e _ _ h⟩)
 .calc .inr h
theorem MA{prog:ψ}{w:g}{A:q}{R:Result->L->Prop}{s:L}{elt target iter:B}{ifs:-B}{scope:u}{pos:y}{it acc:J}{env:t}(I:Nat->L->Prop)
  (turn:∀n s,I n s->G (M prog w) A (pyNext it) (λr s₁=>match r with
   |none=>R (.ok .next) s₁
   |some v=>G (M prog w) A (letOwnedTupleGo target it v) (λ_ s₂=>G (M prog w) A (assign target env v) (λ_ s₃ =>
     G (M prog w) A (forIn ifs θ λc r=>if r=θ then do let ok <- isTrue c env (eval c env);pure (YC ok) else pure (YC r)) (λok s₄ =>
      if ok=θ then G (M prog w) A (eval elt env) (λx s₅ =>
       G (M prog w) A (call (.builtin "list.append") [acc,x]) (λ_ s₆=>∃m,m<n/\I m s₆) (λ_ _=>False) s₅) (λ_ _=>False) s₄
      else ∃m,m<n/\I m s₄) (λ_ _=>False) s₃) (λ_ _=>False) s₂) (λ_ _=>False) s₁) (λ_ _=>False) s)
  (n:Nat) (h:I n s) :
  codeAny (M prog w) A (.compLoop (.ListComp elt [⟨target,iter,ifs,0⟩] scope pos) 0 it acc env) R s:=by
 calc codeAny_loop Y I (λn s hI=>?_) n h;show G _ A ((compTurn (.ListComp elt [⟨target,iter,ifs,0⟩] scope pos) 0 it acc env).onRaise (λx=>do noteFrame x env;theTreesLotGoes x)) _ _ s;calc wpAny_noted ?_;rw[compTurn_list];refine lK (Z4 (lK (YD (turn n s hI) (λr s₁ h₁=>?_) λ_ _ h'=>X1 h')))
 cases r with
 |none=>exact zi h₁
 |some v =>
  calc lK (YD h₁ (λ_ s₂ h₂=>?_) λ_ _ h'=>X1 h');refine lK (YD h₂ (λ_ s₃ h₃=>lK (YD h₃ (λok s₄ h₄=>?_) λ_ _ h'=>X1 h')) λ_ _ h'=>X1 h')
  cases ok with
  |false=>exact zi ⟨Y,h₄⟩
  |true =>
   calc lK (lK (YD h₄ (λx s₄ h₄=>lK (YD h₄ (λ_ s₅ h₅=>zi (zi ⟨Y,h₅⟩)) λ_ _ h'=>X1 h')) λ_ _ h'=>X1 h'))
theorem zo{env:t}:∀(names:-(R×NameKind))(acc:-(R×O)),(∀y∈names,y.2=.free->∃c,env.cells.lookup y.1=U c)->(∀x c,acc.lookup x=U c->env.cells.lookup x=U c) →
  ∃cl,(forIn names acc (λ(x:Str×NameKind) (cs:-(Str×Addr))=>if x.2==YI then cellOf env x.1 >>= λa=>pure (YC ((x.1,a)::cs)) else pure (YC cs)):Sem (-(R×O)))=pure cl ∧
   (∀x c,cl.lookup x=U c->env.cells.lookup x=U c)/\(∀y∈names,y.2=.free->∃c,cl.lookup y.1=U c)/\(∀x c,acc.lookup x=U c->∃c,cl.lookup x=U c)
 |[],acc,_,h2=>⟨acc,Y,h2,λ_ hy=>absurd hy (by simp),λx c e=>⟨c,e⟩⟩
 |(n,k)::r,acc,h1,h2=>by
  rw[q1R]
  by_cases hk:k=.free
  .subst hk
   let⟨c,hc⟩:=h1 (n,.free) Mv Y;let ni:env.cells.lookup n=U c:=hc;let ec:cellOf env n=pure c:=by unfold cellOf;rw[ni]
   let gr:∀x d,((n,c)::acc).lookup x=U d->env.cells.lookup x=U d:=λx d e=>by
    rw[Xn] at e
    cases q:x==n with
    |true =>
     rw[q] at e;cases e
     rw[Xc q];exact ni
    |false =>
     rw[q] at e;exact h2 x d e
   let⟨cl,e,p1,p2,p3⟩:=zo r ((n,c)::acc) (λy hy=>h1 y (Mu _ hy)) gr;refine⟨cl,?_,p1,λy hy hf=>?_,λx d e=>?_⟩
   .dsimp only
    rw[Xa (by decide),ec];exact e
   .rcases Mt.mp hy with rfl|hy
    .exact p3 n c (by simp)
    .exact p2 y hy hf
   .cases q:x==n with
    |true=>exact p3 x c (by rw[Xn,q])
    |false=>exact p3 x d (by rw[Xn,q];calc e)
  .let⟨cl,e,p1,p2,p3⟩:=zo r acc (λy hy=>h1 y (Mu _ hy)) h2
   refine⟨cl,?_,p1,λy hy hf=>?_,p3⟩
   .dsimp only
    rw[VR hk⁻¹];exact e
   .rcases Mt.mp hy with rfl|hy
    .exact absurd hf hk
    .calc p2 y hy hf
theorem MB{scope:u}{env:t}(h:∀y∈scope.names,y.2=.free->∃c,env.cells.lookup y.1=U c):
  ∃cl,closureFor scope env=pure cl/\(∀x c,cl.lookup x=U c->env.cells.lookup x=U c)/\∀y∈scope.names,y.2=.free->∃c,cl.lookup y.1=U c:=by
 let⟨cl,e,p1,p2,_⟩:=zo scope.names [] h (λx c e=>by simp at e);calc⟨cl,?_,p1,p2⟩;let e':closureFor scope env=(forIn scope.names ([]:-(R×O)) (λ(x:Str×NameKind) (cs:-(Str×Addr))=>if x.2==YI then cellOf env x.1 >>= λa=>pure (YC ((x.1,a)::cs)) else pure (YC cs)):Sem (-(R×O))) >>= pure:=Y;rw[e',e];rfl
structure BD where
 cl:-(R×O)
 C:O
 s:L
 H:Hp
 fp:-O
@[reducible] noncomputable def bS (X:Cx) (scope:u) (Nb:-R) (d:BD):Cx where
 prog:=X.prog
 w:=X.w
 K:=X.K
 mg:=X.mg
 base:=X.base
 A:=X.A
 N:=Nb
 s₀:=d.s
 H₀:=d.H
 env:=compEnvC scope d.cl d.C X.env
 outer:=X.stack
 stack:=X.stack
 ex:=d.fp
 fn:=λx=>S (scope.names.lookup x=U .cell)
 calm:=X.calm
 pn:=[]
 xe:=λ_ _=>False
noncomputable def kO(cp:-(Option Nat))(σ:St):St:=cp.map λo=>match o with
 |some i=>(σ[i]?).join
 |none=>Z
noncomputable def kP(N:-R)(EE scope:u)(Nb:-R)(cp:-(Option Nat)):Bool :=
 (scope.names.all λy=>(S (y.2≠.cell)||S (scope.names.lookup y.1=U .cell))&&(S (y.2≠.local)||S (scope.names.lookup y.1=U .local))&&(S (y.2≠.free)||S (EE.names.lookup y.1=U .cell)||S (EE.names.lookup y.1=U .free))) &&
 S (↑cp=↑Nb)&&(cp.zip Nb).all λz=>match z.1 with
  |none=>θ
  |some i=>S (N[i]?=U z.2)&&S (scope.names.lookup z.2=U .free)
structure vR(X:Cx)(scope:u)(Nb:-R)(cp:-(Option Nat)):Prop where
 kind:scope.kind=.function
 cell:∀y∈scope.names,y.2=.cell->scope.names.lookup y.1=U .cell
 names:∀y∈scope.names,y.2=.local->scope.names.lookup y.1=U .local
 free:∀y∈scope.names,y.2=.free->(X.env.kindOf y.1=U .cell\/X.env.kindOf y.1=U .free)
 len:↑cp=↑Nb
 zp:∀(j i:Nat)(x:R),cp[j]?=U (U i)->Nb[j]?=U x->X.N[i]?=U x/\scope.names.lookup x=U .free
theorem x6w{X:Cx}{scope:u}{Nb:-R}{cp:-(Option Nat)}(hk:scope.kind=.function)(h:kP X.N X.env.scope scope Nb cp=θ):vR X scope Nb cp:=by
 unfold kP at h;erw[W9,XN,Bool.or_eq_true,YO] at h;let⟨⟨h1,h2⟩,h3⟩:=h;refine⟨hk,λy hy e=>(h1 y hy).1.1.resolve_left (λz=>z e),λy hy e=>?_,λy hy e=>?_,h2,λj i x e1 e2=>?_⟩
 .rcases (h1 y hy).1.2 with z|z
  .exact absurd e z
  .exact z
 .rcases (h1 y hy).2 with(z|z)|z
  .exact absurd e z
  .exact .inl z
  .exact .inr z
 .let hm:(U i,x)∈cp.zip Nb:=by
   let:(cp.zip Nb)[j]?=U (U i,x):=by
    rw[List.getElem?_zip_eq_some];exact⟨e1,e2⟩
   exact Xu this
  let:=h3 _ hm;simpa using this
theorem zq{env:t}{x:R}:∀{names:-(R×NameKind)}{k:NameKind},names.lookup x=U k →
  (names.map λ(n,k)=>if(k==YI&&env.scope.kind==.function&&env.kindOf n==U .cell) then(n,Yx) else(n,k)).lookup x =
   U (if(k==YI&&env.scope.kind==.function&&env.kindOf x==U .cell) then Yx else k)
 |[],k,h=>by simp at h
 |(n,k')::r,k,h=>by
  let ih:=@zq env x r k;show q3G x ((if(k'==YI&&env.scope.kind==.function&&env.kindOf n==U .cell)=θ then(n,Yx) else(n,k'))::_)=_
  cases hx:x==n with
  |true =>
   erw[Xn,hx] at h;cases h
   let e:x=n:=Xc hx;subst e
   by_cases hc:(k'==YI&&env.scope.kind==.function&&env.kindOf x==U .cell)=θ
   .rw[Xa hc,Xa hc];simp[Xn]
   .rw[VR hc,VR hc];simp[Xn]
  |false =>
   erw[Xn,hx] at h
   by_cases hc:(k'==YI&&env.scope.kind==.function&&env.kindOf n==U .cell)=θ
   .rw[Xa hc];erw[Xn,hx];exact ih h
   .rw[VR hc];erw[Xn,hx];calc ih h
theorem EF{env:t}{x:R}:∀{names:-(R×NameKind)},names.lookup x=Z →
  (names.map λ(n,k)=>if(k==YI&&env.scope.kind==.function&&env.kindOf n==U .cell) then(n,Yx) else(n,k)).lookup x=Z
 |[],h=>by simp
 |(n,k')::r,h=>by
  let ih:=@EF env x r;show q3G x ((if(k'==YI&&env.scope.kind==.function&&env.kindOf n==U .cell)=θ then(n,Yx) else(n,k'))::_)=_
  cases hx:x==n with
  |true=>erw[Xn,hx] at h;cases h
  |false =>
   erw[Xn,hx] at h
   by_cases hc:(k'==YI&&env.scope.kind==.function&&env.kindOf n==U .cell)=θ
   .rw[Xa hc];erw[Xn,hx];exact ih h
   .rw[VR hc];erw[Xn,hx];calc ih h
structure JF(X:Cx)(ifs:-B)(t:TT):Prop where
 out:∀(pins:aq)(s:L)(σ:St)(H:Hp)(Q:Bool->Hp->Prop),Inv X pins σ H s->t σ H Q →
  G (M X.prog X.w) X.A (forIn ifs θ λc r=>if r=θ then do let ok <- isTrue c X.env (eval c X.env);pure (YC ok) else pure (YC r)) (TP X pins σ Q) X.xe s
instance {X:Cx} {ifs:-B} {t:TT}:CoeFun (JF X ifs t) (λ_=>∀(pins:aq)(s:L)(σ:St)(H:Hp)(Q:Bool->Hp->Prop),Inv X pins σ H s->t σ H Q->G (M X.prog X.w) X.A (forIn ifs θ λc r=>if r=θ then do let ok <- isTrue c X.env (eval c X.env);pure (YC ok) else pure (YC r)) (TP X pins σ Q) X.xe s):=⟨JF.out⟩
def zr:TT:=λ_ H Q=>Q θ H
theorem pw{X:Cx}:JF X [] zr:=⟨λ_ _ _ H _ I h=>wpAny_tests_nil ⟨H,I,h⟩⟩
theorem MC{X:Cx}{c:B}{t:TT}(h:JT X c t):JF X [c] t:=⟨λpins s σ H Q I hw=>wpAny_tests_one (h pins s σ H Q I hw)
⟩
def MD(g:TG)(tf:TT)(te:TE)(l:O)(x:V)(τ:St)(H:Hp)(N:St->Hp->Prop):Prop :=
 g x τ H fun τ2 H2=>tf τ2 H2 λb H3=>if b=θ then te τ2 H3 λy H4=>∃ys,H4 l=U (.lst ys)/\↑ys<sizeLine/\N τ2 (upd H4 l (.lst (ys++[y]))) else N τ2 H3
def EG(J:It)(g:TG)(tf:TT)(te:TE)(l:O)(τ0:St)(H0:Hp)(Q:VK):Prop :=
 ∃W:Nat->Nat->St->Hp->Prop,(∃m,W 0 m τ0 H0)/\∀i m τ H,W i m τ H →
  (J.stop i H/\Q (.ref l) H)\/(J.go i H/\∃N:St->Hp->Prop,(∀τ' H',N τ' H'->∃m',m'<m/\W (i+1) m' τ' H')/\∀x H',J.qC i H x H'->MD g tf te l x τ H' N)
def tF(wi:TI)(cp:-(Option Nat))(g:BD->TG)(tf:BD->TT)(te:BD->TE):TE:=fun σ H Q=>wi σ H λJ H1=>∀(d:BD)(l:O),H1 l=Z->EG J (g d) (tf d) (te d) l (kO cp σ) (upd H1 l (.lst [])) Q
theorem qL:∀{names:-(R×NameKind)}{n:Nat}{acc:-(R×O)}{x:R}{c:O},(cellsFrom n names acc).lookup x=U c->acc.lookup x=U c\/(n<=c/\(x,Yx)∈names)
 |[],n,acc,x,c,h=>.inl h
 |(y,k)::r,n,acc,x,c,h=>by
  unfold cellsFrom at h;split at h
  .rename_i hk
   let ek:k=.cell:=Xc hk;subst ek;rcases qL h with h|⟨h,m⟩
   .rw[Xn] at h
    cases q:x==y with
    |true=>rw[q] at h;cases h;rw[Xc q];exact .inr ⟨vQ _,Mv ..⟩
    |false=>rw[q] at h;exact .inl h
   .exact .inr ⟨⋯,Mu _ m⟩
  .rcases qL h with h|⟨h,m⟩
   .exact .inl h
   .calc .inr ⟨h,Mu _ m⟩
theorem zu:∀{names:-(R×NameKind)}{n:Nat}{acc:-(R×O)}{x:R}{c:O},(x,Yx)∈names->(cellsFrom n names acc).lookup x=U c->n<=c
 |[],n,acc,x,c,m,h=>by cases m
 |(y,k)::r,n,acc,x,c,m,h=>by
  unfold cellsFrom at h
  by_cases mr:(x,Yx)∈r
  .split at h
   .let:=zu mr h;symm
   .exact zu mr h
  .let e:(x,Yx)=(y,k):=by
    rcases Mt.mp m with e|e
    .exact e
    .exact absurd e mr
   cases e
   rw[Xa (by decide)] at h;rcases qL h with h|⟨h,_⟩
   .rw[Xn,q1t] at h
    cases h;exact vQ _
   .omega
theorem zv:∀{names:-(R×NameKind)}{n:Nat}{acc:-(R×O)}{x y:R}{c:O},(∀u v c,acc.lookup u=U c->acc.lookup v=U c->u=v)->(∀u c,acc.lookup u=U c->c<n)->(cellsFrom n names acc).lookup x=U c->(cellsFrom n names acc).lookup y=U c->x=y
 |[],n,acc,x,y,c,hi,_,h1,h2=>hi x y c h1 h2
 |(z,k)::r,n,acc,x,y,c,hi,hb,h1,h2=>by
  unfold cellsFrom at h1 h2;split at h1
  .rename_i hk
   rw[Xa hk] at h2;refine zv (λu v c q1 q2=>?_) (λu c q=>?_) h1 h2
   .rw[Xn] at q1 q2
    cases e1:u==z with
    |true =>
     rw[e1] at q1;cases q1
     cases e2:v==z with
     |true=>rw[Xc e1,Xc e2]
     |false=>rw[e2] at q2;exact absurd (hb v _ q2) (YH _)
    |false =>
     rw[e1] at q1
     cases e2:v==z with
     |true=>rw[e2] at q2;cases q2;exact absurd (hb u _ q1) (YH _)
     |false=>rw[e2] at q2;exact hi u v c q1 q2
   .rw[Xn] at q
    cases e1:u==z with
    |true=>rw[e1] at q;cases q;exact ZU _
    |false=>rw[e1] at q;exact Yi (hb u c q)
  .rename_i hk
   rw[VR hk] at h2;calc zv hi hb h1 h2
theorem zw:∀{names:-(R×NameKind)}{n:Nat}{acc:-(R×O)}{x:R},(x,Yx)∉names->(cellsFrom n names acc).lookup x=acc.lookup x
 |[],n,acc,x,_=>Y
 |(y,k)::r,n,acc,x,m=>by
  unfold cellsFrom;split
  .rename_i hk
   let ek:k=.cell:=Xc hk;subst ek;rw[zw λz=>m (Mu _ z),Xn]
   cases q:x==y with
   |true=>exact absurd (by rw[Xc q];calc Mv ..) m
   |false=>rfl
  .calc zw λz=>m (Mu _ z)
theorem zx:∀{names:-(R×NameKind)}{h:I}{acc:-(R×O)}{x:R}{c:O},(∀u c,acc.lookup u=U c->∃v,h.IsCell c v)->(cellsFrom h.objs.size names acc).lookup x=U c->∃v,(pushCells h names).IsCell c v
 |[],h,acc,x,c,hc,e=>hc x c e
 |(y,k)::r,h,acc,x,c,hc,e=>by
  unfold cellsFrom at e;unfold pushCells;split at e
  .rename_i hk
   rw[Xa hk];let hz:(h.push {cls:=.type "cell",data:=.cell Z}).objs.size=h.objs.size+1:=Yy ..;rw[<-hz] at e;calc zx (λu c q=>?_) e;rw[Xn] at q
   cases e1:u==y with
   |true=>rw[e1] at q;cases q;exact⟨Z,_,My _ Y,Y⟩
   |false =>
    rw[e1] at q;let⟨v,o,g1,g2⟩:=hc u c q;exact⟨v,o,pf _ g1,g2⟩
  .rename_i hk
   rw[VR hk];calc zx hc e
theorem ME{M:Model}{A:q}{E:aM}{s:L}{scope:u}{g:O}{cl:-(R×O)}{qual:R}{env:t}{Q:t->L->Prop}
  (h:Q (newEnv scope ⇑s g (cellsFrom (⇑s+1) scope.names cl) qual Z .none (U env) builtinsNs) {s with heap:=pushCells (s.heap.push {cls:=.type "dict",data:=.dict #[]}) scope.names}) :
  G M A (newFunctionEnv scope g cl [] qual Z .none (U env)) Q E s:=by
 erw[newFunctionEnv,q2M,YU];calc lK (wpAny_alloc ?_);calc lK (wpAny_layCells _ (λname kind cells=>by cases MF:kind==Yx<;>simp[MF]) _ _ _ _ ?_);rw[show({s with heap:=s.heap.push {cls:=.type "dict",data:=.dict #[]}}:L).heap.objs.size=⇑s+1 from Yy ..];calc lK ?_;rw[q17];calc zi (zi h)
section
variable{X:Cx}{elt tg iter:B}{ifs:-B}{scope:u}{pos:y}{Nb:-R}{cp:-(Option Nat)}{wi:TI}{g:BD->TG}{tf:BD->TT}{te:BD->TE}
variable{pins:aq}{σ:St}{H:Hp}{s:L}
noncomputable abbrev tG(scope:u)(s:L)(cl:-(R×O)):-(R×O):=cellsFrom (⇑s+1) scope.names cl
theorem MG{fp:-O}{cl:-(R×O)}(S:vR X scope Nb cp)(I:Inv X pins σ H s)(hf:∀b∈fp,b7 X pins H b)(ho:∀b∈fp,∃o,s.heap.get? b=U o)
  (c1:∀x c,cl.lookup x=U c->X.env.cells.lookup x=U c) (c2:∀y∈scope.names,y.2=.free->∃c,cl.lookup y.1=U c):(bS X scope Nb ⟨tG scope s cl,⇑s,s,H,fp⟩).Ok:=by
 let MH:∀b∈fp,b∉dM X.stack:=λb hb z=>by
  let⟨_,f1,f2,_⟩:=hf b hb;rcases Mt.mp (I.fO b z) with e|e
  .exact f1 e
  .exact f2 e
 let lt:∀u c,cl.lookup u=U c->c<⇑s:=λu c e=>by
  let⟨v,q⟩:=I.cell u c (c1 _ _ e);exact q.lt
 refine⟨I.ok.mod,?_,I.ok.glob,I.ok.blt,vQ _,λx y c h1 h2=>?_,λx hx=>?_,λx c h hc=>?_,I.ok.hd,I.ok.frames,.inl Y,λb hb=>⟨?_,λx c e=>?_⟩,I.bs,XH I.ok.jD I.sz,λb o e hb=>?_,MH,I.stack,I.di⟩
 .exact S.kind
 .exact zv (λu v c q1 q2=>I.ok.inj u v c (c1 _ _ q1) (c1 _ _ q2)) (λu c e=>Yi (lt u c e)) h1 h2
 .cases q:scope.names.lookup x with
  |none =>
   let z:(relabel scope X.env).names.lookup x=Z:=EF q;let fS:(relabel scope X.env).names.lookup x=U .cell\/(relabel scope X.env).names.lookup x=U .free:=hx;rw[z] at fS;rcases fS with h|h<;>cases h
  |some k =>
   let hm:=Ys q;let z:(relabel scope X.env).names.lookup x=_:=zq (env:=X.env) q;let fS:(relabel scope X.env).names.lookup x=U .cell\/(relabel scope X.env).names.lookup x=U .free:=hx;rw[z] at fS
   let kf:k=.free\/k=.cell:=by
    by_cases hk:k=.free
    .exact .inl hk
    .let:(k==YI)=ι:=by simpa using hk
     erw[this,q11,VQ,XY] at fS;rcases fS with h|h
     .exact .inr (Xt h)
     .exact absurd (Xt h) hk
   calc Zj.mp (q0m scope.names _ cl ?_);rcases kf with rfl|rfl
   .let⟨c,e⟩:=c2 (x,.free) hm Y
    exact .inr (by rw[show cl.lookup x=U c from e];rfl)
   .exact .inl q
 .let hl:scope.names.lookup x=U .cell:=Yk h
  let:=zu (Ys hl) hc;exact q3a this
 .let⟨o,e⟩:=ho b hb
  exact Xg (EC e)
 .rcases qL e with e|⟨e,_⟩
  .exact (hf b hb).2.2.2.2.1 x c (c1 _ _ e)
  .let⟨o,eo⟩:=ho b hb
   let zy:=EC eo;ext z;subst z;exact absurd (q3b e) (q6_.mpr (Y4 zy))
 .rcases (hf b hb).2.2.2.1 with z|z
  .exact I.ok.gj b o e z
  .calc absurd (Xk (EC (I.ok.bs b o e).1) z) (YH _)
theorem MI{cp:-(Option Nat)}{σ:St}{j:Nat}{v:V}(h:(kO cp σ)[j]?=U (U v)):∃i,cp[j]?=U (U i)/\σ[i]?=U (U v):=by
 unfold kO at h;rw[W5] at h
 cases e:cp[j]? with
 |none=>rw[e] at h;cases h
 |some o =>
  rw[e] at h
  cases o with
  |none=>cases h
  |some i =>
   calc⟨i,Y,?_⟩;let h':(σ[i]?).join=U v:=Xt h
   cases q:σ[i]? with
   |none=>rw[q] at h';cases h'
   |some z =>
    rw[q] at h';let:z=U v:=h';rw[this]
theorem MJ{fp:-O}{cl:-(R×O)}{h1:Α}{tk:Nat}(S:vR X scope Nb cp)(I:Inv X pins σ H s)(hf:∀b∈fp,b7 X pins H b)(ho:∀b∈fp,∃o,s.heap.get? b=U o)
  (c1:∀x c,cl.lookup x=U c->X.env.cells.lookup x=U c) (c2:∀y∈scope.names,y.2=.free->∃c,cl.lookup y.1=U c)
  (hn:h1.Ns ⇑s (λx=>([]:-(R×J)).reverse.lookup x)) (hk:∀b o,s.heap.get? b=U o->h1.get? b=U o) (lG:∀x c,(tG scope s cl).lookup x=U c->∃v,h1.IsCell c v) :
  Inv (bS X scope Nb ⟨tG scope s cl,⇑s,s,H,fp⟩) [] (kO cp σ) H {s with heap:=h1,toks:=tk}:=by
 refine⟨MG S I hf ho c1 c2,Y,I.bare,Un.kept hk,⟨_,hn,λj x v e1 e2 e3=>?_⟩,lG,I.aH.fresh (vQ _),λx c e=>?_,λp hp=>absurd (show p∈([]:aq) from hp) (by simp),I.aH.kept hk,?_⟩
 .let⟨i,q1,q2⟩:=MI e2
  let⟨q3,q4⟩:=S.zp j i x q1 e1;let hm:=Ys q4;let nN:=S.free _ hm Y;let⟨m,_,hl⟩:=I.loc
  let MK:qv X.env.scope x:=by
   rcases nN with h|h
   .exact .inr (.inl h)
   .exact .inr (.inr h)
  let⟨u,ru,lk⟩:=hl i x v q3 q2 MK;refine⟨u,ru,?_⟩
  let nl:X.env.kindOf x≠U .local:=by
   rcases nN with h|h
   .ext z;rw[h] at z;cases z
   .ext z;rw[h] at z;cases z
  rcases lk with⟨k,_⟩|⟨_,c,ec,hc⟩
  .exact absurd k nl
  .let⟨c',EH⟩:=c2 (x,.free) hm Y
   let EJ:=c1 _ _ EH;rw[ec] at EJ;cases EJ;let nc:(x,Yx)∉scope.names:=λz=>by let:=S.cell _ z Y;rw[show scope.names.lookup x=U .free from q4] at this;cases this
   refine .inr ⟨?_,c,(zw nc).trans EH,?_⟩
   .let z:(relabel scope X.env).names.lookup x=_:=zq (env:=X.env) q4
    show(relabel scope X.env).names.lookup x=U .cell\/(relabel scope X.env).names.lookup x=U .free;rw[z];split
    .exact .inl Y
    .exact .inr Y
   .let⟨o,e,d⟩:=hc
    exact⟨o,hk _ _ e,d⟩
 .rcases qL e with e|⟨e,_⟩
  .exact I.bw x c (c1 _ _ e)
  .exact I.aH.fresh (q3a e)
 .unfold kO
  rw[qJ];calc S.len
theorem ML{fp:-O}{d:BD}{it l:O}{tn:Nat->I->Prop}{J:It}{R:Result->L->Prop}{Q:VK}{H1:Hp}{s1:L}{τ:St}(hc:X.calm=θ)
  (hg:JG (bS X scope Nb d) tg (g d)) (hf:JF (bS X scope Nb d) ifs (tf d)) (he:JE (bS X scope Nb d) elt (te d)) (T:Turn X.prog X.w X.K tg J fp it tn)
  (VU:d.fp=fp) (I1:Inv (bS X scope Nb d) [] τ H1 s1) (f9:tn 0 s1.heap) (EK:∀b∈fp,b7 (bS X scope Nb d) [] H1 b)
  (W:Nat->Nat->St->Hp->Prop) (w0:∃m,W 0 m τ H1)
  (turn:∀i m τ H,W i m τ H->(J.stop i H/\Q (.ref l) H)\/(J.go i H/\∃N:St->Hp->Prop,(∀τ' H',N τ' H'->∃m',m'<m/\W (i+1) m' τ' H')/\∀x H',J.qC i H x H'->g d x τ H' fun τ2 H2=>tf d τ2 H2 λb H3 =>
   if b=θ then te d τ2 H3 λy H4=>∃ys,H4 l=U (.lst ys)/\↑ys<sizeLine/\N τ2 (upd H4 l (.lst (ys++[y]))) else N τ2 H3))
  (fin:∀τ' H' s',Inv (bS X scope Nb d) [] τ' H' s'->Q (.ref l) H'->R (.ok .next) s') :
  codeAny (M X.prog X.w) X.A (.compStart (.ListComp elt [⟨tg,iter,ifs,0⟩] scope pos) 0 (.ref it) (.ref l) (compEnvC scope d.cl d.C X.env)) R s1:=by
 let gU:∀{H':Hp},(∀b∈fp,H' b=Z)->∀b∈fp,b7 (bS X scope Nb d) [] H' b:=λhn b hb=>⟨hn b hb,(EK b hb).2⟩
 let loop:codeAny (M X.prog X.w) X.A (.compLoop (.ListComp elt [⟨tg,iter,ifs,0⟩] scope pos) 0 (.ref it) (.ref l) (compEnvC scope d.cl d.C X.env)) R s1:=by
  let⟨m0,w0⟩:=w0;calc MA (λn s'=>∃i τ' H',Inv (bS X scope Nb d) [] τ' H' s'/\tn i s'.heap/\(∀b∈fp,H' b=Z)/\W i n τ' H') ?_ m0 ⟨0,τ,H1,I1,f9,λb hb=>(EK b hb).1,w0⟩;ext n s3 ⟨i,σ3,H3,I3,nA,sG,w3⟩;rcases turn i n σ3 H3 w3 with⟨stop,qn⟩|⟨go,N,hN,step⟩
  .refine aS (T.done (bS X scope Nb d) Y Y Y hc i [] s3 σ3 H3 (λ_ _=>False) I3 (gU sG) nA stop) λr s4 ⟨hr,I4⟩=>?_
   subst hr;exact fin σ3 H3 s4 I4 qn
  .refine aS (T.item (bS X scope Nb d) Y Y Y hc i [] s3 σ3 H3 (λ_ _=>False) I3 (gU sG) nA go) λr s4 ⟨u,hr,h4⟩=>?_
   subst hr;calc aS h4 λ_ s5 ⟨x,H5,I5,r5,y5,oO,yy⟩=>?_;let yz:=I5.pinned (gU yy) (T.obj _ _ oO);refine aS (hg _ s5 σ3 H5 x u _ yz r5 (step x H5 y5)) λ_ s6 ⟨σ6,H6,I6,q6⟩=>?_
   let again:∀{σ7:St}{H7:Hp}{s7:L}{m':Nat},Inv (bS X scope Nb d) ([]++sF fp s5.heap) σ7 H7 s7->m'<n->W (i+1) m' σ7 H7->∃m,m<n/\∃i σ' H',Inv (bS X scope Nb d) [] σ' H' s7/\tn i s7.heap/\(∀b∈fp,H' b=Z)/\W i m σ' H':=λ{σ7 H7 s7 m'} I7 hm w7=>by
    calc⟨m',hm,i+1,σ7,H7,I7.dm,T.keep _ _ _ oO λb hb o e=>(I7.pin (b,o) (Xw _ (Xw _ (vI hb e)))).1,λb hb=>?_,w7⟩;let⟨o,e,d⟩:=T.obj _ _ oO b hb;exact(I7.pin (b,o) (Xw _ (Xw _ (vI hb e)))).2.1
   refine aS (hf _ s6 σ6 H6 _ I6 q6) λok s7 h0_=>el3 h0_ λH7 I7 q7=>?_
   cases ok with
   |false =>
    rw[VR Mw] at q7 ⊢;let⟨m',hm,w7⟩:=hN _ _ q7;exact again I7 hm w7
   |true =>
    rw[Xa Y] at q7 ⊢;calc aS (he _ s7 σ6 H7 _ I7 q7) λy s8 ⟨yv,H8,I8,r8,ys,hy,hz,q8⟩=>?_;let⟨m',hm,w8⟩:=hN _ _ q8;calc aS (y7 _ s8 σ6 H8 (.ref l) [yv] (.ref l) [y] (λ_ H9=>H9=upd H8 l (.lst (ys++[yv]))) I8 Y (.cons r8 .nil) ⟨l,ys,yv,Y,Y,hy,hz,Y⟩) λ_ s9 h0_=>el5 h0_ λ_ H9 I9 _ e9=>?_;subst e9;exact again I9 hm w8
 calc codeAny_compStart_list loop (T.self _ 0 s1 _ _ f9 loop)
theorem MM{fp:-O}{d:BD}{τ:St}{H1 H':Hp}{s1 s':L}(I1:Inv X pins σ H1 s1)(hs:d.s=s1)(hH:d.H=H1)(hd:d.fp=fp)(hf:∀b∈fp,b7 X pins H1 b)(J:Inv (bS X scope Nb d) [] τ H' s'):Inv X pins σ H' s':=by
 subst hs hH hd;calc I1.h_ (ch:=d.fp) J.os J.base J.aH J.bare λb hb=>⟨(hf b hb).2.2.2.1,(hf b hb).2.1,(hf b hb).2.2.2.2.1,(hf b hb).2.2.2.2.2⟩
theorem EL{use:Option (ν->Sem Unit)}{P:aM}{Q:VK}(hc:X.calm=θ)(S:vR X scope Nb cp)(hi:JI X tg iter wi)(hg:∀d,JG (bS X scope Nb d) tg (g d))(hf:∀d,JF (bS X scope Nb d) ifs (tf d))(he:∀d,JE (bS X scope Nb d) elt (te d))
  (hs:∀x,foldedSetIterable iter X.env x=pure x) (I:Inv X pins σ H s) (h:tF wi cp g tf te σ H Q)
  (fin:∀(l C:O)(H':Hp)(s':L)(m:R->Option ν),Inv X pins σ H' s'->b7 X pins H' C->(∀p c,X.env.cells.lookup p=U c->c≠C)->s'.heap.Ns C m->Q (.ref l) H'->compPost (M X.prog X.w) X.A X.xe use P (.ref l) C (.ok .next) s') :
  G (M X.prog X.w) X.A (comprehension (.ListComp elt [⟨tg,iter,ifs,0⟩] scope pos) scope X.env (firstIterPos [⟨tg,iter,ifs,0⟩] pos) (newList []) ι (eval iter X.env) use) P X.xe s:=by
 let⟨cl,MN,c1,c2⟩:=MB (scope:=scope) (env:=X.env) λy hy jj=>by
  rcases S.free y hy jj with z|z
  .exact I.ok.has _ (.inl z)
  .exact I.ok.has _ (.inr z)
 calc wpAny_comprehension_free (cl:=cl) Y hs MN S.kind S.names (aS (hi pins s σ H _ I h) λv s1 h1=>aS h1 λyu s2 h2=>?_);let⟨it,fp,tn,J,H2,e,I2,T,jJ,f2,q2⟩:=h2;subst e;calc X9 ?_;let hl:H2 ⇑s2=Z:=I2.fresh;let I3:Inv X pins σ (upd H2 ⇑s2 (.lst [])) {s2 with heap:=s2.heap.push {cls:=.type "list",data:=.seq ([]:-ν).toArray}}:=I2.bN (t':=s2.toks) (ys:=[]) .nil (Xq _);let k3:∀b o,s2.heap.get? b=U o->(s2.heap.push {cls:=.type "list",data:=.seq ([]:-ν).toArray}).get? b=U o:=λb o e=>pf _ e
 let f3:∀b∈fp,b7 X pins (upd H2 ⇑s2 (.lst [])) b:=λb hb=>by
  let⟨o,e,_⟩:=T.obj _ _ jJ b hb;calc⟨?_,(f2 b hb).2⟩;rw[aC (Xg (EC e))];exact(f2 b hb).1
 generalize MO:upd H2 ⇑s2 (.lst [])=H3 at I3 f3;generalize MP:({s2 with heap:=s2.heap.push {cls:=.type "list",data:=.seq ([]:-ν).toArray}}:L)=s3 at I3;let EM:∀b o,s2.heap.get? b=U o->s3.heap.get? b=U o:=by rw[<-MP];exact k3
 let o3:∀b∈fp,∃o,s3.heap.get? b=U o:=λb hb=>let⟨o,e,_⟩:=T.obj _ _ jJ b hb;⟨o,EM b o e⟩;calc ME ?_;let k4:∀b o,s3.heap.get? b=U o->(pushCells (s3.heap.push {cls:=.type "dict",data:=.dict #[]}) scope.names).get? b=U o:=λb o e=>q3S _ _ _ _ (pf _ e);let tH:(pushCells (s3.heap.push {cls:=.type "dict",data:=.dict #[]}) scope.names).Ns ⇑s3 (λx=>([]:-(R×ν)).reverse.lookup x):=(Heap.Ns.new s3.heap (.type "dict")).keeps (q3S _ _)
 let I4:=MJ (Nb:=Nb) (tk:=s3.toks) S I3 f3 o3 c1 c2 tH k4 λx c e=>by
  let hz:(s3.heap.push {cls:=.type "dict",data:=.dict #[]}).objs.size=⇑s3+1:=Yy ..;let e':(cellsFrom (s3.heap.push {cls:=.type "dict",data:=.dict #[]}).objs.size scope.names cl).lookup x=U c:=by rw[hz];exact e
  calc zx (λu c q=>?_) e';let⟨v,o,g1,g2⟩:=I3.cell u c (c1 _ _ q);exact⟨v,o,pf _ g1,g2⟩
 generalize VV:pushCells (s3.heap.push {cls:=.type "dict",data:=.dict #[]}) scope.names=h₁ at k4 tH I4 ⊢;let⟨W,w0,turn⟩:=q2 ⟨tG scope s3 cl,⇑s3,s3,H3,fp⟩ ⇑s2 hl;rw[MO] at w0;refine ML (d:=⟨tG scope s3 cl,⇑s3,s3,H3,fp⟩) (fp:=fp) (tn:=tn) (J:=J) (Q:=Q) hc (hg _) (hf _) (he _) T Y I4 (T.keep _ _ _ jJ λb hb o e=>k4 b o (EM b o e)) (λb hb=>?_) W w0 turn fun τ' H' s' I5 q5=>?_
 .let⟨o,e⟩:=o3 b hb
  refine⟨(f3 b hb).1,Xg (EC e),λz=>?_,.inl hb,λx c ec=>?_,λp hp=>absurd (show p∈([]:aq) from hp) (by simp)⟩
  .rcases Mt.mp (I3.fO b z) with r|r
   .exact (f3 b hb).2.1 r
   .exact (f3 b hb).2.2.1 r
  .rcases qL ec with q|⟨q,_⟩
   .exact (f3 b hb).2.2.2.2.1 x c (c1 _ _ q)
   .let zy:=EC e
    ext z;subst z;exact absurd (q3b q) (q6_.mpr (Y4 zy))
 .let I6:Inv X pins σ H' s':=MM I3 Y Y Y f3 I5
  let⟨m,hn,_⟩:=I5.loc;let fC:b7 X pins H' ⇑s3:=I3.iI (vQ _) I5.free;calc fin _ _ _ _ m I6 fC (λp c e=>fC.2.2.2.2.1 p c e) hn q5
theorem EN(cp:-(Option Nat))(Nb:-R)(hc:X.calm=θ)(hi:JI X tg iter wi)(hg:∀d,JG (bS X scope Nb d) tg (g d))(hf:∀d,JF (bS X scope Nb d) ifs (tf d))(he:∀d,JE (bS X scope Nb d) elt (te d))
  (hk:scope.kind=.function:=by rfl) (ho:kP X.N X.env.scope scope Nb cp=θ:=by first|rfl|kernel_rfl) (hs:∀x,foldedSetIterable iter X.env x=pure x:=by ext _;rfl) :
  JE X (.ListComp elt [⟨tg,iter,ifs,0⟩] scope pos) (tF wi cp g tf te):=by
 calc⟨?_⟩;ext pins s σ H Q I h;rw[eval_ListComp];calc EL (use:=none) hc (x6w hk ho) hi hg hf he hs I h λl C H' s' m I' fC hcc hn q=>⟨m,hn,λh' zz=>⟨.ref l,H',?_,Y,q⟩⟩;calc I'.turned (t':=s'.toks) (λb o hb e=>(zz.2 b hb).trans e) fC.1 fC.2.1 fC.2.2.2.1 fC.2.2.2.2.1 fC.2.2.2.2.2
theorem MQ(cp:-(Option Nat))(Nb:-R){i:Nat}{x:R}{pos' gs:y}(hN:X.N.Nodup)(hi:X.N[i]?=U x)(hx:Loc X.env.scope x)(hc:X.calm=θ)(hit:JI X tg iter wi)(hg:∀d,JG (bS X scope Nb d) tg (g d))(hf:∀d,JF (bS X scope Nb d) ifs (tf d))(he:∀d,JE (bS X scope Nb d) elt (te d))
  (hk:scope.kind=.function:=by rfl) (ho:kP X.N X.env.scope scope Nb cp=θ:=by first|rfl|kernel_rfl) (hs:∀x,foldedSetIterable iter X.env x=pure x:=by ext _;rfl)
  (tI:swapsWith (.ListComp elt [⟨tg,iter,ifs,0⟩] scope pos) (U (.Name x pos')) gs.line X.env=pure θ:=by rfl)
  (iG:d5 X x:=by first|exact .inl Y|exact .inr Y|assumption) :
  JS X (.Assign [.Name x pos'] (.ListComp elt [⟨tg,iter,ifs,0⟩] scope pos) gs) (cC (tF wi cp g tf te) (gm i)):=by
 calc⟨?_⟩;ext pins s σ H D I h;rw[exec_Assign_Name_used _ _ _ _ tI];calc lK (Z4 (lK ?_));show G _ X.A (do let _ <- comprehension (.ListComp elt [⟨tg,iter,ifs,0⟩] scope pos) scope X.env _ (newList []) ι (eval iter X.env) (U (assign (.Name x pos') X.env))) _ _ s;calc lK (aS (EL (use:=U (assign (.Name x pos') X.env)) (P:=λ_ s'=>SP X pins D .next s') hc (x6w hk ho) hit hg hf he hs I h λl C H' s' m I' fC hcc hn q=>?_) λ_ s' hq=>zi (zi hq));show G _ X.A (assign (.Name x pos') X.env (.ref l)) _ _ s';refine q2Z (DL I' hN hi hx (v:=.ref l) Y (λsO MR ⟨a,sb,ha⟩=>?_) iG)
 let nC:C≠a:=by
  rcases ha with e|e
  .rw[e];exact fC.2.1
  .exact YV (hcc _ _ e)
 calc⟨m,hn.sameBut sb nC,λh' zz=>⟨_,H',?_,q⟩⟩;calc MR.turned (t':=sO.toks) (λb o hb e=>(zz.2 b hb).trans e) fC.1 fC.2.1 fC.2.2.2.1 fC.2.2.2.2.1 fC.2.2.2.2.2
end
section
variable{g:TG}{tf:TT}{te:TE}
end
section
variable{X:Cx}{pins:aq}{σ:St}{H:Hp}{s:L}{h':I}{T:O}{o:HO}{ch:-O}{t':Nat}
theorem Inv.eJ(I:Inv X pins σ H s)(hf:∀b∈ch,b7 X pins H b)(k:∀b u,b∉ch->s.heap.get? b=U u->h'.get? b=U u)(hT:⇑s<=T)(new:aD X.prog X.w (upd H T o) h' T o):
  Inv X pins σ (upd H T o) {s with heap:=h',toks:=t'}:=by
 let hn:H T=Z:=I.aH.fresh hT;let jF:∀b u,H b=U u->b∉ch:=λb u e hb=>by rw[(hf b hb).1] at e;cases e
 refine I.step (g':=s.gens) (d':=s.drawn) (ch:=ch) (λb hb=>⟨(hf b hb).2.2.2.1,(hf b hb).2.1,(hf b hb).2.2.2.2.1,(hf b hb).2.2.2.2.2⟩) (λb u _ _ hc e _=>k b u hc e) (λb u _ _ hc e _=>⟨u.slots,k b u hc e⟩)
  (λb u _ e n=>by rw[aC (Xg (Xk (EC e) hT))];calc n) (λb u hc e=>⟨u,k b u hc e⟩) (λb xs e=>by rw[aC (bD e hn)];calc e)
  (λb u xs e=>by rw[aC (bD e hn)];calc e) (λb ps e=>⟨#[],by rw[aC (bD e hn),e];simp⟩) (λm hm=>?_) (λb u e=>?_) I.bare
 .let⟨u,es,ep,ho,r⟩:=hm
  exact⟨u,es,ep,k _ u (λhb=>(hf _ hb).2.1 Y) ho,r⟩
 .by_cases hb:b=T
  .subst hb;rw[aY] at e;cases e;exact new
  .rw[aC hb] at e
   refine(I.aH b u e).dQ (λc v hc q=>k c v ?_ q) (λc q=>by rw[aC (bD q hn)];calc q) λc xs q=>by rw[aC (bD q hn)];exact q
   rcases hc with z|z
   .rw[z];exact jF b u e
   .calc jF c _ z
theorem Inv.iN(I:Inv X pins σ H s)(hf:∀b∈ch,b7 X pins H b)(k:∀b u,b∉ch->s.heap.get? b=U u->h'.get? b=U u):Inv X pins σ H {s with heap:=h',toks:=t'}:=by
 let jF:∀b u,H b=U u->b∉ch:=λb u e hb=>by rw[(hf b hb).1] at e;cases e
 refine I.step (g':=s.gens) (d':=s.drawn) (ch:=ch) (λb hb=>⟨(hf b hb).2.2.2.1,(hf b hb).2.1,(hf b hb).2.2.2.2.1,(hf b hb).2.2.2.2.2⟩) (λb u _ _ hc e _=>k b u hc e) (λb u _ _ hc e _=>⟨u.slots,k b u hc e⟩)
  (λb u _ e n=>n) (λb u hc e=>⟨u,k b u hc e⟩) (λb xs e=>e)
  (λb u xs e=>e) (λb ps e=>⟨#[],by rw[e];simp⟩) (λm hm=>?_) (λb u e=>?_) I.bare
 .let⟨u,es,ep,ho,r⟩:=hm
  exact⟨u,es,ep,k _ u (λhb=>(hf _ hb).2.1 Y) ho,r⟩
 .refine (I.aH b u e).dQ (λc v hc q=>k c v ?_ q) (λc q=>q) λc xs q=>q
  rcases hc with z|z
  .rw[z];exact jF b u e
  .calc jF c _ z
end
noncomputable def qM(K:tu)(a:O):It :=
 ⟨λi H=>∃xs x,aX K H a xs/\xs[i]?=U x,λi H x H'=>∃T v,x=.ref T/\H T=Z/\H'=upd H T (.tup [.int (i:Nat),v])/\∀xs,aX K H a xs->xs[i]?=U v,λi H=>∃xs,aX K H a xs/\↑xs<=i⟩
theorem EO{P:n}{w:g}{K:tu}{elts:-B}{x1}{tp:y}(a e it:O)(iO:e≠it):
  Turn P w K (.Tuple elts x1 tp) (qM K a) [e,it] e (λi h=>(∃old,IsEnum h e it (i:Nat) old)/\h.IsListIter it a i) where
 mem:=by simp
 obj:=λi h st b hb=>by
  let⟨⟨old,he⟩,o,hi,hc,hd⟩:=st;rcases Mt.mp hb with rfl|hb
  .exact⟨_,he,λv z=>by cases z⟩
  .let z:b=it:=by simpa using hb
   subst z;exact⟨o,hi,λv z=>by rw[hd] at z;cases z⟩
 keep:=λi h h' st k=>by
  let⟨⟨old,he⟩,hi⟩:=st;exact⟨⟨old,k e (by simp) _ he⟩,hi.at λo q=>k it (by simp) o q⟩
 item:=by
  ext X hP hw hK hc i pins s σ H E I hf st hg;subst hP hw hK;let⟨⟨old,he⟩,hi⟩:=st;let⟨xs,x,hq,hx⟩:=hg;let⟨ah,rv,p,hz⟩:=I.list hq;let⟨u,hu,ru⟩:=rv.get hx;calc wpAny_pyNext_enum_item he hi p.isList (x:=u) hu⁻¹ iO λh1 kF tJ tK hsz hk=>⟨_,Y,?_⟩;calc q03 kF λh2 vS dj=>?_;let hT:⇑s≠e:=Zv (EC he);let jP:h2.get? ⇑s=U {cls:=.type "tuple",data:=.seq #[.int i s.toks,u]}:=(dj.2 _ hT).trans tK
  let k2:∀b o,b∉[e,it]->s.heap.get? b=U o->h2.get? b=U o:=λb o hb q=>by
   let tL:b≠e:=λz=>hb (by simp[z]);let gr:b≠it:=λz=>hb (by simp[z]);exact(dj.2 _ tL).trans (hk b o tL gr q)
  let hn:H ⇑s=Z:=I.aH.fresh (vQ _);refine⟨.ref ⇑s,upd H ⇑s (.tup [.int i,x]),I.eJ (ch:=[e,it]) (t':=s.toks+1) hf k2 (vQ _) ?_,Y,⟨_,x,Y,hn,Y,λys hy=>by rw[I.eG hy hq];calc hx⟩,⟨⟨u,?_⟩,?_⟩,λb hb=>?_⟩
  .exact⟨by show 2<=sizeLine;decide,[.int i s.toks,u],.cons ⟨_,Y⟩ (.cons ru .nil),_,jP,Y,_,Y⟩
  .let e3:((i:Int)+1)=(((i+1:Nat)):Int):=by symm
   rw[e3] at vS;exact vS
  .exact tJ.at λo q=>(dj.2 _ (YV iO)).trans q
  .let:b<⇑s:=by
    let⟨o,q,_⟩:=hi;rcases Mt.mp hb with rfl|hb
    .exact EC he
    .let z:b=it:=by simpa using hb
     subst z;exact EC q
   rw[aC (Xg this)];exact(hf b hb).1
 done:=by
  ext X hP hw hK hc i pins s σ H E I hf st hg;subst hP hw hK;let⟨⟨old,he⟩,hi⟩:=st;let⟨xs,hq,hx⟩:=hg;let⟨ah,rv,p,hz⟩:=I.list hq;let hl:=↑rv;calc wpAny_pyNext_enum_end (I.ok.hd hc) he hi p.isList (by simp;symm) λh1 eb=>⟨Y,?_⟩;let⟨f0,f1,f2,f3,f4,f5⟩:=hf it (by simp);exact I.turned (t':=s.toks) (λb o hb q=>eb b o hb q) f0 f1 f3 f4 f5
 self:=λA i s Q E st h=>by
  let⟨⟨old,he⟩,hi⟩:=st;let hT:s.TypeIs (.ref e) "enumerate" := ⟨_,he,Y⟩;calc Y3 he h
section
variable{X:Cx}{elts:-B}{x1:Nat}{tp:y}
def ER(K:tu)(ta:TA):TI:=fun σ H R=>ta σ H λvs H1=>∃a,vs=[.ref a]/\(∃xs,aX K H1 a xs)/\R (qM K a) H1
theorem ES:bootBuiltins "enumerate" = U (.type "enumerate"):=by decide +kernel
theorem MS:bootBuiltins "zip" = U (.type "zip"):=by decide +kernel
theorem EU{a:B}{ta:TA}{p pos:y}(hg:Gl X "enumerate")(hm:X.mg "enumerate" = Z)(ha:JA X [a] ta)(hs:starEach [a] X.env=[(ι,eval a X.env)]:=by rfl):
  JI X (.Tuple elts x1 tp) (.Call (.Name "enumerate" p) [a] [] pos) (ER X.K ta):=by
 calc⟨?_⟩;ext pins s σ H R I h;calc Call_ (nq I hg hm ES (Yj (aS (ha pos pins s σ H _ I h) λus s1 h0_=>el5 h0_ λvs H1 I1 r1 q1=>?_) hs Y));let⟨l,e,⟨xs,hq⟩,q⟩:=q1;subst e
 cases r1 with
 |cons r rr =>
  cases rr
  cases r
  let⟨ah,rv,p,hz⟩:=I1.list hq;calc q2m p.isList λh' he hi hsz hk=>?_;let I2:Inv X pins σ H1 {s1 with heap:=h'}:=I1.kept (t':=s1.toks) hk;calc Y3 he ?_;refine⟨_,_,_,_,H1,Y,I2,EO l (⇑s1+1) ⇑s1 (q1u _),⟨⟨_,he⟩,hi⟩,λb hb=>?_,q⟩
  let hb':⇑s1<=b:=by
   rcases Mt.mp hb with rfl|hb
   .exact q16 _
   .let z:b=⇑s1:=by simpa using hb
    rw[z];exact vQ _
  calc I1.iI hb' (I1.aH.fresh hb')
end
section
variable{X:Cx}{nm:R}{tp:y}
end
end L2
namespace L2
open PySem PySem.Spec PyProof.Rows PySem.W
open Builtin Builtin.ObjectAttr
section
variable{prog:n}{w:g}{A:q}{E:aM}{s:L}{K:Frag}{x D:O}{ox:f}{kQ:Option f}{name:R}
theorem MT:builtinKind "BaseException.__getattribute__" = U .slot:=by decide +kernel
theorem MU:splitId "BaseException.__getattribute__" = U ("BaseException", "__getattribute__"):=by decide +kernel
theorem MV:plainId "BaseException.__getattribute__" = θ:=q1v.ga.plain
theorem MW{tk:Tok}{Q:Unit->L->Prop}(X:K.In s.heap)(I:InstAt s.heap x ox D kQ)(hb:mroIn K D (.type "BaseException")=U θ)(q:Q () s):
  G (ς prog w) A (checkBuiltinCall "BaseException.__getattribute__" ⟨[.ref x,.str name tk],[]⟩) Q E s:=by
 let sub:Looks (ς prog w) s.heap (isInstance (.ref x) (.type "BaseException")) θ:=(I.type (M:=ς prog w)).andThen (looks_mroIn X hb);calc @check_slot (ς prog w) A E s "BaseException.__getattribute__" "BaseException" "__getattribute__" (.ref x) [.str name tk] [] Q MT MU sub (PySem.F.args_bexc_ga (.ref x) (.str name tk)) q
theorem MX{tk:Tok}{Q:aM}(X:K.In s.heap)(I:InstAt s.heap x ox D kQ)(hb:mroIn K D (.type "BaseException")=U θ)
  (h:G (M prog w) A.in1 (Builtin.«object.__getattribute__» ⟨[.ref x,.str name tk],[]⟩) (λfin s'=>∃v,fin=.done (.ret v)/\Q v s') E s) :
  G (M prog w) A (call (.builtin "BaseException.__getattribute__") [.ref x,.str name tk]) Q E s:=by
 calc q0Z (q0G MV PySem.F.entry_bexc_ga ?_);calc MW X I hb ?_;calc YD h (λfin s' hf=>?_) λ_ _ z=>z;let⟨v,rfl,q⟩:=hf;calc q
theorem EV{fill expr:Bool}{tk:Tok}{Q:aM}(X:K.In s.heap)(I:InstAt s.heap x ox D kQ)(tM:findIn K (.ref D) "__getattribute__" = U (U (.builtin "BaseException.__getattribute__")))
  (tN:findIn K (.ref D) "__getattr__" = U Z) (hb:mroIn K D (.type "BaseException")=U θ)
  (h:G (ς prog w) A.in1 (Builtin.«object.__getattribute__» ⟨[.ref x,.str name tk],[]⟩) (λfin s'=>∃v,fin=.done (.ret v)/\handedIn v=θ/\Q v s') (λ_ _=>False) s) :
  G (ς prog w) A (getAttrBy (.ref x) (.str name tk) fill expr) Q E s:=by
 let L0:=I.type (M:=ς prog w);let L1:=looks_findIn (M:=ς prog w) X tM;let L2:=looks_findIn (M:=ς prog w) X tN
 let xZ:(onTheHeap (Xj D)&&(Z6 "BaseException.__getattribute__" == Z6 "object.__getattribute__"))=ι:=by
  rw[show(Z6 "BaseException.__getattribute__" == Z6 "object.__getattribute__")=ι by decide +kernel];rfl
 let MY:(expr&&onTheHeap (Z6 "BaseException.__getattribute__"))=ι:=by cases expr<;>rfl
 let MZ:=q1v.ga.bind (.ref x)
 let main:G (ς prog w) A (callGetattribute (.ref x) (.str name tk) (.builtin "BaseException.__getattribute__") expr) (λv s'=>handedIn v=θ/\Q v s') (λ_ _=>False) s:=by
  unfold callGetattribute;rw[MY,VR Mw];unfold boundAndCalled;rw[MZ];calc lK (zi ?_);exact MX (Q:=λv s'=>handedIn v=θ/\Q v s') X I hb h
 unfold getAttrBy;calc XI (lK (L0.here (lK (L1.here ?_))));dsimp only;rw[xZ,VR Mw];unfold getAttrByItsOwn;calc lK (L2.here (lK (q1k (XI (YD main (λv s' hf=>?_) λ_ _ z=>z.elim)))));dsimp only;rw[handedOut_of hf.1];calc zi hf.2
theorem M1{tk:Tok}{v:J}{Q:Fin->L->Prop}(X:K.In s.heap)(I:InstAt s.heap x ox D kQ)(hf:findObj K D kQ name=U (.value v))(h:Q (.done (.ret v)) s):
  G (ς prog w) A (Builtin.«object.__getattribute__» ⟨[.ref x,.str name tk],[]⟩) Q E s:=by
 let L0:=I.type (M:=ς prog w);let L1:=looks_find (M:=ς prog w) X I hf;calc lK (zi ?_);dsimp only;calc lK (zi (lK (L0.here (lK (L1.here ?_)))));calc zi h
theorem M3{expr:Bool}{v:J}{Q:aM}(X:K.In s.heap)(I:InstAt s.heap x ox D kQ)(tM:findIn K (.ref D) "__getattribute__" = U (U (.builtin "BaseException.__getattribute__")))
  (tN:findIn K (.ref D) "__getattr__" = U Z) (hb:mroIn K D (.type "BaseException")=U θ) (hf:findObj K D kQ name=U (.value v)) (hv:handedIn v=θ) (h:Q v {s with toks:=s.toks+1}) :
  G (M prog w) A (getAttr (.ref x) name expr) Q E s:=by
 unfold getAttr;calc lK (wpAny_mkText ?_);calc EV (s:={s with toks:=s.toks+1}) X I tM tN hb (M1 (s:={s with toks:=s.toks+1}) X I hf ⟨v,Y,hv,h⟩)
theorem M5{Q:Option J->L->Prop}(X:K.In s.heap)(I:InstAt s.heap x ox D kQ)(tM:findIn K (.ref D) "__getattribute__" = U (U (.builtin "BaseException.__getattribute__")))
  (tN:findIn K (.ref D) "__getattr__" = U Z) (hb:mroIn K D (.type "BaseException")=U θ) (hm:mroIn K D (.type "object")=U θ)
  (hf:findObj K D kQ "__class__" = U (.bind (.builtin "getset_descriptor.__get__") (.builtin "object.__class__"))) (h:Q (U (.ref D)) {s with toks:=s.toks+1}) :
  G (ς prog w) A (getAttr? (.ref x) "__class__") Q E s:=by
 unfold getAttr? getAttrBy?;calc lK (wpAny_mkText (lK (q1k ?_)));calc EV (s:={s with toks:=s.toks+1}) X I tM tN hb ?_;let L0:=I.type (M:=ς prog w);let L1:=looks_find (M:=ς prog w) X I hf;calc lK (zi ?_);dsimp only;calc lK (zi (lK (Looks.here (s:={s with toks:=s.toks+1}) L0 (lK (Looks.here (s:={s with toks:=s.toks+1}) L1 ?_)))));show G _ _ (holding [Z6 "object.__class__"] (call (.builtin "getset_descriptor.__get__") [.builtin "object.__class__",.ref x,.ref D]) >>= ret) _ _ _;refine lK (XI (q0Z (class_get (s:={s with toks:=s.toks+1}) (ox:=ox) (od:=kQ) X I hm ?_)))
 calc zi ⟨.ref D,Y,Y,zi h⟩
noncomputable def du:-J->Bool
 |.ref _::r=>du r
 |l=>l==[.type "ValueError",.type "Exception",.type "BaseException",.type "object"]
theorem EW(self:J):∀{l:-J},du l=θ->refuseLoop self "__setattr__" l=pure ()
 |.ref c::r,e=>by rw[refuseLoop_ref];exact EW self (l:=r) (by unfold du at e;calc e)
 |[],e=>by
  unfold du at e;rw[Xc e];exact q1l.passes self
 |.type n::r,e=>by
  unfold du at e;rw[Xc e];exact q1l.passes self
 |.none::r,e=>by unfold du at e;cases Xc e
 |.bool _::r,e=>by unfold du at e;cases Xc e
 |.int _ _::r,e=>by unfold du at e;cases Xc e
 |.float _ _::r,e=>by unfold du at e;cases Xc e
 |.str _ _::r,e=>by unfold du at e;cases Xc e
 |.bytes _ _::r,e=>by unfold du at e;cases Xc e
 |.builtin _::r,e=>by unfold du at e;cases Xc e
 |.notImplemented::r,e=>by unfold du at e;cases Xc e
 |.ellipsis::r,e=>by unfold du at e;cases Xc e
theorem tO:∀{l:-J},du l=θ->l.contains (.type "object")=θ/\l.contains (.type "BaseException")=θ/\l.isEmpty=ι
 |.ref c::r,e=>by
  let ih:=tO (l:=r) (by unfold du at e;calc e);exact⟨by rw[q0c,ih.1,q1F],by rw[q0c,ih.2.1,q1F],Y⟩
 |[],e=>by
  unfold du at e;rw[Xc e];decide +kernel
 |.type n::r,e=>by
  unfold du at e;rw[Xc e];decide +kernel
 |.none::r,e=>by unfold du at e;cases Xc e
 |.bool _::r,e=>by unfold du at e;cases Xc e
 |.int _ _::r,e=>by unfold du at e;cases Xc e
 |.float _ _::r,e=>by unfold du at e;cases Xc e
 |.str _ _::r,e=>by unfold du at e;cases Xc e
 |.bytes _ _::r,e=>by unfold du at e;cases Xc e
 |.builtin _::r,e=>by unfold du at e;cases Xc e
 |.notImplemented::r,e=>by unfold du at e;cases Xc e
 |.ellipsis::r,e=>by unfold du at e;cases Xc e
structure bc(K:Frag)(C:O):Prop where
 cd:∃cd,clsIn K C=U cd/\du cd.mro=θ/\cd.hasDict=θ
 ga:findIn K (.ref C) "__getattribute__" = U (U (.builtin "BaseException.__getattribute__"))
 gh:findIn K (.ref C) "__getattr__" = U Z
 sa:findIn K (.ref C) "__setattr__" = U (U (.builtin "object.__setattr__"))
 cl:findIn K (.ref C) "__class__" = U (U (.builtin "object.__class__"))
 hn:specialIn K (.builtin "object.__class__") "__get__" = U (U (.builtin "getset_descriptor.__get__"))
 tk:takesIn K (.builtin "object.__class__")=U θ
theorem bc.base{C:O}(c:bc K C):mroIn K C (.type "BaseException")=U θ:=by
 let⟨cd,h1,h2,_⟩:=c.cd;unfold mroIn;rw[h1,Zp,VR (by rw[(tO h2).2.2];decide),(tO h2).2.1]
theorem bc.obj{C:O}(c:bc K C):mroIn K C (.type "object")=U θ:=by
 let⟨cd,h1,h2,_⟩:=c.cd;unfold mroIn;rw[h1,Zp,VR (by rw[(tO h2).2.2];decide),(tO h2).1]
theorem M6{C:O}{v:J}{vs:Array J}{Q:Unit->L->Prop}(X:K.In s.heap)(hx:s.heap.get? x=U ⟨.ref C,Z,.fields vs,#[]⟩)(c:bc K C)(M7:findIn K (.ref C) name=U Z)
  (h:∀h' qN,h'.get? x=U ⟨.ref C,U ⇑s,.fields vs,#[]⟩->h'.Ns1 ⇑s (λy=>if y=name then U v else Z)->(∀b o,b≠x->s.heap.get? b=U o->h'.get? b=U o)->Q () {s with heap:=h',toks:=qN}) :
  G (M prog w) A (setAttr (.ref x) name v) Q E s:=by
 let I:InstAt s.heap x ⟨.ref C,Z,.fields vs,#[]⟩ C Z:=⟨hx,Y,Y,trivial⟩;let⟨cd,fE,hm,dW⟩:=c.cd;calc set_plain X I c.sa ?_;let SF:=PySem.F.store_object;let sub:Looks (M prog w) s.heap (isInstance (.ref x) (.type "object")) θ:=I.type.andThen (looks_mroIn X c.obj);calc q0G SF.slot.plain SF.entry (@check_slot (M prog w) _ _ {s with toks:=s.toks+1} "object.__setattr__" "object" "__setattr__" (.ref x) [.str name s.toks,v] [] _ SF.kind SF.split sub (SF.args (.ref x) (.str name s.toks) v) ?_);let tP:Looks (M prog w) s.heap (mroOf (.ref C)) cd.mro:=(looks_clsIn X fE).andThen .now
 rw[osa_eq,refuse_eq];calc lK (lK (Looks.here (s:={s with toks:=s.toks+1}) I.type (lK (Looks.here (s:={s with toks:=s.toks+1}) tP ?_))));rw[EW _ hm];calc zi (lK (Looks.here (s:={s with toks:=s.toks+1}) I.type (lK (Looks.here (s:={s with toks:=s.toks+1}) (looks_findIn X M7) (lK (zi ?_))))));show G _ _ (storeInOwnDict (.ref x) (.ref C) (.str name s.toks) name v ι) _ _ _;unfold storeInOwnDict;calc lK (zi (lK ?_));show G _ _ (instanceDict x θ) _ _ _;unfold instanceDict;calc lK (q4c (s:={s with toks:=s.toks+1}) hx ?_);refine lK (Looks.here (s:={s with toks:=s.toks+1}) (looks_clsIn X fE) ?_)
 rw[dW];show G _ _ (alloc {cls:=.type "dict",data:=.dict #[]} >>= λd=>update x (λo=>{o with dict:=U d}) >>= λ_=>dictMade (.ref C) x d) _ _ _;let EX:(s.heap.push {cls:=.type "dict",data:=.dict #[]}).get? x=U ⟨.ref C,Z,.fields vs,#[]⟩:=pf _ hx;let vT:x≠⇑s:=Xg (EC hx);calc lK (wpAny_alloc' ?_);calc lK (wpAny_update' EX ?_);refine zi ?_
 let M8:((s.heap.push {cls:=.type "dict",data:=.dict #[]}).update x λo=>{cls:=o.cls,dict:=U ⇑s,data:=o.data,slots:=o.slots}).get? ⇑s
   = U {cls:=.type "dict",data:=.dict #[]}:=(q2n _ _ _ _ vT.symm).trans (q3c Y Y)
 let M9:((s.heap.push {cls:=.type "dict",data:=.dict #[]}).update x λo=>{cls:=o.cls,dict:=U ⇑s,data:=o.data,slots:=o.slots}).Ns ⇑s (λ_=>Z) :=
  ⟨_,#[],_,M8,Y,λe he=>absurd he (by simp),λ_=>Y⟩
 show G _ _ (storeInDict ⇑s (.str name s.toks) name v) _ _ _;unfold storeInDict newKeyGuard;calc lK (zi (lK (wpAny_nsSet1 (Heap.Ns1.of_empty M9) λh' gQ hs=>?_)));let⟨oD,VW,VX,M_,Na,jQ⟩:=gQ.count (Within.cons name v Within.nil);calc lK (wpAny_lookBehind M_ (by rw[Na];calc pastItsLine_dict (XH jQ (by rw[EA,Ye,q1d];symm))) ?_);let fS:h'.get? x=U ⟨.ref C,U ⇑s,.fields vs,#[]⟩:=(hs.2 x vT).trans (Yg _ EX Y);calc zi (h h' _ fS gQ λb ob Nc hb=>(hs.2 b (Xg (EC hb))).trans ((q2n _ _ _ _ Nc).trans (pf _ hb)))
theorem Nd{C:O}{cd:ClassData}{od:Option f}{nm:R}{g a:J}(hc:clsIn K C=U cd)(ha:findIn K (.ref C) nm=U (U a))(hn:specialIn K a "__get__" = U (U g))(vK:takesIn K a=U θ):
  findObj K C od nm=U (.bind g a):=by
 unfold findObj;rw[hc,Zp,ha,Zp];dsimp only;rw[hn,Zp];dsimp only;rw[vK,Zp]
theorem Nf{C:O}(c:bc K C):KitX K (.ref x) (.ref C) (λh=>∃ox od,InstAt h x ox C od) where
 ty:=λ_ _ _ I=>by let⟨_,_,I⟩:=I;exact I.type
 it:=λ_ _ X _=>by
  let⟨EY,jQ,_⟩:=c.cd;unfold clsIn at jQ;split at jQ
  .rename_i c' d' Ng lA ho
   ext A' Q' E' s' k q;unfold isType loadHead;exact lK (q4c (k _ _ (X _ _ ho)) (zi q))
  .cases jQ
 ne:=λh tp dd ah n sl X Nh=>by
  let⟨EY,jQ,_⟩:=c.cd;calc Bool.eq_false_iff.mpr λq=>?_;let e:C=tp:=Value.ref.inj (beq_iff_eq.mp q);subst e;unfold clsIn at jQ;split at jQ
  .rename_i c' d' Ng lA ho
   let z:=(X _ _ ho).symm.trans Nh;cases z
  .cases jQ
 ca:=λX I k=>by
  let⟨ox,od,I⟩:=I;let⟨EY,jQ,_⟩:=c.cd;calc M5 X I c.ga c.gh c.base c.obj (Nd jQ c.cl c.hn c.tk) k
variable{h:I}{g:Array GenState}{d:Drawn}{t:Nat}{os:OsState}{nm q:R}{C N:O}{bs bm vU:-J}{dW:Bool}{sn:-R}{sub:-J}{ab:Bool}{col:Option Bool}{dd:Option O}{k0 k1 k2 k3 k5:Option J}{B newId jR:String}
theorem Ni(F:ExcBaseFacts B newId jR vU)(T:OwnTail h vU bm){mN:R->Option J}{rest:-J}{fI:O}{oI:f}{Q:Fin->L->Prop}
  (hC:h.get? C=U (excClassObj nm q C N bs bm dW sn sub ab col dd k0 k1 k2 k3 k5 newId)) (hn:h.Ns N mN) (hi:mN "__init__" = U (.ref fI))
  (zA:h.get? fI=U oI) (zB:oI.cls=.type "function")
  (hq:∀h' e,q18 h h' e (.ref C) rest →
   G (M prog w) A (call (.ref fI) (.ref e::rest)) (λr s'=>r=.none/\Q (.done (.ret (.ref e))) s') E ⟨h',g,d,t,os⟩) (hrest:↑rest<=sizeLine:=by size_fits) :
  G (M prog w) A (Builtin.«type.__call__» ⟨.ref C::rest,[]⟩) Q E ⟨h,g,d,t,os⟩:=by
 repeat(first|with_reducible refine ZL hC ?_|with_reducible refine wpAny_madeBy_exc hC ?_|wp_step)
 calc codeAny_call_builtin_code (q04 _ F.quiet) (wpAny_check_new_subT F T hC ?_);calc codeAny_exc_new_subT F T hC ?_ hrest;show G _ _ _ _ _ _
 let EZ:=pf {cls:=.ref C,data:=.fields #[.ref h.objs.size,.none,.none,.none,.bool ι,.none]}
  (pf {cls:=.type "tuple",data:=.seq rest.toArray} hC)
 let zC:=pf {cls:=.ref C,data:=.fields #[.ref h.objs.size,.none,.none,.none,.bool ι,.none]}
  (pf {cls:=.type "tuple",data:=.seq rest.toArray} zA)
 let Nj:((h.push {cls:=.type "tuple",data:=.seq rest.toArray}).push {cls:=.ref C,data:=.fields #[.ref h.objs.size,.none,.none,.none,.bool ι,.none]}).Ns N mN :=
  let⟨o,es,ep,e,r⟩:=hn;⟨o,es,ep,pf _ (pf _ e),r⟩
 let tQ:((h.push {cls:=.type "tuple",data:=.seq rest.toArray}).push
   {cls:=.ref C,data:=.fields #[.ref h.objs.size,.none,.none,.none,.bool ι,.none]}).get? (h.objs.size+1)=U
   {cls:=.ref C,data:=.fields #[.ref h.objs.size,.none,.none,.none,.bool ι,.none]}:=by heap_get
 let Nk:(Xj C::bm).contains (.ref C)=θ:=by simp
 let T₁:=T.keeps (h':=(h.push {cls:=.type "tuple",data:=.seq rest.toArray}).push {cls:=.ref C,data:=.fields #[.ref h.objs.size,.none,.none,.none,.bool ι,.none]})
  λb o e=>pf _ (pf _ e)
 unfold isInstance
 repeat(first|with_reducible refine ZL tQ ?_|(with_reducible calc q2o EZ ?_;rw[Nk])|wp_step)
 show G _ _ (typeLookup (.ref C) _) _ _ _;calc wpAny_typeLookup_tail EZ Nj T₁ F.mroIs F.init.lookup ?_;rw[hi];calc XI (lK ?_);unfold bindSpecial;calc lK (q0p (T:="function") ⟨_,zC,zB⟩ ?_);rw[Xa (by decide)];refine zi (lK (YD (hq _ (h.objs.size+1) ⟨λb o hb=>pf _ (pf _ hb),ZR (q16 _),h.objs.size,tQ,ZR (vQ _),?_⟩) (λr s' hr=>?_) λ_ _ x=>x))
 .exact pf _ (q3c Y Y)
 .let⟨rfl,hQ⟩:=hr
  wp_walk
  calc hQ
theorem Nl(F:ExcBaseFacts B newId jR vU)(T:OwnTail h vU bm){mN:R->Option J}{rest:-J}{fI:O}{oI:f}{Q:aM}
  (hC:h.get? C=U (excClassObj nm q C N bs bm dW sn sub ab col dd k0 k1 k2 k3 k5 newId)) (hn:h.Ns N mN) (hi:mN "__init__" = U (.ref fI))
  (zA:h.get? fI=U oI) (zB:oI.cls=.type "function")
  (hq:∀h' e,q18 h h' e (.ref C) rest →
   G (M prog w) (A.under (.builtin "type.__call__" ⟨.ref C::rest,[]⟩)) (call (.ref fI) (.ref e::rest)) (λr s'=>r=.none/\Q (.ref e) s') E ⟨h',g,d,t,os⟩) (hrest:↑rest<=sizeLine:=by size_fits) :
  G (M prog w) A (call (.ref C) rest) Q E ⟨h,g,d,t,os⟩:=by
 let f1:=tc_lookup;let f2:=tc_bind (.ref C);let hT:(⟨h,g,d,t,os⟩:L).TypeIs (.ref C) "type" := ⟨_,hC,Y⟩;calc q0Z (q3T ?_);show G _ _ (callAny (.ref C) _) _ _ _
 repeat(any_goals (first|assumption|with_reducible refine ZL hC ?_|wp_step))
 calc⟨Y,?_⟩;calc codeAny_call_builtin_at (q04 _ (by decide +kernel)) entry_typeCall (wpAny_check_type_call_sub hC (Ni (hrest:=hrest) F T hC hn hi zA zB λh' e hm=>?_));calc hq h' e hm
end
end L2
namespace L2
open PySem PySem.Spec PyProof.Rows
noncomputable def bE(a C:O)(dx:Option O):HO:=.ext λh=>∃t,h.get? a=U ⟨.ref C,dx,.fields #[.ref t,.none,.none,.none,.bool ι,.none],#[]⟩
theorem E5{P:n}{w:g}{H:Hp}{h:I}{a C t:O}{dx:Option O}(e:h.get? a=U ⟨.ref C,dx,.fields #[.ref t,.none,.none,.none,.bool ι,.none],#[]⟩):aD P w H h a (bE a C dx) :=
 ⟨⟨t,e⟩,⟨_,e⟩,λh1 h2 ⟨t',e1⟩ k↦⟨t',k _ e1⟩⟩
theorem E7{P:n}{w:g}{H:Hp}{h:I}{a C:O}{dx:Option O}(x:aD P w H h a (bE a C dx)):∃t,h.get? a=U ⟨.ref C,dx,.fields #[.ref t,.none,.none,.none,.bool ι,.none],#[]⟩:=x.1
def tR(K:tu)(N:O)(name:R)(r:Option J):Prop:=∃oc od es ep sl,K.lookup N=U ⟨oc,od,.dict es ep,sl⟩/\(es.all λe=>match e.key with|.str _ _=>θ|_=>ι)=θ/\nsFind es name=r
theorem tR.ns{K:tu}{N:O}{name:R}{r:Option J}(x:tR K N name r){h:I}(k:K.In h):∃m,h.Ns N m/\m name=r:=by
 let⟨oc,od,es,ep,sl,l,hk,e⟩:=x;calc⟨λn=>nsFind es n,⟨_,es,ep,k _ _ l,Y,λen vV=>?_,λ_=>Y⟩,e⟩;let:=(Array.all_eq_true'.mp hk) en vV;split at this
 .rename_i s t q;exact⟨s,t,q⟩
 .cases this
noncomputable abbrev nO:-J:=[.type "ValueError",.type "Exception",.type "BaseException",.type "object"]
inductive bO (K:tu):-J->Prop
 |base:bO K nO
 |own {A:O} {c0:J} {dd:Option O} {cd:ClassData} {sl:Array (Option J)} {tl:-J}:K.lookup A=U ⟨c0,dd,.cls cd,sl⟩->tR K cd.ns "__init__" Z->bO K tl->bO K (.ref A::tl)
theorem bO.tail{K:tu}{l:-J}(x:bO K l){h:I}(k:K.In h):OwnTail h nO l:=by
 induction x with
 |base=>exact .base
 |own l n _ ih =>
  let⟨m,hn,e⟩:=n.ns k;calc .own (k _ _ l) hn e ih
structure nP(K:tu)(C:O)(jS:Option J):Prop where
 zD:∃(nm q:R)(N:O)(bs bm:-J)(dW:Bool)(sn:-R)(sub:-J)(ab:Bool)(col:Option Bool)(dd:Option O)(k0 k1 k2 k3 k5:Option J),
  K.lookup C=U (excClassObj nm q C N bs bm dW sn sub ab col dd k0 k1 k2 k3 k5 "ValueError.__new__")/\bO K bm/\tR K N "__init__" jS
 kp:XZ K (.ref C)=θ
section
variable{X:Cx}{pins:aq}{σ:St}{H:Hp}{s:L}{C f:O}{CX:ik}{k:Nat}{fd:FuncData}{ps:-R}{sp:Sp}{E:XK}{x:R}{p pos pos':y}{e o value:B}{es:-B}{ta tv:TE}{t:TA}
theorem E8{P:ψ}{w:g}{H:Hp}{h:I}{a:O}{o:HO}(x:aD P w H h a o):∃ob,h.get? a=U ob:=by
 cases o with
 |lst xs=>let⟨_,_,_,_,e⟩:=x;exact⟨_,e⟩
 |tup xs=>let⟨_,_,_,p⟩:=x;let⟨o,e,_⟩:=p;exact⟨_,e⟩
 |dK kvs=>let⟨_,_,_,_,o,_,_,e,_⟩:=x;exact⟨_,e⟩
 |dT kvs=>let⟨_,_,_,_,o,_,_,e,_⟩:=x;exact⟨_,e⟩
 |set S n=>let⟨o,_,_,_,e,_⟩:=x;exact⟨_,e⟩
 |ins C dx fs=>let⟨_,_,_,e,_⟩:=x;exact⟨_,e⟩
 |own y=>exact x
 |xd fs=>let⟨_,⟨_,_,_,e,_⟩,_⟩:=x;exact⟨_,e⟩
 |rng lo hi=>let⟨_,_,_,e⟩:=x;exact⟨_,e⟩
 |frz ob u=>let⟨e,_⟩:=x;exact⟨_,e⟩
 |tbl ps=>exact⟨_,(show h.get? a=U _ from x)⟩
 |met f y=>exact⟨_,(show h.get? a=U _ from x)⟩
 |ext φ=>let⟨_,e,_⟩:=x;calc e
theorem Inv.nQ{a:O}(I:Inv X pins σ H s)(hn:s.heap.get? a=Z):H a=Z:=by
 cases q:H a with
 |none=>rfl
 |some u =>
  let⟨o,ho⟩:=E8 (I.aH a u q);rw[hn] at ho;cases ho
theorem Inv.tT{h':Α}{a:O}{u:HO}{t':Nat}(I:Inv X pins σ H s)(k:∀b u,s.heap.get? b=U u->h'.get? b=U u)(hn:s.heap.get? a=Z)(new:aD X.prog X.w (upd H a u) h' a u):
  Inv X pins σ (upd H a u) {s with heap:=h',toks:=t'}:=by
 let hf:=I.nQ hn;let ne:∀b ob,s.heap.get? b=U ob->b≠a:=λb ob e z=>by rw[z,hn] at e;cases e
 refine I.un ⟨λb o q _ _ _=>k b o q,λb o q _ _ _=>⟨o.slots,k b o q⟩,λb o q n _=>by rw[aC (ne b o q)];calc n,λb o q _=>⟨o,k b o q⟩,λb xs q=>by rw[aC (bD q hf)];calc q,λb o xs q=>by rw[aC (bD q hf)];calc q,λb ps q=>⟨#[],by rw[aC (bD q hf),q];simp⟩⟩ λb o q=>?_
 by_cases hb:b=a
 .subst hb;rw[aY] at q;cases q;exact new
 .rw[aC hb] at q
  calc(I.aH b o q).dQ (λc v _ z=>k c v z) (λc z=>by rw[aC (bD z hf)];calc z) λc xs z=>by rw[aC (bD z hf)];calc z
theorem Inv.iq{h':Α}{a:O}{us:-J}(I:Inv X pins σ H s)(m:q18 s.heap h' a (.ref C) us):H a=Z/\Inv X pins σ (upd H a (bE a C Z)) {s with heap:=h'}:=by
 let⟨t,ht,_,_⟩:=m.there;calc⟨I.nQ m.new,I.tT (t':=s.toks) m.keeps m.new (E5 ht)⟩
def zE(C:O)(t:TA):TE:=fun σ H Q=>t σ H λvs H1=>↑vs<=sizeLine/\∀a,H1 a=Z->Q (.ref a) (upd H1 a (bE a C Z))
theorem Nm(M:nP X.K C Z)(hg:Gl X x)(hm:X.mg x=U (.ref C))(ha:JA X (e::es) t)(cn:bf x:=by decide)
  (he:cj X e es:=by rfl) (bV:cR X pos es:=by rfl) :
  JE X (.Call (.Name x p) (e::es) [] pos) (zE C t):=by
 calc⟨?_⟩;ext pins s σ H Q I h;calc Zx (sj I hg hm ?_ cn);calc q0b (h₀:=X.base) I.ok.mod.jC M.kp (aS (ha pos pins s σ H _ I h) λus s1 ⟨vs,H1,I1,r,hz,q⟩=>⟨I1.cB,?_⟩) he bV;let⟨nm,q',N,bs,bm,dW,sn,sub,ab,col,dd,k0,k1,k2,k3,k5,l,T,n⟩:=M.zD;let⟨mN,hN,hi⟩:=n.ns I1.cB;let⟨hp,g,d,tk,os⟩:=s1;calc wpAny_call_exc_subT q05 (T.tail I1.cB) (I1.cB _ _ l) hN hi (λh' a hm=>?_) (by rw[q0L,<-↑r];calc hz);let⟨hf,I2⟩:=I1.iq hm;calc⟨.ref a,_,I2,Y,q a hf⟩
def Nn(C:O)(sp:Sp)(E:XK)(t:TA):TE:=fun σ H Q=>t σ H λvs H1=>↑vs<=sizeLine/\∀a,H1 a=Z->sp (.ref a::vs) (upd H1 a (bE a C Z)) (λv H2=>v=.non/\Q (.ref a) H2) E
theorem Np(M:nP X.K C (U (.ref f)))(iG:q3d X.K (.ref f)=θ)(F:bt X.prog X.w X.K X.mg X.base CX k f fd ps sp)(hr:aZ (k+1) X.A)(hb:Binds X.K fd ps [])(hx:jL CX X E)(hg:Gl X x)(hm:X.mg x=U (.ref C))(ha:JA X (e::es) t)(cn:bf x:=by decide)
  (he:cj X e es:=by rfl) (bV:cR X pos es:=by rfl) :
  JE X (.Call (.Name x p) (e::es) [] pos) (Nn C sp E t):=by
 calc⟨?_⟩;ext pins s σ H Q I h;calc Zx (sj I hg hm ?_ cn);calc q0b (h₀:=X.base) I.ok.mod.jC M.kp (aS (ha pos pins s σ H _ I h) λus s1 ⟨vs,H1,I1,r,hz,q⟩=>⟨I1.cB,?_⟩) he bV;let⟨nm,q',N,bs,bm,dW,sn,sub,ab,col,dd,k0,k1,k2,k3,k5,l,T,n⟩:=M.zD;let⟨mN,hN,hi⟩:=n.ns I1.cB;let⟨oI,lI,hc⟩:=Xf.mp (beq_iff_eq.mp iG);let⟨hp,g,d,tk,os⟩:=s1;calc Nl q05 (T.tail I1.cB) (I1.cB _ _ l) hN hi (I1.cB _ _ lI) hc (λh' a hm=>?_) (by rw[q0L,<-↑r];calc hz);let⟨hf,I2⟩:=I1.iq hm;let hq:=q a hf;let r2:Vals (V.ref a::vs) (Xj a::us):=.cons Y r
 let hl:↑(Xj a::us++[])=↑ps:=by
  rw[Ze];let e:=↑r2;rw[F.len _ _ _ _ hq] at e;exact e.symm
 let bd:=hb _ (Xj a::us) I2.cB hl;rw[Ze] at bd;refine q0Z (q0l (F.run _ X.stack _ _ ⟨Xj a::us,[]⟩ (Xj a::us) _ _ E (hr.make C us []) (I2.sM.make C us []) bd r2 hq) λr s' nR=>?_)
 cases r with
 |error e=>exact hx pins σ _ _ e s' I2 nR
 |ok fl =>
  cases fl with
  |ret u =>
   let⟨v,H',I3,rv,ev,q3⟩:=I2.after nR;subst ev;exact⟨rv,⟨V.ref a,H',I3,Y,q3⟩⟩
  |next=>exact X1 nR
  |brk=>exact X1 nR
  |cont=>calc X1 nR
def Nq(K:tu)(ta tv:TE)(f:R):TS:=λD σ H=>tv σ H λy H1=>ta σ H1 λx H2=>∃a C,x=.ref a/\H2 a=U (bE a C Z)/\bc K C/\sL K C f ∧
 ∀d,H2 d=Z->D.nx σ (upd (upd H2 d (.xd [(f,y)])) a (bE a C (U d)))
theorem Nr{fn:R}(ha:JE X o ta)(hv:JE X value tv)(hs:swapsWith value (U (.Attribute o fn pos')) pos.line X.env=pure ι):JS X (.Assign [.Attribute o fn pos'] value pos) (Nq X.K ta tv fn):=by
 calc⟨?_⟩;ext pins s σ H D I h;calc plainObj_wpAny_Assign_Attribute (aS (hv pins s σ H _ I h) λu s1 h0_=>el5 h0_ λy H1 I1 ry q =>aS (ha pins s1 σ H1 _ I1 q) λov s2 ⟨x,H2,I2,rx,a,C,ex,ea,c,n,q2⟩=>?_) hs;subst ex;obtain rfl:ov=Xj a:=rx;let⟨t,ht⟩:=E7 (I2.aH a _ ea);let lN:H2 ⇑s2=Z:=I2.fresh;let VY:a≠⇑s2:=bD ea lN;refine M6 I2.cB ht c n λh' qN fS gQ hk=>?_
 let new:∀H':Hp,aD X.prog X.w H' h' ⇑s2 (.xd [(fn,y)]):=λH'=>⟨_,gQ,λg=>by
  by_cases e:g=fn
  .subst e
   rw[Xa Y];erw[Xn,q1t];exact ry
  .rw[VR e]
   let:(g==fn)=ι:=by simpa using e
   erw[Xn,this,List.lookup_nil]
   trivial⟩
 let nm:¬ oH (U (HO.tup [])):=λz=>z;let zF:oH (H2 a):=by rw[ea];exact trivial
 let k2:∀b ob,b≠a->s2.heap.get? b=U ob->h'.get? b=U ob:=hk;refine⟨σ,_,I2.un (h':=h') (t':=qN) ⟨λb ob q n' _ _=>k2 b ob (λz=>by rw[z,ea] at n';cases n') q,λb ob q n' _ _=>⟨ob.slots,k2 b ob (λz=>by rw[z,ea] at n';cases n') q⟩,λb ob q n' _=>?_,λb ob q _=>?_,λb xs q=>?_,λb ob xs q=>?_,λb VZ q=>⟨#[],?_⟩⟩ λb ob q=>?_,q2 _ lN⟩
 .let h1:b≠a:=λz=>by rw[z,ea] at n';cases n'
  let h2:b≠⇑s2:=Xg (EC q);rw[aC h1,aC h2];exact n'
 .by_cases z:b=a
  .subst z;exact⟨_,fS⟩
  .exact⟨ob,k2 b ob z q⟩
 .rw[aC (m9 q ea (by unfold bE;ext z;cases z)),aC (bD q lN)];exact q
 .rw[aC (m9 q ea (by unfold bE;ext z;cases z)),aC (bD q lN)];exact q
 .rw[aC (m9 q ea (by unfold bE;ext z;cases z)),aC (bD q lN),q];simp
 .by_cases hb:b=a
  .subst hb;rw[aY] at q;cases q;exact E5 fS
  .rw[aC hb] at q
   by_cases E9:b=⇑s2
   .subst E9;rw[aY] at q;cases q;exact new _
   .rw[aC E9] at q
    let own:∀c,H2 c=U (.own b)->c≠a:=λc z e=>by rw[e,ea] at z;unfold bE at z;cases z
    refine(I2.aH b ob q).dQ (λc v hc z=>k2 c v ?_ z) (λc z=>by rw[aC (own c z),aC (bD z lN)];calc z) λc xs z=>by rw[aC (m9 z ea (by unfold bE;ext y;cases y)),aC (bD z lN)];exact z
    rcases hc with e|e
    .rw[e];exact hb
    .calc own c e
end
section
variable{X:Cx}
noncomputable def lO:V->Option J
 |.ty n=>U (.type n)
 |.ref a=>U (.ref a)
 |_=>Z
theorem E_{y:V}{u c:J}(r:RelV y u)(e:lO y=U c):u=c:=by
 cases y with
 |ty n=>cases e;exact r
 |ref a=>cases e;exact r
 |_=>cases e
theorem Nt:f_ X (.builtin "isinstance") (λxs H Q=>∃x y c t b,xs=[x,y]/\lO y=U c/\dq X.K H x t/\Xe X.K t c=U b/\Q (.bl b) H):=by
 ext pins s σ H xs us Q I rv h;let⟨x,y,c,t,b,rfl,hc,ty,e,q⟩:=h;let⟨u,w',rfl,rx,ry⟩:=rv.two;rw[E_ ry hc];calc Lz I rx ty e λtk=>⟨.bl b,H,I.tok tk,Y,q⟩
theorem Fb{x:V}:∀{xs:-V}{us:-J},Vals xs us->xs.all ji=θ->us.countP (nM x)=xs.countP λy=>fF y x
 |_,_,.nil,_=>Y
 |y::xs,u::us,.cons r t,f=>by
  rw[q1j,W9] at f;rw[Zn,Zn,Fb t f.2,yX r f.1]
theorem IsList.parts{h:I}{l:O}{items:Array J}(x:h.IsList l items):∃dd n sl,h.get? l=U {cls:=.type "list",dict:=dd,data:=.seq items n,slots:=sl}:=by
 let⟨⟨cls,dd,data,sl⟩,ho,hc,n,hd⟩:=x;simp only at hc hd;subst hc hd;calc⟨dd,n,sl,ho⟩
def Nu(K:tu):V->-V->Hp->VK->Prop:=λx vs H Q=>∃l xs y,x=.ref l/\vs=[y]/\aX K H l xs/\ji y=θ/\xs.all ji=θ/\Q (.int (xs.countP λz=>fF z y:Nat)) H
theorem Nv:o8 X "list.count" (Nu X.K):=by
 ext pins s σ H x vs v us Q I rx rv h;let⟨l,xs,y,rfl,rfl,hq,fy,fs,q⟩:=h;cases rx
 let⟨u,rfl,ru⟩:=rv.one;let⟨ah,r,pl,hz⟩:=I.list hq;let⟨dd,n,sl,e⟩:=IsList.parts pl.isList;calc q0D F.slot_list_count ⟨_,e,Y⟩ F.entry_list_count (F.args_list_count_2 _ _) (SeqAt.list_countAt l ah.toArray n dd sl u (nM y)) ⟨e,λw hw=>yY ru fy r fs w hw⁻¹,?_⟩;calc⟨.int _,H,I.tok _,⟨_,Y⟩,?_⟩;let e2:ah.toArray.toList.countP (nM y)=xs.countP λz=>fF z y:=by rw[List.toList_toArray];exact Fb r fs
 rw[e2];calc q
def Nx(K:tu):V->-V->Hp->VK->Prop:=λx vs H Q=>∃l xs y j,x=.ref l/\vs=[y]/\aX K H l xs/\ji y=θ/\xs.all ji=θ/\j<↑xs/\(∀z,xs[j]?=U z->fF z y=θ)/\(∀m z,m<j->xs[m]?=U z->fF z y=ι)/\Q (.int (j:Nat)) H
theorem Ny{x:V}{xs:-V}{us:-J}(r:Vals xs us)(f:xs.all ji=θ){j:Nat}{u:J}(hu:us[j]?=U u):∃z,xs[j]?=U z/\nM x u=fF z x:=by
 let hl:=↑r;let hj:j<↑us:=(ph.mp hu).1;let hz:xs[j]?=U (xs[j]'⋯):=pj _;let⟨u',e,ru⟩:=r.get hz;rw[hu] at e;cases e;calc⟨_,hz,yX ru ((XN.mp f) _ (YT _))⟩
theorem Nz:o8 X "list.index" (Nx X.K):=by
 ext pins s σ H x vs v us Q I rx rv h;let⟨l,xs,y,j,rfl,rfl,hq,fy,fs,hj,h1,h2,q⟩:=h;cases rx
 let⟨u,rfl,ru⟩:=rv.one;let⟨ah,r,pl,hz⟩:=I.list hq;let⟨dd,n,sl,e⟩:=IsList.parts pl.isList;let hl:=↑r;let line:=oS;let at_:∀(m:Nat)(hm:m<ah.toArray.size),∃z,xs[m]?=U z/\nM y ah.toArray[m]=fF z y:=λm hm=>Ny r fs (by simp[pj (show m<↑ah by simpa using hm)]);refine q0D F.slot_list_index ⟨_,e,Y⟩ F.entry_list_index (F.args_list_index_2 _ _) (SeqAt.list_indexAt l ah.toArray n dd sl u (nM y) j (by simp;symm) ⋯ ?_ ?_) ⟨e,λw hw=>yY ru fy r fs w hw⁻¹,?_⟩
 .let⟨z,e1,e2⟩:=at_ j (by simp;symm)
  rw[e2];exact h1 z e1
 .ext m hm NA
  let⟨z,e1,e2⟩:=at_ m hm;rw[e2];exact h2 m z NA e1
 .calc⟨.int _,H,I.tok _,⟨_,Y⟩,q⟩
end
theorem Fc{K:tu}{a:O}{xs:-V}{g:TG}{tb:TS}{D:Ends}{σ:St}{H:Hp}(Pv:Nat->St->Hp->Prop)(h0:Pv 0 σ H)(hl:∀i σ H,i<=↑xs->Pv i σ H->aX K H a xs)
  (hs:∀i x T σ H,xs[i]?=U x->Pv i σ H->H T=Z->g (.ref T) σ (upd H T (.tup [.int (i:Nat),x])) fun σ2 H2=>tb {D with nx:=Pv (i+1),ct:=Pv (i+1),bk:=D.nx} σ2 H2) (hd:∀σ H,Pv ↑xs σ H->D.nx σ H) :
  ∃W:Nat->Nat->St->Hp->Prop,(∃m,W 0 m σ H)/\∀i m σ H,W i m σ H →
   ((qM K a).stop i H/\D.nx σ H)\/((qM K a).go i H/\∃N:St->Hp->Prop,(∀σ' H',N σ' H'->∃m',m'<m/\W (i+1) m' σ' H')/\∀x H',(qM K a).qC i H x H'->g x σ H' fun σ2 H2=>tb {D with nx:=N,ct:=N,bk:=D.nx} σ2 H2):=by
 calc⟨λi m σ H=>m=↑xs-i/\i<=↑xs/\Pv i σ H,⟨↑xs,by simp,Xq _,h0⟩,?_⟩;ext i m σ H ⟨rfl,hi,p⟩;let q:=hl i σ H hi p
 by_cases dP:i<↑xs
 .refine .inr ⟨⟨xs,xs[i],q,by simp[dP]⟩,Pv (i+1),fun σ' H' p'=>⟨↑xs-(i+1),⋯,Y,dP,p'⟩,λx H' y=>?_⟩
  let⟨T,v,rfl,hT,rfl,y⟩:=y;exact hs i v T σ H (y xs q) p hT
 .let e:i=↑xs:=by symm
  subst e;calc .inl ⟨⟨xs,q,vQ _⟩,hd σ H p⟩
section
variable{g:TG}{tf:TT}{te:TE}{l:O}{τ0:St}{H0:Hp}{Q:VK}
end
section
variable{X:Cx}{es:-B}{te:TE}{t:TA}
theorem gY{c j p}(ha:JE X (.Constant c j p) te)(hr:JA X es t):JA X (.Constant c j p::es) (eB te t):=gn ha hr Y
theorem fg{x p}(ha:JE X (.Name x p) te)(hr:JA X es t):JA X (.Name x p::es) (eB te t):=gn ha hr Y
theorem gZ{f a k p}(ha:JE X (.Call f a k p) te)(hr:JA X es t):JA X (.Call f a k p::es) (eB te t):=gn ha hr Y
theorem tU{a p}(ha:JE X (.List a p) te)(hr:JA X es t):JA X (.List a p::es) (eB te t):=gn ha hr Y
theorem zG{a k p}(ha:JE X (.Tuple a k p) te)(hr:JA X es t):JA X (.Tuple a k p::es) (eB te t):=gn ha hr Y
theorem pA{a k p}(ha:JE X (.Subscript a k p) te)(hr:JA X es t):JA X (.Subscript a k p::es) (eB te t):=gn ha hr Y
theorem zH{a k p}(ha:JE X (.Attribute a k p) te)(hr:JA X es t):JA X (.Attribute a k p::es) (eB te t):=gn ha hr Y
end
inductive D where
 |non|bl (b:Bool)|int (i:Int)|str (x:R)|tup (xs:-D)|lst (xs:-D)
mutual
def Is (H:Hp):D->V->Prop
 |.non,v=>v=.non
 |.bl b,v=>v=.bl b
 |.int i,v=>v=.int i
 |.str x,v=>v=.str x
 |.tup ds,v=>∃a vs,v=.ref a/\H a=U (.tup vs)/\ae H ds vs
 |.lst ds,v=>∃a vs,v=.ref a/\H a=U (.lst vs)/\ae H ds vs
def ae (H:Hp):-D->-V->Prop
 |[],vs=>vs=[]
 |d::ds,vs=>∃v r,vs=v::r/\Is H d v/\ae H ds r
end
mutual
theorem Is.same {H H':Hp} (s:ar H H'):∀{d:D}{v:V},Is H d v->Is H' d v
 |.non,_,h=>h
 |.bl _,_,h=>h
 |.int _,_,h=>h
 |.str _,_,h=>h
 |.tup _,_,h=>by
  erw[Is] at h ⊢;let⟨a,vs,e,h1,h2⟩:=h;exact⟨a,vs,e,s _ _ h1,ae.same s h2⟩
 |.lst _,_,h=>by
  erw[Is] at h ⊢;let⟨a,vs,e,h1,h2⟩:=h;calc⟨a,vs,e,s _ _ h1,ae.same s h2⟩
theorem ae.same {H H':Hp} (s:ar H H'):∀{d:-D}{v:-V},ae H d v->ae H' d v
 |[],_,h=>h
 |_::_,_,h=>by
  erw[ae] at h ⊢;let⟨v,r,e,h1,h2⟩:=h;calc⟨v,r,e,Is.same s h1,ae.same s h2⟩
end
theorem ae.length{H:Hp}:∀{ds:-D}{vs:-V},ae H ds vs->↑vs=↑ds
 |[],_,h=>by erw[ae] at h;rw[h];rfl
 |_::_,_,h=>by
  erw[ae] at h;let⟨v,r,rfl,_,h2⟩:=h;rw[EA,EA,ae.length h2]
theorem ae.get{H:Hp}:∀{ds:-D}{vs:-V}{i:Nat}{v:V},ae H ds vs->vs[i]?=U v->∃d,ds[i]?=U d/\Is H d v
 |[],_,i,v,h,e=>by erw[ae] at h;rw[h] at e;simp at e
 |d::ds,_,i,v,h,e=>by
  erw[ae] at h;let⟨v',r,rfl,h1,h2⟩:=h
  cases i with
  |zero=>simp at e;subst e;exact⟨d,Y,h1⟩
  |succ i=>simp at e;simpa using ae.get h2 e
theorem ae.nil{H:Hp}:ae H [] []:=by erw[ae]
theorem ae.cons{H:Hp}{d:D}{ds:-D}{v:V}{vs:-V}(h:Is H d v)(r:ae H ds vs):ae H (d::ds) (v::vs):=by
 erw[ae];calc⟨v,vs,Y,h,r⟩
theorem ae.snoc{H:Hp}{d:D}{v:V}:∀{ds:-D}{vs:-V},ae H ds vs->Is H d v->ae H (ds++[d]) (vs++[v])
 |[],_,h,q=>by erw[ae] at h;subst h;exact .cons q .nil
 |_::_,_,h,q=>by
  erw[ae] at h;let⟨v',r,rfl,h1,h2⟩:=h;exact .cons h1 (ae.snoc h2 q)
mutual
noncomputable def dep:D->Nat
 |.tup ds=>aV ds+1
 |.lst ds=>aV ds+1
 |_=>0
noncomputable def aV:-D->Nat
 |[]=>0
 |d::ds=>max (dep d) (aV ds)
end
theorem zI:∀{ds:-D}{i:Nat}{d:D},ds[i]?=U d->dep d<=aV ds
 |[],i,d,e=>by simp at e
 |d'::ds,0,d,e=>by simp at e;subst e;erw[aV];exact Nat.le_max_left _ _
 |d'::ds,i+1,d,e=>by simp at e;erw[aV];calc XH (zI e) (Nat.le_max_right _ _)
noncomputable def bh:D->String
 |.non=>"NoneType" | .bl _=>"bool" | .int _=>"int" | .str _=>"str" | .tup _=>"tuple" | .lst _=>"list"
theorem Is.ty{K:tu}{H:Hp}:∀{d:D}{v:V},Is H d v->dq K H v (.type (bh d))
 |.non,_,h=>by cases(show _=_ from h);exact .non
 |.bl b,_,h=>by cases(show _=_ from h);exact .bl b
 |.int i,_,h=>by cases(show _=_ from h);exact .int i
 |.str x,_,h=>by cases(show _=_ from h);exact .str x
 |.tup _,_,h=>by
  erw[Is] at h;let⟨a,vs,rfl,h1,_⟩:=h;exact .tup h1
 |.lst _,_,h=>by
  erw[Is] at h;let⟨a,vs,rfl,h1,_⟩:=h;calc .lst h1
noncomputable def aA(T c:String):Bool:=T==c||(T=="bool" && c=="int")
section
variable{K:tu}
theorem NB:∀T∈["NoneType", "bool", "int", "str", "tuple", "list"],Xe K (.type T) (.type "bool")=U (aA T "bool"):=by
 ext T hT;erw[Mt,Xd,Yp] at hT;rcases hT with rfl|rfl|rfl|rfl|rfl|rfl<;>kernel_rfl
theorem NC:∀T∈["NoneType", "bool", "int", "str", "tuple", "list"],Xe K (.type T) (.type "int")=U (aA T "int"):=by
 ext T hT;erw[Mt,Xd,Yp] at hT;rcases hT with rfl|rfl|rfl|rfl|rfl|rfl<;>kernel_rfl
theorem ND:∀T∈["NoneType", "bool", "int", "str", "tuple", "list"],Xe K (.type T) (.type "str")=U (aA T "str"):=by
 ext T hT;erw[Mt,Xd,Yp] at hT;rcases hT with rfl|rfl|rfl|rfl|rfl|rfl<;>kernel_rfl
theorem kit_tuple:∀T∈["NoneType", "bool", "int", "str", "tuple", "list"],Xe K (.type T) (.type "tuple")=U (aA T "tuple"):=by
 ext T hT;erw[Mt,Xd,Yp] at hT;rcases hT with rfl|rfl|rfl|rfl|rfl|rfl<;>kernel_rfl
theorem NF:∀T∈["NoneType", "bool", "int", "str", "tuple", "list"],Xe K (.type T) (.type "list")=U (aA T "list"):=by
 ext T hT;erw[Mt,Xd,Yp] at hT;rcases hT with rfl|rfl|rfl|rfl|rfl|rfl<;>kernel_rfl
theorem tV(d:D):bh d∈["NoneType", "bool", "int", "str", "tuple", "list"]:=by cases d<;>simp[bh]
end
section
variable{X:Cx}
noncomputable def tW:B->Option R
 |.Constant (.str x) _ _=>U x
 |_=>Z
noncomputable def strsOf:-B->Option (-R)
 |[]=>U []
 |e::r=>(tW e).bind λx=>(strsOf r).map (x :: ·)
theorem Fd:∀{es:-B}{ss:-R},strsOf es=U ss->JA X es (λ_ H Q=>Q (ss.map V.str) H)
 |[],ss,h=>by
  cases h
  exact⟨λpos pins s σ H Q I h=>aE pos pins s σ H Q I h⟩
 |e::r,ss,h=>by
  let h:(tW e).bind (λx=>(strsOf r).map (x :: ·))=U ss:=h
  cases e with
  |Constant c j p =>
   cases c with
   |str x =>
    let⟨s2,h2,rfl⟩:=Xf.mp (show(strsOf r).map (x :: ·)=U ss from h);let ih:=Fd h2;exact⟨λpos pins s σ H Q I h=>gY (si (j:=j) (pos:=p)) ih pos pins s σ H Q I h⟩
   |_=>cases h
  |_=>cases h
theorem NG{es:-B}{ss:-R}{pos:y}(h:strsOf es=U ss)(hz:↑ss<=sizeLine):JE X (.List es pos) (λ_ H Q=>∀p,H p=Z->Q (.ref p) (upd H p (.lst (ss.map V.str)))):=by
 calc⟨?_⟩;ext pins s σ H Q I hq;calc jK (Fd h) pins s σ H Q I ⟨by rw[qJ];calc hz,hq⟩
theorem JE.weak{e:B}{t t':TE}(h:JE X e t)(k:∀σ H Q,t' σ H Q->t σ H Q):JE X e t':=⟨λpins s σ H Q I q=>h pins s σ H Q I (k σ H Q q)⟩
theorem JT.weak{e:B}{t t':TT}(h:JT X e t)(k:∀σ H Q,t' σ H Q->t σ H Q):JT X e t':=⟨λpins s σ H Q I q=>h pins s σ H Q I (k σ H Q q)⟩
theorem JA.weak{es:-B}{t t':TA}(h:JA X es t)(k:∀σ H Q,t' σ H Q->t σ H Q):JA X es t':=⟨λpos pins s σ H Q I q=>h pos pins s σ H Q I (k σ H Q q)⟩
theorem JS.weak{st:o}{t t':TS}(h:JS X st t)(k:∀D σ H,t' D σ H->t D σ H):JS X st t':=⟨λpins s σ H D I q=>h pins s σ H D I (k D σ H q)⟩
theorem bR.weak{st:-o}{t t':TS}(h:bR X st t)(k:∀D σ H,t' D σ H->t D σ H):bR X st t':=⟨λpins s σ H D I q=>h pins s σ H D I (k D σ H q)⟩
theorem Fe{i:Nat}{x:R}{es:-B}{te:TE}{pos' p pos:y}(hN:X.N.Nodup)(hi:X.N[i]?=U x)(hx:Loc X.env.scope x)(he:JE X (.List es p) te)(hf:d5 X x):JS X (.Assign [.Name x pos'] (.List es p) pos) (cC te (gm i)):=ny hN hi hx he Y hf
theorem vW{i:Nat}{x:R}{a b:B}{op:Operator}{te:TE}{pos' p pos:y}(hN:X.N.Nodup)(hi:X.N[i]?=U x)(hx:Loc X.env.scope x)(he:JE X (.BinOp a op b p) te)(hf:d5 X x):JS X (.Assign [.Name x pos'] (.BinOp a op b p) pos) (cC te (gm i)):=ny hN hi hx he Y hf
theorem NH{i:Nat}{x:R}{f:B}{as:-B}{ks:-Keyword}{te:TE}{pos' p pos:y}(hN:X.N.Nodup)(hi:X.N[i]?=U x)(hx:Loc X.env.scope x)(he:JE X (.Call f as ks p) te)(hf:d5 X x):JS X (.Assign [.Name x pos'] (.Call f as ks p) pos) (cC te (gm i)):=ny hN hi hx he Y hf
theorem NI{c A B:Prop}[Decidable c](hc:¬ c)(h:A):if(!S c)=θ then A else B:=by
 rw[W_ hc];calc h
theorem nU{L:-o}{k:Nat}{d:o}{t u:TS}(hk:k<↑L)(h:JS X (L.getD k d) t)(r:bR X (L.drop (k+1)) u):bR X (L.drop k) (jI t u):=by
 let e:L.drop k=L.getD k d::L.drop (k+1):=by
  rw[XJ hk,VP,pj hk];rfl
 rw[e];calc lB h r
theorem NJ{L:-o}{k:Nat}{d:o}{t:TS}(hk:↑L=k+1)(h:JS X (L.getD k d) t):bR X (L.drop k) t:=by
 let ir:k<↑L:=by symm
 let e:L.drop k=[L.getD k d]:=by
  rw[XJ ir,VP,pj ir,q0r ⋯];rfl
 rw[e];calc kI h
theorem NK{L:-o}{t:TS}(h:bR X (L.drop 0) t):bR X L t:=h
theorem gu{n:Nat}(h:n<=20):n<=sizeLine:=Y4 (lM (XH h (by decide)))
end
section
variable{κ:Type}[DecidableEq κ]
noncomputable def bF(kvs:-(κ×V))(k:κ):Option V:=(kvs.find? λkv=>S (kv.1=k)).map (·.2)
noncomputable def putK(kvs:-(κ×V))(k:κ)(v:V):-(κ×V) :=
 if(kvs.any λkv=>S (kv.1=k))=θ then kvs.map (λkv=>if kv.1=k then(kv.1,v) else kv) else kvs++[(k,v)]
theorem tX{p:κ×V}{r:-(κ×V)}{k:κ}(e:p.1=k):bF (p::r) k=U p.2:=by simp[bF,ZF,e]
theorem tY{p:κ×V}{r:-(κ×V)}{k:κ}(e:¬ p.1=k):bF (p::r) k=bF r k:=by simp[bF,ZF,e]
theorem zJ(k:κ):∀kvs:-(κ×V),(kvs.any λkv=>S (kv.1=k))=(bF kvs k).isSome
 |[]=>Y
 |p::r=>by
  rw[Y6]
  by_cases e:p.1=k
  .erw[tX e,VS e,q1G,q2M]
  .rw[tY e,W_ e,Bool.false_or];calc zJ k r
theorem zK(kvs:-(κ×V))(k:κ)(v:V):↑(putK kvs k v)<=↑kvs+1:=by
 unfold putK;split
 .rw[qJ];symm
 .rw[EB,EA,Ye];symm
theorem NL{kvs:-(κ×V)}{k:κ}(v:V)(h:bF kvs k=Z):putK kvs k v=kvs++[(k,v)]:=by
 unfold putK;rw[zJ,h];calc VR (by decide)
theorem eF.dX{o:Option V}{u:Option J}(r:eF o u):o.isSome=u.isSome:=by
 cases o with
 |none=>cases u with
  |none=>rfl
  |some _=>exact(show False from r).elim
 |some _=>cases u with
  |none=>exact(show False from r).elim
  |some _=>rfl
theorem KV.val{kvs:-(κ×V)}{vs:-(κ×J)}(r:KV kvs vs)(k:κ):eF (bF kvs k) (valueAt vs k):=by
 unfold KV at r
 induction r with
 |nil=>exact Zw
 | @cons p q ps qs h t ih =>
  let⟨h1,h2⟩:=h
  by_cases e:p.1=k
  .let e':q.1=k:=h1.symm.trans e
   let b:valueAt (q::qs) k=U q.2:=by simp[valueAt,ZF,e']
   rw[tX e,b];exact h2
  .let e':¬ q.1=k:=λz=>e (h1.trans z)
   let b:valueAt (q::qs) k=valueAt qs k:=by simp[valueAt,ZF,e']
   rw[tY e,b];calc ih
theorem KV.any{kvs:-(κ×V)}{vs:-(κ×J)}(r:KV kvs vs)(k:κ):(kvs.any λkv=>S (kv.1=k))=vs.any λkv=>S (kv.1=k):=by
 unfold KV at r
 induction r with
 |nil=>rfl
 |cons h t ih=>rw[Y6,Y6,ih,h.1]
theorem KV.g0{kvs:-(κ×V)}{vs:-(κ×J)}(r:KV kvs vs)(k:κ){y:V}{u:J}(ry:RelV y u):
  KV (kvs.map λkv=>if kv.1=k then(kv.1,y) else kv) (vs.map λkv=>if kv.1=k then(kv.1,u) else kv):=by
 unfold KV at r ⊢
 induction r with
 |nil=>exact .nil
 | @cons p q ps qs h t ih =>
  rw[Xl,Xl];calc .cons ?_ ih;let⟨h1,h2⟩:=h
  by_cases e:p.1=k
  .rw[Xa e,Xa (h1.symm.trans e)];exact⟨h1,ry⟩
  .rw[VR e,VR (λz=>e (h1.trans z))];calc⟨h1,h2⟩
theorem KV.put{kvs:-(κ×V)}{vs:-(κ×J)}(r:KV kvs vs)(k:κ){y:V}{u:J}(ry:RelV y u):KV (putK kvs k y) (stored vs k u):=by
 unfold putK stored;rw[r.any k]
 by_cases e:(vs.any λkv=>S (kv.1=k))=θ
 .rw[Xa e,Xa e];exact r.g0 k ry
 .rw[VR e,VR e];calc Paired.snoc r ⟨Y,ry⟩
theorem KV.length{kvs:-(κ×V)}{vs:-(κ×J)}(r:KV kvs vs):↑kvs=↑vs:=q2x r
end
theorem vX{P:n}{w:g}{k:Key}{u:J}(r:RelV (kV k) u):(gi P w).is k u=θ:=by
 cases k with
 |inl i=>let⟨t,e⟩:=(show ∃t,u=q0d i t from r);subst e;exact Kt P w i t
 |inr x=>let⟨t,e⟩:=(show ∃t,u=q2b x t from r);subst e;calc Ku P w x t
theorem Ff{P:n}{w:g}:∀{ks:-Key}{us:-J},Vals (ks.map kV) us->ItemsAre (gi P w) ks us
 |[],_,r=>by rw[Y5] at r;cases r;exact .nil
 |k::ks,_,r=>by
  rw[Xl] at r
  cases r with
  |cons h t=>calc .cons (vX h) (Ff t)
abbrev KT(H:Hp):-(-Key×V)->-(-Key×O×J)->Prop:=Paired λp q=>p.1=q.1/\H q.2.1=U (.tup (p.1.map kV))/\RelV p.2 q.2.2
theorem KT.val{H:Hp}{kvs:-(-Key×V)}{xs:-(-Key×O×J)}(r:KT H kvs xs)(k:-Key):eF (bF kvs k) ((atKey xs k).map (·.2)):=by
 induction r with
 |nil=>exact Zw
 | @cons p q ps qs h t ih =>
  let⟨h1,_,h2⟩:=h
  by_cases e:p.1=k
  .let e':q.1=k:=h1.symm.trans e
   let b:atKey (q::qs) k=U q.2:=by simp[atKey,ZF,e']
   rw[tX e,b];exact h2
  .let e':¬ q.1=k:=λz=>e (h1.trans z)
   let b:atKey (q::qs) k=atKey qs k:=by simp[atKey,ZF,e']
   rw[tY e,b];calc ih
theorem KT.g0{H:Hp}{kvs:-(-Key×V)}{xs:-(-Key×O×J)}(r:KT H kvs xs)(k:-Key){y:V}{u:J}(ry:RelV y u):
  KT H (kvs.map λkv=>if kv.1=k then(kv.1,y) else kv) (xs.map (putAt k u)):=by
 induction r with
 |nil=>exact .nil
 | @cons p q ps qs h t ih =>
  rw[Xl,Xl];calc .cons ?_ ih;let⟨h1,h2,h3⟩:=h;unfold putAt
  by_cases e:p.1=k
  .rw[Xa e,Xa (h1.symm.trans e)];exact⟨h1,h2,ry⟩
  .rw[VR e,VR (λz=>e (h1.trans z))];calc⟨h1,h2,h3⟩
theorem KT.put{H:Hp}{kvs:-(-Key×V)}{xs:-(-Key×O×J)}(r:KT H kvs xs)(k:-Key){b:O}{y:V}{u:J}(hb:H b=U (.tup (k.map kV)))(ry:RelV y u):
  KT H (putK kvs k y) (storedH xs k b u):=by
 let e:(kvs.any λkv=>S (kv.1=k))=(atKey xs k).isSome:=by
  rw[zJ,(r.val k).dX,q3e]
 unfold putK storedH;rw[e]
 by_cases q:(atKey xs k).isSome=θ
 .rw[Xa q,Xa q];exact r.g0 k ry
 .rw[VR q,VR q];calc Paired.snoc r ⟨Y,hb,ry⟩
theorem KT.keeps{H H':Hp}{kvs:-(-Key×V)}{xs:-(-Key×O×J)}(r:KT H kvs xs)(ht:∀b ys,H b=U (.tup ys)->H' b=U (.tup ys)):KT H' kvs xs :=
 Paired.oG r λ_ _ z=>⟨z.1,ht _ _ z.2.1,z.2.2⟩
section
variable{P:n}{w:g}{H:Hp}{h:I}{a:O}
theorem Fg{u:HO}(ok:bY P w H h)(e:Rd H a u):aD P w H h a u:=e.ok ok
theorem Fh{kvs:-(Key×V)}(ok:bY P w H h)(e:Rd H a (.dK kvs)):↑kvs<=sizeLine/\(a==sysModules)=ι/\∃vs,KV kvs vs/\h.DictOf (gi P w) a vs :=
 show aD P w H h a (.dK kvs) from Fg ok e
theorem vY{kvs:-(Key×V)}(ok:bY P w H h)(e:H a=U (.dK kvs)):↑kvs<=sizeLine/\(a==sysModules)=ι/\∃vs,KV kvs vs/\h.DictOf (gi P w) a vs:=Fh ok (.inl e)
theorem zL{ks:-Key}(ok:bY P w H h)(e:H a=U (.tup (ks.map kV))):(tupleKind (gi P w)).is h ks a:=by
 let⟨_,ah,r,o,h1,h2,n,h3⟩:=(show aD P w H h a (.tup (ks.map kV)) from ok a _ e);calc⟨o,ah.toArray,n,h1,h2,h3,by simpa using Ff r⟩
theorem Fi{kvs:-(-Key×V)}(ok:bY P w H h)(e:Rd H a (.dT kvs)):↑kvs<=sizeLine/\(a==sysModules)=ι ∧
  ∃xs,KT H kvs xs/\h.DictOfH (tupleKind (gi P w)) a xs:=by
 let⟨z,y,xs,r,o,es,ep,h1,h2,h3,h4,h5⟩:=(show aD P w H h a (.dT kvs) from Fg ok e);refine⟨z,y,xs,r,o,es,ep,h1,h2,h3,h4,λx hx=>?_,h5⟩
 let all:∀{l:-(-Key×V)}{m:-(-Key×O×J)},KT H l m->∀x∈m,(tupleKind (gi P w)).is h x.1 x.2.1:=by
  ext l m q
  induction q with
  |nil=>ext x hx;exact nomatch hx
  | @cons p q ps qs hq t ih =>
   ext x hx;rcases Mt.mp hx with e|hx
   .subst e
    exact zL ok (by rw[<-hq.1];calc hq.2.1)
   .exact ih x hx
 calc all r x hx
theorem NM{kvs:-(-Key×V)}(ok:bY P w H h)(e:H a=U (.dT kvs)):↑kvs<=sizeLine/\(a==sysModules)=ι ∧
  ∃xs,KT H kvs xs/\h.DictOfH (tupleKind (gi P w)) a xs:=Fi ok (.inl e)
end
def iP(H:Hp)(a:O)(y:V)(r:Option V):Prop :=
 (∃kvs k,Rd H a (.dK kvs)/\y=kV k/\r=bF kvs k)\/∃kvs k b,Rd H a (.dT kvs)/\y=.ref b/\H b=U (.tup (k.map kV))/\r=bF kvs k
def jT(H:Hp)(a:O)(y v:V)(H':Hp):Prop :=
 (∃kvs k,H a=U (.dK kvs)/\y=kV k/\↑kvs<sizeLine/\H'=upd H a (.dK (putK kvs k v))) ∨
 ∃kvs k b,H a=U (.dT kvs)/\y=.ref b/\H b=U (.tup (k.map kV))/\↑kvs<sizeLine/\H'=upd H a (.dT (putK kvs k v))
theorem iP.k{H:Hp}{a:O}{kvs:-(Key×V)}{k:Key}(e:H a=U (.dK kvs)):iP H a (kV k) (bF kvs k):=.inl ⟨kvs,k,.inl e,Y,Y⟩
theorem jT.k{H:Hp}{a:O}{kvs:-(Key×V)}{k:Key}{v:V}(e:H a=U (.dK kvs))(hl:↑kvs<sizeLine):jT H a (kV k) v (upd H a (.dK (putK kvs k v))):=.inl ⟨kvs,k,e,Y,hl,Y⟩
section
variable{X:Cx}{pins:aq}{σ:St}{H:Hp}{s:L}{a:O}{y v:V}{u r:J}{o:Option V}{A:q}{E:aM}
theorem Inv.big(I:Inv X pins σ H s):sysModules<⇑s:=by
 let h:mainGlobals<⇑s:=(I.mod.glob.keeps I.bk).lt;calc q1y (by decide) h
theorem zM{Q:aM}(hu:A.units+1<cLine)(I:Inv X pins σ H s)(g:iP H a y o)(ry:RelV y u)(h:∀s',Inv X pins σ H s'->Q (.bool o.isSome) s'):
  G (M X.prog X.w) A (compareOp .In u (.ref a)) Q E s:=by
 rcases g with⟨kvs,k,e,ey,l⟩|⟨kvs,k,b,e,ey,eb,l⟩
 .subst ey
  let⟨z,hd,vs,rel,dd⟩:=Fh I.aH e;calc wpAny_in_of (vX ry) hd dd.mapOf ?_;rw[<-(rel.val k).dX,<-l];exact h _ (I.tok _)
 .subst ey
  cases(show u=Xj b from ry)
  let⟨z,hd,xs,rel,dd⟩:=Fi I.aH e;calc wpAny_in_heap (q2N hu) (zL I.aH eb) hd dd ?_;let q:=(rel.val k).dX;rw[q3e] at q;rw[<-q,<-l];calc h _ (I.tok _)
theorem zN{h':Α}{t':Nat}{ob:HO}(I:Inv X pins σ H s)(mu:oH (H a))(hs:ZW a s.heap h')(he:∃q,h'.get? a=U q)(new:aD X.prog X.w (upd H a ob) h' a ob):
  Inv X pins σ (upd H a ob) {s with heap:=h',toks:=t'} :=
 I.write (x:=a) (e:=a) mu (.inl Y) (λb q hb z=>(hs.2 b hb).trans z) he new
theorem Fj{P:n}{w:g}{H':Hp}{h':I}{kvs:-(Key×V)}{vs:-(Key×J)}(z:↑kvs<=sizeLine)(hd:(a==sysModules)=ι)(rel:KV kvs vs)(dd:h'.DictOf (gi P w) a vs):
  aD P w H' h' a (.dK kvs):=⟨z,hd,vs,rel,dd⟩
theorem NN{H':Hp}{Q:Unit->L->Prop}(hu:A.units+1<cLine)(I:Inv X pins σ H s)(g:jT H a y v H')(ry:RelV y u)(rv:RelV v r)(h:∀s',Inv X pins σ H' s'->Q () s'):
  G (M X.prog X.w) A (setItem (.ref a) u r) Q E s:=by
 rcases g with⟨kvs,k,e,ey,l,eH⟩|⟨kvs,k,b,e,ey,eb,l,eH⟩
 .subst ey eH
  let⟨z,hd,vs,rel,dd⟩:=vY I.aH e;let hz:↑vs<=sizeLine:=by rw[<-↑rel];exact z
  let hl:↑(putK kvs k v)<=sizeLine:=by let:=zK kvs k v;symm
  calc wpAny_setItem_pairs (hsz:=hz) (vX ry) dd λh' pB hs=>h _ ?_;let he:∃q,h'.get? a=U q:=let⟨q,_,_,hq,_⟩:=pB;⟨q,hq⟩;exact zN I (by rw[e];calc Zw) hs he (Fj hl hd (rel.put k rv) pB)
 .subst ey eH
  cases(show u=Xj b from ry)
  let⟨z,hd,xs,rel,dd⟩:=NM I.aH e;let hz:↑xs<=sizeLine:=by rw[<-q2x rel];exact z
  let hl:↑(putK kvs k v)<=sizeLine:=by let:=zK kvs k v;symm
  calc wpAny_setItem_heap (hsz:=hz) (q2N hu) (zL I.aH eb) dd λh' pB hs=>h _ ?_;let⟨q,es,ep,hq,h2,h3,h4,_,h5⟩:=pB;calc zN I (by rw[e];calc Zw) hs ⟨q,hq⟩ ⟨hl,hd,_,(rel.put k eb rv).keeps λc ys ec=>?_,q,es,ep,hq,h2,h3,h4,h5⟩;rw[aC (m9 ec e (λz=>nomatch z))];calc ec
end
section
variable{X:Cx}{pins:aq}{σ:St}{H:Hp}{s:L}{a:O}{kvs:-(Key×V)}{k:Key}{u:J}{A:q}{E:aM}
end
def tZ(ty td:TE):TE:=fun σ H Q=>ty σ H λy H1=>td σ H1 λx H2=>∃a o,x=.ref a/\iP H2 a y o/\Q (.bl o.isSome) H2
def NO(td ty tv:TE):TS:=λD σ H=>tv σ H λv H1=>td σ H1 λx H2=>ty σ H2 λy H3=>∃a H4,x=.ref a/\jT H3 a y v H4/\D.nx σ H4
section
variable{X:Cx}{o i e value:B}{pos pos' yH:y}{td ty tv:TE}
theorem NP(hu:X.A.units+1<cLine)(hi:JE X i ty)(ho:JE X o td):JC X .In i o (tZ ty td):=by
 calc⟨?_⟩;ext pins s σ H Q I h;calc aS (hi pins s σ H _ I h) λiv s1 h0_=>el5 h0_ λy H1 I1 ry q1 =>aS (ho pins s1 σ H1 _ I1 q1) λu s2 ⟨x,H2,I2,rx,a,ov,ex,g,q2⟩=>?_;subst ex;obtain rfl:u=Xj a:=rx;calc zM hu I2 g ry λs3 I3=>⟨.bl ov.isSome,H2,I3,Y,q2⟩
theorem NQ(hu:X.A.units+1<cLine)(ho:JE X o td)(hi:JE X i ty)(hv:JE X value tv)(hs:swapsWith value (U (.Subscript o i pos')) pos.line X.env=pure ι):
  JS X (.Assign [.Subscript o i pos'] value pos) (NO td ty tv):=by
 calc⟨?_⟩;ext pins s σ H D I h;calc wpAny_Assign_Subscript (aS (hv pins s σ H _ I h) λr s1 h0_=>el5 h0_ λv H1 I1 rv q1 =>aS (ho pins s1 σ H1 _ I1 q1) λu s2 h0_=>el5 h0_ λx H2 I2 rx q2 =>aS (hi pins s2 σ H2 _ I2 q2) λiv s3 ⟨y,H3,I3,ry,a,H4,ex,g,q3⟩=>?_) hs;subst ex;obtain rfl:u=Xj a:=rx;calc NN hu I3 g ry rv λs4 I4=>⟨σ,H4,I4,q3⟩
end
theorem NR{P:n}{w:g}{H:Hp}(h:I)(hb:sysModules<h.objs.size):aD P w H (h.push {cls:=.type "dict",data:=.dict #[]}) h.objs.size (.dK []) :=
 ⟨Xq _,beq_eq_false_iff_ne.mpr (YV (Xg hb)),[],.nil,Heap.DictOf.new h⟩
def Fl:TE:=λ_ H Q=>∀p,H p=Z->Q (.ref p) (upd H p (.dK []))
section
variable{X:Cx}{pos:y}
theorem gv:JE X (.Dict [] [] pos) Fl:=⟨λpins s σ H Q I h =>
 wpAny_Dict_empty ⟨.ref ⇑s,_,I.laid (a:=s.heap.objs.size) (o:=.dK []) (t':=s.toks) (λ_ _ q=>pf _ q) (vQ _) (NR s.heap I.big),Y,h _ (I.aH.fresh (vQ _))⟩⟩
end
section
variable{X:Cx}{pins:aq}{σ:St}{H:Hp}{s:L}{a:O}{y d:V}{u r:J}{o:Option V}{A:q}{E:aM}
end
section
variable{X:Cx}{o e f:B}{apos fc:y}{td ty tx:TE}
end
section
variable{X:Cx}{pins:aq}{σ:St}{H:Hp}{s:L}{a:O}{kvs:-(Key×V)}{A:q}{E:aM}
end
section
variable{X:Cx}{pins:aq}{σ:St}{H:Hp}{s:L}{a:O}{y:V}{u:J}{A:q}{E:aM}
end
end L2
namespace L2
section
variable{κ:Type}[DecidableEq κ]
end
end L2
namespace L2
open PySem PySem.Spec PyProof.Rows
end L2
namespace LJS
open PySem
noncomputable def hp(i j:Int):Int:=reduceHash (Builtin.Tuple.tupleHashOf [hashInt i,hashInt j])
theorem Fm{prog:n}{w:g}(i j:Int):hT prog w [i,j]=hp i j:=rfl
noncomputable def vZ:-(Int×Int):=(Xy 12).flatMap λj=>(Xy j).map λi:Nat=>(q3s i,q3s j)
theorem NS:∀a∈vZ,∀b∈vZ,hp a.1 a.2=hp b.1 b.2->a=b:=by decide +kernel
theorem Fp{i j:Int}(h0:0<=i)(h1:i<j)(h2:j<12):(i,j)∈vZ:=by
 let⟨a,rfl⟩:∃a:Nat,i=a:=⟨i.toNat,⋯⟩;let⟨b,rfl⟩:∃b:Nat,j=b:=⟨j.toNat,⋯⟩;unfold vZ;calc List.mem_flatMap.mpr ⟨b,XC.mpr ⋯,Xh.mpr ⟨a,XC.mpr ⋯,Y⟩⟩
end LJS
namespace L2
open PySem PySem.Spec PyProof.Rows
noncomputable def jU(S:O)(n:Nat):HO:=.ext λh=>∃hs:-Int,↑hs=n/\LJS.jB h S hs
theorem NT{P:ψ}{w:g}{H:Hp}{h:I}{S:O}{hs:-Int}{n:Nat}(e:LJS.jB h S hs)(hn:↑hs=n):aD P w H h S (jU S n) :=
 ⟨⟨hs,hn,e⟩,let⟨o,_,_,_,ho,_⟩:=e;⟨o,ho⟩,λh1 h2 ⟨v3,en,e1⟩ k↦⟨v3,en,LJS.Kl e1 λo eo=>k o eo⟩⟩
section
variable{X:Cx}
theorem Fq:∀{ps:-O}{ah:-J},Vals (ps.map V.ref) ah->ah=ps.map Xj
 |[],_,.nil=>Y
 |_::_,_,.cons r rs=>by cases r;rw[Fq rs];rfl
theorem NU:f_ X (.builtin "len") (λxs H Q=>∃(p:O)(n:Nat),xs=[.ref p]/\H p=U (jU p n)/\n<1000/\Q (.int n) H):=by
 ext pins s σ H xs us Q I r h;let⟨p,n,rfl,hp,hn,q⟩:=h;let⟨u,rfl,rx⟩:=vals1 r;cases rx
 let⟨⟨hs,hl,o,es,ep,t,ho,hex,hd,T⟩,_⟩:=I.aH p _ hp;let e:es.size=n:=by rw[T.num,hl]
 calc call_len_set ho hex hd T.fits ⋯ ⟨.int n,H,I.tok _,⟨_,by rw[e]⟩,q⟩
theorem Fs:∀{bs:-Bool}{ah:-J},Vals (bs.map V.bl) ah->ah=bs.map ZQ
 |[],_,.nil=>Y
 |_::_,_,.cons r rs=>by cases r;rw[Fs rs];rfl
theorem all_range(bs:-Bool):(Xy bs.length).all (λi=>bs.getD i θ)=bs.all id:=by
 rw[Z_,XN,XN]
 constructor
 .ext h b hb
  let⟨i,hi⟩:=Xb.mp hb;let hl:=(ph.mp hi).1;let:=h i (XC.mpr hl);rw[VP,hi] at this;exact this
 .ext h i hi
  let hl:=XC.mp hi;rw[VP,pj hl];calc h _ (YT hl)
theorem NV(hc:X.calm=θ):f_ X (.builtin "all") (λxs H Q=>∃(l:O)(bs:-Bool),xs=[.ref l]/\aX X.K H l (bs.map V.bl)/\Q (.bl (bs.all id)) H):=by
 ext pins s σ H xs us Q I r h;let⟨l,bs,rfl,hq,q⟩:=h;let⟨u,rfl,rx⟩:=vals1 r;cases rx
 let⟨ah,r',pl,_⟩:=I.list hq;obtain rfl:=Fs r';let hL:=pl.isList;let ll:l<⇑s:=by let⟨o,e,_⟩:=hL;exact EC e
 let nI:l≠⇑s:=Xg ll;calc call_all_walk (Zh hL ?_);refine⟨⇑s,_,_,_,_,_,λi=>bs.getD i θ,Y,q2O (by rw[Y_];calc I.ok.hd hc) ⇑s l nI _,⟨⟨_,My _ Y,Y,Y⟩,hL.push _⟩,λi v s' Q' E' hv v5=>?_,λh' tk kp=>?_⟩
 .let hv:(bs.map ZQ).toArray[i]?=U v:=hv
  let v5:Q' (bs.getD i θ) s':=v5;rw[Yv,W5] at hv;let⟨b,eb,rfl⟩:=Xf.mp hv;rw[VP,eb] at v5;exact YY v5
 .refine⟨.bl (bs.all id),H,I.kept (t':=tk) λb o e=>kp b o (λz=>?_) (pf _ e),?_,q⟩
  .let:=EC e
   rw[Xr.mp z] at this;exact YH _ this
  .show ZQ _=ZQ _
   rw[Ez,qJ,all_range]
end
end L2
namespace LJ
open PySem L2
structure Fn(P:n)(w:g)(K:tu)(mg:R->Option J)(base:I)(k:Nat)(x:R)(ps:-R)(sp:Sp)(f:O)(fd:FuncData):Prop where
 ok:bt P w K mg base fG k f fd ps sp
 pC:mg x=U (.ref f)
 kp:XZ K (.ref f)=θ
 bd:Binds K fd ps []
theorem t6:bootBuiltins "bool" = U (.type "bool"):=by decide +kernel
theorem zO:bootBuiltins "int" = U (.type "int"):=by decide +kernel
theorem Ft:bootBuiltins "str" = U (.type "str"):=by decide +kernel
theorem qO:bootBuiltins "tuple" = U (.type "tuple"):=by decide +kernel
theorem pD:bootBuiltins "list" = U (.type "list"):=by decide +kernel
theorem NW:bootBuiltins "set" = U (.type "set"):=by decide +kernel
theorem NX:bootBuiltins "all" = U (.builtin "all"):=by decide +kernel
section
variable{K:tu}
end
structure fT(many:Int)(ys:-(Int×Int×Int)):Prop where
 m1:1<=many
 qP:many<=12
 jV:↑ys<=30
 ends:∀y∈ys,0<=y.1/\y.1<y.2.1/\y.2.1<many/\0<=y.2.2/\y.2.2<=1000000000
 unlike:(ys.map λy=>(y.1,y.2.1)).Nodup
end LJ
namespace L2
open PySem PySem.Spec PyProof.Rows
section
variable{X:Cx}
end
end L2
namespace LJ
open PySem L2
noncomputable def iw:Nat->-(Int×Int)
 |0=>[]
 |n+1=>iw n++(Xy n).map λa:Nat=>(q3s a,q3s n)
theorem zP:∀{n:Nat}{k:Int×Int},k∈iw n->0<=k.1/\k.1<k.2/\k.2<n
 |0,_,h=>nomatch h
 |n+1,k,h=>by
  rcases Xv.mp h with h|h
  .let:=zP h;symm
  .let⟨a,ha,rfl⟩:=Xh.mp h
   let:=XC.mp ha;refine⟨Int.natCast_nonneg a,?_,?_⟩
   .show (a:Int)<(n:Int);symm
   .show (n:Int)<((n+1:Nat):Int);symm
theorem Fu:∀n:Nat,(iw n).Nodup
 |0=>Zq
 |n+1=>by
  refine X_.mpr ⟨Fu n,?_,λk h1 k' h2 e=>?_⟩
  .refine q0k.mpr (q0z.imp λ{a b} ne e=>ne ?_)
   exact q1m (congrArg q57 e)
  .subst e
   let⟨a,ha,rfl⟩:=Xh.mp h2;let:=(zP h1).2.2;let:(n:Int)<(n:Int):=this;symm
theorem Fv:∀n:Nat,n<=12->↑(iw n)<=66:=by
 ext n h;rcases n with _|_|_|_|_|_|_|_|_|_|_|_|_|n
 all_goals first|decide|symm
end LJ
namespace LJ
open PySem
theorem Fw{j n:Nat}(h:j<n):seqIndex? (j:Int) n=U j:=by
 unfold seqIndex?
 first|(simp;symm)|skip
end LJ
namespace L2
open PySem PySem.Spec PyProof.Rows
section
variable{X:Cx}
theorem FA:f_ X (.type "range") (λxs H Q=>∃j:Int,xs=[.int j]/\∀r,H r=Z->Q (.ref r) (upd H r (.rng 0 j))):=by
 ext pins s σ H xs us Q I r h;let⟨j,rfl,q⟩:=h;let⟨u,rfl,t,rfl⟩:=vals1 r;calc call_range_1 ⟨.ref ⇑s,_,I.laid (t':=s.toks+1+1) (o:=.rng 0 j) (λb o e=>pf _ e) (vQ _) ?_,Y,q _ (I.aH.fresh (vQ _))⟩;calc⟨_,_,_,My _ Y⟩
noncomputable def cN(n:Nat):-Int:=(Xy n).map λa:Nat=>(a:Int)
theorem FC:∀{ns:-Int}{us:-J},↑us=ns.length->(∀(i:Nat)(u:J),us[i]?=U u->∃t,u=.int (ns.getD i 0) t)->Vals (ns.map V.int) us
 |[],[],_,_=>.nil
 |[],_::_,h,_=>by simp at h
 |_::_,[],h,_=>by simp at h
 |n::ns,u::us,h,g=>by
  let⟨t,e⟩:=g 0 u Y;calc .cons ⟨t,e⟩ (FC h⁻¹ λi v e2=>?_);let⟨t,e⟩:=g (i+1) v e2⁻¹;calc⟨t,by simpa using e⟩
theorem FD(hc:X.calm=θ):f_ X (.type "list") (λxs H Q=>∃(r:O)(n:Nat),xs=[.ref r]/\H r=U (.rng 0 (n:Int))/\n<=1000/\∀l,H l=Z->Q (.ref l) (upd H l (.lst ((cN n).map V.int)))):=by
 ext pins s σ H xs us Q I r h;let⟨a,n,rfl,ha,hn,q⟩:=h;let⟨u,rfl,rx⟩:=vals1 r;cases rx
 let⟨t,u,v,e⟩:=(show ∃t u v,s.heap.get? a=U {cls:=.type "range",data:=.fields #[.int 0 t,.int (n:Int) u,.int 1 v]} from I.aH a _ ha);let hs:q1r 0 (n:Int) 1=n:=by rw[q4x];split<;>symm
 calc call_list_range (n:=n) (I.ok.hd hc) e (small_one ⋯ ⋯ ⋯ ⋯) hs ⋯ λh' tk acc c' kp e' it=>?_;calc⟨.ref ⇑s,_,I.laid (t':=tk) (o:=.lst ((cN n).map V.int)) kp (vQ _) ?_,Y,q _ (I.aH.fresh (vQ _))⟩;calc⟨Y4 (lM (by rw[qJ,cN,qJ,Yt];calc hn)),acc.toList,c',?_,by simpa using e'⟩;refine FC ?_ λi u e=>?_
 .rw[Mx,it.1,cN,qJ,Yt]
 .rw[Xp] at e
  let⟨t',e2⟩:=it.2 i u e;let hi:i<n:=by rw[<-it.1];exact(XQ.mp e).1
  calc⟨t',e2.trans ?_⟩;rw[cN,VP,W5,YQ hi];show q0d (0+(i:Int)*1) t'=q0d (i:Int) t';rw[q3f,q5Z]
theorem zQ:∀(ns:-Int)(j:Nat),j<=ns.length->q4_ (λi=>ns.getD i 0) j=(ns.take j).sum
 |ns,0,_=>by rw[q0s];rfl
 |ns,j+1,h=>by
  show q4_ _ j+ns.getD j 0=_;let hj:j<ns.length:=by symm
  rw[zQ ns j ⋯,List.take_add_one,pj hj,VP,pj hj,List.sum_append];simp
theorem FE:∀{ns:-Int},(∀x∈ns,0<=x/\x<=1000000000)->0<=ns.sum/\ns.sum<=ns.length*1000000000
 |[],_=>by simp
 |n::ns,h=>by
  let ih:=FE λx hx=>h x (Mu _ hx);let:=h n (Mv ..);rw[List.sum_cons,EA];symm
theorem NY(hc:X.calm=θ):f_ X (.builtin "sum") (λxs H Q=>∃(l:O)(ns:-Int),xs=[.ref l]/\aX X.K H l (ns.map V.int)/\(∀x∈ns,0<=x/\x<=1000000000)/\ns.length<=1000/\Q (.int ns.sum) H):=by
 ext pins s σ H xs us Q I r h;let⟨l,ns,rfl,hq,bd,FF,q⟩:=h;let⟨u,rfl,rx⟩:=vals1 r;cases rx
 let⟨ah,r',pl,_⟩:=I.list hq;let hl:=↑r';rw[qJ] at hl;let hL:=pl.isList;let ll:l<⇑s:=by let⟨o,e,_⟩:=hL;exact EC e
 let nI:l≠⇑s:=Xg ll;let sz:ah.toArray.size=ns.length:=by rw[Ez];exact hl.symm
 calc call_sum_walk (Zh hL ?_);refine⟨⇑s,_,_,_,_,_,λi=>ns.getD i 0,Y,q2O (by rw[Y_];calc I.ok.hd hc) ⇑s l nI _,⟨⟨_,My _ Y,Y,Y⟩,hL.push _⟩,λb hb=>?_,λi v hv=>?_,λj hj=>?_,λh' tk t' kp=>?_⟩
 .erw[Mt,Xd,Yp] at hb
  rw[Yy];rcases hb with e|e
  .rw[e];exact ZU _
  .rw[e];exact Yi ll
 .let hv:ah.toArray[i]?=U v:=hv
  rw[Yv] at hv;let hi:i<ns.length:=by rw[hl];exact(ph.mp hv).1
  let⟨u,e1,t,e2⟩:=r'.get (x:=V.int (ns.getD i 0)) (i:=i) (by rw[W5,pj hi,VP,pj hi];rfl);rw[hv] at e1;cases e1
  exact⟨t,e2⟩
 .rw[sz] at hj
  let a1:=bd _ (YT hj);let e1:ns.getD j 0=ns[j]:=by rw[VP,pj hj];rfl
  let a2:=FE (ns:=ns.take (j+1)) λx hx=>bd x (ZT hx);let a3:↑(ns.take (j+1))<=1000:=by rw[Xi];symm
  rw[zQ ns (j+1) ⋯];show InLong (ns.getD j 0)/\_;rw[e1];refine⟨⟨⋯,⋯⟩,⟨⋯,⋯⟩⟩
 .refine⟨.int ns.sum,H,I.kept (t':=tk) λb o e=>kp b o (λz=>?_) (pf _ e),⟨t',?_⟩,q⟩
  .let:=EC e
   rw[Xr.mp z] at this;exact YH _ this
  .rw[sz,zQ ns ns.length (vQ _),XD (vQ _)]
theorem FG{prog:n}{w:ω}{A:q}{E:aM}{I l:O}{items:Array J}(W:Walks prog w A I [I,l] [I] items.size (λi v=>items[i]?=U v) (λi h=>h.IsListIter I l i/\h.IsList l items)):
  ∀(k i:Nat)(s:L)(Q:-J->L->Prop),i+k<=items.size->(s.heap.IsListIter I l i/\s.heap.IsList l items) →
   (∀h' tk,(h'.IsListIter I l (i+k)/\h'.IsList l items)->(∀b o,b∉[I]->s.heap.get? b=U o->h'.get? b=U o)->Q ((items.toList.drop i).take k) {s with heap:=h',toks:=tk})->G (M prog w) A (draw (.ref I) k) Q E s
 |0,i,s,Q,_,st,g=>by
  show G _ _ (pure []) Q E s;calc zi ?_;let:=g s.heap s.toks st λ_ _ _ e=>e;rw[q0s] at this;exact this
 |k+1,i,s,Q,hk,st,g=>by
  let hi:i<items.size:=by symm
  show G _ _ (pyNext (.ref I) >>= _) Q E s;calc lK (W.item i s _ _ hi st λv h1 qQ hv iQ zR=>?_);refine lK (XI (FG W k (i+1) _ _ ⋯ iQ λh2 zS jJ zT=>zi ?_))
  let e:items.toList.drop i=v::items.toList.drop (i+1):=by
   rw[XJ (by rw[Mx];calc hi)];congr 1;let FH:items[i]?=U v:=hv;rw[VT hi] at FH;simpa using FH
  let:=g h2 zS (by rw[show i+(k+1)=i+1+k by symm];calc jJ) λb o hb e=>zT b o hb (zR b o hb e);rw[e,q2p] at this;calc this
theorem NZ{prog:n}{w:ω}{A:q}{E:aM}{s:L}{l:O}{items:Array J}{Q:-J->L->Prop}(hh:A.handled=Z)(hl:s.heap.IsList l items)
  (g:∀h' tk,(∀b o,b≠⇑s->s.heap.get? b=U o->h'.get? b=U o)->Q items.toList {s with heap:=h',toks:=tk}):G (M prog w) A (unpackItems (.ref l) items.size Z) Q E s:=by
 let ll:l<⇑s:=by let⟨o,e,_⟩:=hl;exact EC e
 let W:=q2O (prog:=prog) (w:=w) hh ⇑s l (Xg ll) items;unfold unpackItems;calc lK ?_;unfold notIterableAtAll;calc lK (q3N hl.typeIs slot_list_iter.lookup (zi ?_));erw[VQ,XY];calc lK (XI (Zh hl ?_));calc lK (XI (FG W items.size 0 _ _ ⋯ ⟨⟨_,My _ Y,Y,Y⟩,hl.push _⟩ λh1 qQ iQ zR=>?_));rw[q0j,XD (by rw[Mx];calc vQ _),VR (by rw[Mx];calc YH _)];rw[XU] at iQ;calc lK (XI (W.done _ _ _ iQ λh2 zS zT=>?_));erw[Option.isSome_none,VQ,XY];calc zi (g h2 zS λb o hb e=>zT b o hb⁻¹ (zR b o hb⁻¹ (pf _ e)))
def N3(K:tu)(n:Nat)(t:jf):TG:=λv σ H Q=>∃a xs,v=.ref a/\aX K H a xs/\↑xs=n/\t xs σ H Q
theorem N4{es:-B}{k:Nat}{t:jf}{n:Nat}{pos:y}(hc:X.calm=θ)(h:ij X es t)
  (hn:↑(assignEach es X.env)=n:=by rfl) (f9:(assignEach es X.env).findIdx? (·.1)=Z:=by rfl):JG X (.Tuple es k pos) (N3 X.K n t):=by
 calc⟨?_⟩;ext pins s σ H v u Q I r hw;let⟨a,xs,e1,hq,hl,hw⟩:=hw;subst e1;cases r
 let⟨ah,rv,ht,hz⟩:=I.list hq;let hlen:=↑rv;rw[assign_Tuple];calc lK (Z4 ?_);unfold unpack;rw[f9,show↑(assignEach es X.env)=ah.toArray.size by rw[hn,<-hl,hlen];simp];calc lK (XI (NZ (I.ok.hd hc) ht.isList λh' tk kp=>?_));let I1:Inv X pins σ H {s with heap:=h',toks:=tk}:=I.kept λb o e=>kp b o (Xg (EC e)) e;calc h pins _ σ H xs _ Q I1 rv⁻¹ hw
theorem N5:o8 X "dict.setdefault" (λx vs H Q=>∃(d:O)(kvs:-(Key×V))(k:Key)(dv:V),x=.ref d/\vs=[kV k,dv]/\H d=U (.dK kvs)/\↑kvs<sizeLine/\(∀v,bF kvs k=U v->Q v H)/\(bF kvs k=Z->Q dv (upd H d (.dK (putK kvs k dv))))):=by
 ext pins s σ H x xs v us Q I rx rv h;let⟨d,kvs,k,dv,rfl,rfl,hd,hz,q1,q2⟩:=h;cases rx
 cases rv with
 |cons rk rr =>
  cases rr with
  |cons rd rn =>
   cases rn
   rename_i uk ud;let⟨z,lo,vs,rel,dd⟩:=vY I.aH hd;let rl:=rel.val k;refine call_meetsIn q0M dd.typeIs PySem.F.entry_dict_setdefault (PySem.F.args_dict_setdefault_3 _ _ _) (PySem.kt_meets_setdefault (gi X.prog X.w) d (vX rk) lo ud) ⟨vs,dd,by rw[<-↑rel];calc z,λv hv=>?_,λhn h' pB hs=>?_⟩
   .rw[hv] at rl
    cases e:bF kvs k with
    |none=>rw[e] at rl;exact rl.elim
    |some y =>
     rw[e] at rl;exact⟨y,H,I.tok _,rl,q1 y e⟩
   .rw[hn] at rl
    cases e:bF kvs k with
    |some y=>rw[e] at rl;exact rl.elim
    |none =>
     let he:∃q,h'.get? d=U q:=let⟨q,_,_,hq,_⟩:=pB;⟨q,hq⟩;let hl:=zK kvs k dv;calc⟨dv,_,zN (t':=s.toks+1) I (by rw[hd];calc Zw) hs he (Fj ⋯ lo (rel.put k rd) pB),rd,q2 e⟩
noncomputable def gw(v d:O):HO:=.ext λh=>h.IsValuesView v d
theorem N6:o8 X "dict.values" (λx vs H Q=>∃(d:O)(kvs:-(Key×V)),x=.ref d/\vs=[]/\H d=U (.dK kvs)/\∀r,H r=Z->Q (.ref r) (upd H r (gw r d))):=by
 ext pins s σ H x xs v us Q I rx rv h;let⟨d,kvs,rfl,rfl,hd,q⟩:=h;cases rx
 cases rv
 let⟨z,lo,vs,rel,dd⟩:=vY I.aH hd;calc call_meetsIn q1n dd.typeIs PySem.F.entry_dict_values (PySem.F.args_dict_values_1 _) (meets_dict_values (gi X.prog X.w) d lo) ⟨⟨vs,dd⟩,?_⟩;let e:(s.heap.push {cls:=.type "dict_values",data:=.fields #[.ref d]}).IsValuesView ⇑s d:=⟨_,My _ Y,Y,Y⟩;calc⟨.ref ⇑s,_,I.laid (t':=s.toks) (o:=gw ⇑s d) (λb o e=>pf _ e) (vQ _) ⟨e,⟨_,My _ Y⟩,λh1 h2 ⟨o,ho,r⟩ k↦⟨o,k o ho,r⟩⟩,Y,q _ (I.aH.fresh (vQ _))⟩
theorem FJ:∀{kvs:-(Key×V)}{vs:-(Key×J)},KV kvs vs->Vals (kvs.map (·.2)) (vs.map (·.2))
 |[],_,.nil=>.nil
 |_::_,_,.cons r rs=>.cons r.2 (FJ rs)
theorem N7(hc:X.calm=θ):f_ X (.type "list") (λxs H Q=>∃(r d:O)(kvs:-(Key×V)),xs=[.ref r]/\H r=U (gw r d)/\H d=U (.dK kvs)/\∀l,H l=Z->Q (.ref l) (upd H l (.lst (kvs.map (·.2))))):=by
 ext pins s σ H xs us Q I r' h;let⟨r,d,kvs,rfl,hr,hd,q⟩:=h;let⟨u,rfl,rx⟩:=vals1 r';cases rx
 let⟨iv,_⟩:=I.aH r _ hr;let⟨z,lo,vs,rel,dd⟩:=vY I.aH hd;let⟨o,es,ep,ho,rest⟩:=dd;let da:s.heap.DictAt (gi X.prog X.w) d vs ep:=⟨o,es,ho,rest⟩;let lv:=↑rel;calc PySem.W.kdl_call (PySem.W.kdl_values (r:=r) (d:=d) (kvs:=vs) (ep:=ep) (knd:=gi X.prog X.w)) (I.ok.hd hc) ⟨iv,da⟩ ⋯ λh' tk acc c' kp e' it=>?_;let ea:acc.toList=vs.map (·.2):=PySem.W.kdl_vals_eq acc.toList (by rw[Mx];calc it.1) λj v e=>it.2 j v (by rw[<-Xp];calc e);calc⟨.ref ⇑s,_,I.laid (t':=tk) (o:=.lst (kvs.map (·.2))) kp (vQ _) ?_,Y,q _ (I.aH.fresh (vQ _))⟩;calc⟨by rw[qJ];calc z,acc.toList,c',by rw[ea];calc FJ rel,by simpa using e'⟩
end
theorem N8(ah:-J):slicePick ah.toArray Z Z (U (-1))=ah.reverse.toArray:=by
 unfold slicePick;congr 1
 let e:sliceBounds Z Z (U (-1)) ah.toArray.size=((↑ah:Int)-1,-1,-1):=by
  unfold sliceBounds;simp
 rw[e];unfold sliceRange;simp only
 let ec:(if(-1:Int)>0 then(if(↑ah:Int)-1 < -1 then(-1-((↑ah:Int)-1) + -1-1) / -1 else 0) else(if(↑ah:Int)-1 > -1 then((↑ah:Int)-1 - -1 - -1-1) / (-( -1:Int)) else 0))=(↑ah:Int):=by
  rw[VR (by decide)];split
  .rw[show(-( -1:Int):Int)=1 by decide,q27];symm
  .omega
 rw[ec,YM];rw[q0V]
 let hc:∀(n:Nat),(∀k∈Xy n,k<↑ah)->(Xy n).filterMap ((λk:Nat=>ah.toArray[k]?)∘λk:Nat=>((↑ah:Int)-1 + -1*(k:Int)).toNat)=(Xy n).map λk=>ah.getD (↑ah-1-k) .none:=by
  ext n hn;generalize hr:Xy n=l at hn;clear hr
  induction l with
  |nil=>rfl
  |cons k l ih =>
   let hk:=hn k (Mv ..);let e1:((↑ah:Int)-1 + -1*(k:Int)).toNat=↑ah-1-k:=by symm
   let hl:↑ah-1-k<↑ah:=by symm
   rw[List.filterMap_cons_some (b:=ah.getD (↑ah-1-k) .none),Xl,ih λx hx=>hn x (Mu _ hx)];show ah.toArray[((↑ah:Int)-1 + -1*(k:Int)).toNat]?=_;rw[e1,Yv,pj hl,VP,pj hl];rfl
 rw[hc ↑ah λk hk=>XC.mp hk];calc List.ext_getElem (by simp) λi h1 h2=>?_;rw[ZX,List.getElem_range,List.getElem_reverse];let hi:i<↑ah:=by simpa using h1
 rw[VP,pj ⋯];rfl
section
variable{X:Cx}{e:B}{te:TE}{pos p2 p3 p4:y}
theorem zU:∀{xs:-V}{us:-J},Vals xs us->Vals xs.reverse us.reverse
 |[],_,.nil=>.nil
 |x::xs,_,.cons r rs=>by
  rw[q0t,q0t];calc Vals.append (zU rs) (.cons r .nil)
end
inductive DV where
 |p (d:D)|o (k:Nat)|t (d:D) (k:Nat)
inductive OV where
 |lst (ds:-D)|dct (kvs:-(Key×D))|dtt (kvs:-(-Int×Int))
structure aw where
 sl:-(Option DV)
 mu:-(Option OV)
def eK(F:Hp):-(Key×D)->-(Key×V)->Prop
 |[],ws=>ws=[]
 |kd::r,ws=>∃v t,ws=(kd.1,v)::t/\Is F kd.2 v/\eK F r t
def eW(F:Hp):OV->HO->Prop
 |.lst ds,o=>∃vs,o=.lst vs/\ae F ds vs
 |.dct kvs,o=>∃ws,o=.dK ws/\eK F kvs ws
 |.dtt kvs,o=>o=.dT (kvs.map λp=>(p.1.map ZK,V.int p.2))
theorem eK.same{F F':Hp}(s:ar F F'):∀{fh:-(Key×D)}{ws:-(Key×V)},eK F fh ws->eK F' fh ws
 |[],_,h=>h
 |_::_,_,⟨v,t,e,h1,h2⟩=>⟨v,t,e,h1.same s,eK.same s h2⟩
theorem eW.same{F F':Hp}(s:ar F F'):∀{ov:OV}{o:HO},eW F ov o->eW F' ov o
 |.lst _,_,⟨vs,e,h⟩=>⟨vs,e,h.same s⟩
 |.dct _,_,⟨ws,e,h⟩=>⟨ws,e,h.same s⟩
 |.dtt _,_,e=>e
def df(F:Hp)(ad:-O):DV->V->Prop
 |.p d,v=>Is F d v
 |.o k,v=>∃a,ad[k]?=U a/\v=.ref a
 |.t d k,v=>∃a b u,v=.ref a/\F a=U (.tup [u,.ref b])/\Is F d u/\ad[k]?=U b
def Lv(ad:-O)(mu:-(Option OV))(a:O):Prop:=∃(k:Nat)(ov:OV),ad[k]?=U a/\mu[k]?=U (U ov)
class ay where
 ad:-O
 ok:Hp->Prop
 same:∀{H H':Hp},ok H->ar H H'->ok H'
 put:∀{H:Hp}{a:O}{o o':HO},ok H->H a=U o->((∃vs,o=.lst vs)\/(∃ws,o=.dK ws)\/∃ws,o=.dT ws)->ok (upd H a o')
 tb:∀{H:Hp}{a:O},ok H->a∈ad->∃ps,H a=U (.tbl ps)
theorem eW.kind{F:Hp}:∀{ov:OV}{o:HO},eW F ov o->(∃vs,o=.lst vs)\/(∃ws,o=.dK ws)\/∃ws,o=.dT ws
 |.lst _,_,⟨vs,e,_⟩=>.inl ⟨vs,e⟩
 |.dct _,_,⟨ws,e,_⟩=>.inr (.inl ⟨ws,e⟩)
 |.dtt _,_,e=>.inr (.inr ⟨_,e⟩)
variable[ay]
structure SR(F:Hp)(ad:-O)(δ:aw)(σ:St)(H:Hp):Prop where
 sub:ar F H
 off:∀a,Lv ad δ.mu a->F a=Z
 cf:↑ad=↑δ.mu
 inj:∀(k l:Nat)(a:O)(ov ow:OV),ad[k]?=U a->ad[l]?=U a->δ.mu[k]?=U (U ov)->δ.mu[l]?=U (U ow)->k=l
 mu:∀(k:Nat)(ov:OV),δ.mu[k]?=U (U ov)->∃a o,ad[k]?=U a/\H a=U o/\eW F ov o
 sl:∀(i:Nat)(x:DV),δ.sl[i]?=U (U x)->∃v,σ[i]?=U (U v)/\df F ad x v
 len:↑σ=↑δ.sl
 tab:ay.ok H
 nt:∀a∈ay.ad,F a=Z
structure Ext(F:Hp)(ad:-O)(mu:-(Option OV))(H:Hp)(F':Hp)(au:-O)(dg:-(Option OV))(H':Hp):Prop where
 same:ar F F'
 new:∀a o,F' a=U o->F a=U o\/H a=Z\/Lv ad mu a
 keep:∀a o,H a=U o->¬ Lv ad mu a->a∉ay.ad->H' a=U o
 pre:∀(k:Nat)(a:O),ad[k]?=U a->au[k]?=U a
 bN:∀a,Lv au dg a->Lv ad mu a\/H a=Z
 gx:∀a o,H a=U o->∃o',H' a=U o'
section
variable{F F' FK H H' nW:Hp}{ad au t7:-O}{mu dg t8:-(Option OV)}{δ:aw}{σ:St}
theorem bT{H:Hp}{a:O}{o:HO}(h:H a=Z):ar H (upd H a o):=λb u e=>by rw[aC (bD e h)];calc e
theorem Ext.refl:Ext F ad mu H F ad mu H:=⟨λ_ _ e=>e,λ_ _ e=>.inl e,λ_ _ e _ _=>e,λ_ _ e=>e,λ_ e=>.inl e,λ_ o e=>⟨o,e⟩⟩
theorem Ext.trans(x:Ext F ad mu H F' au dg H')(y:Ext F' au dg H' FK t7 t8 nW):Ext F ad mu H FK t7 t8 nW where
 same:=x.same.trans y.same
 new:=λa o e=>by
  rcases y.new a o e with h|h|h
  .exact x.new a o h
  .refine .inr (.inl ?_)
   cases q:H a with
   |none=>rfl
   |some u=>let⟨u',h'⟩:=x.gx a u q;rw[h] at h';cases h'
  .rcases x.bN a h with h|h
   .exact .inr (.inr h)
   .exact .inr (.inl h)
 keep:=λa o e n t=>y.keep a o (x.keep a o e n t) (λl=>by
  rcases x.bN a l with h|h
  .exact n h
  .rw[e] at h;cases h) t
 pre:=λk a e=>y.pre k a (x.pre k a e)
 bN:=λa l=>by
  rcases y.bN a l with h|h
  .exact x.bN a h
  .refine .inr ?_
   cases q:H a with
   |none=>rfl
   |some u=>let⟨u',h'⟩:=x.gx a u q;rw[h] at h';cases h'
 gx:=λa o e=>let⟨o1,e1⟩:=x.gx a o e;y.gx a o1 e1
theorem df.ext{x:DV}{v:V}(h:df F ad x v)(e:Ext F ad mu H F' au dg H'):df F' au x v:=by
 cases x with
 |p d=>exact Is.same e.same h
 |o k=>let⟨a,h1,h2⟩:=h;exact⟨a,e.pre k a h1,h2⟩
 |t d k=>let⟨a,b,u,h1,h2,h3,h4⟩:=h;calc⟨a,b,u,h1,e.same _ _ h2,h3.same e.same,e.pre k b h4⟩
theorem df.same{x:DV}{v:V}(h:df F ad x v)(s:ar F F'):df F' ad x v:=by
 cases x with
 |p d=>exact Is.same s h
 |o k=>exact h
 |t d k=>let⟨a,b,u,h1,h2,h3,h4⟩:=h;calc⟨a,b,u,h1,s _ _ h2,h3.same s,h4⟩
theorem df.pre{bZ:-O}{x:DV}{v:V}(h:df F ad x v)(s:∀k a,ad[k]?=U a->x=.o k\/(∃d,x=.t d k)->bZ[k]?=U a):df F bZ x v:=by
 cases x with
 |p d=>exact h
 |o k=>let⟨a,h1,h2⟩:=h;exact⟨a,s k a h1 (.inl Y),h2⟩
 |t d k=>let⟨a,b,u,h1,h2,h3,h4⟩:=h;calc⟨a,b,u,h1,h2,h3,s k b h4 (.inr ⟨d,Y⟩)⟩
noncomputable def Nw(F H H':Hp):Hp:=λa=>match H a with
 |none=>H' a
 |some _=>F a
theorem Nw.same(s:ar F H):ar F (Nw F H H'):=λa o e=>by
 unfold Nw;rw[s a o e];calc e
theorem Nw.sub(s:ar F H)(k:ar H H'):ar (Nw F H H') H':=λa o e=>by
 unfold Nw at e
 cases q:H a with
 |none=>rw[q] at e;exact e
 |some u=>rw[q] at e;calc k a o (s a o e)
theorem Nw.upd{p:O}{o:HO}(s:ar F H)(hp:H p=Z):Nw F H (upd H p o)=upd F p o:=by
 funext a;unfold Nw L2.upd
 by_cases c:a=p
 .subst c;rw[hp,Xa Y];simp
 .rw[VR c,VR c]
  cases q:H a with
  |none =>
   cases q2:F a with
   |none=>rfl
   |some u=>rw[s a u q2] at q;cases q
  |some u=>rfl
theorem Nw.refl(s:ar F H):Nw F H H=F:=by
 funext a;unfold Nw
 cases q:H a with
 |none =>
  cases q2:F a with
  |none=>rfl
  |some u=>rw[s a u q2] at q;cases q
 |some u=>rfl
theorem SR.al(S:SR F ad δ σ H)(k:ar H H'):SR (Nw F H H') ad δ σ H':=by
 let sm:=Nw.same (H':=H') S.sub;refine⟨Nw.sub S.sub k,λa l=>?_,S.cf,S.inj,λi ov e=>?_,λi x e=>?_,S.len,ay.same S.tab k,λa ha=>by let⟨ps,q⟩:=ay.tb S.tab ha;unfold Nw;rw[q];calc S.nt a ha⟩
 .let⟨i,ov,e1,e2⟩:=l
  let⟨a',o,e3,e4,_⟩:=S.mu i ov e2;rw[e1] at e3;cases e3;unfold Nw;rw[e4];exact S.off a ⟨i,ov,e1,e2⟩
 .let⟨a,o,e1,e2,h⟩:=S.mu i ov e
  exact⟨a,o,e1,k a o e2,h.same sm⟩
 .let⟨v,e1,h⟩:=S.sl i x e
  calc⟨v,e1,h.same sm⟩
theorem Ext.al(S:SR F ad δ σ H)(k:ar H H'):Ext F ad δ.mu H (Nw F H H') ad δ.mu H' where
 same:=Nw.same S.sub
 new:=λa o e=>by
  unfold Nw at e
  cases q:H a with
  |none=>exact .inr (.inl Y)
  |some u=>rw[q] at e;exact .inl e
 keep:=λa o e _ _=>k a o e
 pre:=λ_ _ e=>e
 bN:=λ_ l=>.inl l
 gx:=λa o e=>⟨o,k a o e⟩
theorem SR.own{p:O}{o:HO}{ov:OV}(S:SR F ad δ σ H)(hp:H p=Z)(h:eW F ov o):SR F (ad++[p]) ⟨δ.sl,δ.mu++[U ov]⟩ σ (upd H p o):=by
 let old:∀{k:Nat}{w:OV},(δ.mu++[U ov])[k]?=U (U w)->(k<↑δ.mu/\δ.mu[k]?=U (U w))\/(k=↑δ.mu/\w=ov):=λ{k w} e=>by
  by_cases c:k<↑δ.mu
  .rw[W6 c] at e;exact .inl ⟨c,e⟩
  .let hl:=(ph.mp e).1
   rw[EB,Xx] at hl;let ek:k=↑δ.mu:=by symm
   subst ek;rw[W8 (vQ _),Yl] at e;exact .inr ⟨Y,by simpa using e.symm⟩
 let pre:∀{k:Nat},k<↑δ.mu->(ad++[p])[k]?=ad[k]?:=λ{k} c=>W6 (by rw[S.cf];calc c);let last:(ad++[p])[↑δ.mu]?=U p:=by rw[<-S.cf,W8 (vQ _),Yl];rfl
 let np:∀{k:Nat}{a:O}{w:OV},ad[k]?=U a->δ.mu[k]?=U (U w)->a≠p:=λ{k a w} e1 e2=>by
  let⟨a',u,e3,e4,_⟩:=S.mu k w e2;rw[e1] at e3;cases e3;exact bD e4 hp
 refine⟨λa u e=>?_,λa l=>?_,by rw[EB,EB,S.cf];rfl,λk l a w w' e1 e2 e3 e4=>?_,λk w e=>?_,λi x e=>?_,S.len,ay.same S.tab (bT hp),S.nt⟩
 .let:=S.sub a u e
  rw[aC (bD this hp)];exact this
 .let⟨k,w,e1,e2⟩:=l
  rcases old e2 with⟨c,e3⟩|⟨c,e3⟩
  .rw[pre c] at e1;exact S.off a ⟨k,w,e1,e3⟩
  .subst c;rw[last] at e1;cases e1
   cases q:F p with
   |none=>rfl
   |some u=>rw[S.sub p u q] at hp;cases hp
 .rcases old e3 with⟨c,q⟩|⟨c,q⟩
  .rw[pre c] at e1
   rcases old e4 with⟨c',q'⟩|⟨c',q'⟩
   .rw[pre c'] at e2;exact S.inj k l a w w' e1 e2 q q'
   .subst c';rw[last] at e2;cases e2;exact absurd Y (np e1 q)
  .subst c;rw[last] at e1;cases e1
   rcases old e4 with⟨c',q'⟩|⟨c',q'⟩
   .rw[pre c'] at e2;exact absurd Y (np e2 q')
   .exact c'.symm
 .rcases old e with⟨c,q⟩|⟨c,q⟩
  .let⟨a,u,e1,e2,h'⟩:=S.mu k w q
   exact⟨a,u,by rw[pre c];calc e1,by rw[aC (np e1 q)];calc e2,h'⟩
  .subst c;subst q;exact⟨p,o,last,aY,h⟩
 .let⟨v,e1,h'⟩:=S.sl i x e
  calc⟨v,e1,h'.pre λk a e2 _=>by rw[W6 (ph.mp e2).1];calc e2⟩
theorem Ext.own{p:O}{o:HO}{ov:OV}(S:SR F ad δ σ H)(hp:H p=Z):Ext F ad δ.mu H F (ad++[p]) (δ.mu++[U ov]) (upd H p o) where
 same:=λ_ _ e=>e
 new:=λ_ _ e=>.inl e
 keep:=λa u e _ _=>by rw[aC (bD e hp)];exact e
 pre:=λk a e=>by rw[W6 (ph.mp e).1];exact e
 bN:=λa l=>by
  let⟨k,w,e1,e2⟩:=l
  by_cases c:k<↑δ.mu
  .rw[W6 c] at e2
   rw[W6 (by rw[S.cf];calc c)] at e1;exact .inl ⟨k,w,e1,e2⟩
  .let hl:=(ph.mp e2).1
   rw[EB,Xx] at hl;let ek:k=↑ad:=by rw[S.cf];symm
   subst ek;rw[W8 (vQ _),Yl] at e1;let:p=a:=by simpa using e1
   subst this;exact .inr hp
 gx:=λa u e=>⟨u,by rw[aC (bD e hp)];calc e⟩
theorem SR.put{k:Nat}{a:O}{o:HO}{ov ow:OV}(S:SR F ad δ σ H)(hk:δ.mu[k]?=U (U ow))(ha:ad[k]?=U a)(h:eW F ov o):SR F ad ⟨δ.sl,δ.mu.set k (U ov)⟩ σ (upd H a o):=by
 let kl:=(ph.mp hk).1
 let old:∀{l:Nat}{w:OV},(δ.mu.set k (U ov))[l]?=U (U w)->(l≠k/\δ.mu[l]?=U (U w))\/(l=k/\w=ov):=λ{l w} e=>by
  by_cases c:k=l
  .subst c;rw[Xz kl] at e;exact .inr ⟨Y,by simpa using e.symm⟩
  .rw[XG c] at e;exact .inl ⟨λz=>c z.symm,e⟩
 let lv:∀{l:Nat}{w:OV}{b:O},ad[l]?=U b->(δ.mu.set k (U ov))[l]?=U (U w)->Lv ad δ.mu b:=λ{l w b} e1 e2=>by
  rcases old e2 with⟨_,q⟩|⟨c,_⟩
  .exact⟨l,w,e1,q⟩
  .subst c;exact⟨l,ow,e1,hk⟩
 let tk:ay.ok (upd H a o):=by
  let⟨a',u,e1,e2,h'⟩:=S.mu k ow hk;rw[ha] at e1;cases e1;exact ay.put S.tab e2 h'.kind
 refine⟨λb u e=>?_,λb l=>?_,by rw[Yn];calc S.cf,λl l' b w w' e1 e2 e3 e4=>?_,λl w e=>?_,λi x e=>?_,S.len,tk,S.nt⟩
 .let nb:b≠a:=λz=>by
   subst z;rw[S.off b ⟨k,ow,ha,hk⟩] at e;cases e
  rw[aC nb];exact S.sub b u e
 .let⟨l,w,e1,e2⟩:=l
  exact S.off b (lv e1 e2)
 .let h1:∃w,δ.mu[l]?=U (U w):=by
   rcases old e3 with⟨_,q⟩|⟨c,_⟩
   .exact⟨_,q⟩
   .subst c;exact⟨_,hk⟩
  let h2:∃w,δ.mu[l']?=U (U w):=by
   rcases old e4 with⟨_,q⟩|⟨c,_⟩
   .exact⟨_,q⟩
   .subst c;exact⟨_,hk⟩
  let⟨w1,q1⟩:=h1;let⟨w2,q2⟩:=h2;exact S.inj l l' b _ _ e1 e2 q1 q2
 .rcases old e with⟨c,q⟩|⟨c,q⟩
  .let⟨b,u,e1,e2,h'⟩:=S.mu l w q
   let nb:b≠a:=λz=>by subst z;exact c (S.inj l k b _ _ e1 ha q hk)
   exact⟨b,u,e1,by rw[aC nb];calc e2,h'⟩
  .subst c;subst q;exact⟨a,o,ha,aY,h⟩
 .calc S.sl i x e
theorem Ext.put{k:Nat}{a:O}{o:HO}{ov ow:OV}(S:SR F ad δ σ H)(hk:δ.mu[k]?=U (U ow))(ha:ad[k]?=U a):Ext F ad δ.mu H F ad (δ.mu.set k (U ov)) (upd H a o) where
 same:=λ_ _ e=>e
 new:=λ_ _ e=>.inl e
 keep:=λb u e n _=>by rw[aC λz=>n (by subst z;calc⟨k,ow,ha,hk⟩)];exact e
 pre:=λ_ _ e=>e
 bN:=λb l=>by
  let⟨l,w,e1,e2⟩:=l
  by_cases c:k=l
  .subst c;exact .inl ⟨k,ow,e1,hk⟩
  .rw[XG c] at e2;exact .inl ⟨l,w,e1,e2⟩
 gx:=λb u e=>by
  by_cases c:b=a
  .subst c;exact⟨o,aY⟩
  .calc⟨u,by rw[aC c];calc e⟩
theorem SR.fix{k:Nat}{a:O}{o:HO}{ow:OV}(S:SR F ad δ σ H)(hk:δ.mu[k]?=U (U ow))(ha:ad[k]?=U a)(ho:H a=U o):SR (upd F a o) ad ⟨δ.sl,δ.mu.set k Z⟩ σ H:=by
 let kl:=(ph.mp hk).1;let fa:=S.off a ⟨k,ow,ha,hk⟩;let sm:ar F (upd F a o):=λb u e=>by rw[aC (bD e fa)];exact e
 let old:∀{l:Nat}{w:OV},(δ.mu.set k Z)[l]?=U (U w)->l≠k/\δ.mu[l]?=U (U w):=λ{l w} e=>by
  by_cases c:k=l
  .subst c;rw[Xz kl] at e;cases e
  .rw[XG c] at e;exact⟨λz=>c z.symm,e⟩
 refine⟨λb u e=>?_,λb l=>?_,by rw[Yn];calc S.cf,λl l' b w w' e1 e2 e3 e4=>S.inj l l' b w w' e1 e2 (old e3).2 (old e4).2,λl w e=>?_,λi x e=>?_,S.len,S.tab,λb hb=>?_⟩
 .by_cases c:b=a
  .subst c;rw[aY] at e;cases e;exact ho
  .rw[aC c] at e;exact S.sub b u e
 .let⟨l,w,e1,e2⟩:=l
  let⟨c,q⟩:=old e2;let nb:b≠a:=λz=>by subst z;exact c (S.inj l k b _ _ e1 ha q hk)
  rw[aC nb];exact S.off b ⟨l,w,e1,q⟩
 .let⟨b,u,e1,e2,h'⟩:=S.mu l w (old e).2
  exact⟨b,u,e1,e2,h'.same sm⟩
 .let⟨v,e1,h'⟩:=S.sl i x e
  exact⟨v,e1,h'.same sm⟩
 .let⟨ps,q⟩:=ay.tb S.tab hb
  let nb:b≠a:=λz=>by
   subst z;let⟨a',u,e1,e2,h'⟩:=S.mu k ow hk;rw[ha] at e1;cases e1;rw[q] at e2;cases e2;rcases h'.kind with⟨_,z⟩|⟨_,z⟩|⟨_,z⟩<;>cases z
  rw[aC nb];calc S.nt b hb
theorem Ext.fix{k:Nat}{a:O}{o:HO}{ow:OV}(S:SR F ad δ σ H)(hk:δ.mu[k]?=U (U ow))(ha:ad[k]?=U a):Ext F ad δ.mu H (upd F a o) ad (δ.mu.set k Z) H where
 same:=λb u e=>by rw[aC (bD e (S.off a ⟨k,ow,ha,hk⟩))];exact e
 new:=λb u e=>by
  by_cases c:b=a
  .subst c;exact .inr (.inr ⟨k,ow,ha,hk⟩)
  .rw[aC c] at e;exact .inl e
 keep:=λb u e _ _=>e
 pre:=λ_ _ e=>e
 bN:=λb l=>by
  let⟨l,w,e1,e2⟩:=l
  by_cases c:k=l
  .subst c;rw[Xz (ph.mp hk).1] at e2;cases e2
  .rw[XG c] at e2;exact .inl ⟨l,w,e1,e2⟩
 gx:=λb u e=>⟨u,e⟩
theorem SR.set{i:Nat}{x:DV}{v:V}(S:SR F ad δ σ H)(h:df F ad x v):SR F ad ⟨δ.sl.set i (U x),δ.mu⟩ (σ.set i (U v)) H:=by
 refine⟨S.sub,S.off,S.cf,S.inj,S.mu,λj y e=>?_,by rw[Yn,Yn];calc S.len,S.tab,S.nt⟩
 by_cases c:i=j
 .subst c
  let hl:=(ph.mp e).1;rw[Yn] at hl;rw[Xz hl] at e;cases e
  exact⟨v,Xz (by rw[S.len];calc hl),h⟩
 .rw[XG c] at e
  let⟨w,e1,h1⟩:=S.sl j y e;calc⟨w,by rw[XG c];calc e1,h1⟩
end
abbrev WE:=aw->(DV->aw->Prop)->Prop
abbrev WA:=aw->(-DV->aw->Prop)->Prop
abbrev WT:=aw->(Bool->aw->Prop)->Prop
def cV(F:Hp)(ad:-O):-DV->-V->Prop
 |[],vs=>vs=[]
 |x::xs,vs=>∃v r,vs=v::r/\df F ad x v/\cV F ad xs r
theorem cV.ext{F F' H H':Hp}{ad au:-O}{mu dg:-(Option OV)}(e:Ext F ad mu H F' au dg H'):∀{xs:-DV}{vs:-V},cV F ad xs vs->cV F' au xs vs
 |[],_,h=>h
 |_::_,_,⟨v,r,q,h1,h2⟩=>⟨v,r,q,h1.ext e,cV.ext e h2⟩
def tD(f:WE):TE:=fun σ H Q=>∃F ad δ K,SR F ad δ σ H/\f δ K/\∀x δ',K x δ'->∀v F' au H',Ext F ad δ.mu H F' au δ'.mu H'->SR F' au δ' σ H'->df F' au x v->Q v H'
def bH(f:WA):TA:=fun σ H Q=>∃F ad δ K,SR F ad δ σ H/\f δ K/\∀xs δ',K xs δ'->∀vs F' au H',Ext F ad δ.mu H F' au δ'.mu H'->SR F' au δ' σ H'->cV F' au xs vs->Q vs H'
def cg(f:WT):TT:=fun σ H Q=>∃F ad δ K,SR F ad δ σ H/\f δ K/\∀b δ',K b δ'->∀F' au H',Ext F ad δ.mu H F' au δ'.mu H'->SR F' au δ' σ H'->Q b H'
def fU(F H:Hp):D->V->Prop
 |.lst ds,v=>∃a vs,v=.ref a/\H a=U (.lst vs)/\ae F ds vs
 |d,v=>Is F d v
def gc(x:DV)(δ:aw)(K:D->Prop):Prop:=match x with
 |.p d=>K d
 |.o k=>match δ.mu[k]? with
  |some (some (.lst ds))=>K (.lst ds)
  |_=>False
 |.t _ _=>False
theorem fU.of{F H:Hp}(s:ar F H):∀{d:D}{v:V},Is F d v->fU F H d v
 |.lst _,_,h=>by
  erw[Is] at h;let⟨a,vs,e,h1,h2⟩:=h;exact⟨a,vs,e,s _ _ h1,h2⟩
 |.tup _,_,h=>h
 |.non,_,h=>h
 |.bl _,_,h=>h
 |.int _,_,h=>h
 |.str _,_,h=>h
theorem fU.is{F H:Hp}(s:ar F H):∀{d:D}{v:V},fU F H d v->Is H d v
 |.lst _,_,h=>by
  let⟨a,vs,e,h1,h2⟩:=h;erw[Is];exact⟨a,vs,e,h1,h2.same s⟩
 |.tup _,_,h=>Is.same s h
 |.non,_,h=>Is.same s h
 |.bl _,_,h=>Is.same s h
 |.int _,_,h=>Is.same s h
 |.str _,_,h=>Is.same s h
theorem iy{F H:Hp}{ad:-O}{δ:aw}{σ:St}{x:DV}{v:V}{K:D->Prop}(S:SR F ad δ σ H)(hv:df F ad x v)(h:gc x δ K):∃d,K d/\fU F H d v:=by
 cases x with
 |p d=>exact⟨d,h,fU.of S.sub hv⟩
 |o k =>
  unfold gc at h;dsimp only at h;split at h
  .rename_i ds e
   let⟨a,e1,rfl⟩:=hv;let⟨a',o,e2,e3,vs,rfl,h4⟩:=S.mu k _ e;rw[e1] at e2;cases e2;exact⟨_,h,a,vs,Y,e3,h4⟩
  .exact h.elim
 |t _ _=>calc h.elim
def lP:-DV->aw->(-D->Prop)->Prop
 |[],_,K=>K []
 |x::xs,δ,K=>gc x δ λd=>lP xs δ λds=>K (d::ds)
def iR(F H:Hp):-D->-V->Prop
 |[],vs=>vs=[]
 |d::ds,vs=>∃v r,vs=v::r/\fU F H d v/\iR F H ds r
theorem zV{F H:Hp}{ad:-O}{δ:aw}{σ:St}(S:SR F ad δ σ H):∀{xs:-DV}{vs:-V}{K:-D->Prop},cV F ad xs vs->lP xs δ K->∃ds,K ds/\iR F H ds vs
 |[],_,_,hv,h=>⟨[],h,hv⟩
 |x::xs,_,_,⟨v,r,rfl,h1,h2⟩,h=>by
  let⟨d,h',rd⟩:=iy S h1 h;let⟨ds,qR,t9⟩:=zV S h2 h';calc⟨d::ds,qR,v,r,Y,rd,t9⟩
abbrev Made(F H:Hp)(K:D->Prop)(Q:VK):Prop:=∀z v H',K z->ar H H'->Is (Nw F H H') z v->Q v H'
def eE(X:Cx)(f:J->J->Sem J)(g:D->D->(D->Prop)->Prop):Prop :=
 de X f λx y H Q=>∃F d e K,ar F H/\fU F H d x/\fU F H e y/\g d e K/\Made F H K Q
def FL(X:Cx)(g:D->D->(D->Prop)->Prop):Prop :=
 sW X λx y H Q=>∃F d e K,ar F H/\fU F H d x/\fU F H e y/\g d e K/\Made F H K Q
def cO(X:Cx)(f:J)(g:-D->(D->Prop)->Prop):Prop :=
 f_ X f λxs H Q=>∃F ds K,ar F H/\iR F H ds xs/\g ds K/\Made F H K Q
def d2(f g:WE)(op:D->D->(D->Prop)->Prop):WE:=fun δ K=>f δ λx δ1=>g δ1 λy δ2=>gc x δ2 λd=>gc y δ2 λe=>op d e λz=>K (.p z) δ2
def d1(f:WE)(op:D->(D->Prop)->Prop):WE:=fun δ K=>f δ λx δ1=>gc x δ1 λd=>op d λz=>K (.p z) δ1
def dN(f:WA)(op:-D->(D->Prop)->Prop):WE:=fun δ K=>f δ λxs δ1=>lP xs δ1 λds=>op ds λz=>K (.p z) δ1
def dC(d:D):WE:=fun δ K=>K (.p d) δ
def aa(i:Nat):WE:=fun δ K=>match δ.sl[i]? with
 |some (some x)=>K x δ
 |_=>False
def af:WA:=fun δ K=>K [] δ
def ag(f:WE)(g:WA):WA:=fun δ K=>f δ λx δ1=>g δ1 λxs δ2=>K (x::xs) δ2
section
variable{X:Cx}{a b c:B}{f g h:WE}{fa:WA}{pos:y}
theorem t_{e:B}{d:D}{v:V}(h:JE X e (tC v))(hi:∀F,Is F d v):JE X e (tD (dC d)):=h.weak fun σ H Q h0_=>el7 h0_ λF ad δ K S q k =>k _ _ q _ _ _ _ .refl S (hi F)
theorem dh{i j pos}:JE X (.Constant (.int i) j pos) (tD (dC (.int i))):=t_ jG λ_=>Y
theorem qS{i j pos}:JE X (.Constant (.bool i) j pos) (tD (dC (.bl i))):=t_ yg λ_=>Y
theorem qT{j pos}:JE X (.Constant .none j pos) (tD (dC .non)):=t_ Kz λ_=>Y
theorem zW{x j pos}:JE X (.Constant (.str x) j pos) (tD (dC (.str x))):=t_ si λ_=>Y
theorem N9{x:R}{i:Int}{u:J}{pos:y}(hg:Gl X x)(hm:X.mg x=U u)(r:RelV (.int i) u)(hd:bf x:=by decide):JE X (.Name x pos) (tD (dC (.int i))):=t_ (qA hg hm r hd) λ_=>Y
theorem dv(i:Nat){x:R}{pos:y}(hN:X.N[i]?=U x:=by rfl)(hv:qv X.env.scope x:=by first|exact ZN Y|exact q3n (ZN Y)|calc q3n (q3n Y))
  (hd:bf x:=by decide) (fE:(x==("__classdict__" : R))=ι:=by decide):JE X (.Name x pos) (tD (aa i)) :=
 (DP hN hv hd fE).weak fun σ H Q h0_=>el7 h0_ λF ad δ K S q k =>by
  unfold aa at q;split at q
  .rename_i x e
   let⟨v,e1,h1⟩:=S.sl i x e;exact⟨v,e1,k _ _ q _ _ _ _ .refl S h1⟩
  .calc q.elim
theorem v7{r:R2}{ta tb:TE}{op:D->D->(D->Prop)->Prop}(hr:∀x y H Q,(∃F d e K,ar F H/\fU F H d x/\fU F H e y/\op d e K/\Made F H K Q)->r x y H Q):∀σ H Q,tD (d2 f g op) σ H Q->qD r (tD f) (tD g) σ H Q:=by
 ext σ H Q ⟨F,ad,δ,K,S,q,k⟩;calc⟨F,ad,δ,_,S,q,λx δ1 h1 v1 F1 aI H1 E1 S1 V1=>⟨F1,aI,δ1,_,S1,h1,λy δ2 h2 v2 F2 bZ H2 E2 S2 V2=>hr _ _ _ _ ?_⟩⟩;let⟨d,h3,rd⟩:=iy S2 (V1.ext E2) h2;let⟨e,h4,re⟩:=iy S2 V2 h3;calc⟨F2,d,e,_,S2.sub,rd,re,h4,λz v H' hz sm is=>k _ _ hz _ _ _ _ ((E1.trans E2).trans (Ext.al S2 sm)) (S2.al sm) is⟩
theorem eY{op:Operator}{o:D->D->(D->Prop)->Prop}(ho:eE X (binaryOp op) o)(ha:JE X a (tD f))(hb:JE X b (tD g)):JE X (.BinOp a op b pos) (tD (d2 f g o)) :=
 (oQ ho ha hb).weak (v7 (ta:=tD f) (tb:=tD g) λ_ _ _ _ h=>h)
theorem lQ{op:CmpOp}{o:D->D->(D->Prop)->Prop}(ho:eE X (compareOp op) o)(ha:JE X a (tD f))(hb:JE X b (tD g))(hm:behindInMarks op b=ι):JE X (.Compare a [op] [b] pos) (tD (d2 f g o)) :=
 (Ln ho ha hb hm).weak (v7 (ta:=tD f) (tb:=tD g) λ_ _ _ _ h=>h)
theorem pE{o:D->D->(D->Prop)->Prop}(ho:FL X o)(ha:JE X a (tD f))(hb:JE X b (tD g))(hs:yS b):JE X (.Subscript a b pos) (tD (d2 f g o)) :=
 (sX ho ha hb hs).weak (v7 (ta:=tD f) (tb:=tD g) λ_ _ _ _ h=>h)
theorem dY:JA X [] (bH af):=aE.weak fun σ H Q h0_=>el7 h0_ λF ad δ K S q k =>k _ _ q _ _ _ _ .refl S Y
theorem pF:∀σ H Q,bH (ag f fa) σ H Q->eB (tD f) (bH fa) σ H Q:=by
 ext σ H Q ⟨F,ad,δ,K,S,q,k⟩;calc⟨F,ad,δ,_,S,q,λx δ1 h1 v1 F1 aI H1 E1 S1 V1=>⟨F1,aI,δ1,_,S1,h1,λxs δ2 h2 vs F2 bZ H2 E2 S2 V2=>k _ _ h2 _ _ _ _ (E1.trans E2) S2 ⟨v1,vs,Y,V1.ext E2,V2⟩⟩⟩
theorem iS{e:B}{es:-B}(ha:JE X e (tD f))(hr:JA X es (bH fa))(hs:cj X e es:=by rfl):JA X (e::es) (bH (ag f fa)):=(gn ha hr hs).weak pF
theorem dy{es:-B}{c j p}(ha:JE X (.Constant c j p) (tD f))(hr:JA X es (bH fa)):JA X (.Constant c j p::es) (bH (ag f fa)):=(gY ha hr).weak pF
theorem bx{es:-B}{x p}(ha:JE X (.Name x p) (tD f))(hr:JA X es (bH fa)):JA X (.Name x p::es) (bH (ag f fa)):=(fg ha hr).weak pF
theorem lR{es:-B}{x y k p}(ha:JE X (.Call x y k p) (tD f))(hr:JA X es (bH fa)):JA X (.Call x y k p::es) (bH (ag f fa)):=(gZ ha hr).weak pF
theorem pG{es:-B}{x p}(ha:JE X (.List x p) (tD f))(hr:JA X es (bH fa)):JA X (.List x p::es) (bH (ag f fa)):=(tU ha hr).weak pF
theorem lS{es:-B}{x k p}(ha:JE X (.Tuple x k p) (tD f))(hr:JA X es (bH fa)):JA X (.Tuple x k p::es) (bH (ag f fa)):=(zG ha hr).weak pF
theorem g5{es:-B}{x k p}(ha:JE X (.Subscript x k p) (tD f))(hr:JA X es (bH fa)):JA X (.Subscript x k p::es) (bH (ag f fa)):=(pA ha hr).weak pF
theorem FN{r:-V->Hp->VK->Prop}{op:-D->(D->Prop)->Prop}(hr:∀xs H Q,(∃F ds K,ar F H/\iR F H ds xs/\op ds K/\Made F H K Q)->r xs H Q):∀σ H Q,tD (dN fa op) σ H Q->sR r (bH fa) σ H Q:=by
 ext σ H Q ⟨F,ad,δ,K,S,q,k⟩;calc⟨F,ad,δ,_,S,q,λxs δ1 h1 vs F1 aI H1 E1 S1 V1=>hr _ _ _ ?_⟩;let⟨ds,h2,t9⟩:=zV S1 V1 h1;calc⟨F1,ds,_,S1.sub,t9,h2,λz v H' hz sm is=>k _ _ hz _ _ _ _ (E1.trans (Ext.al S1 sm)) (S1.al sm) is⟩
theorem lT{x:R}{p:y}{e:B}{es:-B}{id:String}{o:-D->(D->Prop)->Prop}(hc:cO X (.builtin id) o)(hg:Gl X x)(hm:X.mg x=Z)(hv:bootBuiltins x=U (.builtin id))(ha:JA X (e::es) (bH fa))(hn:x≠"__name__" := by decide)(cn:bf x:=by decide)
  (he:cj X e es:=by rfl) (bV:cR X pos es:=by rfl):JE X (.Call (.Name x p) (e::es) [] pos) (tD (dN fa o)) :=
 (vL hc hg hm hv ha hn cn he bV).weak (FN λ_ _ _ h=>h)
theorem FO{x:R}{p:y}{e:B}{es:-B}{T:String}{o:-D->(D->Prop)->Prop}(hc:cO X (.type T) o)(hg:Gl X x)(hm:X.mg x=Z)(hv:bootBuiltins x=U (.type T))(ha:JA X (e::es) (bH fa))(hn:x≠"__name__" := by decide)(cn:bf x:=by decide)
  (he:cj X e es:=by rfl) (bV:cR X pos es:=by rfl):JE X (.Call (.Name x p) (e::es) [] pos) (tD (dN fa o)) :=
 (nE hc hg hm hv ha hn cn he bV).weak (FN λ_ _ _ h=>h)
end
noncomputable def FP(k:Nat)(ds:-D):Option DV->Option DV
 |some (.o j)=>if j=k then U (.p (.lst ds)) else U (.o j)
 |some (.t d j)=>if j=k then Z else U (.t d j)
 |s=>s
noncomputable def aw.fix(δ:aw)(k:Nat)(ds:-D):aw:=⟨δ.sl.map (FP k ds),δ.mu.set k Z⟩
def lU(x:DV)(δ:aw)(K:D->aw->Prop):Prop:=match x with
 |.p d=>K d δ
 |.o k=>match δ.mu[k]? with
  |some (some (.lst ds))=>K (.lst ds) (δ.fix k ds)
  |_=>False
 |.t _ _=>False
def iT:-DV->aw->(-D->aw->Prop)->Prop
 |[],δ,K=>K [] δ
 |x::xs,δ,K=>lU x δ λd δ1=>iT xs δ1 λds δ2=>K (d::ds) δ2
section
variable{F F' H H':Hp}{ad au:-O}{δ δ':aw}{σ σ':St}
theorem SR.fixed{k:Nat}{a:O}{vs:-V}{ds:-D}(S:SR F ad δ σ H)(hk:δ.mu[k]?=U (U (.lst ds)))(ha:ad[k]?=U a)(ho:H a=U (.lst vs))(hi:ae F ds vs):SR (upd F a (.lst vs)) ad (δ.fix k ds) σ H:=by
 let S1:=S.fix hk ha ho;let sm:ar F (upd F a (.lst vs)):=(Ext.fix (o:=.lst vs) S hk ha).same;calc⟨S1.sub,S1.off,S1.cf,S1.inj,S1.mu,λi x e=>?_,by rw[S.len];unfold aw.fix;rw[qJ],S1.tab,S1.nt⟩;unfold aw.fix at e;rw[W5] at e;let⟨s,e1,e2⟩:=Xf.mp e
 match s,e2 with
 |none,e2=>cases e2
 |some (.p d),e2 =>
  cases(show U (DV.p d)=U x from e2)
  exact S1.sl i _ e1
 |some (.t d j),e2 =>
  let e3:(if j=k then Z else U (DV.t d j))=U x:=e2
  by_cases c:j=k
  .rw[Xa c] at e3;cases e3
  .rw[VR c] at e3;cases e3;exact S1.sl i _ e1
 |some (.o j),e2 =>
  let e3:(if j=k then U (DV.p (.lst ds)) else U (DV.o j))=U x:=e2;clear e2;let⟨v,h1,a',h2,h3⟩:=S.sl i _ e1
  by_cases c:j=k
  .rw[Xa c] at e3
   subst c;cases e3
   rw[ha] at h2;cases h2;calc⟨v,h1,?_⟩;show Is _ (.lst ds) v;erw[Is];exact⟨a,vs,h3,aY,hi.same sm⟩
  .rw[VR c] at e3
   cases e3
   calc⟨v,h1,a',h2,h3⟩
theorem ua{x:DV}{v:V}{K:D->aw->Prop}(S:SR F ad δ σ H)(hv:df F ad x v)(h:lU x δ K):∃d δ' F',K d δ'/\Ext F ad δ.mu H F' ad δ'.mu H/\SR F' ad δ' σ H/\Is F' d v:=by
 cases x with
 |p d=>exact⟨d,δ,F,h,.refl,S,hv⟩
 |o k =>
  unfold lU at h;dsimp only at h;split at h
  .rename_i ds e
   let⟨a,e1,rfl⟩:=hv;let⟨a',o,e2,e3,vs,rfl,h4⟩:=S.mu k _ e;rw[e1] at e2;cases e2;calc⟨_,_,_,h,Ext.fix S e e1,S.fixed e e1 e3 h4,?_⟩;erw[Is];exact⟨a,vs,Y,aY,h4.same (Ext.fix (o:=.lst vs) S e e1).same⟩
  .exact h.elim
 |t _ _=>calc h.elim
theorem v8:∀{xs:-DV}{vs:-V}{δ:aw}{F:Hp}{K:-D->aw->Prop},SR F ad δ σ H->cV F ad xs vs->iT xs δ K->∃ds δ' F',K ds δ'/\Ext F ad δ.mu H F' ad δ'.mu H/\SR F' ad δ' σ H/\ae F' ds vs
 |[],_,δ,F,_,S,hv,h=>⟨[],δ,F,h,.refl,S,by erw[ae];calc hv⟩
 |x::xs,_,δ,F,_,S,⟨v,r,e,h1,h2⟩,h=>by
  subst e;let⟨d,δ1,F1,h',E1,S1,i1⟩:=ua S h1 h;let⟨ds,δ2,F2,qR,E2,S2,i2⟩:=v8 S1 (h2.ext E1) h';calc⟨d::ds,δ2,F2,qR,E1.trans E2,S2,.cons (i1.same E2.same) i2⟩
end
def cE(fa:WA):WE:=fun δ K=>fa δ λxs δ1=>iT xs δ1 λds δ2=>↑ds<=1000/\K (.p (.tup ds)) δ2
def bp(fa:WA):WE:=fun δ K=>fa δ λxs δ1=>iT xs δ1 λds δ2=>↑ds<=1000/\K (.p (.lst ds)) δ2
def qU(fa:WA):WE:=fun δ K=>fa δ λxs δ1=>iT xs δ1 λds δ2=>↑ds<=1000/\K (.o ↑δ2.mu) ⟨δ2.sl,δ2.mu++[U (.lst ds)]⟩
section
variable{X:Cx}{a b c:B}{es:-B}{f g h:WE}{fa:WA}{t u:WT}{pos:y}
theorem jW{n:Nat}(h:n<=1000):n<=sizeLine:=Y4 (lM h)
theorem pH{x1}(ha:JA X es (bH fa)):JE X (.Tuple es x1 pos) (tD (cE fa)):=(LC ha).weak fun σ H Q h0_=>el7 h0_ λF ad δ K S q k =>
 ⟨F,ad,δ,_,S,q,λxs δ1 h1 vs F1 aI H1 E1 S1 V1=>by
  let⟨ds,δ2,F2,⟨hl,h2⟩,E2,S2,i2⟩:=v8 S1 V1 h1;calc⟨jW (by rw[↑i2];calc hl),λp hp=>?_⟩;let sm:ar H1 (upd H1 p (.tup vs)):=bT hp;calc k _ _ h2 _ _ _ _ ((E1.trans E2).trans (Ext.al S2 sm)) (S2.al sm) ?_;show Is _ (.tup ds) _;erw[Is];rw[Nw.upd S2.sub hp];refine⟨p,vs,Y,aY,i2.same λb o e=>?_⟩
  rw[aC (bD (S2.sub b o e) hp)];calc e⟩
theorem pI(ha:JA X es (bH fa)):JE X (.List es pos) (tD (bp fa)):=(jK ha).weak fun σ H Q h0_=>el7 h0_ λF ad δ K S q k =>
 ⟨F,ad,δ,_,S,q,λxs δ1 h1 vs F1 aI H1 E1 S1 V1=>by
  let⟨ds,δ2,F2,⟨hl,h2⟩,E2,S2,i2⟩:=v8 S1 V1 h1;calc⟨jW (by rw[↑i2];calc hl),λp hp=>?_⟩;let sm:ar H1 (upd H1 p (.lst vs)):=bT hp;calc k _ _ h2 _ _ _ _ ((E1.trans E2).trans (Ext.al S2 sm)) (S2.al sm) ?_;show Is _ (.lst ds) _;erw[Is];rw[Nw.upd S2.sub hp];refine⟨p,vs,Y,aY,i2.same λb o e=>?_⟩
  rw[aC (bD (S2.sub b o e) hp)];calc e⟩
theorem N_(ha:JA X es (bH fa)):JE X (.List es pos) (tD (qU fa)):=(jK ha).weak fun σ H Q h0_=>el7 h0_ λF ad δ K S q k =>
 ⟨F,ad,δ,_,S,q,λxs δ1 h1 vs F1 aI H1 E1 S1 V1=>by
  let⟨ds,δ2,F2,⟨hl,h2⟩,E2,S2,i2⟩:=v8 S1 V1 h1;calc⟨jW (by rw[↑i2];calc hl),λp hp=>?_⟩;let oi:eW F2 (.lst ds) (.lst vs):=⟨vs,Y,i2⟩;refine k _ _ h2 _ _ _ _ ((E1.trans E2).trans (Ext.own S2 hp)) (S2.own hp oi) ⟨p,?_,Y⟩
  rw[<-S2.cf,W8 (vQ _),Yl];rfl⟩
def qV(x:DV)(P:Bool->Prop):Prop:=match x with
 |.p (.bl b)=>P b
 |_=>False
def dT(f:WE):WT:=fun δ K=>f δ λx δ1=>qV x λb=>K b δ1
def gy(t u:WT):WT:=fun δ K=>t δ λb δ1=>if b=θ then u δ1 K else K ι δ1
def gL(t u:WT):WT:=fun δ K=>t δ λb δ1=>if b=θ then K θ δ1 else u δ1 K
def bz(t:WT):WT:=fun δ K=>t δ λb δ1=>K (!b) δ1
def zX(t:WT)(f g:WE):WE:=fun δ K=>t δ λb δ1=>if b=θ then f δ1 K else g δ1 K
def iz(f g:WE):WE:=fun δ K=>f δ λx δ1=>qV x λb=>if b=θ then g δ1 K else K (.p (.bl ι)) δ1
def v9(f:WE):WE:=fun δ K=>f δ λx δ1=>qV x λb=>K (.p (.bl (!b))) δ1
theorem ub{F:Hp}{ad:-O}{x:DV}{v:V}{P:Bool->Prop}(hv:df F ad x v)(h:qV x P):∃b,v=.bl b/\P b:=by
 unfold qV at h;split at h
 .rename_i b
  exact⟨b,hv,h⟩
 .calc h.elim
theorem nX(ha:JE X a (tD f))(he:∀whole,isTrue a X.env whole=(do let v <- whole;standAt a.pos;holding [v] (truthy v)):=by ext _;rfl):JT X a (cg (dT f)) :=
 (yh ha he).weak fun σ H Q h0_=>el7 h0_ λF ad δ K S q k =>⟨F,ad,δ,_,S,q,λx δ1 h1 v F1 aI H1 E1 S1 V1=>by
  let⟨b,rfl,h2⟩:=ub V1 h1
  calc⟨b,Y,k _ _ h2 _ _ _ E1 S1⟩⟩
theorem iU{op:CmpOp}{o:D->D->(D->Prop)->Prop}(ho:eE X (compareOp op) o)(ha:JE X a (tD f))(hb:JE X b (tD g))(hm:behindInMarks op b=ι):JT X (.Compare a [op] [b] pos) (cg (dT (d2 f g o))) :=
 (yD ho ha hb hm).weak fun σ H Q h0_=>el7 h0_ λF ad δ K S q k =>v7 (ta:=tD f) (tb:=tD g) (λ_ _ _ _ h=>h) σ H _ ⟨F,ad,δ,_,S,q,λx δ1 h1 v F1 aI H1 E1 S1 V1=>by
  let⟨b,rfl,h2⟩:=ub V1 h1
  calc⟨b,Y,k _ _ h2 _ _ _ E1 S1⟩⟩
theorem Oa(ha:JT X a (cg t)):JT X (.UnaryOp .Not a pos) (cg (bz t)):=(yk ha).weak fun σ H Q h0_=>el7 h0_ λF ad δ K S q k =>⟨F,ad,δ,_,S,q,λb δ1 h1 F1 aI H1 E1 S1=>k _ _ h1 _ _ _ E1 S1⟩
theorem Ob:∀σ H Q,cg (gy t u) σ H Q->so (cg t) (cg u) σ H Q:=fun σ H Q h0_=>el7 h0_ λF ad δ K S q k =>⟨F,ad,δ,_,S,q,λb δ1 h1 F1 aI H1 E1 S1=>by
 cases b with
 |true =>
  rw[Xa Y] at h1 ⊢;exact⟨F1,aI,δ1,_,S1,h1,λb δ2 h2 F2 bZ H2 E2 S2=>k _ _ h2 _ _ _ (E1.trans E2) S2⟩
 |false =>
  rw[VR Mw] at h1 ⊢
  calc k _ _ h1 _ _ _ E1 S1⟩
theorem Oc:∀σ H Q,cg (gL t u) σ H Q->DT (cg t) (cg u) σ H Q:=fun σ H Q h0_=>el7 h0_ λF ad δ K S q k =>⟨F,ad,δ,_,S,q,λb δ1 h1 F1 aI H1 E1 S1=>by
 cases b with
 |false =>
  rw[VR Mw] at h1 ⊢;exact⟨F1,aI,δ1,_,S1,h1,λb δ2 h2 F2 bZ H2 E2 S2=>k _ _ h2 _ _ _ (E1.trans E2) S2⟩
 |true =>
  rw[Xa Y] at h1 ⊢
  calc k _ _ h1 _ _ _ E1 S1⟩
theorem JW.weak{e:B}{t t':TT}(h:JW X e t)(k:∀σ H Q,t' σ H Q->t σ H Q):JW X e t':=⟨λwh pins s σ H Q I q=>h wh pins s σ H Q I (k σ H Q q)⟩
theorem FQ(ha:JT X a (cg t)):JW X (.BoolOp .And [a] pos) (cg t):=KD ha
theorem zY(ha:JT X a (cg t)):JW X (.BoolOp .Or [a] pos) (cg t):=DU ha
theorem uc{rest:-B}(ha:JT X a (cg t))(hb:JW X (.BoolOp .And (b::rest) pos) (cg u)):JW X (.BoolOp .And (a::b::rest) pos) (cg (gy t u)):=(KG ha hb).weak Ob
theorem v_{rest:-B}(ha:JT X a (cg t))(hb:JW X (.BoolOp .Or (b::rest) pos) (cg u)):JW X (.BoolOp .Or (a::b::rest) pos) (cg (gL t u)):=(yj ha hb).weak Oc
theorem wa{op}(ha:JE X a (tD f)):JE X (.BoolOp op [a] pos) (tD f):=KJ ha
theorem ue{rest:-B}(ha:JE X a (tD f))(hb:JE X (.BoolOp .And (b::rest) pos) (tD g)):JE X (.BoolOp .And (a::b::rest) pos) (tD (iz f g)) :=
 (KN ha hb).weak fun σ H Q h0_=>el7 h0_ λF ad δ K S q k =>⟨F,ad,δ,_,S,q,λx δ1 h1 v F1 aI H1 E1 S1 V1=>by
  let⟨b,rfl,h2⟩:=ub V1 h1;refine⟨b,Y,?_⟩
  cases b with
  |true =>
   rw[Xa Y] at h2 ⊢;exact⟨F1,aI,δ1,_,S1,h2,λx δ2 h3 v F2 bZ H2 E2 S2 V2=>k _ _ h3 _ _ _ _ (E1.trans E2) S2 V2⟩
  |false =>
   rw[VR Mw] at h2 ⊢
   calc k _ _ h2 _ _ _ _ E1 S1 Y⟩
theorem Od(ha:JE X a (tD f)):JE X (.UnaryOp .Not a pos) (tD (v9 f)) :=
 (KO ha).weak fun σ H Q h0_=>el7 h0_ λF ad δ K S q k =>⟨F,ad,δ,_,S,q,λx δ1 h1 v F1 aI H1 E1 S1 V1=>by
  let⟨b,rfl,h2⟩:=ub V1 h1
  calc⟨b,Y,k _ _ h2 _ _ _ _ E1 S1 Y⟩⟩
theorem Oe(hc:JT X c (cg t))(ha:JE X a (tD f))(hb:JE X b (tD g)):JE X (.IfExp c a b pos) (tD (zX t f g)) :=
 (ym hc ha hb).weak fun σ H Q h0_=>el7 h0_ λF ad δ K S q k =>⟨F,ad,δ,_,S,q,λb δ1 h1 F1 aI H1 E1 S1=>by
  cases b with
  |true =>
   rw[Xa Y] at h1 ⊢;exact⟨F1,aI,δ1,_,S1,h1,λx δ2 h3 v F2 bZ H2 E2 S2 V2=>k _ _ h3 _ _ _ _ (E1.trans E2) S2 V2⟩
  |false =>
   rw[VR Mw] at h1 ⊢
   calc⟨F1,aI,δ1,_,S1,h1,λx δ2 h3 v F2 bZ H2 E2 S2 V2=>k _ _ h3 _ _ _ _ (E1.trans E2) S2 V2⟩⟩
end
structure KS where
 nx:aw->Prop
 rt:DV->aw->Prop
 bk:aw->Prop:=λ_=>False
 ct:aw->Prop:=λ_=>False
abbrev WS:=KS->aw->Prop
def Cn(F:Hp)(ad:-O)(mu:-(Option OV))(H:Hp)(P:aw->Prop)(R:St->Hp->Prop):Prop:=∀δ',P δ'->∀F' au σ' H',Ext F ad mu H F' au δ'.mu H'->SR F' au δ' σ' H'->R σ' H'
class bu where
 ok:Nat->Int->Prop
 kp:-O->-(Option OV)->Hp->Prop
 st:∀{F ad mu H F' au dg H'},Ext F ad mu H F' au dg H'->kp ad mu H->kp au dg H'
instance (priority:=low) Of:bu:=⟨λ_ _=>False,λ_ _ _=>True,λ_ _=>trivial⟩
section
variable[bu]
structure qW(F:Hp)(ad:-O)(mu:-(Option OV))(H:Hp)(K:KS)(D:Ends):Prop where
 nx:Cn F ad mu H K.nx D.nx
 bk:Cn F ad mu H K.bk D.bk
 ct:Cn F ad mu H K.ct D.ct
 rt:∀x δ',K.rt x δ'->∀v F' au σ' H',Ext F ad mu H F' au δ'.mu H'->SR F' au δ' σ' H'->df F' au x v->D.rt v H'
 kp:bu.kp ad mu H
theorem Cn.ext{F F' H H':Hp}{ad au:-O}{mu dg:-(Option OV)}{P:aw->Prop}{R:St->Hp->Prop}(c:Cn F ad mu H P R)(e:Ext F ad mu H F' au dg H'):Cn F' au dg H' P R:=fun δ' h _ _ _ _ E S=>c δ' h _ _ _ _ (e.trans E) S
theorem qW.ext{F F' H H':Hp}{ad au:-O}{mu dg:-(Option OV)}{K:KS}{D:Ends}(c:qW F ad mu H K D)(e:Ext F ad mu H F' au dg H'):qW F' au dg H' K D :=
 ⟨c.nx.ext e,c.bk.ext e,c.ct.ext e,λx δ' h _ _ _ _ _ E S V=>c.rt x δ' h _ _ _ _ _ (e.trans E) S V,bu.st e c.kp⟩
def b8(G:WS):TS:=λD σ H=>∃F ad δ K,SR F ad δ σ H/\G K δ/\qW F ad δ.mu H K D
def ak(G G':WS):WS:=λK δ=>G {K with nx:=G' K} δ
def b4:WS:=λK δ=>K.nx δ
def aB(i:Nat)(f:WE):WS:=λK δ=>f δ λx δ1=>K.nx ⟨δ1.sl.set i (U x),δ1.mu⟩
def iA(f:WE):WS:=λK δ=>f δ λ_ δ1=>K.nx δ1
def aF(f:WE):WS:=λK δ=>f δ λx δ1=>K.rt x δ1
def aW(t:WT)(G G':WS):WS:=λK δ=>t δ λb δ1=>if b=θ then G K δ1 else G' K δ1
section
variable{X:Cx}{e c:B}{st:o}{rest:-o}{f:WE}{t:WT}{G G':WS}{pos:y}
theorem kR:bR X [] (b8 b4):=ig.weak λD σ H h0_=>el7 h0_ λF ad δ K S q k =>k.nx _ q _ _ _ _ .refl S
theorem iV(h:JS X st (b8 G)):bR X [st] (b8 G):=kI h
theorem gz(h:JS X st (b8 G))(r:bR X rest (b8 G')):bR X (st::rest) (b8 (ak G G')) :=
 (lB h r).weak λD σ H h0_=>el7 h0_ λF ad δ K S q k =>⟨F,ad,δ,_,S,q,⟨fun δ' h _ _ _ _ E S'=>⟨_,_,δ',K,S',h,k.ext E⟩,k.bk,k.ct,k.rt,k.kp⟩⟩
theorem Og{i:Nat}:∀D σ H,b8 (aB i f) D σ H->cC (tD f) (gm i) D σ H:=λD σ H h0_=>el7 h0_ λF ad δ K S q k =>⟨F,ad,δ,_,S,q,λx δ1 h1 v F1 aI H1 E1 S1 V1=>k.nx _ h1 _ _ _ _ E1 (S1.set V1)⟩
theorem nY{i:Nat}{x:R}{pos':y}(hN:X.N.Nodup)(hi:X.N[i]?=U x)(hx:Loc X.env.scope x)(he:JE X e (tD f))(hs:swapsWith e (U (.Name x pos')) pos.line X.env=pure ι:=by rfl)
  (hf:d5 X x:=by first|exact .inl Y|exact .inr Y|assumption):JS X (.Assign [.Name x pos'] e pos) (b8 (aB i f)):=(ny hN hi hx he hs hf).weak Og
theorem FT(he:JE X e (tD f))(hs:swapsWith e Z pos.line X.env=pure ι:=by rfl):JS X (.Expr e pos) (b8 (iA f)) :=
 (vH he hs).weak λD σ H h0_=>el7 h0_ λF ad δ K S q k =>⟨F,ad,δ,_,S,q,λx δ1 h1 v F1 aI H1 E1 S1 V1=>k.nx _ h1 _ _ _ _ E1 S1⟩
theorem jk(he:JE X e (tD f)):JS X (.Return (U e) pos) (b8 (aF f)) :=
 (qB he).weak λD σ H h0_=>el7 h0_ λF ad δ K S q k =>⟨F,ad,δ,_,S,q,λx δ1 h1 v F1 aI H1 E1 S1 V1=>k.rt _ _ h1 _ _ _ _ _ E1 S1 V1⟩
theorem kS{a b:-o}(hc:JT X c (cg t))(ha:bR X a (b8 G))(hb:bR X b (b8 G')):JS X (.If c a b pos) (b8 (aW t G G')) :=
 (DY hc ha hb).weak λD σ H h0_=>el7 h0_ λF ad δ K S q k =>⟨F,ad,δ,_,S,q,λb δ1 h1 F1 aI H1 E1 S1=>by
  cases b with
  |true =>
   rw[Xa Y] at h1 ⊢;exact⟨F1,aI,δ1,K,S1,h1,k.ext E1⟩
  |false =>
   rw[VR Mw] at h1 ⊢
   calc⟨F1,aI,δ1,K,S1,h1,k.ext E1⟩⟩
def pJ:WS:=λ_ _=>False
theorem Oh:bR X rest (b8 pJ):=iH.weak λD σ H h0_=>el7 h0_ λF ad δ K S q k =>q.elim
abbrev WG:=DV->aw->(aw->Prop)->Prop
def iB(g:WG):TG:=λv σ H Q=>∃F ad δ x K,SR F ad δ σ H/\df F ad x v/\g x δ K/\Cn F ad δ.mu H K Q
abbrev pK:=-D->aw->(aw->Prop)->Prop
def lV(g:pK):jf:=λvs σ H Q=>∃F ad δ ds K,SR F ad δ σ H/\ae F ds vs/\g ds δ K/\Cn F ad δ.mu H K Q
def bJ(i:Nat):WG:=λx δ K=>K ⟨δ.sl.set i (U x),δ.mu⟩
def jX:pK:=λds δ K=>match ds with
 |[]=>K δ
 |_=>False
def gM(g:WG)(g':pK):pK:=λds δ K=>match ds with
 |d::r=>g (.p d) δ fun δ1=>g' r δ1 K
 |[]=>False
theorem JG.weak{tg:B}{t t':TG}(h:JG X tg t)(k:∀v σ H Q,t' v σ H Q->t v σ H Q):JG X tg t':=⟨λpins s σ H v u Q I r q=>h pins s σ H v u Q I r (k v σ H Q q)⟩
theorem ij.weak{ts:-B}{t t':jf}(h:ij X ts t)(k:∀v σ H Q,t' v σ H Q->t v σ H Q):ij X ts t':=⟨λpins s σ H v u Q I r q=>h pins s σ H v u Q I r (k v σ H Q q)⟩
theorem zZ{i:Nat}{x:R}(hN:X.N.Nodup)(hi:X.N[i]?=U x)(hx:Loc X.env.scope x)(hf:d5 X x:=by first|exact .inl Y|exact .inr Y|assumption):JG X (.Name x pos) (iB (bJ i)) :=
 (sv hN hi hx hf).weak λv σ H Q ⟨F,ad,δ,x,K,S,V,q,k⟩↦k _ q _ _ _ _ .refl (S.set V)
theorem FU:ij X [] (lV jX):=fP.weak λvs σ H Q ⟨F,ad,δ,ds,K,S,V,q,k⟩↦by
 unfold jX at q;split at q
 .erw[ae] at V
  exact⟨V,k _ q _ _ _ _ .refl S⟩
 .calc q.elim
theorem z6{es:-B}{g:WG}{g':pK}(h1:JG X e (iB g))(h2:ij X es (lV g'))(hs:(assignEach (e::es) X.env).map (·.2)=assign e X.env::(assignEach es X.env).map (·.2):=by rfl):ij X (e::es) (lV (gM g g')) :=
 (sy h1 h2 hs).weak λvs σ H Q ⟨F,ad,δ,ds,K,S,V,q,k⟩↦by
  unfold gM at q;split at q
  .rename_i d r
   erw[ae] at V;let⟨v,r',e,i1,i2⟩:=V;exact⟨v,r',e,F,ad,δ,.p d,_,S,i1,q,fun δ' h _ _ _ _ E S'=>⟨_,_,δ',r,K,S',i2.same E.same,h,k.ext E⟩⟩
  .calc q.elim
def kT(n:Nat)(g:pK):WG:=λx δ K=>gc x δ λd=>match d with
 |.tup ds=>↑ds=n/\g ds δ K
 |.lst ds=>↑ds=n/\g ds δ K
 |_=>False
theorem JG.or{tg:B}{t t':TG}(h:JG X tg t)(h':JG X tg t'):JG X tg (λv σ H Q=>t v σ H Q\/t' v σ H Q):=⟨λpins s σ H v u Q I r q=>q.elim (λq=>h pins s σ H v u Q I r q) λq=>h' pins s σ H v u Q I r q⟩
theorem FV{es:-B}{k:Nat}{g:pK}{n:Nat}(hc:X.calm=θ)(h:ij X es (lV g))(hn:↑(assignEach es X.env)=n:=by rfl)(f9:(assignEach es X.env).findIdx? (·.1)=Z:=by rfl):JG X (.Tuple es k pos) (iB (kT n g)) :=
 ((yq hc h hn f9).or (N4 hc h hn f9)).weak λv σ H Q ⟨F,ad,δ,x,K,S,V,q,k⟩↦by
  let⟨d,q,rd⟩:=iy S V q;split at q
  .rename_i ds
   let wc:Is F (.tup ds) v:=rd;erw[Is] at wc;let⟨a,vs,e,h1,h2⟩:=wc;exact .inl ⟨a,vs,e,bo.of (S.sub _ _ h1),by rw[↑h2];calc q.1,F,ad,δ,ds,K,S,h2,q.2,k⟩
  .rename_i ds
   let⟨a,vs,e,h1,h2⟩:=rd;exact .inr ⟨a,vs,e,aX.of h1,by rw[↑h2];calc q.1,F,ad,δ,ds,K,S,h2,q.2,k⟩
  .calc q.elim
def pL(f:WE)(g:WG):WS:=λK δ=>f δ λx δ1=>g x δ1 K.nx
theorem Oi{tg:B}{g:WG}(he:JE X e (tD f))(hg:JG X tg (iB g))(hs:swapsWithSole [tg] e pos.line X.env=pure ι:=by rfl)(hw:swappedStores [tg] e X.env=pure Z:=by rfl)
  (h1:(assignEach [tg] X.env).map (·.2)=[assign tg X.env]:=by rfl):JS X (.Assign [tg] e pos) (b8 (pL f g)) :=
 (yr he hg hs hw h1).weak λD σ H h0_=>el7 h0_ λF ad δ K S q k =>⟨F,ad,δ,_,S,q,λx δ1 h1 v F1 aI H1 E1 S1 V1=>⟨F1,aI,δ1,x,K.nx,S1,V1,h1,k.nx.ext E1⟩⟩
end
end
structure nZ where
 items:-D
 bg:aw->Prop
abbrev WI:=aw->(nZ->aw->Prop)->Prop
def pM(F:Hp)(ad:-O)(it:nZ)(J:It):Prop:=∀(F':Hp)(au:-O)(δ:aw)(σ:St)(H:Hp),ar F F'->(∀(k:Nat)(a:O),ad[k]?=U a->au[k]?=U a)->SR F' au δ σ H->it.bg δ →
 J.stop ↑it.items H/\∀(i:Nat)(d:D),it.items[i]?=U d->J.go i H/\∀x H',J.qC i H x H'->ar H H'/\Is (Nw F' H H') d x
def iC(w:WI):TI:=fun σ H R=>∃F ad δ K,SR F ad δ σ H/\w δ K/\∀it δ',K it δ'->∀J F' au H',Ext F ad δ.mu H F' au δ'.mu H'->SR F' au δ' σ H'->pM F' au it J->R J H'
noncomputable def wd(n:Nat):Option DV->Option DV->Option DV
 |none,_=>Z
 |some _,some (.o k)=>if k<n then U (.o k) else Z
 |some _,some (.t d k)=>if k<n then U (.t d k) else Z
 |some _,s=>s
noncomputable def fj(n:Nat):-(Option DV)->-(Option DV)->-(Option DV)
 |s0::r0,s::r=>wd n s0 s::fj n r0 r
 |[],_::r=>Z::fj n [] r
 |_,[]=>[]
noncomputable def aw.trim(δ0 δ:aw):aw:=⟨fj ↑δ0.mu δ0.sl δ.sl,δ.mu.take ↑δ0.mu⟩
theorem z9{n:Nat}:∀(l0 l:-(Option DV)),↑(fj n l0 l)=↑l
 |_::r0,_::r=>by rw[fj,EA,EA,z9 r0 r]
 |[],_::r=>by rw[fj,EA,EA,z9 [] r]
 |[],[]=>Y
 |_::_,[]=>Y
theorem z_{n:Nat}:∀{l0 l:-(Option DV)}{i:Nat}{x:DV},(fj n l0 l)[i]?=U (U x)->l[i]?=U (U x)/\∀k,x=.o k\/(∃d,x=.t d k)->k<n
 |s0::r0,s::r,0,x,h=>by
  let h:wd n s0 s=U x:=by simpa[fj] using h
  match s0,s,h with
  |none,_,h=>cases h
  |some _,none,h=>cases h
  |some _,some (.p d),h=>cases(show U (DV.p d)=U x from h);exact⟨Y,λk e=>by rcases e with e|⟨_,e⟩<;>cases e⟩
  |some _,some (.t d k),h =>
   let h:(if k<n then U (DV.t d k) else Z)=U x:=h
   by_cases c:k<n
   .rw[Xa c] at h;cases h;exact⟨Y,λk' e=>by rcases e with e|⟨_,e⟩<;>cases e;calc c⟩
   .rw[VR c] at h;cases h
  |some _,some (.o k),h =>
   let h:(if k<n then U (DV.o k) else Z)=U x:=h
   by_cases c:k<n
   .rw[Xa c] at h;cases h;exact⟨Y,λk' e=>by rcases e with e|⟨_,e⟩<;>cases e;calc c⟩
   .rw[VR c] at h;cases h
 |s0::r0,s::r,i+1,x,h=>by
  let h:(fj n r0 r)[i]?=U (U x):=by simpa[fj] using h
  simpa using z_ h
 |[],s::r,0,x,h=>by simp[fj] at h
 |[],s::r,i+1,x,h=>by
  let h:(fj n [] r)[i]?=U (U x):=by simpa[fj] using h
  simpa using z_ h
 |[],[],i,x,h=>by simp[fj] at h
 |_::_,[],i,x,h=>by simp[fj] at h
section
variable{F F' H H':Hp}{ad au:-O}{δ δ' δ0:aw}{σ σ' τ:St}{mu dg:-(Option OV)}{l:O}{o:HO}
theorem Lv.take{n:Nat}{a:O}(h:Lv (ad.take n) (mu.take n) a):Lv ad mu a:=by
 let⟨k,ov,e1,e2⟩:=h
 let hk:k<n:=by
  let:=(ph.mp e1).1;rw[Xi] at this;symm
 rw[XM hk] at e1 e2;calc⟨k,ov,e1,e2⟩
theorem SR.trim(S:SR F ad δ σ H):SR F (ad.take ↑δ0.mu) (δ0.trim δ) σ H:=by
 let tk:∀{k:Nat}{a:O},(ad.take ↑δ0.mu)[k]?=U a->k<↑δ0.mu/\ad[k]?=U a:=λ{k a} e=>by
  let hk:k<↑δ0.mu:=by
   let:=(ph.mp e).1;rw[Xi] at this;symm
  rw[XM hk] at e;exact⟨hk,e⟩
 let tm:∀{k:Nat}{w:Option OV},(δ.mu.take ↑δ0.mu)[k]?=U w->k<↑δ0.mu/\δ.mu[k]?=U w:=λ{k w} e=>by
  let hk:k<↑δ0.mu:=by
   let:=(ph.mp e).1;rw[Xi] at this;symm
  rw[XM hk] at e;exact⟨hk,e⟩
 refine⟨S.sub,λa x=>S.off a x.take,?_,λk l a w w' e1 e2 e3 e4=>S.inj k l a w w' (tk e1).2 (tk e2).2 (tm e3).2 (tm e4).2,λk ov e=>?_,λi x e=>?_,?_,S.tab,S.nt⟩
 .show ↑(ad.take _)=↑(δ.mu.take _)
  rw[Xi,Xi,S.cf]
 .let⟨a,o,e1,e2,h⟩:=S.mu k ov (tm e).2
  exact⟨a,o,by rw[XM (tm e).1];calc e1,e2,h⟩
 .let⟨e1,e2⟩:=z_ e
  let⟨v,h1,h2⟩:=S.sl i x e1;exact⟨v,h1,h2.pre λk a h3 z=>by rw[XM (e2 k z)];calc h3⟩
 .show ↑σ=↑(fj _ _ _)
  rw[z9];calc S.len
theorem Ext.trim{n:Nat}(e:Ext F ad mu H F' au dg H')(hn:↑ad=n):Ext F ad mu H F' (au.take n) (dg.take n) H' :=
 ⟨e.same,e.new,e.keep,λk a h=>by rw[XM (by rw[<-hn];calc(ph.mp h).1)];calc e.pre k a h,λa x=>e.bN a x.take,e.gx⟩
theorem SR.other(S:SR F ad δ σ H)(hf:F l=Z)(hl:¬ Lv ad δ.mu l)(tk:ay.ok (upd H l o)):SR F ad δ σ (upd H l o):=by
 refine⟨λa u e=>?_,S.off,S.cf,S.inj,λk ov e=>?_,S.sl,S.len,tk,S.nt⟩
 .rw[aC (bD e hf)];exact S.sub a u e
 .let⟨a,u,e1,e2,h⟩:=S.mu k ov e
  calc⟨a,u,e1,by rw[aC λz=>hl (by subst z;calc⟨k,ov,e1,e⟩)];calc e2,h⟩
theorem Ext.other(e:Ext F ad mu H F' au dg H')(hl:H l=Z):Ext F ad mu H F' au dg (upd H' l o) :=
 ⟨e.same,e.new,λa u h n t=>by rw[aC (bD h hl)];calc e.keep a u h n t,e.pre,e.bN,λa u h=>by rw[aC (bD h hl)];calc e.gx a u h⟩
theorem SR.adopt(S:SR F ad δ σ H)(hf:F l=Z)(ho:H l=U o)(hl:¬ Lv ad δ.mu l)(no:∀ps,o≠.tbl ps:=by ext _ z;cases z):SR (upd F l o) ad δ σ H:=by
 let sm:ar F (upd F l o):=bT hf
 refine⟨λa u e=>?_,λa x=>?_,S.cf,S.inj,λk ov e=>?_,λi x e=>?_,S.len,S.tab,λa ha=>by
  let⟨ps,q⟩:=ay.tb S.tab ha;rw[aC λz=>by subst z;rw[ho] at q;calc no ps (Xt q)]
  calc S.nt a ha⟩
 .by_cases c:a=l
  .subst c;rw[aY] at e;cases e;exact ho
  .rw[aC c] at e;exact S.sub a u e
 .rw[aC λz=>hl (by subst z;calc x)];exact S.off a x
 .let⟨a,u,e1,e2,h⟩:=S.mu k ov e
  exact⟨a,u,e1,e2,h.same sm⟩
 .let⟨v,e1,h⟩:=S.sl i x e
  calc⟨v,e1,h.same sm⟩
theorem Ext.adopt(e:Ext F ad mu H F' au dg H')(hl:H l=Z)(hf:F' l=Z):Ext F ad mu H (upd F' l o) au dg H' :=
 ⟨e.same.trans (bT hf),λa u h=>by
  by_cases c:a=l
  .subst c;exact .inr (.inl hl)
  .rw[aC c] at h;calc e.new a u h,e.keep,e.pre,e.bN,e.gx⟩
theorem SR.dz{ov:OV}(S:SR F ad δ σ H)(hf:F l=Z)(ho:H l=U o)(hl:¬ Lv ad δ.mu l)(h:eW F ov o):SR F (ad++[l]) ⟨δ.sl,δ.mu++[U ov]⟩ σ H:=by
 let old:∀{k:Nat}{w:OV},(δ.mu++[U ov])[k]?=U (U w)->(k<↑δ.mu/\δ.mu[k]?=U (U w))\/(k=↑δ.mu/\w=ov):=λ{k w} e=>by
  by_cases c:k<↑δ.mu
  .rw[W6 c] at e;exact .inl ⟨c,e⟩
  .let hl:=(ph.mp e).1
   rw[EB,Xx] at hl;let ek:k=↑δ.mu:=by symm
   subst ek;rw[W8 (vQ _),Yl] at e;exact .inr ⟨Y,by simpa using e.symm⟩
 let pre:∀{k:Nat},k<↑δ.mu->(ad++[l])[k]?=ad[k]?:=λ{k} c=>W6 (by rw[S.cf];calc c);let last:(ad++[l])[↑δ.mu]?=U l:=by rw[<-S.cf,W8 (vQ _),Yl];rfl
 refine⟨S.sub,λa x=>?_,by rw[EB,EB,S.cf];rfl,λk k' a w w' e1 e2 e3 e4=>?_,λk w e=>?_,λi x e=>?_,S.len,S.tab,S.nt⟩
 .let⟨k,w,e1,e2⟩:=x
  rcases old e2 with⟨c,e3⟩|⟨c,e3⟩
  .rw[pre c] at e1;exact S.off a ⟨k,w,e1,e3⟩
  .subst c;rw[last] at e1;cases e1;exact hf
 .rcases old e3 with⟨c,q⟩|⟨c,q⟩
  .rw[pre c] at e1
   rcases old e4 with⟨c',q'⟩|⟨c',q'⟩
   .rw[pre c'] at e2;exact S.inj k k' a w w' e1 e2 q q'
   .subst c';rw[last] at e2;cases e2;exact absurd ⟨k,w,e1,q⟩ hl
  .subst c;rw[last] at e1;cases e1
   rcases old e4 with⟨c',q'⟩|⟨c',q'⟩
   .rw[pre c'] at e2;exact absurd ⟨k',w',e2,q'⟩ hl
   .exact c'.symm
 .rcases old e with⟨c,q⟩|⟨c,q⟩
  .let⟨a,u,e1,e2,h'⟩:=S.mu k w q
   exact⟨a,u,by rw[pre c];calc e1,e2,h'⟩
  .subst c;subst q;exact⟨l,o,last,ho,h⟩
 .let⟨v,e1,h'⟩:=S.sl i x e
  calc⟨v,e1,h'.pre λk a e2 _=>by rw[W6 (ph.mp e2).1];calc e2⟩
theorem Ext.dz{ov:OV}(e:Ext F ad mu H F' au dg H')(hl:H l=Z)(hm:↑au=↑dg):Ext F ad mu H F' (au++[l]) (dg++[U ov]) H' :=
 ⟨e.same,e.new,e.keep,λk a h=>by rw[W6 (ph.mp (e.pre k a h)).1];calc e.pre k a h,λa x=>by
  let⟨k,w,e1,e2⟩:=x
  by_cases c:k<↑dg
  .rw[W6 c] at e2
   rw[W6 (by rw[hm];calc c)] at e1;exact e.bN a ⟨k,w,e1,e2⟩
  .let gA:=(ph.mp e2).1
   rw[EB,Xx] at gA;let ek:k=↑au:=by rw[hm];symm
   subst ek;rw[W8 (vQ _),Yl] at e1;let:l=a:=by simpa using e1
   subst this;calc .inr hl,e.gx⟩
theorem SR.back{sl:-(Option DV)}(S0:SR F ad δ σ H)(e:Ext F ad δ.mu H F' au dg H')(S:SR F' au ⟨sl,dg⟩ τ H'):SR F' au ⟨δ.sl,dg⟩ σ H' :=
 ⟨S.sub,S.off,S.cf,S.inj,S.mu,λi x q=>let⟨v,h1,h2⟩:=S0.sl i x q;⟨v,h1,h2.ext e⟩,S0.len,S.tab,S.nt⟩
noncomputable def cW(cp:-(Option Nat))(sl:-(Option DV)):-(Option DV):=cp.map λo=>match o with
 |some i=>(sl[i]?).join
 |none=>Z
theorem SR.Aa{cp:-(Option Nat)}(S:SR F ad δ σ H):SR F ad ⟨cW cp δ.sl,δ.mu⟩ (kO cp σ) H:=by
 calc⟨S.sub,S.off,S.cf,S.inj,S.mu,λj x e=>?_,by unfold kO cW;rw[qJ,qJ],S.tab,S.nt⟩;unfold cW at e;rw[W5] at e;let⟨o,e1,e2⟩:=Xf.mp e
 match o,e2 with
 |none,e2=>cases e2
 |some i,e2 =>
  let e2:(δ.sl[i]?).join=U x:=e2
  cases q:δ.sl[i]? with
  |none=>rw[q] at e2;cases e2
  |some z =>
   rw[q] at e2;let e3:z=U x:=e2;subst e3;let⟨v,h1,h2⟩:=S.sl i x q;calc⟨v,?_,h2⟩;unfold kO;rw[W5,e1];show U ((σ[i]?).join)=U (U v);rw[h1];rfl
end
def jY(δ0:aw)(bg:aw->Prop)(g:WG)(b:WS)(K:KS):-D->aw->Prop
 |[],δ=>bg δ/\K.nx δ
 |d::r,δ=>bg δ/\g (.p d) δ fun δ1=>b {nx:=fun δ2=>jY δ0 bg g b K r (δ0.trim δ2),ct:=fun δ2=>jY δ0 bg g b K r (δ0.trim δ2),bk:=K.nx,rt:=K.rt} δ1
def cF(w:WI)(g:WG)(b:WS):WS:=λK δ=>w δ λit δ1=>jY δ1 it.bg g b K it.items δ1
def iD(δ0:aw)(bg:aw->Prop)(g:WG)(t:WT)(f:WE)(K:-D->aw->Prop):-D->-D->aw->Prop
 |[],acc,δ=>bg δ/\K acc δ
 |d::r,acc,δ=>bg δ/\g (.p d) δ fun δ1=>t δ1 λb δ2=>if b=θ then f δ2 λx δ3=>lU x δ3 λe δ4=>↑acc<1000/\iD δ0 bg g t f K r (acc++[e]) (δ0.trim δ4) else iD δ0 bg g t f K r acc (δ0.trim δ2)
def iE(w:WI)(cp:-(Option Nat))(g:WG)(t:WT)(f:WE):WE:=fun δ K=>w δ λit δ1=>iD ⟨cW cp δ1.sl,δ1.mu⟩ it.bg g t f (λacc δ'=>K (.p (.lst acc)) ⟨δ1.sl,δ'.mu⟩) it.items [] ⟨cW cp δ1.sl,δ1.mu⟩
def n5(w:WI)(cp:-(Option Nat))(g:WG)(t:WT)(f:WE):WE:=fun δ K=>w δ λit δ1=>iD ⟨cW cp δ1.sl,δ1.mu⟩ it.bg g t f (λacc δ'=>K (.o ↑δ'.mu) ⟨δ1.sl,δ'.mu++[U (.lst acc)]⟩) it.items [] ⟨cW cp δ1.sl,δ1.mu⟩
section
variable{X:Cx}{tg iter elt:B}{body:-o}{w:WI}{g:WG}{b:WS}{pos:y}{ifs:-B}{t:WT}{f:WE}{scope:u}
theorem FW[bu](hp:PassesOwn (M X.prog X.w) X.A X.env X.xe)(hc:X.calm=θ)(hi:JI X tg iter (iC w))(hg:JG X tg (iB g))(hb:bR X body (b8 b))(hs:∀x,foldedSetIterable iter X.env x=pure x:=by ext _;rfl):
  JS X (.For tg iter body [] pos) (b8 (cF w g b)):=(yx hp hc hi hg hb hs).weak λD σ H h0_=>el7 h0_ λF ad δ K S q k =>by
 calc⟨F,ad,δ,_,S,q,λit δ1 h1 J F1 aI H1 E1 S1 I1=>?_⟩;let k1:=k.ext E1;calc⟨λi m σ' H'=>∃F' au δ',i+m=↑it.items/\Ext F1 aI δ1.mu H1 F' au δ'.mu H'/\SR F' au δ' σ' H'/\jY δ1 it.bg g b K (it.items.drop i) δ',⟨↑it.items,F1,aI,δ1,⋯,.refl,S1,h1⟩,?_⟩;ext i m σ' H' ⟨F',au,δ',hm,E',S',h⟩
 by_cases dP:i<↑it.items
 .rw[XJ dP] at h
  let⟨ck,h⟩:=h;let⟨go,yl⟩:=(I1 F' au δ' σ' H' E'.same E'.pre S' ck).2 i _ (pj dP);calc .inr ⟨go,fun σ2 H2=>∃F2 bZ δ2,Ext F1 aI δ1.mu H1 F2 bZ δ2.mu H2/\SR F2 bZ δ2 σ2 H2/\jY δ1 it.bg g b K (it.items.drop (i+1)) δ2,fun σ2 H2 ⟨F2,bZ,δ2,e1,e2,e3⟩↦⟨m-1,⋯,F2,bZ,δ2,⋯,e1,e2,e3⟩,λx H2 y=>?_⟩;let⟨sm,is⟩:=yl x H2 y;let E2:=E'.trans (Ext.al S' sm);calc⟨_,au,δ',.p _,_,S'.al sm,is,h,fun δ3 h3 F3 qX σ3 H3 E3 S3=>?_⟩;let uf:=E2.trans E3;refine⟨F3,qX,δ3,_,S3,h3,⟨fun δ4 h4 F4 we σ4 H4 E4 S4=>⟨F4,_,_,(uf.trans E4).trim S1.cf,S4.trim,h4⟩,k1.nx.ext uf,fun δ4 h4 F4 we σ4 H4 E4 S4=>⟨F4,_,_,(uf.trans E4).trim S1.cf,S4.trim,h4⟩,(k1.ext uf).rt,(k1.ext uf).kp⟩⟩
 .let ei:i=↑it.items:=by symm
  subst ei;rw[q0r (vQ _)] at h;let⟨ck,h⟩:=h;calc .inl ⟨(I1 F' au δ' σ' H' E'.same E'.pre S' ck).1,k1.nx _ h _ _ _ _ E' S'⟩
def fq:WT:=fun δ K=>K θ δ
theorem JF.weak{ifs:-B}{t t':TT}(h:JF X ifs t)(k:∀σ H Q,t' σ H Q->t σ H Q):JF X ifs t':=⟨λpins s σ H Q I q=>h pins s σ H Q I (k σ H Q q)⟩
theorem FX:JF X [] (cg fq):=pw.weak fun σ H Q h0_=>el7 h0_ λF ad δ K S q k =>k _ _ q _ _ _ .refl S
theorem Oj{c:B}(h:JT X c (cg t)):JF X [c] (cg t):=MC h
theorem FY{J:It}{l:O}{F1:Hp}{aI:-O}{δ1:aw}{σ:St}{H1:Hp}{it:nZ}{cp:-(Option Nat)}{Q:VK}{K:-D->aw->Prop}(S1:SR F1 aI δ1 σ H1)(I1:pM F1 aI it J)(hl:H1 l=Z)
  (h:iD ⟨cW cp δ1.sl,δ1.mu⟩ it.bg g t f K it.items [] ⟨cW cp δ1.sl,δ1.mu⟩)
  (fin:∀acc δ' F' au τ H' ys,K acc δ'->Ext F1 aI δ1.mu H1 F' au δ'.mu H'->SR F' au δ' τ H'->H' l=U (.lst ys)->F' l=Z->¬ Lv au δ'.mu l->ae F' acc ys->Q (.ref l) H') :
  EG J (iB g) (cg t) (tD f) l (kO cp σ) (upd H1 l (.lst [])) Q:=by
 let f1:F1 l=Z:=by
  cases q:F1 l with
  |none=>rfl
  |some u=>rw[S1.sub l u q] at hl;cases hl
 let nl:∀{ad mu},(∀a,Lv ad mu a->Lv aI δ1.mu a\/H1 a=Z)->True:=λ_=>trivial
 let l1:¬ Lv aI δ1.mu l:=λ⟨k,ov,e1,e2⟩↦by
  let⟨a,o,e3,e4,_⟩:=S1.mu k ov e2;rw[e1] at e3;cases e3;rw[hl] at e4;cases e4
 let S0:SR F1 aI ⟨cW cp δ1.sl,δ1.mu⟩ (kO cp σ) (upd H1 l (.lst [])):=S1.Aa.other f1 l1 (ay.same S1.tab (bT hl));calc⟨λi m τ H'=>∃F' au δ' acc ys,i+m=↑it.items/\Ext F1 aI δ1.mu H1 F' au δ'.mu H'/\SR F' au δ' τ H'/\H' l=U (.lst ys)/\F' l=Z/\¬ Lv au δ'.mu l/\ae F' acc ys/\iD ⟨cW cp δ1.sl,δ1.mu⟩ it.bg g t f K (it.items.drop i) acc δ',⟨↑it.items,F1,aI,_,[],[],⋯,Ext.refl.other hl,S0,aY,f1,l1,.nil,h⟩,?_⟩;ext i m τ H' ⟨F',au,δ',acc,ys,hm,E',S',gA,lW,n6,ia,h⟩
 by_cases dP:i<↑it.items
 .rw[XJ dP] at h
  let⟨ck,h⟩:=h;let⟨go,yl⟩:=(I1 F' au δ' τ H' E'.same E'.pre S' ck).2 i _ (pj dP)
  let step:∀{F2:Hp}{bZ:-O}{Ab:-(Option OV)}{H2:Hp},Ext F' au δ'.mu H' F2 bZ Ab H2->H2 l=U (.lst ys)/\F2 l=Z/\¬ Lv bZ Ab l/\ae F2 acc ys:=λ{F2 bZ Ab H2} e=>by
   refine⟨e.keep _ _ gA n6 (λz=>by let⟨ps,q⟩:=ay.tb S1.tab z;rw[hl] at q;cases q),?_,λz=>?_,ia.same e.same⟩
   .cases q:F2 l with
    |none=>rfl
    |some u =>
     rcases e.new l u q with z|z|z
     .rw[lW] at z;cases z
     .rw[gA] at z;cases z
     .exact absurd z n6
   .rcases e.bN l z with z|z
    .exact n6 z
    .rw[gA] at z;cases z
  refine .inr ⟨go,fun τ2 H2=>∃F2 bZ δ2 lX wg,Ext F1 aI δ1.mu H1 F2 bZ δ2.mu H2/\SR F2 bZ δ2 τ2 H2/\H2 l=U (.lst wg)/\F2 l=Z/\¬ Lv bZ δ2.mu l/\ae F2 lX wg/\iD ⟨cW cp δ1.sl,δ1.mu⟩ it.bg g t f K (it.items.drop (i+1)) lX δ2,
   fun τ2 H2 ⟨F2,bZ,δ2,lX,wg,r⟩↦⟨m-1,⋯,F2,bZ,δ2,lX,wg,⋯,r⟩,λx H2 y=>?_⟩
  let⟨sm,is⟩:=yl x H2 y;let X2:=Ext.al S' sm;calc⟨_,au,δ',.p _,_,S'.al sm,is,h,fun δ3 h3 F3 qX σ3 H3 X3 S3=>?_⟩;calc⟨F3,qX,δ3,_,S3,h3,λbb δ4 h4 F4 we H4 X4 S4=>?_⟩;let Ac:=(X2.trans X3).trans X4
  cases bb with
  |false =>
   dsimp only at h4 ⊢;rw[VR Mw] at h4 ⊢;let⟨a1,a2,a3,a4⟩:=step Ac;exact⟨F4,_,_,acc,ys,(E'.trans Ac).trim S1.cf,S4.trim (δ0:=⟨cW cp δ1.sl,δ1.mu⟩),a1,a2,λz=>a3 z.take,a4,h4⟩
  |true =>
   dsimp only at h4 ⊢;rw[Xa Y] at h4 ⊢;calc⟨F4,we,δ4,_,S4,h4,λy δ5 h5 v F5 V0 H5 X5 S5 V5=>?_⟩;let⟨e,δ6,F6,⟨hlen,h6⟩,X6,S6,i6⟩:=ua S5 V5 h5;let FZ:=(Ac.trans X5).trans X6;let⟨a1,a2,a3,a4⟩:=step FZ;calc⟨ys,a1,lM (by rw[↑a4];symm),F6,_,_,acc++[e],ys++[v],?_,(S6.other a2 a3 (ay.put S6.tab a1 (.inl ⟨_,Y⟩))).trim (δ0:=⟨cW cp δ1.sl,δ1.mu⟩),aY,a2,λz=>a3 z.take,a4.snoc i6,h6⟩;exact((E'.trans FZ).other hl).trim S1.cf
 .let ei:i=↑it.items:=by symm
  subst ei;rw[q0r (vQ _)] at h;let⟨ck,h⟩:=h;calc .inl ⟨(I1 F' au δ' τ H' E'.same E'.pre S' ck).1,fin _ _ _ _ _ _ _ h E' S' gA lW n6 ia⟩
theorem F7{cp:-(Option Nat)}:∀σ H Q,tD (iE w cp g t f) σ H Q->tF (iC w) cp (λ_=>iB g) (λ_=>cg t) (λ_=>tD f) σ H Q:=fun σ H Q h0_=>el7 h0_ λF ad δ K S q k =>by
 calc⟨F,ad,δ,_,S,q,λit δ1 h1 J F1 aI H1 E1 S1 I1=>λd l hl=>?_⟩;calc FY S1 I1 hl h1 λacc δ' F' au τ H' ys hk E' S' gA lW n6 ia=>?_;let sm:ar F' (upd F' l (.lst ys)):=bT lW;calc k _ _ hk _ _ _ _ (E1.trans (E'.adopt hl lW)) (SR.back (sl:=δ'.sl) S1 (E'.adopt hl lW) (S'.adopt lW gA n6)) ?_;show Is _ (.lst acc) _;erw[Is];calc⟨l,ys,Y,aY,ia.same sm⟩
theorem Ol{cp:-(Option Nat)}:∀σ H Q,tD (n5 w cp g t f) σ H Q->tF (iC w) cp (λ_=>iB g) (λ_=>cg t) (λ_=>tD f) σ H Q:=fun σ H Q h0_=>el7 h0_ λF ad δ K S q k =>by
 calc⟨F,ad,δ,_,S,q,λit δ1 h1 J F1 aI H1 E1 S1 I1=>λd l hl=>?_⟩;calc FY S1 I1 hl h1 λacc δ' F' au τ H' ys hk E' S' gA lW n6 ia=>?_;let S2:=S'.dz (ov:=.lst acc) lW gA n6 ⟨ys,Y,ia⟩;let E2:=E'.dz (ov:=.lst acc) hl S'.cf;calc k _ _ hk _ _ _ _ (E1.trans E2) (SR.back (sl:=δ'.sl) S1 E2 S2) ⟨l,?_,Y⟩;rw[<-S'.cf,W8 (vQ _),Yl];rfl
theorem F8(cp:-(Option Nat))(Nb:-R)(hc:X.calm=θ)(hi:JI X tg iter (iC w))(hg:∀d,JG (bS X scope Nb d) tg (iB g))(hf:∀d,JF (bS X scope Nb d) ifs (cg t))(he:∀d,JE (bS X scope Nb d) elt (tD f))
  (hk:scope.kind=.function:=by rfl) (ho:kP X.N X.env.scope scope Nb cp=θ:=by first|rfl|kernel_rfl) (hs:∀x,foldedSetIterable iter X.env x=pure x:=by ext _;rfl) :
  JE X (.ListComp elt [⟨tg,iter,ifs,0⟩] scope pos) (tD (iE w cp g t f)):=(EN cp Nb hc hi hg hf he hk ho hs).weak F7
theorem Om(cp:-(Option Nat))(Nb:-R)(hc:X.calm=θ)(hi:JI X tg iter (iC w))(hg:∀d,JG (bS X scope Nb d) tg (iB g))(hf:∀d,JF (bS X scope Nb d) ifs (cg t))(he:∀d,JE (bS X scope Nb d) elt (tD f))
  (hk:scope.kind=.function:=by rfl) (ho:kP X.N X.env.scope scope Nb cp=θ:=by first|rfl|kernel_rfl) (hs:∀x,foldedSetIterable iter X.env x=pure x:=by ext _;rfl) :
  JE X (.ListComp elt [⟨tg,iter,ifs,0⟩] scope pos) (tD (n5 w cp g t f)):=(EN cp Nb hc hi hg hf he hk ho hs).weak Ol
theorem Oo[bu](cp:-(Option Nat))(Nb:-R){i:Nat}{x:R}{pos' gs:y}(hN:X.N.Nodup)(hi:X.N[i]?=U x)(hx:Loc X.env.scope x)(hc:X.calm=θ)(hit:JI X tg iter (iC w))(hg:∀d,JG (bS X scope Nb d) tg (iB g))(hf:∀d,JF (bS X scope Nb d) ifs (cg t))(he:∀d,JE (bS X scope Nb d) elt (tD f))
  (hk:scope.kind=.function:=by rfl) (ho:kP X.N X.env.scope scope Nb cp=θ:=by first|rfl|kernel_rfl) (hs:∀x,foldedSetIterable iter X.env x=pure x:=by ext _;rfl)
  (tI:swapsWith (.ListComp elt [⟨tg,iter,ifs,0⟩] scope pos) (U (.Name x pos')) gs.line X.env=pure θ:=by rfl)
  (iG:d5 X x:=by first|exact .inl Y|exact .inr Y|assumption) :
  JS X (.Assign [.Name x pos'] (.ListComp elt [⟨tg,iter,ifs,0⟩] scope pos) gs) (b8 (aB i (iE w cp g t f))) :=
 (MQ cp Nb hN hi hx hc hit hg hf he hk ho hs tI iG).weak λD σ H h0_=>el7 h0_ λF ad δ K S q k =>F7 σ H _ ⟨F,ad,δ,_,S,q,λx δ1 h1 v F1 aI H1 E1 S1 V1=>k.nx _ h1 _ _ _ _ E1 (S1.set V1)⟩
end
inductive RV where
 |p (d:D)|n (ds:-D)|a (j:Nat)|t (d:D) (ds:-D)
def pN(F' H H':Hp)(d:D)(ds:-D)(v:V):Prop:=∃a b u vs,v=.ref a/\F' a=U (.tup [u,.ref b])/\Is F' d u/\H b=Z/\H' b=U (.lst vs)/\F' b=Z/\ae F' ds vs
abbrev GD:=-DV->-OV->(RV->-OV->Prop)->Prop
structure wj(F:Hp)(ad:-O)(H:Hp)(r:RV)(ows:-OV)(v:V)(F' H':Hp):Prop where
 sub:ar F' H'
 same:ar F F'
 new:∀a o,F' a=U o->F a=U o\/H a=Z
 keep:∀a o,H a=U o->a∉ad->a∉ay.ad->H' a=U o
 tab:ay.ok H'
 nt:∀a∈ay.ad,F' a=Z
 len:↑ows=↑ad
 own:∀(j:Nat)(ow:OV),ows[j]?=U ow->∃a o,ad[j]?=U a/\H' a=U o/\eW F' ow o
 off:∀a∈ad,F' a=Z
 res:match r with
  |.p d=>Is F' d v
  |.n ds=>∃a vs,v=.ref a/\H a=Z/\H' a=U (.lst vs)/\F' a=Z/\ae F' ds vs
  |.a j=>∃a,ad[j]?=U a/\v=.ref a
  |.t d ds=>pN F' H H' d ds v
def jZ(G:GD)(n:Nat):Sp:=λvs H Q _=>↑vs=n/\∃F ad ys ovs K,SR F ad ⟨ys.map U,ovs.map U⟩ (vs.map U) H/\G ys ovs K/\∀r ows,K r ows->∀v F' H',wj F ad H r ows v F' H'->Q v H'
def d8(n:Nat)(K:RV->-OV->Prop)(x:DV)(δ:aw):Prop:=∃ows,δ.mu.take n=ows.map U/\↑ows=n/\match x with
 |.p d=>K (.p d) ows
 |.o k=>if k<n then K (.a k) ows else match δ.mu[k]? with
  |some (some (.lst ds))=>K (.n ds) ows\/K (.p (.lst ds)) ows
  |_=>False
 |.t d k=>n<=k/\match δ.mu[k]? with
  |some (some (.lst ds))=>K (.t d ds) ows
  |_=>False
noncomputable def gN(n:Nat)(K:RV->-OV->Prop):KS where
 nx:=d8 n K (.p .non)
 rt:=d8 n K
section
variable{F F' H H':Hp}{ad au:-O}{σ σ':St}
theorem F9{α:Type}{l:-α}{i:Nat}{x:α}(h:(l.map U)[i]?=U (U x)):l[i]?=U x:=by
 rw[W5] at h;let⟨y,e,q⟩:=Xf.mp h;cases q;calc e
theorem Oq{α:Type}{l:-α}{i:Nat}{x:α}(h:l[i]?=U x):(l.map U)[i]?=U (U x):=by
 rw[W5,h];rfl
theorem SR.start{ys:-DV}{mu:-(Option OV)}{vs:-V}{N:-R}(S:SR F ad ⟨ys.map U,mu⟩ (vs.map U) H):SR F ad ⟨ys.map U++W7 (↑N-↑vs) Z,mu⟩ (start N vs) H:=by
 let hl:↑vs=↑ys:=by
  let:=S.len;rw[qJ] at this;rw[this];rw[qJ]
 refine⟨S.sub,S.off,S.cf,S.inj,S.mu,λi x e=>?_,?_,S.tab,S.nt⟩
 .let hi:i<↑ys:=by
   by_cases c:i<↑ys
   .exact c
   .rw[W8 (by rw[qJ];symm),Zo] at e
    split at e
    .cases e
    .cases e
  rw[W6 (by rw[qJ];calc hi)] at e;let⟨v,h1,h2⟩:=S.sl i x e;exact⟨v,by unfold L2.start;rw[W6 (by rw[qJ,hl];calc hi)];calc h1,h2⟩
 .unfold L2.start
  rw[EB,EB,Yu,Yu,qJ,qJ,hl]
theorem wk{ovs:-OV}{δ:aw}{x:DV}{v:V}{K:RV->-OV->Prop}{Q:VK}{sl:-(Option DV)}{τ:St}(S0:SR F ad ⟨sl,ovs.map U⟩ τ H)(E:Ext F ad (ovs.map U) H F' au δ.mu H')(S:SR F' au δ σ' H')(V:df F' au x v)
  (h:d8 ↑ovs K x δ) (k:∀r ows,K r ows->∀v F' H',wj F ad H r ows v F' H'->Q v H'):Q v H':=by
 let⟨ows,tk,hl,h⟩:=h;let al:↑ad=↑ovs:=by let:=S0.cf;rwa [qJ] at this
 let lv:∀(j:Nat)(a:O),ad[j]?=U a->∃ow,ows[j]?=U ow/\δ.mu[j]?=U (U ow)/\Lv au δ.mu a:=λj a e=>by
  let hj:j<↑ovs:=by rw[<-al];exact(ph.mp e).1
  let h1:(δ.mu.take ↑ovs)[j]?=U (U (ows[j]'(by rw[hl];calc hj))):=by
   rw[tk,W5,pj (by rw[hl];calc hj)];rfl
  rw[XM hj] at h1;exact⟨_,pj (by rw[hl];calc hj),h1,j,_,E.pre j a e,h1⟩
 let iW:∀a∈ad,F' a=Z:=λa ha=>by
  let⟨j,e⟩:=Xb.mp ha;let⟨_,_,_,l⟩:=lv j a e;exact S.off a l
 let base:∀{F2:Hp},ar F' F2->ar F2 H'->(∀a o,F2 a=U o->F' a=U o\/(H a=Z/\¬ a∈ad))->(∀a∈ad,F2 a=Z)->(∀a∈ay.ad,F2 a=Z)->∀{r:RV},(match r with
   |.p d=>Is F2 d v
   |.n ds=>∃a vs,v=.ref a/\H a=Z/\H' a=U (.lst vs)/\F2 a=Z/\ae F2 ds vs
   |.a j=>∃a,ad[j]?=U a/\v=.ref a
   |.t d ds=>pN F2 H H' d ds v)->wj F ad H r ows v F2 H':=λ{F2} s1 s2 n2 o2 Ot {r} res=>by
  refine⟨s2,E.same.trans s1,λa o e=>?_,λa o e n t=>?_,S.tab,Ot,by rw[hl,al],λj ow e=>?_,o2,res⟩
  .rcases n2 a o e with e|⟨e,_⟩
   .rcases E.new a o e with z|z|⟨j,ov,z,_⟩
    .exact .inl z
    .exact .inr z
    .rw[iW a (Xb.mpr ⟨j,z⟩)] at e;cases e
   .exact .inr e
  .exact E.keep a o e (λ⟨j,ov,z,_⟩↦n (Xb.mpr ⟨j,z⟩)) t
  .let hj:j<↑ad:=by rw[al,<-hl];exact(ph.mp e).1
   let⟨Ad,e1,e2,_⟩:=lv j _ (pj hj);rw[e] at e1;cases e1;let⟨a,o,e3,e4,h5⟩:=S.mu j _ e2;rw[E.pre j _ (pj hj)] at e3;cases e3
   exact⟨_,o,pj hj,e4,h5.same s1⟩
 let fresh:∀{i:Nat}{ds:-D}{a:O},¬ i<↑ovs->au[i]?=U a->δ.mu[i]?=U (U (.lst ds))->∃vs,H' a=U (.lst vs)/\ae F' ds vs/\a∉ad/\F' a=Z/\H a=Z:=λ{i ds a} c e1 em=>by
  let⟨a',o,e2,e3,vs,rfl,h4⟩:=S.mu i _ em;rw[e1] at e2;cases e2
  let na:a∉ad:=λz=>by
   let⟨j,e⟩:=Xb.mp z;let⟨ow,_,e5,_⟩:=lv j a e;let:i=j:=S.inj i j a _ _ e1 (E.pre j a e) em e5;subst this;exact c (by rw[<-al];calc(ph.mp e).1)
  calc⟨vs,e3,h4,na,S.off a ⟨i,_,e1,em⟩,?_⟩;rcases E.bN a ⟨i,_,e1,em⟩ with⟨j,ov,z,_⟩|z
  .exact absurd (Xb.mpr ⟨j,z⟩) na
  .exact z
 cases x with
 |p d=>exact k _ _ h _ _ _ (base (F2:=F') (λ_ _ e=>e) S.sub (λ_ _ e=>.inl e) iW S.nt V)
 |t d i =>
  let⟨a,b,u,rfl,e0,e2,e1⟩:=V;let⟨c,h⟩:=h;split at h
  .rename_i ds em
   let⟨vs,e3,h4,na,fa,ha⟩:=fresh ⋯ e1 em;exact k _ _ h _ _ _ (base (F2:=F') (λ_ _ e=>e) S.sub (λ_ _ e=>.inl e) iW S.nt ⟨a,b,u,vs,Y,e0,e2,ha,e3,fa,h4⟩)
  .exact h.elim
 |o i =>
  dsimp only at h;let⟨a,e1,rfl⟩:=V
  by_cases c:i<↑ovs
  .rw[Xa c] at h
   let ei:ad[i]?=U a:=by
    let:=E.pre i _ (pj (by rw[al];calc c));rw[e1] at this;rw[pj (by rw[al];calc c)];exact this.symm
   exact k _ _ h _ _ _ (base (F2:=F') (λ_ _ e=>e) S.sub (λ_ _ e=>.inl e) iW S.nt ⟨a,ei,Y⟩)
  .rw[VR c] at h
   split at h
   .rename_i ds em
    let⟨vs,e3,h4,na,fa,ha⟩:=fresh c e1 em;rcases h with h|h
    .exact k _ _ h _ _ _ (base (F2:=F') (λ_ _ e=>e) S.sub (λ_ _ e=>.inl e) iW S.nt ⟨a,vs,Y,ha,e3,fa,h4⟩)
    .refine k _ _ h _ _ _ (base (F2:=upd F' a (.lst vs)) (bT fa) (λb o e=>?_) (λb o e=>?_) (λb hb=>?_) (λb hb=>?_) ?_)
     .by_cases z:b=a
      .subst z;rw[aY] at e;cases e;exact e3
      .rw[aC z] at e;exact S.sub b o e
     .by_cases z:b=a
      .subst z;exact .inr ⟨ha,na⟩
      .rw[aC z] at e;exact .inl e
     .rw[aC λz=>na (by subst z;calc hb)];exact iW b hb
     .let⟨ps,q⟩:=ay.tb S.tab hb
      rw[aC λz=>by subst z;rw[e3] at q;cases q];exact S.nt b hb
     .show Is _ (.lst ds) _
      exact⟨a,vs,Y,aY,h4.same (bT fa)⟩
   .calc h.elim
end
theorem gb.Ou{P:n}{w:ω}{K:tu}{mg:R->Option J}{base:I}{x qual:R}{st:o}{f:O}{fd:FuncData}{N ps:-R}{k:Nat}{G:GD}(F:gb K x qual st f fd)(S:kJ N ps (cD st))
  (eI:∀(aT:J)(A:q)(outer:-t)(s:L)(H:Hp)(E:XK),aZ k (A.deeper (envOfC qual (cD st) ⇑s f aT)) →
   ∃B:WS,bR (aQ fG P w K mg base N qual (cD st) f aT A outer s H E).nv (d7 st) (b8 B)/\∀ys ovs K',↑ys=↑ps->G ys ovs K'->B (gN ↑ovs K') ⟨ys.map U++W7 (↑N-↑ps) Z,ovs.map U⟩) :
  bt P w K mg base fG (k+1) f fd ps (jZ G ↑ps) :=
 F.qK S (λvs H Q E h=>h.1) λaT A outer s H vs Q E hr h=>by
  let⟨hl,Fz,ad,ys,ovs,K',S0,g,kk⟩:=h;let⟨B,jb,hb⟩:=eI aT A outer s H E hr
  let hy:↑ys=↑ps:=by
   let:=S0.len;rw[qJ] at this;rw[<-hl,this];rw[qJ]
  refine⟨_,jb,Fz,ad,⟨ys.map U++W7 (↑N-↑ps) Z,ovs.map U⟩,gN ↑ovs K',by rw[<-hl];calc S0.start,hb ys ovs K' hy g,⟨fun δ' h F' au σ' H' E' S'=>?_,fun δ' h=>h.elim,fun δ' h=>h.elim,λy δ' h v F' au σ' H' E' S' V=>?_,trivial⟩⟩
  .exact wk (σ':=σ') S0 E' S' (x:=.p .non) (v:=.non) Y h kk
  .calc wk (σ':=σ') S0 E' S' V h kk
noncomputable def passes(mu:-(Option OV)):-DV->Nat->Option (-DV×-(Nat×OV))
 |[],_=>U ([],[])
 |.p d::xs,j=>match passes mu xs j with
  |some r=>U (.p d::r.1,r.2)
  |none=>Z
 |.o k::xs,j=>match mu[k]? with
  |some (some ov)=>match passes mu xs (j+1) with
   |some r=>U (.o j::r.1,(k,ov)::r.2)
   |none=>Z
  |_=>Z
 |.t _ _::_,_=>Z
noncomputable def eM(mu:-(Option OV)):-(Nat×OV)->-OV->-(Option OV)
 |(k,_)::r,ow::ows=>eM (mu.set k (U ow)) r ows
 |_,_=>mu
noncomputable def j3:-(Nat×OV)->Bool
 |[]=>θ
 |(k,_)::r => !(r.any λe=>e.1==k)&&j3 r
def lY(δ:aw)(ft:-(Nat×OV))(K:DV->aw->Prop)(r:RV)(ows:-OV):Prop:=match r with
 |.p d=>K (.p d) ⟨δ.sl,eM δ.mu ft ows⟩
 |.n ds=>K (.p (.lst ds)) ⟨δ.sl,eM δ.mu ft ows⟩
 |.t d ds=>K (.p (.tup [d,.lst ds])) ⟨δ.sl,eM δ.mu ft ows⟩
 |.a j=>match ft[j]? with
  |some ko=>K (.o ko.1) ⟨δ.sl,eM δ.mu ft ows⟩
  |none=>False
def ug(δ:aw)(ft:-(Nat×OV))(K:DV->aw->Prop)(r:RV)(ows:-OV):Prop:=match r with
 |.n ds=>K (.o ↑(eM δ.mu ft ows)) ⟨δ.sl,eM δ.mu ft ows++[U (.lst ds)]⟩
 |_=>False
def aj(n:Nat)(G:GD)(fa:WA):WE:=fun δ K=>fa δ λxs δ1=>match passes δ1.mu xs 0 with
 |some r=>(j3 r.2=θ/\↑r.1=n)/\G r.1 (r.2.map (·.2)) (lY δ1 r.2 K)
 |none=>False
def uh(n:Nat)(G:GD)(fa:WA):WE:=fun δ K=>fa δ λxs δ1=>match passes δ1.mu xs 0 with
 |some r=>(j3 r.2=θ/\↑r.1=n)/\G r.1 (r.2.map (·.2)) (ug δ1 r.2 K)
 |none=>False
section
variable{F F' H H':Hp}{ad au:-O}{δ:aw}{σ σ':St}
theorem wm{mu:-(Option OV)}(hm:∀(k:Nat) (ov:OV),mu[k]?=U (U ov)->∃a o,ad[k]?=U a/\H a=U o/\eW F ov o):∀{xs:-DV}{vs:-V}{j:Nat}{r:-DV×-(Nat×OV)},passes mu xs j=U r->cV F ad xs vs →
  ∃as:-O,↑as=↑r.2/\(∀(i:Nat)(ko:Nat×OV),r.2[i]?=U ko->mu[ko.1]?=U (U ko.2)/\∃a o,as[i]?=U a/\ad[ko.1]?=U a/\H a=U o/\eW F ko.2 o) ∧
   ∀(pre:-O),pre.length=j->∃_u:Unit,↑vs=↑r.1/\∀(i:Nat)(y:DV),r.1[i]?=U y->∃v,vs[i]?=U v/\df F (pre++as) y v
 |[],vs,j,r,h,hv=>by
  cases h
  let:vs=[]:=hv;subst this;exact⟨[],Y,λi ko e=>by simp at e,λpre _=>⟨(),Y,λi y e=>by simp at e⟩⟩
 |.p d::xs,_,j,r,h,⟨v,t,e,h1,h2⟩=>by
  subst e;unfold passes at h;split at h
  .rename_i r' hr
   cases h
   let⟨as,l,b,c⟩:=wm hm hr h2;refine⟨as,l,b,λpre hp=>⟨(),?_,λi y e=>?_⟩⟩
   .let⟨_,c1,_⟩:=c pre hp
    rw[EA,EA,c1]
   .let⟨_,_,c2⟩:=c pre hp
    cases i with
    |zero=>cases(show U (DV.p d)=U y by simpa using e);exact⟨v,Y,h1⟩
    |succ i=>simpa using c2 i y e⁻¹
  .cases h
 |.o k::xs,_,j,r,h,⟨v,t,e,h1,h2⟩=>by
  subst e;unfold passes at h;split at h
  .rename_i ov hk
   split at h
   .rename_i r' hr
    cases h
    let⟨as,l,b,c⟩:=wm hm hr h2;let⟨a,e1,rfl⟩:=h1;let⟨a',o,e2,e3,e4⟩:=hm k ov hk;rw[e1] at e2;cases e2;refine⟨a::as,by rw[EA,EA,l],λi ko e=>?_,λpre hp=>⟨(),?_,λi y e=>?_⟩⟩
    .cases i with
     |zero=>cases(show U (k,ov)=U ko by simpa using e);exact⟨hk,a,o,Y,e1,e3,e4⟩
     |succ i=>simpa using b i ko e⁻¹
    .let⟨_,c1,_⟩:=c (pre++[a]) (by rw[EB,hp];rfl)
     rw[EA,EA,c1]
    .let⟨_,_,c2⟩:=c (pre++[a]) (by rw[EB,hp];rfl)
     cases i with
     |zero =>
      cases(show U (DV.o j)=U y by simpa using e)
      calc⟨_,Y,a,?_,Y⟩;rw[W8 ⋯,hp,Yl];rfl
     |succ i =>
      let⟨v',c3,c4⟩:=c2 i y e⁻¹;exact⟨v',by simpa using c3,by rw[YX] at c4;calc c4⟩
   .cases h
  .cases h
theorem F_:∀{ft:-(Nat×OV)},j3 ft=θ->∀(i j:Nat)(k:Nat)(a b:OV),ft[i]?=U (k,a)->ft[j]?=U (k,b)->i=j
 |[],_,i,j,k,a,b,e,_=>by simp at e
 |(k',ov)::r,h,i,j,k,a,b,e1,e2=>by
  unfold j3 at h;erw[W9,q0u] at h
  let no:∀(m:Nat)(c:OV),r[m]?=U (k',c)->False:=λm c e=>by
   let:=YZ.mp h.1 _ (Xb.mpr ⟨m,e⟩);exact this (by simp)
  cases i with
  |zero =>
   cases(show U (k',ov)=U (k,a) by simpa using e1)
   cases j with
   |zero=>rfl
   |succ j=>exact(no j b e2⁻¹).elim
  |succ i =>
   cases j with
   |zero=>cases(show U (k',ov)=U (k,b) by simpa using e2);exact(no i a e1⁻¹).elim
   |succ j=>rw[F_ h.2 i j k a b e1⁻¹ e2⁻¹]
theorem Ga:∀(ft:-(Nat×OV))(ows:-OV)(mu:-(Option OV)),↑(eM mu ft ows)=↑mu
 |(k,_)::r,ow::ows,mu=>by rw[eM,Ga r ows,Yn]
 |[],_,_=>Y
 |_::_,[],_=>Y
theorem wo:∀(ft:-(Nat×OV))(ows:-OV)(mu:-(Option OV))(l:Nat),(∀ko∈ft,ko.1≠l)->(eM mu ft ows)[l]?=mu[l]?
 |(k,_)::r,ow::ows,mu,l,h=>by
  rw[eM,wo r ows _ l λko hk=>h ko (Mu _ hk),XG (h _ Mv)]
 |[],_,_,_,_=>Y
 |_::_,[],_,_,_=>Y
theorem Gb:∀{ft:-(Nat×OV)}{ows:-OV}{mu:-(Option OV)}{i:Nat}{ko:Nat×OV}{ow:OV},j3 ft=θ->ft[i]?=U ko->ows[i]?=U ow->ko.1<↑mu->(eM mu ft ows)[ko.1]?=U (U ow)
 |(k,ov)::r,Ad::ows,mu,0,ko,ow,h,e1,e2,hl=>by
  cases(show U (k,ov)=U ko by simpa using e1)
  cases(show U Ad=U ow by simpa using e2)
  unfold j3 at h;erw[W9,q0u] at h;rw[eM,wo r ows _ k λko hk z=>absurd z⁻¹ (YZ.mp h.1 ko hk),Xz hl]
 |(k,ov)::r,Ad::ows,mu,i+1,ko,ow,h,e1,e2,hl=>by
  unfold j3 at h;erw[W9,q0u] at h;rw[eM];exact Gb h.2 e1⁻¹ e2⁻¹ (by rw[Yn];calc hl)
 |[],_,_,i,_,_,_,e1,_,_=>by simp at e1
 |_::_,[],_,i,_,_,_,_,e2,_=>by simp at e2
theorem Ae{xs:-DV}{vs:-V}{r:-DV×-(Nat×OV)}{G:GD}{n:Nat}{Q:VK}{E:XK}{K:RV->-OV->Prop}(S:SR F ad δ σ H)(V:cV F ad xs vs)(hn:↑vs=n)(hp:passes δ.mu xs 0=U r)(nd:j3 r.2=θ)(g:G r.1 (r.2.map (·.2)) K)
  (fin:∀res ows v F' H',K res ows->Ext F ad δ.mu H F' ad (eM δ.mu r.2 ows) H'->SR F' ad ⟨δ.sl,eM δ.mu r.2 ows⟩ σ H'->(match res with
   |.p d=>Is F' d v
   |.n ds=>∃a vs,v=.ref a/\H a=Z/\H' a=U (.lst vs)/\F' a=Z/\ae F' ds vs
   |.a j=>∃ko a,r.2[j]?=U ko/\ad[ko.1]?=U a/\v=.ref a
   |.t d ds=>pN F' H H' d ds v)->Q v H'):jZ G n vs H Q E:=by
 let⟨as,al,b,c⟩:=wm S.mu hp V;let⟨_,c1,c2⟩:=c [] Y
 let qY:∀(i:Nat)(a:O),as[i]?=U a->Lv ad δ.mu a/\∃ko,r.2[i]?=U ko/\ad[ko.1]?=U a/\δ.mu[ko.1]?=U (U ko.2):=λi a e=>by
  let hi:i<↑r.2:=by rw[<-al];exact(ph.mp e).1
  let⟨m1,a',o,e1,e2,_,_⟩:=b i _ (pj hi);rw[e] at e1;cases e1;exact⟨⟨_,_,e2,m1⟩,_,pj hi,e2,m1⟩
 refine⟨hn,F,as,r.1,r.2.map (·.2),K,⟨S.sub,λa ⟨i,ov,e1,e2⟩↦S.off a (qY i a e1).1,by rw[al];rw[qJ,qJ],λi j a ov ow e1 e2 _ _=>?_,λi ov e=>?_,λi y e=>?_,?_,S.tab,S.nt⟩,g,λres ows hk v F' H' P=>?_⟩
 .let⟨_,ko,k1,k2,k3⟩:=qY i a e1
  let⟨_,kp,p1,p2,p3⟩:=qY j a e2;let:ko.1=kp.1:=S.inj _ _ a _ _ k2 p2 k3 p3;exact F_ nd i j ko.1 ko.2 kp.2 k1 (by rw[this];calc p1)
 .let e:=F9 e
  rw[W5] at e;let⟨ko,e1,rfl⟩:=Xf.mp e;let⟨_,a,o,e2,_,e4,e5⟩:=b i ko e1;exact⟨a,o,e2,e4,e5⟩
 .let⟨v,e1,e2⟩:=c2 i y (F9 e)
  exact⟨v,Oq e1,by simpa using e2⟩
 .show ↑(vs.map U)=↑(r.1.map U)
  rw[qJ,qJ,c1]
 .let ol:↑ows=↑r.2:=by rw[P.len,al]
  let jC:∀(l:Nat)(ow:OV),(eM δ.mu r.2 ows)[l]?=U (U ow)->(∃(i:Nat)(ko:Nat×OV),r.2[i]?=U ko/\ko.1=l/\ows[i]?=U ow)\/((∀ko∈r.2,ko.1≠l)/\δ.mu[l]?=U (U ow)):=λl ow e=>by
   by_cases z:∃ko∈r.2,ko.1=l
   .let⟨ko,hk,rfl⟩:=z
    let⟨i,hi⟩:=Xb.mp hk;let pO:i<↑ows:=by rw[ol];exact(ph.mp hi).1
    let:=Gb (mu:=δ.mu) nd hi (pj pO) (ph.mp (b i ko hi).1).1;rw[e] at this;cases this
    exact .inl ⟨i,ko,hi,Y,pj pO⟩
   .let z':∀ko∈r.2,ko.1≠l:=λko hk q=>z ⟨ko,hk,q⟩
    rw[wo _ _ _ _ z'] at e;exact .inr ⟨z',e⟩
  let Gd:∀(l:Nat)(ow:OV)(a:O),ad[l]?=U a->(eM δ.mu r.2 ows)[l]?=U (U ow)->Lv ad δ.mu a:=λl ow a e1 e2=>by
   rcases jC l ow e2 with⟨i,ko,hi,rfl,_⟩|⟨_,q⟩
   .exact⟨_,_,e1,(b i ko hi).1⟩
   .exact⟨_,_,e1,q⟩
  let Ov:∀a,a∈as->Lv ad δ.mu a:=λa ha=>by
   let⟨i,e⟩:=Xb.mp ha;exact(qY i a e).1
  let ex:Ext F ad δ.mu H F' ad (eM δ.mu r.2 ows) H':=by
   refine⟨P.same,λa o e=>?_,λa o e n t=>P.keep a o e (λz=>n (Ov a z)) t,λ_ _ e=>e,λa ⟨l,ow,e1,e2⟩↦.inl (Gd l ow a e1 e2),λa o e=>?_⟩
   .rcases P.new a o e with z|z
    .exact .inl z
    .exact .inr (.inl z)
   .by_cases z:a∈as
    .let⟨i,e1⟩:=Xb.mp z
     let hi:i<↑ows:=by rw[P.len];exact(ph.mp e1).1
     let⟨a',o',e2,e3,_⟩:=P.own i _ (pj hi);rw[e1] at e2;cases e2;exact⟨o',e3⟩
    .by_cases t:a∈ay.ad
     .let⟨ps,q⟩:=ay.tb P.tab t
      exact⟨_,q⟩
     .exact⟨o,P.keep a o e z t⟩
  let Af:∀a,Lv ad δ.mu a->F' a=Z:=λa l=>by
   by_cases z:a∈as
   .exact P.off a z
   .cases q:F' a with
    |none=>rfl
    |some u =>
     rcases P.new a u q with y|y
     .rw[S.off a l] at y;cases y
     .let⟨k,ov,e1,e2⟩:=l
      let⟨a',o,e3,e4,_⟩:=S.mu k ov e2;rw[e1] at e3;cases e3;rw[y] at e4;cases e4
  let sr:SR F' ad ⟨δ.sl,eM δ.mu r.2 ows⟩ σ H':=by
   refine⟨P.sub,λa ⟨l,ow,e1,e2⟩↦Af a (Gd l ow a e1 e2),by rw[S.cf];calc(Ga _ _ _).symm,λk l a ov ow e1 e2 e3 e4=>?_,λl ow e=>?_,λi y e=>?_,S.len,P.tab,P.nt⟩
   .let h3:∃w,δ.mu[k]?=U (U w):=by
     rcases jC k ov e3 with⟨i,ko,hi,rfl,_⟩|⟨_,q⟩
     .exact⟨_,(b i ko hi).1⟩
     .exact⟨_,q⟩
    let h4:∃w,δ.mu[l]?=U (U w):=by
     rcases jC l ow e4 with⟨i,ko,hi,rfl,_⟩|⟨_,q⟩
     .exact⟨_,(b i ko hi).1⟩
     .exact⟨_,q⟩
    let⟨_,h3⟩:=h3;let⟨_,h4⟩:=h4;exact S.inj k l a _ _ e1 e2 h3 h4
   .rcases jC l ow e with⟨i,ko,hi,rfl,ho⟩|⟨z,q⟩
    .let⟨_,a,o,e1,e2,_,_⟩:=b i ko hi
     let⟨a',o',e3,e4,h5⟩:=P.own i ow ho;rw[e1] at e3;cases e3;exact⟨a,o',e2,e4,h5⟩
    .let⟨a,o,e1,e2,h⟩:=S.mu l ow q
     refine⟨a,o,e1,P.keep a o e2 (λy=>?_) (λt=>?_),h.same P.same⟩
     .let⟨i,e3⟩:=Xb.mp y
      let⟨_,ko,k1,k2,k3⟩:=qY i a e3;exact z ko (Xb.mpr ⟨i,k1⟩) (S.inj _ _ a _ _ k2 e1 k3 q)
     .let⟨ps,q2⟩:=ay.tb S.tab t
      rw[e2] at q2;cases q2
      rcases h.kind with⟨_,z⟩|⟨_,z⟩|⟨_,z⟩<;>cases z
   .let⟨v,e1,h⟩:=S.sl i y e
    exact⟨v,e1,h.ext ex⟩
  calc fin res ows v F' H' hk ex sr ?_;let lZ:=P.res
  cases res with
  |p d=>exact lZ
  |n ds=>exact lZ
  |t d ds=>exact lZ
  |a j =>
   let⟨a,e1,e2⟩:=lZ;let⟨_,ko,k1,k2,_⟩:=qY j a e1;calc⟨ko,a,k1,k2,e2⟩
end
section
variable{X:Cx}{fa:WA}{G:GD}{pos:y}
theorem Ag{F1 F2 H1 H2:Hp}{aI:-O}{δ1:aw}{σ:St}{xs:-DV}{vs:-V}{r:-DV×-(Nat×OV)}{ows:-OV}{a:O}(S1:SR F1 aI δ1 σ H1)(V1:cV F1 aI xs vs)(hp:passes δ1.mu xs 0=U r)(n1:H1 a=Z):¬ Lv aI (eM δ1.mu r.2 ows) a:=λ⟨k,ov,e1,e2⟩↦by
 let c:∃ov,δ1.mu[k]?=U (U ov):=by
  by_cases y:∃ko∈r.2,ko.1=k
  .let⟨ko,ir,rfl⟩:=y
   let⟨as,_,b,_⟩:=wm S1.mu hp V1;let⟨i,hi⟩:=Xb.mp ir;exact⟨_,(b i ko hi).1⟩
  .rw[wo _ _ _ _ λko ir q=>y ⟨ko,ir,q⟩] at e2
   exact⟨_,e2⟩
 let⟨Ox,c⟩:=c;let⟨a',o,e3,e4,_⟩:=S1.mu k Ox c;rw[e1] at e3;cases e3;rw[n1] at e4;cases e4
theorem cV.length{F:Hp}{ad:-O}:∀{xs:-DV}{vs:-V},cV F ad xs vs->↑vs=↑xs
 |[],vs,h=>by let h:vs=[]:=h;rw[h];rfl
 |x::xs,vs,⟨v,r,e,_,h2⟩=>by rw[e,EA,EA,cV.length h2]
theorem wq{mu:-(Option OV)}:∀{xs:-DV}{j:Nat}{r:-DV×-(Nat×OV)},passes mu xs j=U r->↑r.1=↑xs
 |[],j,r,h=>by cases h;rfl
 |.p d::xs,j,r,h=>by
  unfold passes at h;split at h
  .rename_i r' hr;cases h;rw[EA,EA,wq hr]
  .cases h
 |.o k::xs,j,r,h=>by
  unfold passes at h;split at h
  .split at h
   .rename_i r' hr;cases h;rw[EA,EA,wq hr]
   .cases h
  .cases h
section
variable{k:Nat}{f:O}{fd:FuncData}{ps:-R}{x:R}{p:y}{e:B}{es:-B}{n:Nat}
theorem Ge{E:XK}{F F1 H H1:Hp}{ad aI:-O}{δ δ1:aw}{σ:St}{K:DV->aw->Prop}{Q:VK}{xs:-DV}{vs:-V}(kk:∀x δ',K x δ'->∀v F' au H',Ext F ad δ.mu H F' au δ'.mu H'->SR F' au δ' σ H'->df F' au x v->Q v H')(h1:match passes δ1.mu xs 0 with
 |some r=>(j3 r.2=θ/\↑r.1=n)/\G r.1 (r.2.map (·.2)) (lY δ1 r.2 K)
 |none=>False)(E1:Ext F ad δ.mu H F1 aI δ1.mu H1)(S1:SR F1 aI δ1 σ H1)(V1:cV F1 aI xs vs):jZ G n (vs++[]) H1 Q E:=by
 split at h1
 .rename_i r hp
  let⟨⟨nd,hn⟩,h1⟩:=h1;rw[Ze];calc Ae S1 V1 (by rw[↑V1,<-wq hp,hn]) hp nd h1 λres ows v F2 H2 hk E2 S2 d9=>?_;unfold lY at hk
  cases res with
  |p d=>exact kk _ _ hk _ _ _ _ (E1.trans E2) S2 d9
  |n ds =>
   let⟨a,us,rfl,n1,n2,n3,n4⟩:=d9;calc kk _ _ hk _ _ _ _ (E1.trans (E2.adopt (o:=.lst us) n1 n3)) (S2.adopt n3 n2 (Ag (F2:=F2) (H2:=H2) S1 V1 hp n1)) ?_;show Is _ (.lst ds) _;exact⟨a,us,Y,aY,n4.same (bT n3)⟩
  |t d ds =>
   let⟨a,b,u,us,rfl,m1,m2,n1,n2,n3,n4⟩:=d9;calc kk _ _ hk _ _ _ _ (E1.trans (E2.adopt (o:=.lst us) n1 n3)) (S2.adopt n3 n2 (Ag (F2:=F2) (H2:=H2) S1 V1 hp n1)) ?_;show Is _ (.tup [d,.lst ds]) _;let sm:ar F2 (upd F2 b (.lst us)):=bT n3;exact⟨a,_,Y,sm _ _ m1,u,_,Y,m2.same sm,.ref b,_,Y,⟨b,us,Y,aY,n4.same sm⟩,Y⟩
  |a j =>
   let⟨ko,a,h1,h2,h3⟩:=d9;dsimp only at hk;rw[h1] at hk;exact kk _ _ hk _ _ _ _ (E1.trans E2) S2 ⟨a,h2,h3⟩
 .calc h1.elim
theorem Gf{E:XK}:∀σ H Q,tD (aj n G fa) σ H Q->nB (jZ G n) [] E (bH fa) σ H Q:=fun σ H Q h0_=>el7 h0_ λF ad δ K S q kk =>
 ⟨F,ad,δ,_,S,q,λxs δ1 h1 vs F1 aI H1 E1 S1 V1=>Ge kk h1 E1 S1 V1⟩
theorem Oy{E:XK}:∀σ H Q,tD (uh n G fa) σ H Q->nB (jZ G n) [] E (bH fa) σ H Q:=fun σ H Q h0_=>el7 h0_ λF ad δ K S q kk =>by
 calc⟨F,ad,δ,_,S,q,λxs δ1 h1 vs F1 aI H1 E1 S1 V1=>?_⟩;split at h1
 .rename_i r hp
  let⟨⟨nd,hn⟩,h1⟩:=h1;rw[Ze];refine Ae S1 V1 (by rw[↑V1,<-wq hp,hn]) hp nd h1 λres ows v F2 H2 hk E2 S2 d9=>?_
  cases res with
  |p d=>exact hk.elim
  |n ds =>
   let⟨a,us,rfl,n1,n2,n3,n4⟩:=d9;let oi:eW F2 (.lst ds) (.lst us):=⟨us,Y,n4⟩;calc kk _ _ hk _ _ _ _ (E1.trans (E2.dz (ov:=.lst ds) n1 S2.cf)) (S2.dz n3 n2 (Ag (F2:=F2) (H2:=H2) S1 V1 hp n1) oi) ⟨a,?_,Y⟩;let:↑aI=↑(eM δ1.mu r.2 ows):=S2.cf;rw[<-this,W8 (vQ _),Yl];rfl
  |a j=>exact hk.elim
  |t d ds=>exact hk.elim
 .calc h1.elim
theorem Oz(Fn:bt X.prog X.w X.K X.mg X.base fG k f fd ps (jZ G n))(hr:aZ k X.A)(hg:Gl X x)(hm:X.mg x=U (.ref f))(hk:XZ X.K (.ref f)=θ)(hb:Binds X.K fd ps [])
  (ha:JA X (e::es) (bH fa)) (cn:bf x:=by decide) (he:cj X e es:=by rfl) (bV:cR X pos es:=by rfl) :
  JE X (.Call (.Name x p) (e::es) [] pos) (tD (aj n G fa)):=(qE Fn hr hg hm hk hb .nil pk ha cn he bV).weak Gf
theorem OA(Fn:bt X.prog X.w X.K X.mg X.base fG k f fd ps (jZ G n))(hr:aZ k X.A)(hg:Gl X x)(hm:X.mg x=U (.ref f))(hk:XZ X.K (.ref f)=θ)(hb:Binds X.K fd ps [])
  (ha:JA X (e::es) (bH fa)) (cn:bf x:=by decide) (he:cj X e es:=by rfl) (bV:cR X pos es:=by rfl) :
  JE X (.Call (.Name x p) (e::es) [] pos) (tD (uh n G fa)):=(qE Fn hr hg hm hk hb .nil pk ha cn he bV).weak Oy
end
end
end L2
namespace PySem
open Sem (wp)
open AutoSeq1 (wpAny_loadPart')
theorem OB(l:O)(items:Array J)(n:Nat)(dct:Option O)(sl:Array (Option J)):
  Meets (Builtin.«enumerate.__new__» ⟨[.type "enumerate",.ref l],[]⟩) (λ_ R s=>s.heap.get? l=U {cls:=.type "tuple",dict:=dct,data:=.seq items n,slots:=sl} ∧
   R (.ok (.ret (.ref (s.heap.push {cls:=.type "tuple_iterator",data:=.fields #[.ref l,.int 0 0]}).objs.size)))
    {s with heap:=(s.heap.push {cls:=.type "tuple_iterator",data:=.fields #[.ref l,.int 0 0]}).push {cls:=.type "enumerate",data:=.fields #[.none,.bool ι,.ref ⇑s,rawInt 0,.none,.none]}}) :=
 .of_wp λprog w A R s h=>by
  let⟨hp,g,d,tk,os⟩:=s;let⟨hl,h⟩:=h;let Ah:=sub_enumerate;let hL:Heap.IsTuple (q3I ⟨hp,g,d,tk,os⟩) l items:=⟨_,hl,Y,n,Y⟩
  wp_walk using YB hl
  calc wpAny_stack_any λst=>zi ?_;split
  .rename_i c _ _ _ _ _
   cases(c==q1B "enumerate")
   .wp_walk using YB hl,Zy hL
    exact⟨_,Y,h⟩
   .wp_walk using YB hl,Zy hL
    exact⟨_,Y,h⟩
  .wp_walk using YB hl,Zy hL
   calc⟨_,Y,h⟩
section
variable{prog:n}{w:g}{A:q}{E:aM}{s:L}
theorem OC{l:O}{items:Array J}{Q:aM}(hL:s.heap.IsTuple l items)
  (h:∀h',IsEnum h' (⇑s+1) ⇑s 0 .none->h'.IsTupleIter ⇑s l 0->h'.objs.size=⇑s+2 →
   (∀b o,s.heap.get? b=U o->h'.get? b=U o)->Q (.ref (⇑s+1)) {s with heap:=h'}) :
  G (M prog w) A (call (.type "enumerate") [.ref l]) Q E s:=by
 let⟨⟨c,dct,dt,sl⟩,hl,hc,n,hd⟩:=hL;subst hc hd
 refine callType_new F.called_enumerate (by decide) (F.typeCall_enumerate_1 _) (F.newCall_enumerate_1 _) (λobj=>F.args_object_init_2 obj _) F.entry_enumerate_new
  (OB l items n dct sl) ⟨hl,?_⟩
 let hz:(s.heap.push {cls:=.type "tuple_iterator",data:=.fields #[.ref l,.int 0 0]}).objs.size=⇑s+1:=Yy ..;rw[hz]
 let he:IsEnum ((s.heap.push {cls:=.type "tuple_iterator",data:=.fields #[.ref l,.int 0 0]}).push
   {cls:=.type "enumerate",data:=.fields #[.none,.bool ι,.ref ⇑s,rawInt 0,.none,.none]}) (⇑s+1) ⇑s 0 .none:=by
  let:=My (s.heap.push {cls:=.type "tuple_iterator",data:=.fields #[.ref l,.int 0 0]})
   (o:={cls:=.type "enumerate",data:=.fields #[.none,.bool ι,.ref ⇑s,rawInt 0,.none,.none]}) Y
  rw[hz] at this;exact this
 calc⟨⟨_,he,Y⟩,h _ he ⟨_,pf _ (My _ Y),Y,Y⟩ (by rw[Yy,hz]) λb o x=>pf _ (pf _ x)⟩
theorem OD{it l:O}{i:Nat}{items:Array J}{x:J}{Q:aM}(hit:s.heap.IsTupleIter it l i)(hl:s.heap.IsTuple l items)(hx:items[i]?=U x)
  (hQ:∀h',h'.IsTupleIter it l (i+1)->ZW it s.heap h'->Q x {s with heap:=h'}):G (M prog w) A (Yq (.ref it)) Q E s:=by
 let⟨o,ho,hc,hd⟩:=id hit;let⟨ol,Ai,_,nl,l6⟩:=hl;let nn:¬ ((Xj l==Yr)=θ):=Mw;calc lK (Ym (name:=XW "__next__") hit.typeIs Za (Y7 Za hit.typeIs q0S ?_ (q0N _)));show G _ _ (field (.ref it) 0 >>= _) _ _ s;calc lK (X0 ho hd (x:=.ref l) Y ?_);calc lK (X0 ho hd (x:=.int i 0) Y ?_);calc lK (YK Ai l6 ?_);erw[YM,hx];calc lK (q06 ho hd (by simp) (zi ⟨x,Y,zi (hQ _ ⟨_,Yg _ ho (q0y (Zz hd _)),(Obj.cls_mapFields ..).trans hc,?_⟩ (Zl ..))⟩));rw[Zz hd];simp[rawInt]
theorem OE{it l:O}{i:Nat}{items:Array J}{Q:aM}(hh:A.handled=Z)(hit:s.heap.IsTupleIter it l i)(hl:s.heap.IsTuple l items)(hx:items[i]?=Z)
  (hE:∀h' e,Heap.ExtBut it s.heap h'->(∃o,h'.get? e=U o/\o.cls=.type "StopIteration")->E (.ref e) {s with heap:=h'}):G (M prog w) A (Yq (.ref it)) Q E s:=by
 let⟨o,ho,hc,hd⟩:=id hit;let⟨ol,Ai,_,nl,l6⟩:=hl;let nn:¬ ((Xj l==Yr)=θ):=Mw;calc lK (Ym (name:=XW "__next__") hit.typeIs Za (Y7 Za hit.typeIs q0S ?_ (q0N _)));show G _ _ (field (.ref it) 0 >>= _) _ _ s;calc lK (X0 ho hd (x:=.ref l) Y ?_);calc lK (X0 ho hd (x:=.int i 0) Y ?_);calc lK (YK Ai l6 ?_);erw[YM,hx];calc lK (q2P (lK (q06 ho hd (by simp) ?_)));calc lK ?_;calc lK (m:=firstArgMember _ _) (wpAny_of_eq (a:=Yr) (by first|rfl|(erw[firstArgMember];rfl)) (X9 ?_ (by size_fits)));refine lK (wpAny_handled ?_)
 first|rw[show A.in1.handled=Z from hh]|rw[hh]
 calc lK (zi (wpAny_throw (hE _ _ (((Zl ..).extBut.push _).push _) ⟨_,My _ Y,Y⟩)))
theorem Aj(hh:A.handled=Z)(it l:O)(iO:l≠it)(items:Array J):Draws prog w A it [it,l] items.size (λi v=>items[i]?=U v) (λi h=>h.IsTupleIter it l i/\h.IsTuple l items) where
 live:=λ_ _ st=>let⟨o,ho,_⟩:=st.1;⟨o,ho⟩
 frame:=λ_ _ _ st hk=>⟨st.1.at λo e=>hk it (by simp) o e,st.2.at λo e=>hk l (by simp) o e⟩
 item:=λi s Q E hi st hQ=>OD st.1 st.2 (x:=items[i]) (by simp[hi]) λh' Ak v3=>hQ _ h' s.toks (by simp[hi]) ⟨Ak,st.2.extBut v3.extBut iO⟩ v3
 done:=λs Q E st hE=>OE hh st.1 st.2 (by simp) hE
end
end PySem
namespace L2
open PySem PySem.Spec PyProof.Rows
noncomputable def ui(K:tu)(a:O):It :=
 ⟨λi H=>∃xs x,bo K H a xs/\xs[i]?=U x,λi H x H'=>∃T v,x=.ref T/\H T=Z/\H'=upd H T (.tup [.int (i:Nat),v])/\∀xs,bo K H a xs->xs[i]?=U v,λi H=>∃xs,bo K H a xs/\↑xs=i⟩
theorem OF{P:n}{w:g}{K:tu}{elts:-B}{x1}{tp:Ε}(a e it:O)(iO:e≠it)(OG:a≠e)(Gg:a≠it):
  Turn P w K (.Tuple elts x1 tp) (ui K a) [e,it] e (λi h=>(∃old,IsEnum h e it (i:Nat) old)/\h.IsTupleIter it a i) where
 mem:=by simp
 obj:=λi h st b hb=>by
  let⟨⟨old,he⟩,o,hi,hc,hd⟩:=st;rcases Mt.mp hb with rfl|hb
  .exact⟨_,he,λv z=>by cases z⟩
  .let z:b=it:=by simpa using hb
   subst z;exact⟨o,hi,λv z=>by rw[hd] at z;cases z⟩
 keep:=λi h h' st k=>by
  let⟨⟨old,he⟩,hi⟩:=st;exact⟨⟨old,k e (by simp) _ he⟩,hi.at λo q=>k it (by simp) o q⟩
 item:=by
  ext X hP hw hK hc i pins s σ H E I hf st hg;subst hP hw hK;let⟨⟨old,he⟩,hi⟩:=st;let⟨xs,x,hq,hx⟩:=hg;let⟨ah,rv,p,hz⟩:=I.tuple hq;let⟨u,hu,ru⟩:=rv.get hx;let D:=Aj (prog:=X.prog) (w:=X.w) (A:=X.A.in1) (by rw[Y_];calc I.ok.hd hc) it a Gg ah.toArray;let pO:i<ah.toArray.size:=by rw[Ez];exact(ph.mp hu).1
  refine wpAny_pyNext_enum_itemD D he ⟨hi,p⟩ pO iO (by simp[iO,YV OG]) λy h1 tk py kF tJ tK hsz hk=>⟨_,Y,?_⟩
  let ey:y=u:=by
   rw[Yv,hu] at py;cases py;rfl
  subst ey;calc q03 kF λh2 vS dj=>?_;let hT:⇑s≠e:=Zv (EC he);let jP:h2.get? ⇑s=U {cls:=.type "tuple",data:=.seq #[.int i tk,y]}:=(dj.2 _ hT).trans tK
  let k2:∀b o,b∉[e,it]->s.heap.get? b=U o->h2.get? b=U o:=λb o hb q=>by
   let tL:b≠e:=λz=>hb (by simp[z]);let gr:b≠it:=λz=>hb (by simp[z]);exact(dj.2 _ tL).trans (hk b o tL gr q)
  let hn:H ⇑s=Z:=I.aH.fresh (vQ _);refine⟨.ref ⇑s,upd H ⇑s (.tup [.int i,x]),I.eJ (ch:=[e,it]) (t':=tk+1) hf k2 (vQ _) ?_,Y,⟨_,x,Y,hn,Y,λys hy=>by rw[I.dS hy hq];calc hx⟩,⟨⟨y,?_⟩,?_⟩,λb hb=>?_⟩
  .exact⟨by show 2<=sizeLine;decide,[.int i tk,y],.cons ⟨_,Y⟩ (.cons ru .nil),_,jP,Y,_,Y⟩
  .let e3:((i:Int)+1)=(((i+1:Nat)):Int):=by symm
   exact vS
  .exact tJ.1.at λo q=>(dj.2 _ (YV iO)).trans q
  .let:b<⇑s:=by
    let⟨o,q,_⟩:=hi;rcases Mt.mp hb with rfl|hb
    .exact EC he
    .let z:b=it:=by simpa using hb
     subst z;exact EC q
   rw[aC (Xg this)];exact(hf b hb).1
 done:=by
  ext X hP hw hK hc i pins s σ H E I hf st hg;subst hP hw hK;let⟨⟨old,he⟩,hi⟩:=st;let⟨xs,hq,hx⟩:=hg;let⟨ah,rv,p,hz⟩:=I.tuple hq;let D:=Aj (prog:=X.prog) (w:=X.w) (A:=X.A.in1) (by rw[Y_];calc I.ok.hd hc) it a Gg ah.toArray;let pO:ah.toArray.size=i:=by rw[Ez,<-↑rv];exact hx
  calc wpAny_pyNext_enum_endD D he (by rw[pO];calc⟨hi,p⟩) λh1 eb=>⟨Y,?_⟩;let⟨f0,f1,f2,f3,f4,f5⟩:=hf it (by simp);exact I.turned (t':=s.toks) (λb o hb q=>eb b o hb q) f0 f1 f3 f4 f5
 self:=λA i s Q E st h=>by
  let⟨⟨old,he⟩,hi⟩:=st;calc Y3 he h
section
variable{X:Cx}{elts:-B}{x1:Nat}{tp:y}{tg:B}
def OH(K:tu)(ta:TA):TI:=fun σ H R=>ta σ H λvs H1=>∃a,vs=[.ref a]/\(((∃xs,aX K H1 a xs)/\R (qM K a) H1)\/((∃xs,bo K H1 a xs)/\R (ui K a) H1))
theorem OI{a:B}{ta:TA}{p pos:y}(hg:Gl X "enumerate")(hm:X.mg "enumerate" = Z)(ha:JA X [a] ta)(hs:starEach [a] X.env=[(ι,eval a X.env)]:=by rfl):
  JI X (.Tuple elts x1 tp) (.Call (.Name "enumerate" p) [a] [] pos) (OH X.K ta):=by
 calc⟨?_⟩;ext pins s σ H R I h;calc Call_ (nq I hg hm ES (Yj (aS (ha pos pins s σ H _ I h) λus s1 h0_=>el5 h0_ λvs H1 I1 r1 q1=>?_) hs Y));let⟨l,e,q⟩:=q1;subst e;let⟨u,rfl,rx⟩:=vals1 r1;cases rx
 let fp:∀b∈[⇑s1+1,⇑s1],b7 X pins H1 b:=λb hb=>by
  let hb':⇑s1<=b:=by
   rcases Mt.mp hb with rfl|hb
   .exact q16 _
   .let z:b=⇑s1:=by simpa using hb
    rw[z];exact vQ _
  exact I1.iI hb' (I1.aH.fresh hb')
 rcases q with⟨⟨xs,hq⟩,q⟩|⟨⟨xs,hq⟩,q⟩
 .let⟨ah,rv,p,hz⟩:=I1.list hq
  calc q2m p.isList λh' he hi hsz hk=>?_;let I2:Inv X pins σ H1 {s1 with heap:=h'}:=I1.kept (t':=s1.toks) hk;calc Y3 he ?_;exact⟨_,_,_,_,H1,Y,I2,EO l (⇑s1+1) ⇑s1 (q1u _),⟨⟨_,he⟩,hi⟩,fp,q⟩
 .let⟨ah,rv,p,hz⟩:=I1.tuple hq
  let Gh:l<⇑s1:=by let⟨o,e,_⟩:=p;exact EC e
  calc OC p λh' he hi hsz hk=>?_;let I2:Inv X pins σ H1 {s1 with heap:=h'}:=I1.kept (t':=s1.toks) hk;calc Y3 he ?_;calc⟨_,_,_,_,H1,Y,I2,OF l (⇑s1+1) ⇑s1 (q1u _) (Xg (Yi Gh)) (Xg Gh),⟨⟨_,he⟩,hi⟩,fp,q⟩
def Al(K:tu)(tl:TE):TI:=fun σ H R=>tl σ H λx H1=>∃a,x=.ref a/\(((∃xs,aX K H1 a xs)/\R (D0 K a) H1)\/((∃xs,bo K H1 a xs)/\R (D1 K a) H1))
theorem OJ{l:B}{tl:TE}(hl:JE X l tl):JI X tg l (Al X.K tl):=by
 calc⟨?_⟩;ext pins s σ H R I h;calc aS (hl pins s σ H _ I h) λv s1 h0_=>el5 h0_ λx H1 I1 r1 q1=>?_;let⟨a,e,q⟩:=q1;subst e;cases r1
 let fp:∀b∈[⇑s1],b7 X pins H1 b:=λb hb=>by
  let e:b=⇑s1:=by simpa using hb
  subst e;exact I1.iI (vQ _) (I1.aH.fresh (vQ _))
 rcases q with⟨⟨xs,hq⟩,q⟩|⟨⟨xs,hq⟩,q⟩
 .let⟨ah,rv,p,hz⟩:=I1.list hq
  exact Zh p.isList ⟨⇑s1,[⇑s1],_,_,H1,Y,I1.kept (t':=s1.toks) λb o e=>pf _ e,KU a _,⟨_,My _ Y,Y,Y⟩,fp,q⟩
 .let⟨ah,rv,p,hz⟩:=I1.tuple hq
  calc Zy (show s1.heap.IsTuple a ah.toArray from p) ⟨⇑s1,[⇑s1],_,_,H1,Y,I1.kept (t':=s1.toks) λb o e=>pf _ e,KW a _,⟨_,My _ Y,Y,Y⟩,fp,q⟩
end
variable[ay]
noncomputable def b9(lo:Int)(n:Nat):-D:=(Xy n).map λi:Nat=>D.int (lo+i)
noncomputable def jm:Nat->-D->-D
 |_,[]=>[]
 |i,d::r=>.tup [.int i,d]::jm (i+1) r
noncomputable def bW:-D->-D->-D
 |a::r,b::s=>.tup [a,b]::bW r s
 |_,_=>[]
def l8(x:DV)(δ:aw)(K:nZ->Prop):Prop:=match x with
 |.p (.lst ds)=>K ⟨ds,λ_=>True⟩
 |.p (.tup ds)=>K ⟨ds,λ_=>True⟩
 |.o k=>match δ.mu[k]? with
  |some (some (.lst ds))=>K ⟨ds,fun δ'=>δ'.mu[k]?=U (U (.lst ds))⟩
  |_=>False
 |_=>False
def dA(f:WE):WI:=fun δ K=>f δ λx δ1=>l8 x δ1 λit=>K it δ1
def l9(fa:WA):WI:=fun δ K=>fa δ λxs δ1=>match xs with
 |[.p (.int j)]=>(-(2 ^ 62)<=j/\j<2 ^ 62)/\K ⟨b9 0 j.toNat,λ_=>True⟩ δ1
 |_=>False
def Am(fa:WA):WI:=fun δ K=>fa δ λxs δ1=>match xs with
 |[.p (.int i),.p (.int j)]=>(-(2 ^ 62)<=i/\i<2 ^ 62 /\ -(2 ^ 62)<=j/\j<2 ^ 62)/\K ⟨b9 i (j-i).toNat,λ_=>True⟩ δ1
 |_=>False
def iX(fa:WA):WI:=fun δ K=>fa δ λxs δ1=>match xs with
 |[x]=>l8 x δ1 λit=>K ⟨jm 0 it.items,it.bg⟩ δ1
 |_=>False
def An(x:DV)(δ:aw)(K:nZ->Prop):Prop:=match x with
 |.p (.lst ds)=>K ⟨ds,λ_=>True⟩
 |.o k=>match δ.mu[k]? with
  |some (some (.lst ds))=>K ⟨ds,fun δ'=>δ'.mu[k]?=U (U (.lst ds))⟩
  |_=>False
 |_=>False
theorem l_{lo:Int}{n i:Nat}{d:D}(h:(b9 lo n)[i]?=U d):i<n/\d=.int (lo+i):=by
 unfold b9 at h;rw[W5] at h;let⟨j,e,rfl⟩:=Xf.mp h;let hj:=(ph.mp e).1;rw[Yt] at hj;rw[YQ hj] at e;cases e
 calc⟨hj,Y⟩
theorem me(lo:Int)(n:Nat):↑(b9 lo n)=n:=by unfold b9;rw[qJ,Yt]
theorem qZ:∀(ds:-D)(i:Nat),↑(jm i ds)=↑ds
 |[],_=>Y
 |d::r,i=>by rw[jm,EA,EA,qZ r]
theorem q_:∀{ds:-D}{k i:Nat}{d:D},(jm k ds)[i]?=U d->∃e,ds[i]?=U e/\d=.tup [.int ((k+i:Nat):Int),e]
 |[],k,i,d,h=>by simp[jm] at h
 |e::r,k,0,d,h=>by
  cases(show U (D.tup [.int (k:Nat),e])=U d by simpa[jm] using h)
  exact⟨e,Y,Y⟩
 |e::r,k,i+1,d,h=>by
  let⟨e',h1,h2⟩:=q_ (ds:=r) (k:=k+1) (i:=i) (d:=d) (by simpa[jm] using h);calc⟨e',by simpa using h1,by rw[h2];congr 4;symm⟩
theorem Gi:∀{as bs:-D}{i:Nat}{d:D},(bW as bs)[i]?=U d->∃a b,as[i]?=U a/\bs[i]?=U b/\d=.tup [a,b]
 |[],_,i,d,h=>by simp[bW] at h
 |_::_,[],i,d,h=>by simp[bW] at h
 |a::r,b::s,0,d,h=>by
  cases(show U (D.tup [a,b])=U d by simpa[bW] using h)
  exact⟨a,b,Y,Y,Y⟩
 |a::r,b::s,i+1,d,h=>by
  let⟨x,y,h1,h2,h3⟩:=Gi (as:=r) (bs:=s) (i:=i) (d:=d) (by simpa[bW] using h);calc⟨x,y,by simpa using h1,by simpa using h2,h3⟩
theorem wt:∀(as bs:-D),↑(bW as bs)=min ↑as bs.length
 |[],_=>by simp[bW]
 |_::_,[]=>by simp[bW]
 |a::r,b::s=>by rw[bW,EA,EA,EA,wt r s];symm
section
variable{X:Cx}{tg l a b:B}{f:WE}{fa:WA}{F H:Hp}{ad:-O}{δ:aw}{σ:St}
theorem JI.weak{iter:B}{w w':TI}(h:JI X tg iter w)(k:∀σ H R,w' σ H R->w σ H R):JI X tg iter w':=⟨λpins s σ H R I q=>h pins s σ H R I (k σ H R q)⟩
theorem n8{ds:-D}{vs:-V}(h:ae F ds vs){i:Nat}{d:D}(e:ds[i]?=U d):∃v,vs[i]?=U v/\Is F d v:=by
 let hl:=↑h;let hi:i<↑vs:=by rw[hl];exact(ph.mp e).1
 let⟨d',e1,h1⟩:=h.get (pj hi);rw[e] at e1;cases e1;calc⟨_,pj hi,h1⟩
theorem Gj{x:DV}{v:V}{K:nZ->Prop}(S:SR F ad δ σ H)(V1:df F ad x v)(h:An x δ K):∃a it,v=.ref a/\K it/\(∃vs,H a=U (.lst vs)) ∧
  ∀(F':Hp)(au:-O)(δ':aw)(σ':St)(H':Hp),ar F F'->(∀(k:Nat)(a:O),ad[k]?=U a->au[k]?=U a)->SR F' au δ' σ' H'->it.bg δ'->∃vs,H' a=U (.lst vs)/\ae F' it.items vs:=by
 unfold An at h;split at h
 .rename_i ds
  let V2:Is F (.lst ds) v:=V1;erw[Is] at V2;let⟨a,vs,rfl,h1,h2⟩:=V2;exact⟨a,_,Y,h,⟨vs,S.sub _ _ h1⟩,λF' au δ' σ' H' s _ S' _=>⟨vs,S'.sub _ _ (s _ _ h1),h2.same s⟩⟩
 .rename_i k
  split at h
  .rename_i ds e
   let⟨a,e1,rfl⟩:=V1;let⟨a',o,e2,e3,vs,rfl,h4⟩:=S.mu k _ e;rw[e1] at e2;cases e2;calc⟨a,_,Y,h,⟨vs,e3⟩,λF' au δ' σ' H' _ pre S' ck=>?_⟩;let⟨V6,o,e5,e6,ws,rfl,h7⟩:=S'.mu k _ ck;rw[pre k a e1] at e5;cases e5;exact⟨ws,e6,h7⟩
  .exact h.elim
 .calc h.elim
theorem Ao{x:DV}{v:V}{K:nZ->Prop}(S:SR F ad δ σ H)(V1:df F ad x v)(h:l8 x δ K):∃a it,v=.ref a/\K it ∧
  (((∃vs,H a=U (.lst vs))/\∀(F':Hp)(au:-O)(δ':aw)(σ':St)(H':Hp),ar F F'->(∀(k:Nat)(a:O),ad[k]?=U a->au[k]?=U a)->SR F' au δ' σ' H'->it.bg δ'->∃vs,H' a=U (.lst vs)/\ae F' it.items vs) ∨
  ((∃vs,H a=U (.tup vs))/\∀(F':Hp)(au:-O)(δ':aw)(σ':St)(H':Hp),ar F F'->(∀(k:Nat)(a:O),ad[k]?=U a->au[k]?=U a)->SR F' au δ' σ' H'->it.bg δ'->∃vs,H' a=U (.tup vs)/\ae F' it.items vs)):=by
 unfold l8 at h;split at h
 .rename_i ds
  let⟨a,it,e,k,r⟩:=Gj (x:=.p (.lst ds)) S V1 h;exact⟨a,it,e,k,.inl r⟩
 .rename_i ds
  let V2:Is F (.tup ds) v:=V1;erw[Is] at V2;let⟨a,vs,rfl,h1,h2⟩:=V2;exact⟨a,_,Y,h,.inr ⟨⟨vs,S.sub _ _ h1⟩,λF' au δ' σ' H' s _ S' _=>⟨vs,S'.sub _ _ (s _ _ h1),h2.same s⟩⟩⟩
 .rename_i k
  let⟨a,it,e,k,r⟩:=Gj (x:=.o k) S V1 h;exact⟨a,it,e,k,.inl r⟩
 .calc h.elim
theorem OK(hl:JE X l (tD f)):JI X tg l (iC (dA f)):=(OJ hl).weak fun σ H R h0_=>el7 h0_ λF ad δ K S q k =>⟨F,ad,δ,_,S,q,λx δ1 h1 v F1 aI H1 E1 S1 V1=>by
 let⟨a,it,rfl,hk,r⟩:=Ao S1 V1 h1;calc⟨a,Y,?_⟩;rcases r with⟨⟨vs,e⟩,r⟩|⟨⟨vs,e⟩,r⟩
 .refine .inl ⟨⟨vs,aX.of e⟩,k _ _ hk _ _ _ _ E1 S1 λF' au δ' σ' H' s pre S' ck=>?_⟩
  let⟨ws,e1,e2⟩:=r F' au δ' σ' H' s pre S' ck;calc⟨⟨ws,aX.of e1,by rw[↑e2];calc vQ _⟩,λi d ed=>?_⟩;let⟨w,e3,e4⟩:=n8 e2 ed;calc⟨⟨ws,w,aX.of e1,e3⟩,λy nW ⟨eh,hy⟩=>?_⟩;subst eh;calc⟨λ_ _ e=>e,?_⟩;let:=hy ws (aX.of e1);rw[e3] at this;cases this;rw[Nw.refl S'.sub];exact e4
 .refine .inr ⟨⟨vs,bo.of e⟩,k _ _ hk _ _ _ _ E1 S1 λF' au δ' σ' H' s pre S' ck=>?_⟩
  let⟨ws,e1,e2⟩:=r F' au δ' σ' H' s pre S' ck;calc⟨⟨ws,bo.of e1,by rw[↑e2];calc vQ _⟩,λi d ed=>?_⟩;let⟨w,e3,e4⟩:=n8 e2 ed;calc⟨⟨ws,w,bo.of e1,e3⟩,λy nW ⟨eh,hy⟩=>?_⟩;subst eh;calc⟨λ_ _ e=>e,?_⟩;let:=hy ws (bo.of e1);rw[e3] at this;cases this
  rw[Nw.refl S'.sub];calc e4⟩
theorem Ap{F H:Hp}{T:O}{d e:D}{x y:V}(s:ar F H)(hT:H T=Z)(h1:Is F d x)(h2:Is F e y):Is (Nw F H (upd H T (.tup [x,y]))) (.tup [d,e]) (.ref T):=by
 rw[Nw.upd s hT]
 let hF:F T=Z:=by
  cases q:F T with
  |none=>rfl
  |some u=>rw[s T u q] at hT;cases hT
 let sm:ar F (upd F T (.tup [x,y])):=bT hF;erw[Is];calc⟨T,_,Y,aY,.cons (h1.same sm) (.cons (h2.same sm) .nil)⟩
theorem OL{elts:-B}{x1:Nat}{tp p pos:Ε}(hg:Gl X "enumerate")(hm:X.mg "enumerate" = Z)(ha:JA X [a] (bH fa))(hs:starEach [a] X.env=[(ι,eval a X.env)]:=by rfl):
  JI X (.Tuple elts x1 tp) (.Call (.Name "enumerate" p) [a] [] pos) (iC (iX fa)):=(OI hg hm ha hs).weak fun σ H R h0_=>el7 h0_ λF ad δ K S q k =>⟨F,ad,δ,_,S,q,λxs δ1 h1 vs F1 aI H1 E1 S1 V1=>by
 match xs,h1,V1 with
 |[x],g1,⟨v,r,e,W1,W2⟩ =>
  subst e;let W3:r=[]:=W2;subst W3;let⟨a,it,rfl,hk,r⟩:=Ao S1 W1 g1;calc⟨a,Y,?_⟩;rcases r with⟨⟨vs,e⟩,r⟩|⟨⟨vs,e⟩,r⟩
  .refine .inl ⟨⟨vs,aX.of e⟩,k _ _ hk _ _ _ _ E1 S1 λF' au δ' σ' H' s pre S' ck=>?_⟩
   let⟨ws,e1,e2⟩:=r F' au δ' σ' H' s pre S' ck;calc⟨⟨ws,aX.of e1,by rw[↑e2,qZ];calc vQ _⟩,λi d ed=>?_⟩;let⟨d',Aq,rfl⟩:=q_ ed;let⟨w,e3,e4⟩:=n8 e2 Aq;calc⟨⟨ws,w,aX.of e1,e3⟩,λy nW ⟨T,v,ey,hT,eh,hy⟩=>?_⟩;subst eh ey;let:=hy ws (aX.of e1);rw[e3] at this;cases this;calc⟨bT hT,?_⟩;rw[XU];exact Ap S'.sub hT Y e4
  .refine .inr ⟨⟨vs,bo.of e⟩,k _ _ hk _ _ _ _ E1 S1 λF' au δ' σ' H' s pre S' ck=>?_⟩
   let⟨ws,e1,e2⟩:=r F' au δ' σ' H' s pre S' ck;calc⟨⟨ws,bo.of e1,by rw[↑e2,qZ]⟩,λi d ed=>?_⟩;let⟨d',Aq,rfl⟩:=q_ ed;let⟨w,e3,e4⟩:=n8 e2 Aq;calc⟨⟨ws,w,bo.of e1,e3⟩,λy nW ⟨T,v,ey,hT,eh,hy⟩=>?_⟩;subst eh ey;let:=hy ws (bo.of e1);rw[e3] at this;cases this;calc⟨bT hT,?_⟩;rw[XU];exact Ap S'.sub hT Y e4
 |[],h1,_=>exact h1.elim
 |_::_::_,h1,_=>calc h1.elim⟩
theorem Gk{F1:Hp}{aI:-O}{lo:Int}{n:Nat}:pM F1 aI ⟨b9 lo n,λ_=>True⟩ (sD lo n):=λF' au δ' σ' H' s pre S' _=>by
 calc⟨by show n<=↑(b9 lo n);rw[me];calc vQ _,λi d ed=>?_⟩;let⟨hi,rfl⟩:=l_ ed;calc⟨hi,λx nW ⟨eh,ex⟩=>?_⟩;subst eh ex;calc⟨λ_ _ e=>e,Y⟩
theorem OM{p pos:y}(hg:Gl X "range")(hm:X.mg "range" = Z)(ha:JA X [a] (bH fa))(hs:starEach [a] X.env=[(ι,eval a X.env)]:=by rfl):JI X tg (.Call (.Name "range" p) [a] [] pos) (iC (l9 fa)) :=
 (K5 hg hm ha hs).weak fun σ H R h0_=>el7 h0_ λF ad δ K S q k =>⟨F,ad,δ,_,S,q,λxs δ1 h1 vs F1 aI H1 E1 S1 V1=>by
  split at h1
  .rename_i j
   let⟨v,r,e,V1,V2⟩:=V1;let V2:r=[]:=V2;let V1:v=.int j:=V1;subst V2 V1 e;exact⟨j,Y,h1.1.1,h1.1.2,k _ _ h1.2 _ _ _ _ E1 S1 Gk⟩
  .calc h1.elim⟩
theorem ON{p pos:y}(hg:Gl X "range")(hm:X.mg "range" = Z)(ha:JA X [a,b] (bH fa))(hs:starEach [a,b] X.env=[(ι,eval a X.env),(ι,eval b X.env)]:=by rfl)(dj:starEach [b] X.env=[(ι,eval b X.env)]:=by rfl):
  JI X tg (.Call (.Name "range" p) [a,b] [] pos) (iC (Am fa)) :=
 (K6 hg hm ha hs dj).weak fun σ H R h0_=>el7 h0_ λF ad δ K S q k =>⟨F,ad,δ,_,S,q,λxs δ1 h1 vs F1 aI H1 E1 S1 V1=>by
  split at h1
  .rename_i i j
   let⟨v,r,e,V1,w,r2,e2,V2,V3⟩:=V1;let V3:r2=[]:=V3;let V1:v=.int i:=V1;let V2:w=.int j:=V2;subst V3 V1 V2 e2 e;exact⟨i,j,Y,h1.1,k _ _ h1.2 _ _ _ _ E1 S1 Gk⟩
  .calc h1.elim⟩
end
end L2
namespace L2
open PySem PySem.Spec PyProof.Rows
mutual
noncomputable def av:D->D->Bool
 |.non,.non=>θ
 |.bl a,.bl b=>a==b
 |.bl a,.int b=>(if a then 1 else 0)==b
 |.int a,.bl b=>a==(if b then 1 else 0)
 |.int a,.int b=>a==b
 |.str a,.str b=>a==b
 |.tup a,.tup b=>cG a b
 |.lst a,.lst b=>cG a b
 |_,_=>ι
noncomputable def cG:-D->-D->Bool
 |[],[]=>θ
 |a::r,b::s=>av a b&&cG r s
 |_,_=>ι
end
mutual
theorem fH:∀d:D,av d d=θ
 |.non=>by simp[av]
 |.bl a=>by simp[av]
 |.int a=>by simp[av]
 |.str a=>by simp[av]
 |.tup a=>by erw[av];exact Ar a
 |.lst a=>by erw[av];calc Ar a
theorem Ar:∀ds:-D,cG ds ds=θ
 |[]=>by simp[cG]
 |d::r=>by erw[cG,fH d,Ar r,q2B]
end
mutual
theorem Is.inj {H:Hp}:∀{d e:D}{v:V},Is H d v->Is H e v->d=e
 |.non,e,v,h,q=>by cases e<;>erw[Is] at h q<;>first|rfl|(subst h;first|(let⟨_,_,z,_⟩:=q;cases z;done)|(cases q;done)|(cases q;rfl))
 |.bl a,e,v,h,q=>by cases e<;>erw[Is] at h q<;>(subst h;first|(let⟨_,_,z,_⟩:=q;cases z;done)|(cases q;done)|(cases q;rfl))
 |.int a,e,v,h,q=>by cases e<;>erw[Is] at h q<;>(subst h;first|(let⟨_,_,z,_⟩:=q;cases z;done)|(cases q;done)|(cases q;rfl))
 |.str a,e,v,h,q=>by cases e<;>erw[Is] at h q<;>(subst h;first|(let⟨_,_,z,_⟩:=q;cases z;done)|(cases q;done)|(cases q;rfl))
 |.tup a,e,v,h,q=>by
  erw[Is] at h;let⟨p,vs,rfl,h1,h2⟩:=h
  cases e with
  |tup b =>
   erw[Is] at q;let⟨p',ws,z,q1,q2⟩:=q;cases z
   rw[h1] at q1;cases q1;rw[ae.inj h2 q2]
  |lst b =>
   erw[Is] at q;let⟨p',ws,z,q1,q2⟩:=q;cases z
   rw[h1] at q1;cases q1
  |non=>erw[Is] at q;cases q
  |bl _=>erw[Is] at q;cases q
  |int _=>erw[Is] at q;cases q
  |str _=>erw[Is] at q;cases q
 |.lst a,e,v,h,q=>by
  erw[Is] at h;let⟨p,vs,rfl,h1,h2⟩:=h
  cases e with
  |lst b =>
   erw[Is] at q;let⟨p',ws,z,q1,q2⟩:=q;cases z
   rw[h1] at q1;cases q1;rw[ae.inj h2 q2]
  |tup b =>
   erw[Is] at q;let⟨p',ws,z,q1,q2⟩:=q;cases z
   rw[h1] at q1;cases q1
  |non=>erw[Is] at q;cases q
  |bl _=>erw[Is] at q;cases q
  |int _=>erw[Is] at q;cases q
  |str _=>erw[Is] at q;cases q
theorem ae.inj {H:Hp}:∀{ds es:-D}{vs:-V},ae H ds vs->ae H es vs->ds=es
 |[],es,vs,h,q=>by
  erw[ae] at h;subst h
  cases es with
  |nil=>rfl
  |cons _ _=>erw[ae] at q;let⟨_,_,z,_⟩:=q;cases z
 |d::ds,es,vs,h,q=>by
  erw[ae] at h;let⟨v,r,rfl,h1,h2⟩:=h
  cases es with
  |nil=>erw[ae] at q;cases q
  |cons e es =>
   erw[ae] at q;let⟨v',r',z,q1,q2⟩:=q;cases z
   rw[Is.inj h1 q1,ae.inj h2 q2]
end
theorem uj:∀{ds es:-D},↑ds≠↑es->cG ds es=ι
 |[],[],h=>absurd Y h
 |[],_::_,_=>by simp[cG]
 |_::_,[],_=>by simp[cG]
 |d::r,e::s,h=>by erw[cG];rw[uj (λz=>h (by rw[EA,EA,z])),q0q]
noncomputable def pP(ds es:-D)(j:Nat):Bool:=match ds[j]?,es[j]? with
 |some a,some b=>av a b
 |_,_=>θ
theorem um:∀{ds es:-D},↑ds=↑es->(Xy ↑ds).all (pP ds es)=cG ds es
 |[],[],_=>by simp[cG]
 |[],_::_,h=>by simp at h
 |_::_,[],h=>by simp at h
 |d::r,e::s,h=>by
  let ih:=um (ds:=r) (es:=s) h⁻¹;rw[EA,List.range_succ_eq_map,q1j,q5c];erw[cG];rw[<-ih];rfl
section
variable{X:Cx}{pins:aq}{σ:St}{H:Hp}{s:L}
theorem wu{vs:-V}{ah:-J}(r:Vals vs ah){j:Nat}(h:j<ah.toArray.size):∃v,vs[j]?=U v/\RelV v ah.toArray[j]:=by
 let hj:j<↑ah:=by simpa using h
 let hv:j<↑vs:=by rw[↑r];exact hj
 let⟨u,e,ru⟩:=r.get (pj hv)
 let:ah.toArray[j]=u:=by
  let:=(ph.mp e).2;simpa using this
 rw[this];calc⟨_,pj hv,ru⟩
theorem cH(I:Inv X pins σ H s){a:O}{vs:-V}(h:H a=U (.lst vs)):∃ah:-J,Vals vs ah/\s.heap.IsList a ah.toArray:=by
 let⟨ah,r,p,_⟩:=I.list (aX.of h);calc⟨ah,r,p.isList⟩
theorem cI(I:Inv X pins σ H s){a:O}{vs:-V}(h:H a=U (.tup vs)):∃ah:-J,Vals vs ah/\s.heap.IsTuple a ah.toArray:=by
 let⟨ah,r,p,_⟩:=I.tuple (bo.of h);calc⟨ah,r,p⟩
theorem in1_units(A:q):A.in1.units=A.units+1:=rfl
theorem As(I:Inv X pins σ H s):∀(n:Nat){A:q}{d e:D}{v u:V}{x y:J},dep d<=n->A.units+n<cLine->Is H d v->Is H e u->RelV v x->RelV u y->q0B A s x y (av d e)/\q4e A s x y (av d e):=by
 ext n
 induction n with
 |zero =>
  ext A d e v u x y hd hu hv hw rv ru;let nz:A.units<cLine:=by symm
  cases d with
  |tup ds=>simp[dep] at hd
  |lst ds=>simp[dep] at hd
  |non =>
   cases(show v=.non from hv);cases rv
   cases e with
   |non=>cases(show u=.non from hw);cases ru;erw[av];exact⟨q0K _,SeqAt.RcAt.none_none⟩
   |bl b=>cases(show u=.bl b from hw);cases ru;erw[av];exact⟨q13 _,SeqAt.RcAt.none_bool _⟩
   |int b=>cases(show u=.int b from hw);let⟨t,rfl⟩:=ru;erw[av];exact⟨q2e _ _,SeqAt.RcAt.none_int _ _⟩
   |str b=>cases(show u=.str b from hw);let⟨t,rfl⟩:=ru;erw[av];exact⟨q2f _ _,SeqAt.RcAt.none_str _ _⟩
   |tup es=>erw[Is] at hw;let⟨a,vs,rfl,h1,_⟩:=hw;cases ru;let⟨_,_,p⟩:=cI I h1;erw[av];exact⟨SeqAt.EqAt.none_tuple p nz,SeqAt.RcAt.none_tuple p nz⟩
   |lst es=>erw[Is] at hw;let⟨a,vs,rfl,h1,_⟩:=hw;cases ru;let⟨_,_,p⟩:=cH I h1;erw[av];exact⟨SeqAt.EqAt.none_list p nz,SeqAt.RcAt.none_list p nz⟩
  |bl b0 =>
   cases(show v=.bl b0 from hv);cases rv
   cases e with
   |non=>cases(show u=.non from hw);cases ru;erw[av];exact⟨q14 _,SeqAt.RcAt.bool_none _⟩
   |bl b=>cases(show u=.bl b from hw);cases ru;erw[av];exact⟨q15 _ _,SeqAt.RcAt.bool_bool _ _⟩
   |int b=>cases(show u=.int b from hw);let⟨t,rfl⟩:=ru;erw[av];exact⟨q2g _ _ _,SeqAt.RcAt.bool_int _ _ _⟩
   |str b=>cases(show u=.str b from hw);let⟨t,rfl⟩:=ru;erw[av];exact⟨q2h _ _ _,SeqAt.RcAt.bool_str _ _ _⟩
   |tup es=>erw[Is] at hw;let⟨a,vs,rfl,h1,_⟩:=hw;cases ru;let⟨_,_,p⟩:=cI I h1;erw[av];exact⟨SeqAt.EqAt.bool_tuple _ p nz,SeqAt.RcAt.bool_tuple _ p nz⟩
   |lst es=>erw[Is] at hw;let⟨a,vs,rfl,h1,_⟩:=hw;cases ru;let⟨_,_,p⟩:=cH I h1;erw[av];exact⟨SeqAt.EqAt.bool_list _ p nz,SeqAt.RcAt.bool_list _ p nz⟩
  |int b0 =>
   cases(show v=.int b0 from hv);let⟨t0,rfl⟩:=rv
   cases e with
   |non=>cases(show u=.non from hw);cases ru;erw[av];exact⟨q2i _ _,SeqAt.RcAt.int_none _ _⟩
   |bl b=>cases(show u=.bl b from hw);cases ru;erw[av];exact⟨q2j _ _ _,SeqAt.RcAt.int_bool _ _ _⟩
   |int b=>cases(show u=.int b from hw);let⟨t,rfl⟩:=ru;erw[av];exact⟨q00 _ _ _ _,SeqAt.RcAt.int_int _ _ _ _⟩
   |str b=>cases(show u=.str b from hw);let⟨t,rfl⟩:=ru;erw[av];exact⟨q0W _ _ _ _,SeqAt.RcAt.int_str _ _ _ _⟩
   |tup es=>erw[Is] at hw;let⟨a,vs,rfl,h1,_⟩:=hw;cases ru;let⟨_,_,p⟩:=cI I h1;erw[av];exact⟨SeqAt.EqAt.int_tuple _ _ p nz,SeqAt.RcAt.int_tuple _ _ p nz⟩
   |lst es=>erw[Is] at hw;let⟨a,vs,rfl,h1,_⟩:=hw;cases ru;let⟨_,_,p⟩:=cH I h1;erw[av];exact⟨SeqAt.EqAt.int_list _ _ p nz,SeqAt.RcAt.int_list _ _ p nz⟩
  |str b0 =>
   cases(show v=.str b0 from hv);let⟨t0,rfl⟩:=rv
   cases e with
   |non=>cases(show u=.non from hw);cases ru;erw[av];exact⟨q2k _ _,SeqAt.RcAt.str_none _ _⟩
   |bl b=>cases(show u=.bl b from hw);cases ru;erw[av];exact⟨q2l _ _ _,SeqAt.RcAt.str_bool _ _ _⟩
   |int b=>cases(show u=.int b from hw);let⟨t,rfl⟩:=ru;erw[av];exact⟨q0X _ _ _ _,SeqAt.RcAt.str_int _ _ _ _⟩
   |str b=>cases(show u=.str b from hw);let⟨t,rfl⟩:=ru;erw[av];exact⟨q2L _ _ _ _,SeqAt.RcAt.str_str _ _ _ _⟩
   |tup es=>erw[Is] at hw;let⟨a,vs,rfl,h1,_⟩:=hw;cases ru;let⟨_,_,p⟩:=cI I h1;erw[av];exact⟨SeqAt.EqAt.str_tuple _ _ p nz,SeqAt.RcAt.str_tuple _ _ p nz⟩
   |lst es=>erw[Is] at hw;let⟨a,vs,rfl,h1,_⟩:=hw;cases ru;let⟨_,_,p⟩:=cH I h1;erw[av];exact⟨SeqAt.EqAt.str_list _ _ p nz,SeqAt.RcAt.str_list _ _ p nz⟩
 |succ n ih =>
  ext A d e v u x y hd hu hv hw rv ru;let nz:A.units<cLine:=by symm
  let step:∀{ds es:-D}{vs us:-V}{ah aU:-J}(r1:Vals vs ah)(r2:Vals us aU),aV ds<=n->ae H ds vs->ae H es us →
    ∀(j:Nat)(h1:j<ah.toArray.size)(h2:j<aU.toArray.size),q0B A.in1 s ah.toArray[j] aU.toArray[j] (pP ds es j):=λ{ds es vs us ah aU} r1 r2 hl i1 i2 j h1 h2=>by
   let⟨v1,e1,q1⟩:=wu r1 h1;let⟨v2,e2,q2⟩:=wu r2 h2;let⟨d1,f1,g1⟩:=i1.get e1;let⟨d2,f2,g2⟩:=i2.get e2;unfold pP;rw[f1,f2];exact(ih (XH (zI f1) hl) (by rw[in1_units];symm) g1 g2 q1 q2).1
  cases d with
  |tup ds =>
   let hl:aV ds<=n:=by erw[dep] at hd;symm
   let Au:=hv;erw[Is] at hv;let⟨a,vs,rfl,h1,i1⟩:=hv;cases rv
   let⟨ah,r1,p1⟩:=cI I h1
   cases e with
   |tup es =>
    let Av:=hw;erw[Is] at hw;let⟨b,us,rfl,h2,i2⟩:=hw;cases ru
    let⟨aU,r2,p2⟩:=cI I h2
    let rc:q4e A s (.ref a) (.ref b) (av (.tup ds) (.tup es)):=by
     let:=SeqAt.RcAt.tuples p1 p2 nz (step r1 r2 hl i1 i2);let l1:ah.toArray.size=↑ds:=by rw[Ez,<-↑r1,↑i1]
     let l2:aU.toArray.size=↑es:=by rw[Ez,<-↑r2,↑i2]
     rw[l1,l2] at this
     let eb:((Xy (min ↑ds ↑es)).all (pP ds es)&&↑ds==↑es)=av (.tup ds) (.tup es):=by
      erw[av]
      by_cases c:↑ds=↑es
      .rw[<-c,q3g,um c];simp
      .rw[uj c];simp[c]
     rw[eb] at this;exact this
    refine⟨?_,rc⟩
    by_cases c:a=b
    .subst c
     let:=Is.inj Au Av;rw[this,fH];exact q0K _
    .exact q2Q c rc
   |lst es =>
    erw[Is] at hw;let⟨b,us,rfl,h2,i2⟩:=hw;cases ru
    let⟨aU,r2,p2⟩:=cH I h2;erw[av];exact⟨SeqAt.EqAt.tuple_list p1 p2 nz,SeqAt.RcAt.tuple_list p1 p2 nz⟩
   |non=>cases(show u=.non from hw);cases ru;erw[av];exact⟨SeqAt.EqAt.tuple_none p1 nz,SeqAt.RcAt.tuple_none p1 nz⟩
   |bl b=>cases(show u=.bl b from hw);cases ru;erw[av];exact⟨SeqAt.EqAt.tuple_bool _ p1 nz,SeqAt.RcAt.tuple_bool _ p1 nz⟩
   |int b=>cases(show u=.int b from hw);let⟨t,rfl⟩:=ru;erw[av];exact⟨SeqAt.EqAt.tuple_int _ _ p1 nz,SeqAt.RcAt.tuple_int _ _ p1 nz⟩
   |str b=>cases(show u=.str b from hw);let⟨t,rfl⟩:=ru;erw[av];exact⟨SeqAt.EqAt.tuple_str _ _ p1 nz,SeqAt.RcAt.tuple_str _ _ p1 nz⟩
  |lst ds =>
   let hl:aV ds<=n:=by erw[dep] at hd;symm
   let Au:=hv;erw[Is] at hv;let⟨a,vs,rfl,h1,i1⟩:=hv;cases rv
   let⟨ah,r1,p1⟩:=cH I h1
   cases e with
   |lst es =>
    let Av:=hw;erw[Is] at hw;let⟨b,us,rfl,h2,i2⟩:=hw;cases ru
    let⟨aU,r2,p2⟩:=cH I h2;let l1:ah.toArray.size=↑ds:=by rw[Ez,<-↑r1,↑i1]
    let l2:aU.toArray.size=↑es:=by rw[Ez,<-↑r2,↑i2]
    let rc:q4e A s (.ref a) (.ref b) (av (.lst ds) (.lst es)):=by
     by_cases c:↑ds=↑es
     .let:=SeqAt.RcAt.lists p1 p2 (by rw[l1,l2];calc c) nz (step r1 r2 hl i1 i2)
      rw[l1,um c] at this;erw[av];exact this
     .erw[av];rw[uj c]
      exact SeqAt.RcAt.lists_lengths p1 p2 (by rw[l1,l2];simpa using c) nz
    refine⟨?_,rc⟩
    by_cases c:a=b
    .subst c
     let:=Is.inj Au Av;rw[this,fH];exact q0K _
    .exact q2Q c rc
   |tup es =>
    erw[Is] at hw;let⟨b,us,rfl,h2,i2⟩:=hw;cases ru
    let⟨aU,r2,p2⟩:=cI I h2;erw[av];exact⟨SeqAt.EqAt.list_tuple p1 p2 nz,SeqAt.RcAt.list_tuple p1 p2 nz⟩
   |non=>cases(show u=.non from hw);cases ru;erw[av];exact⟨SeqAt.EqAt.list_none p1 nz,SeqAt.RcAt.list_none p1 nz⟩
   |bl b=>cases(show u=.bl b from hw);cases ru;erw[av];exact⟨SeqAt.EqAt.list_bool _ p1 nz,SeqAt.RcAt.list_bool _ p1 nz⟩
   |int b=>cases(show u=.int b from hw);let⟨t,rfl⟩:=ru;erw[av];exact⟨SeqAt.EqAt.list_int _ _ p1 nz,SeqAt.RcAt.list_int _ _ p1 nz⟩
   |str b=>cases(show u=.str b from hw);let⟨t,rfl⟩:=ru;erw[av];exact⟨SeqAt.EqAt.list_str _ _ p1 nz,SeqAt.RcAt.list_str _ _ p1 nz⟩
  |non=>exact ih (by simp[dep]) ⋯ hv hw rv ru
  |bl b0=>exact ih (by simp[dep]) ⋯ hv hw rv ru
  |int b0=>exact ih (by simp[dep]) ⋯ hv hw rv ru
  |str b0=>calc ih (by simp[dep]) ⋯ hv hw rv ru
theorem OO(I:Inv X pins σ H s){A:q}{d e:D}{v u:V}{x y:J}(hd:dep d<=60)(hu:A.units+61<cLine)(hv:Is H d v)(hw:Is H e u)(rv:RelV v x)(ru:RelV u y):SeqAt.RcNeAt A s x y (!av d e):=by
 let nz:A.units<cLine:=by symm
 let step:∀{ds es:-D}{vs us:-V}{ah aU:-J}(r1:Vals vs ah)(r2:Vals us aU),aV ds<=59->ae H ds vs->ae H es us →
   ∀(j:Nat)(h1:j<ah.toArray.size)(h2:j<aU.toArray.size),q0B A.in1 s ah.toArray[j] aU.toArray[j] (pP ds es j):=λ{ds es vs us ah aU} r1 r2 hl i1 i2 j h1 h2=>by
  let⟨v1,e1,q1⟩:=wu r1 h1;let⟨v2,e2,q2⟩:=wu r2 h2;let⟨d1,f1,g1⟩:=i1.get e1;let⟨d2,f2,g2⟩:=i2.get e2;unfold pP;rw[f1,f2];exact(As I 59 (XH (zI f1) hl) (by rw[in1_units];symm) g1 g2 q1 q2).1
 cases d with
 |tup ds =>
  let hl:aV ds<=59:=by erw[dep] at hd;symm
  erw[Is] at hv;let⟨a,vs,rfl,h1,i1⟩:=hv;cases rv
  let⟨ah,r1,p1⟩:=cI I h1
  cases e with
  |tup es =>
   erw[Is] at hw;let⟨b,us,rfl,h2,i2⟩:=hw;cases ru
   let⟨aU,r2,p2⟩:=cI I h2;let:=SeqAt.RcNeAt.tuples p1 p2 nz (step r1 r2 hl i1 i2);let l1:ah.toArray.size=↑ds:=by rw[Ez,<-↑r1,↑i1]
   let l2:aU.toArray.size=↑es:=by rw[Ez,<-↑r2,↑i2]
   rw[l1,l2] at this
   let eb:((Xy (min ↑ds ↑es)).all (pP ds es)&&↑ds==↑es)=av (.tup ds) (.tup es):=by
    erw[av]
    by_cases c:↑ds=↑es
    .rw[<-c,q3g,um c];simp
    .rw[uj c];simp[c]
   rw[eb] at this;exact this
  |lst es=>erw[Is] at hw;let⟨b,us,rfl,h2,i2⟩:=hw;cases ru;let⟨aU,r2,p2⟩:=cH I h2;erw[av];exact SeqAt.RcNeAt.tuple_list p1 p2 nz
  |non=>cases(show u=.non from hw);cases ru;erw[av];exact SeqAt.RcNeAt.tuple_none p1 nz
  |bl b=>cases(show u=.bl b from hw);cases ru;erw[av];exact SeqAt.RcNeAt.tuple_bool _ p1 nz
  |int b=>cases(show u=.int b from hw);let⟨t,rfl⟩:=ru;erw[av];exact SeqAt.RcNeAt.tuple_int _ _ p1 nz
  |str b=>cases(show u=.str b from hw);let⟨t,rfl⟩:=ru;erw[av];exact SeqAt.RcNeAt.tuple_str _ _ p1 nz
 |lst ds =>
  let hl:aV ds<=59:=by erw[dep] at hd;symm
  erw[Is] at hv;let⟨a,vs,rfl,h1,i1⟩:=hv;cases rv
  let⟨ah,r1,p1⟩:=cH I h1
  cases e with
  |lst es =>
   erw[Is] at hw;let⟨b,us,rfl,h2,i2⟩:=hw;cases ru
   let⟨aU,r2,p2⟩:=cH I h2;let l1:ah.toArray.size=↑ds:=by rw[Ez,<-↑r1,↑i1]
   let l2:aU.toArray.size=↑es:=by rw[Ez,<-↑r2,↑i2]
   by_cases c:↑ds=↑es
   .let:=SeqAt.RcNeAt.lists p1 p2 (by rw[l1,l2];calc c) nz (step r1 r2 hl i1 i2)
    rw[l1,um c] at this;erw[av];exact this
   .erw[av];rw[uj c]
    exact SeqAt.RcNeAt.lists_lengths p1 p2 (by rw[l1,l2];simpa using c) nz
  |tup es=>erw[Is] at hw;let⟨b,us,rfl,h2,i2⟩:=hw;cases ru;let⟨aU,r2,p2⟩:=cI I h2;erw[av];exact SeqAt.RcNeAt.list_tuple p1 p2 nz
  |non=>cases(show u=.non from hw);cases ru;erw[av];exact SeqAt.RcNeAt.list_none p1 nz
  |bl b=>cases(show u=.bl b from hw);cases ru;erw[av];exact SeqAt.RcNeAt.list_bool _ p1 nz
  |int b=>cases(show u=.int b from hw);let⟨t,rfl⟩:=ru;erw[av];exact SeqAt.RcNeAt.list_int _ _ p1 nz
  |str b=>cases(show u=.str b from hw);let⟨t,rfl⟩:=ru;erw[av];exact SeqAt.RcNeAt.list_str _ _ p1 nz
 |non =>
  cases(show v=.non from hv);cases rv
  cases e with
  |non=>cases(show u=.non from hw);cases ru;erw[av];exact SeqAt.RcNeAt.none_none
  |bl b=>cases(show u=.bl b from hw);cases ru;erw[av];exact SeqAt.RcNeAt.none_bool _
  |int b=>cases(show u=.int b from hw);let⟨t,rfl⟩:=ru;erw[av];exact SeqAt.RcNeAt.none_int _ _
  |str b=>cases(show u=.str b from hw);let⟨t,rfl⟩:=ru;erw[av];exact SeqAt.RcNeAt.none_str _ _
  |tup es=>erw[Is] at hw;let⟨a,vs,rfl,h1,_⟩:=hw;cases ru;let⟨_,_,p⟩:=cI I h1;erw[av];exact SeqAt.RcNeAt.none_tuple p nz
  |lst es=>erw[Is] at hw;let⟨a,vs,rfl,h1,_⟩:=hw;cases ru;let⟨_,_,p⟩:=cH I h1;erw[av];exact SeqAt.RcNeAt.none_list p nz
 |bl b0 =>
  cases(show v=.bl b0 from hv);cases rv
  cases e with
  |non=>cases(show u=.non from hw);cases ru;erw[av];exact SeqAt.RcNeAt.bool_none _
  |bl b=>cases(show u=.bl b from hw);cases ru;erw[av];exact SeqAt.RcNeAt.bool_bool _ _
  |int b=>cases(show u=.int b from hw);let⟨t,rfl⟩:=ru;erw[av];exact SeqAt.RcNeAt.bool_int _ _ _
  |str b=>cases(show u=.str b from hw);let⟨t,rfl⟩:=ru;erw[av];exact SeqAt.RcNeAt.bool_str _ _ _
  |tup es=>erw[Is] at hw;let⟨a,vs,rfl,h1,_⟩:=hw;cases ru;let⟨_,_,p⟩:=cI I h1;erw[av];exact SeqAt.RcNeAt.bool_tuple _ p nz
  |lst es=>erw[Is] at hw;let⟨a,vs,rfl,h1,_⟩:=hw;cases ru;let⟨_,_,p⟩:=cH I h1;erw[av];exact SeqAt.RcNeAt.bool_list _ p nz
 |int b0 =>
  cases(show v=.int b0 from hv);let⟨t0,rfl⟩:=rv
  cases e with
  |non=>cases(show u=.non from hw);cases ru;erw[av];exact SeqAt.RcNeAt.int_none _ _
  |bl b=>cases(show u=.bl b from hw);cases ru;erw[av];exact SeqAt.RcNeAt.int_bool _ _ _
  |int b=>cases(show u=.int b from hw);let⟨t,rfl⟩:=ru;erw[av];exact SeqAt.RcNeAt.int_int _ _ _ _
  |str b=>cases(show u=.str b from hw);let⟨t,rfl⟩:=ru;erw[av];exact SeqAt.RcNeAt.int_str _ _ _ _
  |tup es=>erw[Is] at hw;let⟨a,vs,rfl,h1,_⟩:=hw;cases ru;let⟨_,_,p⟩:=cI I h1;erw[av];exact SeqAt.RcNeAt.int_tuple _ _ p nz
  |lst es=>erw[Is] at hw;let⟨a,vs,rfl,h1,_⟩:=hw;cases ru;let⟨_,_,p⟩:=cH I h1;erw[av];exact SeqAt.RcNeAt.int_list _ _ p nz
 |str b0 =>
  cases(show v=.str b0 from hv);let⟨t0,rfl⟩:=rv
  cases e with
  |non=>cases(show u=.non from hw);cases ru;erw[av];exact SeqAt.RcNeAt.str_none _ _
  |bl b=>cases(show u=.bl b from hw);cases ru;erw[av];exact SeqAt.RcNeAt.str_bool _ _ _
  |int b=>cases(show u=.int b from hw);let⟨t,rfl⟩:=ru;erw[av];exact SeqAt.RcNeAt.str_int _ _ _ _
  |str b=>cases(show u=.str b from hw);let⟨t,rfl⟩:=ru;erw[av];exact SeqAt.RcNeAt.str_str _ _ _ _
  |tup es=>erw[Is] at hw;let⟨a,vs,rfl,h1,_⟩:=hw;cases ru;let⟨_,_,p⟩:=cI I h1;erw[av];exact SeqAt.RcNeAt.str_tuple _ _ p nz
  |lst es=>erw[Is] at hw;let⟨a,vs,rfl,h1,_⟩:=hw;cases ru;let⟨_,_,p⟩:=cH I h1;erw[av];calc SeqAt.RcNeAt.str_list _ _ p nz
end
variable[ay]
noncomputable def intsOf:-D->Option (-Int)
 |[]=>U []
 |.int i::r=>match intsOf r with
  |some ns=>U (i::ns)
  |none=>Z
 |_=>Z
theorem Gm:∀ns:-Int,intsOf (ns.map D.int)=U ns
 |[]=>Y
 |n::r=>by show(match intsOf (r.map D.int) with|some ns=>U (n::ns)|none=>Z)=_;rw[Gm r]
theorem wx:∀{ds:-D}{ns:-Int},intsOf ds=U ns->ds=ns.map D.int
 |[],ns,h=>by cases h;rfl
 |.int i::r,ns,h=>by
  unfold intsOf at h;split at h
  .rename_i ms e;cases h;rw[Xl,wx e]
  .cases h
 |.non::r,ns,h=>by cases h
 |.bl _::r,ns,h=>by cases h
 |.str _::r,ns,h=>by cases h
 |.tup _::r,ns,h=>by cases h
 |.lst _::r,ns,h=>by cases h
theorem uo{F:Hp}:∀{ns:-Int}{vs:-V},ae F (ns.map D.int) vs->vs=ns.map V.int
 |[],vs,h=>by erw[Y5,ae] at h;exact h
 |n::r,vs,h=>by
  erw[Xl,ae] at h;let⟨v,t,rfl,h1,h2⟩:=h;let h1:v=.int n:=h1;rw[uo h2,h1];rfl
theorem uq{F:Hp}:∀{ns:-Int},ae F (ns.map D.int) (ns.map V.int)
 |[]=>.nil
 |n::r=>.cons (show _=_ from Y) uq
theorem rf{F:Hp}:∀{as bs:-D}{us vs:-V},ae F as us->ae F bs vs->ae F (as++bs) (us++vs)
 |[],bs,us,vs,h,q=>by erw[ae] at h;subst h;exact q
 |a::r,bs,us,vs,h,q=>by
  erw[ae] at h;let⟨v,t,rfl,h1,h2⟩:=h;calc .cons h1 (rf h2 q)
theorem Gn{F:Hp}:∀{as:-D}{us:-V}(n:Nat),ae F as us->ae F (as.take n) (us.take n)
 |as,us,0,_=>by rw[q0s,q0s];exact .nil
 |[],us,n+1,h=>by erw[ae] at h;subst h;exact .nil
 |a::r,us,n+1,h=>by
  erw[ae] at h;let⟨v,t,rfl,h1,h2⟩:=h;calc .cons h1 (Gn n h2)
theorem Gp{F:Hp}:∀{as:-D}{us:-V}(n:Nat),ae F as us->ae F (as.drop n) (us.drop n)
 |as,us,0,h=>h
 |[],us,n+1,h=>by erw[ae] at h;subst h;exact .nil
 |a::r,us,n+1,h=>by
  erw[ae] at h;let⟨v,t,rfl,h1,h2⟩:=h;calc Gp n h2
theorem Aw{F:Hp}:∀{as:-D}{us:-V},ae F as us->ae F as.reverse us.reverse
 |[],us,h=>by erw[ae] at h;subst h;exact .nil
 |a::r,us,h=>by
  erw[ae] at h;let⟨v,t,rfl,h1,h2⟩:=h;rw[q0t,q0t];calc(Aw h2).snoc h1
theorem Gq{F:Hp}:∀{as:-D}{us:-V}(n:Nat){d:D}{v:V},ae F as us->Is F d v->ae F (as.set n d) (us.set n v)
 |[],us,n,d,v,h,_=>by erw[ae] at h;subst h;exact .nil
 |a::r,us,0,d,v,h,q=>by
  erw[ae] at h;let⟨w,t,rfl,h1,h2⟩:=h;exact .cons q h2
 |a::r,us,n+1,d,v,h,q=>by
  erw[ae] at h;let⟨w,t,rfl,h1,h2⟩:=h;calc .cons h1 (Gq n h2 q)
theorem Gr{F:Hp}:∀{as:-D}{us:-V}(n:Nat),ae F as us->ae F (as.eraseIdx n) (us.eraseIdx n)
 |[],us,n,h=>by erw[ae] at h;subst h;exact .nil
 |a::r,us,0,h=>by
  erw[ae] at h;let⟨w,t,rfl,h1,h2⟩:=h;exact h2
 |a::r,us,n+1,h=>by
  erw[ae] at h;let⟨w,t,rfl,h1,h2⟩:=h;calc .cons h1 (Gr n h2)
theorem pQ{F H:Hp}{p:O}{ds:-D}{vs:-V}(s:ar F H)(hp:H p=Z)(h:ae F ds vs):Is (Nw F H (upd H p (.lst vs))) (.lst ds) (.ref p):=by
 rw[Nw.upd s hp];erw[Is];calc⟨p,vs,Y,aY,h.same (bT (s.free hp))⟩
theorem wy{F H:Hp}{p:O}{ds:-D}{vs:-V}(s:ar F H)(hp:H p=Z)(h:ae F ds vs):Is (Nw F H (upd H p (.tup vs))) (.tup ds) (.ref p):=by
 rw[Nw.upd s hp];erw[Is];calc⟨p,vs,Y,aY,h.same (bT (s.free hp))⟩
theorem ur{F H:Hp}{d:D}{v:V}(s:ar F H)(h:Is F d v):Is (Nw F H H) d v:=by rw[Nw.refl s];calc h
def pR:D->D->(D->Prop)->Prop
 |.int i,.int j,K=>K (.int (i+j))
 |.lst a,.lst b,K=>↑a+↑b<=1000/\K (.lst (a++b))
 |.tup a,.tup b,K=>(a≠[]/\↑a+↑b<=1000)/\K (.tup (a++b))
 |.str a,.str b,K=>↑a+↑b<=1000/\K (.str (a++b))
 |_,_,_=>False
def oI(f:Int->Int->D):D->D->(D->Prop)->Prop
 |.int i,.int j,K=>K (f i j)
 |_,_,_=>False
def cJ(C:Int->Int->Prop)(f:Int->Int->D):D->D->(D->Prop)->Prop
 |.int i,.int j,K=>C i j/\K (f i j)
 |_,_,_=>False
def fu:D->D->(D->Prop)->Prop
 |.int i,.int j,K=>lE i j/\K (.int (i*j))
 |.lst a,.int j,K=>(-(2 ^ 63)<=j/\j<2 ^ 63/\↑a*j.toNat<=1000)/\K (.lst (W7 j.toNat a).flatten)
 |_,_,_=>False
section
variable{X:Cx}
theorem wz{f:J->J->Sem J}{g:Int->Int->V}{h:Int->Int->D}(op:de X f (lC g))(hg:∀F i j,Is F (h i j) (g i j)):eE X f (oI h):=by
 ext pins s σ H x y v u Q I rx ry ⟨F,d,e,K,sub,rd,re,q,md⟩;unfold oI at q;split at q
 .rename_i i j
  exact op pins s σ H x y v u Q I rx ry ⟨i,j,rd,re,md _ _ _ q (λ_ _ e=>e) (hg _ i j)⟩
 .calc q.elim
theorem Ax{f:J->J->Sem J}{C:Int->Int->Prop}{g:Int->Int->V}{h:Int->Int->D}(op:de X f (rI C g))(hg:∀F i j,Is F (h i j) (g i j)):eE X f (cJ C h):=by
 ext pins s σ H x y v u Q I rx ry ⟨F,d,e,K,sub,rd,re,q,md⟩;unfold cJ at q;split at q
 .rename_i i j
  exact op pins s σ H x y v u Q I rx ry ⟨i,j,rd,re,q.1,md _ _ _ q.2 (λ_ _ e=>e) (hg _ i j)⟩
 .calc q.elim
theorem wA:eE X (binaryOp .Add) pR:=by
 ext pins s σ H x y v u Q I rx ry ⟨F,d,e,K,sub,rd,re,q,md⟩;unfold pR at q;split at q
 .rename_i i j
  exact D4 pins s σ H x y v u Q I rx ry ⟨i,j,rd,re,md _ _ _ q (λ_ _ e=>e) Y⟩
 .rename_i as bs
  let⟨a,us,rfl,h1,h2⟩:=rd;let⟨b,ws,rfl,h3,h4⟩:=re;refine vO pins s σ H _ _ v u Q I rx ry ⟨a,b,us,ws,Y,Y,h1,h3,jW (by rw[↑h2,↑h4];calc q.1),λp hp=>md _ _ _ q.2 (bT hp) (pQ sub hp (rf h2 h4))⟩
 .rename_i as bs
  let cw:Is F (.tup as) x:=rd;let gB:Is F (.tup bs) y:=re;erw[Is] at cw gB;let⟨a,us,rfl,h1,h2⟩:=cw;let⟨b,ws,rfl,h3,h4⟩:=gB;let ne:us≠[]:=λz=>q.1.1 (Zr.mp (by rw[<-↑h2,z];rfl));calc Mc pins s σ H _ _ v u Q I rx ry ⟨a,b,us,ws,Y,Y,bo.of (sub _ _ h1),bo.of (sub _ _ h3),ne,jW (by rw[↑h2,↑h4];calc q.1.2),λz=>?_,λz p hp=>md _ _ _ q.2 (bT hp) (wy sub hp (rf h2 h4))⟩;let:bs=[]:=Zr.mp (by rw[<-↑h4,z];rfl);subst this;calc md _ _ _ q.2 (λ_ _ e=>e) (ur sub ?_);rw[Ze];exact rd
 .rename_i as bs
  let cw:x=.str as:=rd;let gB:y=.str bs:=re;subst cw gB;exact Lr pins s σ H _ _ v u Q I rx ry ⟨as,bs,Y,Y,jW q.1,md _ _ _ q.2 (λ_ _ e=>e) Y⟩
 .calc q.elim
theorem rh:eE X (binaryOp .Sub) (oI λi j=>.int (i-j)):=wz K9 λ_ _ _=>Y
theorem OQ:eE X (binaryOp .Mult) fu:=by
 ext pins s σ H x y v u Q I rx ry ⟨F,d,e,K,sub,rd,re,q,md⟩;unfold fu at q;split at q
 .rename_i i j
  exact K_ pins s σ H x y v u Q I rx ry ⟨i,j,rd,re,q.1,md _ _ _ q.2 (λ_ _ e=>e) Y⟩
 .rename_i as j
  let⟨a,us,rfl,h1,h2⟩:=rd;refine Mo pins s σ H _ _ v u Q I rx ry ⟨a,j,us,Y,re,h1,q.1.1,q.1.2.1,jW (by rw[↑h2];calc q.1.2.2),λp hp=>md _ _ _ q.2 (bT hp) (pQ sub hp ?_)⟩
  let:∀k:Nat,ae F (W7 k as).flatten (W7 k us).flatten:=λk=>by
   induction k with
   |zero=>exact .nil
   |succ k ih=>rw[Yf,Yf,Zg,Zg];exact rf h2 ih
  exact this _
 .calc q.elim
theorem OR:eE X (binaryOp .FloorDiv) (cJ sJ λi j=>.int (i.fdiv j)):=Ax La λ_ _ _=>Y
theorem OS:eE X (binaryOp .Mod) (cJ (λ_ j=>0<j) λi j=>.int (i%j)):=Ax yB λ_ _ _=>Y
theorem wB:eE X (binaryOp .Pow) (cJ cU λi j=>.int (i ^ j.toNat)):=Ax Lb λ_ _ _=>Y
def oEq:D->D->(D->Prop)->Prop:=λd e K=>dep d<=60/\K (.bl (av d e))
def mf:D->D->(D->Prop)->Prop:=λd e K=>dep d<=60/\K (.bl (!av d e))
theorem rp(hu:X.A.units+64<cLine):eE X (compareOp .Eq) oEq:=by
 ext pins s σ H x y v u Q I rx ry ⟨F,d,e,K,sub,rd,re,q,md⟩;calc(As I 60 q.1 ⋯ (rd.is sub) (re.is sub) rx ry).2 _ _ _ _ ⟨.bl _,H,I,Y,md _ _ _ q.2 (λ_ _ e=>e) Y⟩
theorem uu(hu:X.A.units+64<cLine):eE X (compareOp .NotEq) mf:=by
 ext pins s σ H x y v u Q I rx ry ⟨F,d,e,K,sub,rd,re,q,md⟩;calc OO I q.1 ⋯ (rd.is sub) (re.is sub) rx ry _ _ _ _ ⟨.bl _,H,I,Y,md _ _ _ q.2 (λ_ _ e=>e) Y⟩
def oLt:D->D->(D->Prop)->Prop
 |.int i,.int j,K=>K (.bl (S (i<j)))
 |.tup a,.tup b,K=>match intsOf a,intsOf b with
  |some ns,some ms=>K (.bl (HT.lexLt ns ms))
  |_,_=>False
 |_,_,_=>False
theorem Gs(hu:X.A.units+64<cLine):eE X (compareOp .Lt) oLt:=by
 ext pins s σ H x y v u Q I rx ry ⟨F,d,e,K,sub,rd,re,q,md⟩;unfold oLt at q;split at q
 .rename_i i j
  exact D6 pins s σ H x y v u Q I rx ry ⟨i,j,rd,re,md _ _ _ q (λ_ _ e=>e) Y⟩
 .rename_i as bs
  split at q
  .rename_i ns ms e1 e2
   rw[wx e1] at rd;rw[wx e2] at re;let cw:Is F (.tup (ns.map D.int)) x:=rd;let gB:Is F (.tup (ms.map D.int)) y:=re;erw[Is] at cw gB;let⟨a,us,rfl,h1,h2⟩:=cw;let⟨b,ws,rfl,h3,h4⟩:=gB;rw[uo h2] at h1;rw[uo h4] at h3;exact Ma ⋯ pins s σ H _ _ v u Q I rx ry ⟨a,b,ns,ms,Y,Y,bo.of (sub _ _ h1),bo.of (sub _ _ h3),md _ _ _ q (λ_ _ e=>e) Y⟩
  .exact q.elim
 .calc q.elim
theorem Gu:eE X (compareOp .LtE) (oI λi j=>.bl (S (i<=j))):=wz Lj λ_ _ _=>Y
theorem wC:eE X (compareOp .Gt) (oI λi j=>.bl (S (j<i))):=wz Lk λ_ _ _=>Y
theorem OT:eE X (compareOp .GtE) (oI λi j=>.bl (S (j<=i))):=wz Ll λ_ _ _=>Y
def j4:D->D->(D->Prop)->Prop
 |.non,.non,K=>K (.bl θ)
 |.bl _,.non,K=>K (.bl ι)
 |.int _,.non,K=>K (.bl ι)
 |.str _,.non,K=>K (.bl ι)
 |.tup _,.non,K=>K (.bl ι)
 |.lst _,.non,K=>K (.bl ι)
 |_,_,_=>False
theorem OU{F H:Hp}{d e:D}{x y:V}{K:D->Prop}(rd:fU F H d x)(re:fU F H e y)(q:j4 d e K):y=.non/\K (.bl (S (x=.non))):=by
 unfold j4 at q;split at q
 .let:x=.non:=rd;let h2:y=.non:=re;subst this;exact⟨h2,q⟩
 .rename_i b;let:x=.bl b:=rd;let h2:y=.non:=re;subst this;exact⟨h2,q⟩
 .rename_i b;let:x=.int b:=rd;let h2:y=.non:=re;subst this;exact⟨h2,q⟩
 .rename_i b;let:x=.str b:=rd;let h2:y=.non:=re;subst this;exact⟨h2,q⟩
 .rename_i b;let rd:Is F (.tup b) x:=rd;erw[Is] at rd;let⟨a,_,rfl,_⟩:=rd;exact⟨re,q⟩
 .rename_i b;let⟨a,_,rfl,_⟩:=rd;exact⟨re,q⟩
 .calc q.elim
theorem OW:eE X (compareOp .Is) j4:=by
 ext pins s σ H x y v u Q I rx ry ⟨F,d,e,K,sub,rd,re,q,md⟩;let⟨h1,h2⟩:=OU rd re q;calc Lm pins s σ H x y v u Q I rx ry ⟨h1,md _ _ _ h2 (λ_ _ e=>e) Y⟩
def n_(neg:Bool):D->D->(D->Prop)->Prop
 |d,.lst es,K=>aV es<=55/\K (.bl (if neg then !(es.any λe=>av e d) else es.any λe=>av e d))
 |d,.tup es,K=>aV es<=55/\K (.bl (if neg then !(es.any λe=>av e d) else es.any λe=>av e d))
 |_,_,_=>False
noncomputable def gO(H:Hp)(d:D)(u:J):Bool:=by
 classical calc if ∃e v,Is H e v/\RelV v u/\av e d=θ then θ else ι
theorem Gv{H:Hp}{d e:D}{v:V}{u:J}(h:Is H e v)(r:RelV v u):gO H d u=av e d:=by
 unfold gO;split
 .rename_i z
  let⟨e',v',h',r',q⟩:=z;let:v'=v:=r'.inj r;subst this;rw[Is.inj h h'];exact q.symm
 .rename_i z
  cases q:av e d with
  |false=>rfl
  |true=>calc absurd ⟨e,v,h,r,q⟩ z
theorem uv{H:Hp}{d:D}:∀{es:-D}{vs:-V}{us:-J},ae H es vs->Vals vs us->us.any (gO H d)=es.any λe=>av e d
 |[],vs,us,h,r=>by erw[ae] at h;subst h;cases r;rfl
 |e::es,vs,us,h,r=>by
  erw[ae] at h;let⟨v,t,rfl,h1,h2⟩:=h
  cases r with
  |cons r1 r2=>rw[Y6,Y6,Gv h1 r1,uv h2 r2]
theorem uw{pins:aq}{σ:St}{H:Hp}{s:L}(I:Inv X pins σ H s){A:q}(hu:A.units+60<cLine){d:D}{x:V}{w:J}(hd:Is H d x)(rd:RelV x w):∀{es:-D}{vs:-V}{us:-J},aV es<=55->ae H es vs->Vals vs us->∀u∈us,q0B A s u w (gO H d u)
 |[],vs,us,_,h,r=>by erw[ae] at h;subst h;cases r;ext u hu;cases hu
 |e::es,vs,us,hp,h,r=>by
  erw[ae] at h;let⟨v,t,rfl,h1,h2⟩:=h;erw[aV] at hp
  cases r with
  |cons r1 r2 =>
   ext u hu';rcases Mt.mp hu' with rfl|hu'
   .rw[Gv h1 r1];exact(As I 55 ⋯ ⋯ h1 hd r1 rd).1
   .calc uw I hu hd rd ⋯ h2 r2 u hu'
theorem OX(hu:X.A.units+64<cLine):eE X (compareOp .In) (n_ ι):=by
 ext pins s σ H x y v u Q I rx ry ⟨F,d,e,K,sub,rd,re,q,md⟩;unfold n_ at q;split at q
 .rename_i es
  let⟨a,vs,rfl,h1,h2⟩:=re;cases ry
  let⟨ah,r,p⟩:=cH I h1;let gr:=h2.same sub;calc SeqAt.in_listAt (gO H d) p (λw hw=>uw I (by rw[in1_units];symm) (rd.is sub) rx q.1 gr r w hw⁻¹) ⟨.bl _,H,I,Y,?_⟩;rw[show ah.toArray.any (gO H d)=ah.any (gO H d) by simp,uv gr r];exact md _ _ _ q.2 (λ_ _ e=>e) Y
 .rename_i es
  let gB:Is F (.tup es) y:=re;erw[Is] at gB;let⟨a,vs,rfl,h1,h2⟩:=gB;cases ry
  let⟨ah,r,p⟩:=cI I (sub _ _ h1);let gr:=h2.same sub;calc SeqAt.in_tupleAt (gO H d) p (λw hw=>uw I (by rw[in1_units];symm) (rd.is sub) rx q.1 gr r w hw⁻¹) ⟨.bl _,H,I,Y,?_⟩;rw[show ah.toArray.any (gO H d)=ah.any (gO H d) by simp,uv gr r];exact md _ _ _ q.2 (λ_ _ e=>e) Y
 .calc q.elim
theorem OY(hu:X.A.units+64<cLine):eE X (compareOp .NotIn) (n_ θ):=by
 ext pins s σ H x y v u Q I rx ry ⟨F,d,e,K,sub,rd,re,q,md⟩;unfold n_ at q;split at q
 .rename_i es
  let⟨a,vs,rfl,h1,h2⟩:=re;cases ry
  let⟨ah,r,p⟩:=cH I h1;let gr:=h2.same sub;calc SeqAt.notIn_listAt (gO H d) p (λw hw=>uw I (by rw[in1_units];symm) (rd.is sub) rx q.1 gr r w hw⁻¹) ⟨.bl _,H,I,Y,?_⟩;rw[show ah.toArray.any (gO H d)=ah.any (gO H d) by simp,uv gr r];exact md _ _ _ q.2 (λ_ _ e=>e) Y
 .rename_i es
  let gB:Is F (.tup es) y:=re;erw[Is] at gB;let⟨a,vs,rfl,h1,h2⟩:=gB;cases ry
  let⟨ah,r,p⟩:=cI I (sub _ _ h1);let gr:=h2.same sub;calc SeqAt.notIn_tupleAt (gO H d) p (λw hw=>uw I (by rw[in1_units];symm) (rd.is sub) rx q.1 gr r w hw⁻¹) ⟨.bl _,H,I,Y,?_⟩;rw[show ah.toArray.any (gO H d)=ah.any (gO H d) by simp,uv gr r];exact md _ _ _ q.2 (λ_ _ e=>e) Y
 .calc q.elim
def a_:D->D->(D->Prop)->Prop
 |.lst ds,.int i,K=>match d3 ds i with
  |some d=>K d
  |none=>False
 |.tup ds,.int i,K=>match d3 ds i with
  |some d=>K d
  |none=>False
 |.str z,.int i,K=>↑z<=1000/\match d3 z.cps.toList i with
  |some c=>K (.str ⟨#[c]⟩)
  |none=>False
 |_,_,_=>False
theorem Gw{F:Hp}{ds:-D}{vs:-V}{i:Int}{d:D}(h:ae F ds vs)(e:d3 ds i=U d):∃v,d3 vs i=U v/\Is F d v:=by
 unfold d3 at e ⊢;rw[↑h]
 cases q:iK ↑ds i with
 |none=>rw[q] at e;cases e
 |some j =>
  rw[q] at e;calc n8 h (show ds[j]?=U d from e)
theorem pS:FL X a_:=by
 ext value slice pins s σ H x y v u Q I rx ry ⟨F,d,e,K,sub,rd,re,q,md⟩ hs;unfold a_ at q;split at q
 .rename_i ds i
  split at q
  .rename_i d' e1
   let⟨a,vs,rfl,h1,h2⟩:=rd;let⟨w,e2,h3⟩:=Gw h2 e1;exact sZ value slice pins s σ H _ _ v u Q I rx ry ⟨a,vs,i,w,Y,re,aX.of h1,e2,md _ _ _ q (λ_ _ e=>e) (ur sub h3)⟩ hs
  .exact q.elim
 .rename_i ds i
  split at q
  .rename_i d' e1
   let cw:Is F (.tup ds) x:=rd;erw[Is] at cw;let⟨a,vs,rfl,h1,h2⟩:=cw;let⟨w,e2,h3⟩:=Gw h2 e1;exact Md value slice pins s σ H _ _ v u Q I rx ry ⟨a,vs,i,w,Y,re,bo.of (sub _ _ h1),e2,md _ _ _ q (λ_ _ e=>e) (ur sub h3)⟩ hs
  .exact q.elim
 .rename_i z i
  let⟨hz,q⟩:=q;split at q
  .rename_i c e1
   let cw:x=.str z:=rd;subst cw;exact Me value slice pins s σ H _ _ v u Q I rx ry ⟨z,i,c,Y,re,jW hz,e1,md _ _ _ q (λ_ _ e=>e) Y⟩ hs
  .exact q.elim
 .calc q.elim
noncomputable def cutD(ds:-D)(lo hi:Option Int):-D:=(ds.drop (HT.aP ↑ds 0 lo)).take (HT.aP ↑ds ↑ds hi-HT.aP ↑ds 0 lo)
theorem Gx{F:Hp}{ds:-D}{vs:-V}(h:ae F ds vs)(lo hi:Option Int):ae F (cutD ds lo hi) (cq vs lo hi):=by
 unfold cutD cq;rw[↑h];calc Gn _ (Gp _ h)
abbrev WO:=aw->(Option Int->aw->Prop)->Prop
def wD(f:WO):TO:=fun σ H Q=>∃F ad δ K,SR F ad δ σ H/\f δ K/\∀o δ',K o δ'->∀F' au H',Ext F ad δ.mu H F' au δ'.mu H'->SR F' au δ' σ H'->Q o H'
def cK:WO:=fun δ K=>K Z δ
def gP(f:WE):WO:=fun δ K=>f δ λx δ1=>match x with
 |.p (.int i)=>K (U i) δ1
 |_=>False
theorem rq:PO X Z (wD cK):=λpins s σ H Q I h0_=>el7 h0_ λF ad δ K S q k =>Ei pins s σ H Q I (k _ _ q _ _ _ .refl S)
theorem rz{e:B}{f:WE}(h:JE X e (tD f)):PO X (U e) (wD (gP f)):=λpins s σ H Q I h0_=>el7 h0_ λF ad δ K S q k =>vN h pins s σ H Q I ⟨F,ad,δ,_,S,q,λx δ1 h1 v F1 aI H1 E1 S1 V1=>by
 split at h1
 .rename_i i
  exact⟨i,V1,k _ _ h1 _ _ _ E1 S1⟩
 .calc h1.elim⟩
def g6:D->(D->Prop)->Prop
 |.int i,K=>K (.int (-(i:Int)))
 |_,_=>False
theorem Ay{e:B}{f:WE}{pos:y}(he:JE X e (tD f)):JE X (.UnaryOp .USub e pos) (tD (d1 f g6)) :=
 (D3 D5 he).weak fun σ H Q h0_=>el7 h0_ λF ad δ K S q k =>⟨F,ad,δ,_,S,q,λx δ1 h1 v F1 aI H1 E1 S1 V1=>by
  let⟨d,h4,rd⟩:=iy S1 V1 h1;unfold g6 at h4;split at h4
  .rename_i i
   exact⟨i,rd,k _ _ h4 _ _ _ _ E1 S1 Y⟩
  .calc h4.elim⟩
def wF(f g h:WE)(o o':D->D->(D->Prop)->Prop):WE:=fun δ K=>f δ λx δ1=>g δ1 λy δ2=>gc x δ2 λd=>gc y δ2 λe=>o d e λz=>match z with
 |.bl true=>h δ2 λw δ3=>gc y δ3 λe'=>gc w δ3 λc=>o' e' c λz'=>K (.p z') δ3
 |.bl false=>K (.p (.bl ι)) δ2
 |_=>False
theorem OZ{a b c:B}{f g h:WE}{op oR:CmpOp}{o o':D->D->(D->Prop)->Prop}{pos:Ε}(ho:eE X (compareOp op) o)(jE:eE X (compareOp oR) o')(ha:JE X a (tD f))(hb:JE X b (tD g))(hc:JE X c (tD h))
  (hm:lastMarks [op,oR] [b,c]=ι:=by with_unfolding_all rfl):JE X (.Compare a [op,oR] [b,c] pos) (tD (wF f g h o o')) :=
 (Lq ho jE ha hb hc hm).weak fun σ H Q h0_=>el7 h0_ λF ad δ K S q k =>by
  calc⟨F,ad,δ,_,S,q,λx δ1 h1 v1 F1 aI H1 E1 S1 V1=>⟨F1,aI,δ1,_,S1,h1,λy δ2 h2 v2 F2 bZ H2 E2 S2 V2=>?_⟩⟩;let⟨d,h3,rd⟩:=iy S2 (V1.ext E2) h2;let⟨e,h4,re⟩:=iy S2 V2 h3;calc⟨F2,d,e,_,S2.sub,rd,re,h4,λz v H' hz sm is=>?_⟩;let S3:=S2.al sm;let E3:=Ext.al S2 sm;split at hz
  .refine⟨θ,is,?_⟩
   rw[Xa Y];calc⟨_,bZ,δ2,_,S3,hz,λw δ4 h5 v4 F4 we H4 E4 S4 V4=>?_⟩;let⟨d',h6,wc⟩:=iy S4 ((V2.ext E3).ext E4) h5;let⟨e',h7,O0⟩:=iy S4 V4 h6;exact⟨F4,d',e',_,S4.sub,wc,O0,h7,λz v H' hz sm is=>k _ _ hz _ _ _ _ ((((E1.trans E2).trans E3).trans E4).trans (Ext.al S4 sm)) (S4.al sm) is⟩
  .refine⟨ι,is,?_⟩
   rw[VR Mw];exact k _ _ hz _ _ _ _ ((E1.trans E2).trans E3) S3 Y
  .calc hz.elim
end
def bq:-D->(D->Prop)->Prop
 |[.lst ds],K=>K (.int ↑ds)
 |[.tup ds],K=>K (.int ↑ds)
 |[.str z],K=>↑z<=1000/\K (.int ↑z)
 |_,_=>False
def wG:-D->(D->Prop)->Prop
 |[.lst ds],K=>K (.lst ds)
 |[.tup ds],K=>K (.lst ds)
 |_,_=>False
def ux:-D->(D->Prop)->Prop
 |[.lst ds],K=>K (.tup ds)
 |[.tup ds],K=>K (.tup ds)
 |_,_=>False
def mi:-D->(D->Prop)->Prop
 |[.lst ds],K=>match intsOf ds with
  |some ns=>((∀x∈ns,0<=x/\x<=1000000000)/\ns.length<=1000)/\K (.int ns.sum)
  |none=>False
 |_,_=>False
noncomputable def pT:-D->Option (-Bool)
 |[]=>U []
 |.bl b::r=>match pT r with
  |some bs=>U (b::bs)
  |none=>Z
 |_=>Z
theorem Gy:∀bs:-Bool,pT (bs.map D.bl)=U bs
 |[]=>Y
 |n::r=>by show(match pT (r.map D.bl) with|some ns=>U (n::ns)|none=>Z)=_;rw[Gy r]
theorem Gz:∀{ds:-D}{bs:-Bool},pT ds=U bs->ds=bs.map D.bl
 |[],ns,h=>by cases h;rfl
 |.bl i::r,ns,h=>by
  unfold pT at h;split at h
  .rename_i ms e;cases h;rw[Xl,Gz e]
  .cases h
 |.non::r,ns,h=>by cases h
 |.int _::r,ns,h=>by cases h
 |.str _::r,ns,h=>by cases h
 |.tup _::r,ns,h=>by cases h
 |.lst _::r,ns,h=>by cases h
theorem GA{F:Hp}:∀{bs:-Bool}{vs:-V},ae F (bs.map D.bl) vs->vs=bs.map V.bl
 |[],vs,h=>by erw[Y5,ae] at h;exact h
 |n::r,vs,h=>by
  erw[Xl,ae] at h;let⟨v,t,rfl,h1,h2⟩:=h;let h1:v=.bl n:=h1;rw[GA h2,h1];rfl
def mj:-D->(D->Prop)->Prop
 |[.lst ds],K=>match pT ds with
  |some bs=>K (.bl (bs.all id))
  |none=>False
 |_,_=>False
def rA:-D->(D->Prop)->Prop
 |[.int i,.int j],K=>K (.int (min i j))
 |_,_=>False
def wH:-D->(D->Prop)->Prop
 |[.int i,.int j],K=>K (.int (max i j))
 |_,_=>False
section
variable{X:Cx}
theorem cw{F H:Hp}{d:D}{xs:-V}(h:iR F H [d] xs):∃v,xs=[v]/\fU F H d v:=by
 let⟨v,r,rfl,h1,h2⟩:=h;let h2:r=[]:=h2;subst h2;calc⟨v,Y,h1⟩
theorem GB{F H:Hp}{d e:D}{xs:-V}(h:iR F H [d,e] xs):∃v w,xs=[v,w]/\fU F H d v/\fU F H e w:=by
 let⟨v,r,rfl,h1,h2⟩:=h;let⟨w,rfl,h3⟩:=cw h2;calc⟨v,w,Y,h1,h3⟩
theorem wI:cO X (.builtin "len") bq:=by
 ext pins s σ H xs us Q I r ⟨F,ds,K,sub,rd,q,md⟩;unfold bq at q;split at q
 .let⟨v,rfl,a,vs,rfl,h1,h2⟩:=cw rd
  exact Em pins s σ H _ us Q I r ⟨a,vs,Y,.inl (aX.of h1),by rw[↑h2];calc md _ _ _ q (λ_ _ e=>e) Y⟩
 .rename_i es
  let⟨v,rfl,h⟩:=cw rd;let h:Is F (.tup es) v:=h;erw[Is] at h;let⟨a,vs,rfl,h1,h2⟩:=h;exact Em pins s σ H _ us Q I r ⟨a,vs,Y,.inr (bo.of (sub _ _ h1)),by rw[↑h2];calc md _ _ _ q (λ_ _ e=>e) Y⟩
 .rename_i z
  let⟨v,rfl,h⟩:=cw rd;let h:v=.str z:=h;subst h;exact Mj pins s σ H _ us Q I r ⟨z,Y,jW q.1,md _ _ _ q.2 (λ_ _ e=>e) Y⟩
 .calc q.elim
theorem O1:cO X (.type "list") wG:=by
 ext pins s σ H xs us Q I r ⟨F,ds,K,sub,rd,q,md⟩;unfold wG at q;split at q
 .let⟨v,rfl,a,vs,rfl,h1,h2⟩:=cw rd
  exact yZ pins s σ H _ us Q I r ⟨a,vs,Y,.inl (aX.of h1),λl hl=>md _ _ _ q (bT hl) (pQ sub hl h2)⟩
 .rename_i es
  let⟨v,rfl,h⟩:=cw rd;let h:Is F (.tup es) v:=h;erw[Is] at h;let⟨a,vs,rfl,h1,h2⟩:=h;exact yZ pins s σ H _ us Q I r ⟨a,vs,Y,.inr (bo.of (sub _ _ h1)),λl hl=>md _ _ _ q (bT hl) (pQ sub hl h2)⟩
 .calc q.elim
theorem O3:cO X (.type "tuple") ux:=by
 ext pins s σ H xs us Q I r ⟨F,ds,K,sub,rd,q,md⟩;unfold ux at q;split at q
 .let⟨v,rfl,a,vs,rfl,h1,h2⟩:=cw rd
  exact En pins s σ H _ us Q I r ⟨a,vs,Y,.inl ⟨aX.of h1,λl hl=>md _ _ _ q (bT hl) (wy sub hl h2)⟩⟩
 .rename_i es
  let⟨v,rfl,h⟩:=cw rd;let h0:Is F (.tup es) v:=h;let h:Is F (.tup es) v:=h;erw[Is] at h;let⟨a,vs,rfl,h1,h2⟩:=h;exact En pins s σ H _ us Q I r ⟨a,vs,Y,.inr ⟨bo.of (sub _ _ h1),md _ _ _ q (λ_ _ e=>e) (ur sub h0)⟩⟩
 .calc q.elim
theorem O4(hc:X.calm=θ):cO X (.builtin "sum") mi:=by
 ext pins s σ H xs us Q I r ⟨F,ds,K,sub,rd,q,md⟩;unfold mi at q;split at q
 .rename_i es
  split at q
  .rename_i ns e
   let⟨v,rfl,a,vs,rfl,h1,h2⟩:=cw rd;rw[wx e] at h2;rw[uo h2] at h1;exact NY hc pins s σ H _ us Q I r ⟨a,ns,Y,aX.of h1,q.1.1,q.1.2,md _ _ _ q.2 (λ_ _ e=>e) Y⟩
  .exact q.elim
 .calc q.elim
theorem O5(hc:X.calm=θ):cO X (.builtin "all") mj:=by
 ext pins s σ H xs us Q I r ⟨F,ds,K,sub,rd,q,md⟩;unfold mj at q;split at q
 .rename_i es
  split at q
  .rename_i bs e
   let⟨v,rfl,a,vs,rfl,h1,h2⟩:=cw rd;rw[Gz e] at h2;rw[GA h2] at h1;exact NV hc pins s σ H _ us Q I r ⟨a,bs,Y,aX.of h1,md _ _ _ q (λ_ _ e=>e) Y⟩
  .exact q.elim
 .calc q.elim
theorem O6(hc:X.calm=θ):cO X (.builtin "min") rA:=by
 ext pins s σ H xs us Q I r ⟨F,ds,K,sub,rd,q,md⟩;unfold rA at q;split at q
 .rename_i i j
  let⟨v,w,rfl,h1,h2⟩:=GB rd;let h1:v=.int i:=h1;let h2:w=.int j:=h2;subst h1 h2;calc Lu hc pins s σ H _ us Q I r ⟨i,j,Y,?_⟩;let:(if j<i then j else i)=min i j:=by split<;>symm
  rw[this];exact md _ _ _ q (λ_ _ e=>e) Y
 .calc q.elim
theorem O7(hc:X.calm=θ):cO X (.builtin "max") wH:=by
 ext pins s σ H xs us Q I r ⟨F,ds,K,sub,rd,q,md⟩;unfold wH at q;split at q
 .rename_i i j
  let⟨v,w,rfl,h1,h2⟩:=GB rd;let h1:v=.int i:=h1;let h2:w=.int j:=h2;subst h1 h2;calc Ls hc pins s σ H _ us Q I r ⟨i,j,Y,?_⟩;let:(if j>i then j else i)=max i j:=by split<;>symm
  rw[this];exact md _ _ _ q (λ_ _ e=>e) Y
 .calc q.elim
def Az(fa:WA):WE:=fun δ K=>fa δ λxs δ1=>match xs with
 |[.p (.int j)]=>(0<=j/\j<=1000)/\K (.p (.lst (b9 0 j.toNat))) δ1
 |_=>False
theorem wJ(n:Nat):b9 0 n=(cN n).map D.int:=by
 unfold b9 cN;rw[XE];calc X8 λi _=>?_;show D.int (0+(i:Int))=D.int (i:Int);rw[q3f]
theorem O8{a:B}{fa:WA}{p1 p2 q1 q2:y}(hc:X.calm=θ)(uy:Gl X "list")(hl:X.mg "list" = Z)(uz:bootBuiltins "list" = U (.type "list"))(uA:Gl X "range")(hr:X.mg "range" = Z)(uB:bootBuiltins "range" = U (.type "range"))(ha:JA X [a] (bH fa))
  (he:starEach [a] X.env=[(ι,eval a X.env)]:=by rfl) (uC:starEach [.Call (.Name "range" p2) [a] [] q2] X.env=[(ι,eval (.Call (.Name "range" p2) [a] [] q2) X.env)]:=by rfl):JE X (.Call (.Name "list" p1) [.Call (.Name "range" p2) [a] [] q2] [] q1) (tD (Az fa)) :=
 (nE (FD hc) uy hl uz (gZ (nE FA uA hr uB ha (he:=he)) aE) (he:=uC)).weak fun σ H Q h0_=>el7 h0_ λF ad δ K S q k =>⟨F,ad,δ,_,S,q,λxs δ1 h1 vs F1 aI H1 E1 S1 V1=>by
  split at h1
  .rename_i j
   let⟨v,r,e,W1,W2⟩:=V1;let W2:r=[]:=W2;let W1:v=.int j:=W1;subst W2 W1 e;calc⟨j,Y,λrr AA=>⟨rr,j.toNat,Y,by rw[aY,q2q h1.1.1],⋯,λl hl=>?_⟩⟩;let s1:ar H1 (upd H1 rr (.rng 0 j)):=bT AA;let S2:=S1.al s1;let E2:=Ext.al S1 s1;calc k _ _ h1.2 _ _ _ _ ((E1.trans E2).trans (Ext.al S2 (bT hl))) (S2.al (bT hl)) ?_;let:Is (Nw (Nw F1 H1 (upd H1 rr (.rng 0 j))) (upd H1 rr (.rng 0 j)) (upd (upd H1 rr (.rng 0 j)) l (.lst ((cN j.toNat).map V.int)))) (.lst ((cN j.toNat).map D.int)) (.ref l):=pQ S2.sub hl uq;rw[wJ];exact this
  .calc h1.elim⟩
def bj(T:String):D->(D->Prop)->Prop:=λd K=>K (.bl (aA (bh d) T))
theorem gf{T:String}{t:R}{a:B}{f:WE}{p p2 pos:y}(hk:∀d:D,Xe X.K (.type (bh d)) (.type T)=U (aA (bh d) T))(hg:Gl X "isinstance")(hm:X.mg "isinstance" = Z)(O9:Gl X t)(O_:X.mg t=Z)(Pa:bootBuiltins t=U (.type T))(ha:JE X a (tD f))
  (tK:t≠"__name__" := by decide) (jP:bf t:=by decide) (he:starEach [a,.Name t p2] X.env=(ι,eval a X.env)::starEach [.Name t p2] X.env:=by rfl):JE X (.Call (.Name "isinstance" p) [a,.Name t p2] [] pos) (tD (d1 f (bj T))) :=
 (vL Nt hg hm q0O (gn ha (fg (DQ O9 O_ Pa (v:=.ty T) Y tK jP) aE) he) (he:=he)).weak fun σ H Q h0_=>el7 h0_ λF ad δ K S q k =>⟨F,ad,δ,_,S,q,λx δ1 h1 v F1 aI H1 E1 S1 V1=>by
  let⟨d,h2,rd⟩:=iy S1 V1 h1
  calc⟨v,.ty T,.type T,.type (bh d),_,Y,Y,Is.ty (rd.is S1.sub),hk d,k _ _ h2 _ _ _ _ E1 S1 Y⟩⟩
theorem AB{K:tu}:∀d:D,Xe K (.type (bh d)) (.type "int")=U (aA (bh d) "int"):=λd=>NC _ (tV d)
theorem uD{K:tu}:∀d:D,Xe K (.type (bh d)) (.type "bool")=U (aA (bh d) "bool"):=λd=>NB _ (tV d)
theorem GC{K:tu}:∀d:D,Xe K (.type (bh d)) (.type "str")=U (aA (bh d) "str"):=λd=>ND _ (tV d)
theorem uE{K:tu}:∀d:D,Xe K (.type (bh d)) (.type "tuple")=U (aA (bh d) "tuple"):=λd=>kit_tuple _ (tV d)
theorem AD{K:tu}:∀d:D,Xe K (.type (bh d)) (.type "list")=U (aA (bh d) "list"):=λd=>NF _ (tV d)
def fw(x:DV)(δ:aw)(K:Nat->-D->Prop):Prop:=match x with
 |.o k=>match δ.mu[k]? with
  |some (some (.lst ds))=>K k ds
  |_=>False
 |_=>False
theorem pU{F H:Hp}{ad:-O}{δ:aw}{σ:St}{x:DV}{v:V}{K:Nat->-D->Prop}(S:SR F ad δ σ H)(V1:df F ad x v)(h:fw x δ K):∃k ds a vs,x=.o k/\K k ds/\v=.ref a/\ad[k]?=U a/\H a=U (.lst vs)/\ae F ds vs/\δ.mu[k]?=U (U (.lst ds)):=by
 unfold fw at h;split at h
 .rename_i k
  split at h
  .rename_i ds e
   let⟨a,e1,rfl⟩:=V1;let⟨a',o,e2,e3,vs,rfl,h4⟩:=S.mu k _ e;rw[e1] at e2;cases e2;exact⟨k,ds,a,vs,Y,h,Y,e1,e3,h4,e⟩
  .exact h.elim
 .calc h.elim
def j5(f:WE)(fa:WA):WE:=fun δ K=>f δ λx δ1=>fw x δ1 λ_ _=>fa δ1 λys δ2=>match ys with
 |[y]=>lU y δ2 λd δ3=>fw x δ3 λk ds=>↑ds<1000/\K (.p .non) ⟨δ3.sl,δ3.mu.set k (U (.lst (ds++[d])))⟩
 |_=>False
theorem Pb{f:WE}{fa:WA}{K0:tu}:∀σ H Q,tD (j5 f fa) σ H Q->qH K0 "list" y6 (tD f) (bH fa) σ H Q:=fun σ H Q h0_=>el7 h0_ λF ad δ K S q k =>⟨F,ad,δ,_,S,q,λx δ1 h1 v F1 aI H1 E1 S1 V1=>by
 let⟨k0,GG,a,vs,rfl,h2,rfl,e1,e2,i1,m1⟩:=pU S1 V1 h1;refine⟨.inl ⟨Y,vs,aX.of e2⟩,F1,aI,δ1,_,S1,h2,λys δ2 h3 us F2 bZ H2 E2 S2 V2=>?_⟩
 match ys,h3,V2 with
 |[y],g3,⟨u,r,e,W1,W2⟩ =>
  let W3:r=[]:=W2;subst W3 e;let⟨d,δ3,F3,h4,E3,S3,i3⟩:=ua S2 W1 g3;let⟨k1,ds,b,ws,ek,h5,eb,e3,e4,i4,m4⟩:=pU (x:=.o k0) S3 ((V1.ext E2).ext E3) h4;cases ek
  let uF:a=b:=by injection eb
  subst uF;let oi:eW F3 (.lst (ds++[d])) (.lst (ws++[u])):=⟨_,Y,i4.snoc i3⟩;calc⟨a,ws,u,Y,Y,e4,lM (by rw[↑i4];symm),?_⟩;exact k _ _ h5.2 _ _ _ _ (((E1.trans E2).trans E3).trans (Ext.put S3 m4 e3)) (S3.put m4 e3 oi) Y
 |[],g3,_=>exact g3.elim
 |_::_::_,g3,_=>calc g3.elim⟩
def pV(f:WE)(fa:WA):WE:=fun δ K=>f δ λx δ1=>fw x δ1 λ_ _=>fa δ1 λys δ2=>match ys with
 |[.p (.lst es)]=>fw x δ2 λk ds=>↑ds+↑es<=1000/\K (.p .non) ⟨δ2.sl,δ2.mu.set k (U (.lst (ds++es)))⟩
 |_=>False
theorem Pc{f:WE}{fa:WA}{K0:tu}:∀σ H Q,tD (pV f fa) σ H Q->qH K0 "list" Es (tD f) (bH fa) σ H Q:=fun σ H Q h0_=>el7 h0_ λF ad δ K S q k =>⟨F,ad,δ,_,S,q,λx δ1 h1 v F1 aI H1 E1 S1 V1=>by
 let⟨k0,GG,a,vs,rfl,h2,rfl,e1,e2,i1,m1⟩:=pU S1 V1 h1;calc⟨.inl ⟨Y,vs,aX.of e2⟩,F1,aI,δ1,_,S1,h2,λys δ2 h3 us F2 bZ H2 E2 S2 V2=>?_⟩;split at h3
 .rename_i es
  let⟨u,r,e,W1,W2⟩:=V2;let W3:r=[]:=W2;let W4:Is F2 (.lst es) u:=W1;erw[Is] at W4;let⟨b,zs,rfl,z1,z2⟩:=W4;subst W3 e;let⟨k1,ds,b',ws,ek,h5,eb,e3,e4,i4,m4⟩:=pU (x:=.o k0) S2 (V1.ext E2) h3;cases ek
  let uF:a=b':=by injection eb
  subst uF;let oi:eW F2 (.lst (ds++es)) (.lst (ws++zs)):=⟨_,Y,rf i4 z2⟩;calc⟨a,b,ws,zs,Y,Y,e4,S2.sub _ _ z1,jW (by rw[↑i4,↑z2];calc h5.1),?_⟩;exact k _ _ h5.2 _ _ _ _ ((E1.trans E2).trans (Ext.put S2 m4 e3)) (S2.put m4 e3 oi) Y
 .calc h3.elim⟩
def wK(f:WE)(fa:WA):WE:=fun δ K=>f δ λx δ1=>fw x δ1 λ_ _=>fa δ1 λys δ2=>match ys with
 |[.p (.int i)]=>fw x δ2 λk ds=>(-(2 ^ 63)<=i/\i<2 ^ 63)/\match seqIndex? i ↑ds with
  |some j=>match ds[j]? with
   |some d=>K (.p d) ⟨δ2.sl,δ2.mu.set k (U (.lst (ds.eraseIdx j)))⟩
   |none=>False
  |none=>False
 |_=>False
theorem Pd{f:WE}{fa:WA}{K0:tu}:∀σ H Q,tD (wK f fa) σ H Q->qH K0 "list" Et (tD f) (bH fa) σ H Q:=fun σ H Q h0_=>el7 h0_ λF ad δ K S q k =>⟨F,ad,δ,_,S,q,λx δ1 h1 v F1 aI H1 E1 S1 V1=>by
 let⟨k0,GG,a,vs,rfl,h2,rfl,e1,e2,i1,m1⟩:=pU S1 V1 h1;calc⟨.inl ⟨Y,vs,aX.of e2⟩,F1,aI,δ1,_,S1,h2,λys δ2 h3 us F2 bZ H2 E2 S2 V2=>?_⟩;split at h3
 .rename_i i
  let⟨u,r,e,W1,W2⟩:=V2;let W3:r=[]:=W2;let W4:u=.int i:=W1;subst W3 W4 e;let⟨k1,ds,b',ws,ek,⟨h5,h6⟩,eb,e3,e4,i4,m4⟩:=pU (x:=.o k0) S2 (V1.ext E2) h3;cases ek
  let uF:a=b':=by injection eb
  subst uF;split at h6
  .rename_i j hj
   split at h6
   .rename_i d hd
    let⟨w,g1,g2⟩:=n8 i4 hd;let oi:eW F2 (.lst (ds.eraseIdx j)) (.lst (ws.eraseIdx j)):=⟨_,Y,Gr j i4⟩;calc⟨a,ws,i,j,w,Y,Y,e4,h5.1,h5.2,by rw[↑i4];calc hj,g1,?_⟩;exact k _ _ h6 _ _ _ _ ((E1.trans E2).trans (Ext.put S2 m4 e3)) (S2.put m4 e3 oi) g2
   .exact h6.elim
  .exact h6.elim
 .calc h3.elim⟩
def pW(f fo fi:WE):WS:=λK δ=>f δ λx δ1=>fo δ1 λo δ2=>fi δ2 λi δ3=>lU x δ3 λd δ4=>fw o δ4 λk ds=>match i with
 |.p (.int j)=>match iK ↑ds j with
  |some m=>K.nx ⟨δ4.sl,δ4.mu.set k (U (.lst (ds.set m d)))⟩
  |none=>False
 |_=>False
theorem Pf[bu]{f fo fi:WE}:∀D σ H,b8 (pW f fo fi) D σ H->cC (tD f) (sC (tD fo) (tD fi) El) D σ H:=λD σ H h0_=>el7 h0_ λF ad δ K S q k =>⟨F,ad,δ,_,S,q,λx δ1 h1 v F1 aI H1 E1 S1 V1=>⟨F1,aI,δ1,_,S1,h1,λo δ2 h2 ov F2 bZ H2 E2 S2 V2=>⟨F2,bZ,δ2,_,S2,h2,λi δ3 h3 iv F3 qX H3 E3 S3 V3=>by
 let⟨d,δ4,F4,h4,E4,S4,i4⟩:=ua S3 ((V1.ext E2).ext E3) h3;let⟨k0,ds,a,vs,rfl,h5,rfl,e1,e2,i1,m1⟩:=pU S4 ((V2.ext E3).ext E4) h4;split at h5
 .rename_i j
  split at h5
  .rename_i m hm
   let V3:iv=.int j:=V3;subst V3;let oi:eW F4 (.lst (ds.set m d)) (.lst (vs.set m v)):=⟨_,Y,Gq m i1 i4⟩;calc⟨a,vs,j,m,Y,Y,e2,by rw[↑i1];calc hm,?_⟩;exact k.nx _ h5 _ _ _ _ ((((E1.trans E2).trans E3).trans E4).trans (Ext.put S4 m1 e1)) (S4.put m1 e1 oi)
  .exact h5.elim
 .calc h5.elim⟩⟩⟩
end
end L2
namespace L2
open PySem PySem.Spec PyProof.Rows PySem.W
section
variable{n:Nat}{k:Nat->LK}{I:L->Prop}{cmp:Nat->Nat->(Bool->L->Prop)->L->Prop}
end
end L2
namespace L2
open PySem PySem.Spec PyProof.Rows
theorem GH{δ0:aw}{bg:aw->Prop}{g:WG}{b:WS}{K:KS}(I:Nat->aw->Prop):∀(items:-D)(i:Nat)(δ:aw),I i δ →
  (∀j d δ (L:aw->Prop),items[j]?=U d->I (i+j) δ->(∀δ',I (i+j+1) δ'->L δ')->bg δ/\g (.p d) δ fun δ1=>b {nx:=fun δ2=>L (δ0.trim δ2),ct:=fun δ2=>L (δ0.trim δ2),bk:=K.nx,rt:=K.rt} δ1) →
  (∀δ,I (i+↑items) δ->bg δ/\K.nx δ)->jY δ0 bg g b K items δ
 |[],i,δ,h,_,fin=>fin δ h
 |d::r,i,δ,h,st,fin=>by
  unfold jY;calc st 0 d δ (fun δ'=>jY δ0 bg g b K r δ') Y h fun δ' hi=>?_;refine GH I r (i+1) _ hi (λj e δ L hj hI hL=>?_) fun δ hI=>?_
  .let e:i+1+j=i+(j+1):=by symm
   rw[e] at hI hL;exact st (j+1) _ δ L hj⁻¹ hI hL
  .exact fin δ (by rw[EA];let e:i+1+↑r=i+(↑r+1):=by symm
                   rw[e] at hI;calc hI)
theorem jn{δ0:aw}{bg:aw->Prop}{g:WG}{b:WS}{K:KS}{items:-D}{δ:aw}(I:Nat->aw->Prop)(h0:I 0 δ)
  (st:∀j d δ (L:aw->Prop),items[j]?=U d->I j δ->(∀δ',I (j+1) δ'->L δ')->bg δ/\g (.p d) δ fun δ1=>b {nx:=fun δ2=>L (δ0.trim δ2),ct:=fun δ2=>L (δ0.trim δ2),bk:=K.nx,rt:=K.rt} δ1)
  (fin:∀δ,I ↑items δ->bg δ/\K.nx δ):jY δ0 bg g b K items δ :=
 GH I items 0 δ h0 (λj d δ L hj hI hL=>by rw[XU] at hI hL;calc st j d δ L hj hI hL) fun δ hI=>by rw[XU] at hI;calc fin δ hI
def uG(δ0:aw)(bg:aw->Prop)(g:WG)(t:WT)(f:WE)(d:D)(acc:-D)(δ:aw)(L:-D->aw->Prop):Prop :=
 bg δ/\g (.p d) δ fun δ1=>t δ1 λb δ2=>if b=θ then f δ2 λx δ3=>lU x δ3 λe δ4=>↑acc<1000/\L (acc++[e]) (δ0.trim δ4) else L acc (δ0.trim δ2)
theorem GI{δ0:aw}{bg:aw->Prop}{g:WG}{t:WT}{f:WE}{K:-D->aw->Prop}(I:Nat->-D->aw->Prop):∀(items:-D)(i:Nat)(acc:-D)(δ:aw),I i acc δ →
  (∀j d acc δ (L:-D->aw->Prop),items[j]?=U d->I (i+j) acc δ->(∀fV δ',I (i+j+1) fV δ'->L fV δ')->uG δ0 bg g t f d acc δ L) →
  (∀acc δ,I (i+↑items) acc δ->bg δ/\K acc δ)->iD δ0 bg g t f K items acc δ
 |[],i,acc,δ,h,_,fin=>fin acc δ h
 |d::r,i,acc,δ,h,st,fin=>by
  unfold iD;calc st 0 d acc δ (λfV δ'=>iD δ0 bg g t f K r fV δ') Y h λfV δ' hi=>?_;refine GI I r (i+1) fV _ hi (λj e acc δ L hj hI hL=>?_) λacc δ hI=>?_
  .let e:i+1+j=i+(j+1):=by symm
   rw[e] at hI hL;exact st (j+1) _ acc δ L hj⁻¹ hI hL
  .exact fin acc δ (by rw[EA];let e:i+1+↑r=i+(↑r+1):=by symm
                       rw[e] at hI;calc hI)
theorem AE{δ0:aw}{bg:aw->Prop}{g:WG}{t:WT}{f:WE}{K:-D->aw->Prop}{items:-D}{δ:aw}(I:Nat->-D->aw->Prop)(h0:I 0 [] δ)
  (st:∀j d acc δ (L:-D->aw->Prop),items[j]?=U d->I j acc δ->(∀fV δ',I (j+1) fV δ'->L fV δ')->uG δ0 bg g t f d acc δ L)
  (fin:∀acc δ,I ↑items acc δ->bg δ/\K acc δ):iD δ0 bg g t f K items [] δ :=
 GI I items 0 [] δ h0 (λj d acc δ L hj hI hL=>by rw[XU] at hI hL;calc st j d acc δ L hj hI hL) λacc δ hI=>by rw[XU] at hI;calc fin acc δ hI
theorem GJ{δ0:aw}{bg:aw->Prop}{g:WG}{t:WT}{f:WE}{K:-D->aw->Prop}{items:-D}(p:D->Bool)(fn:D->D)(hl:↑items<=1000)(hc:bg δ0)
  (st:∀d∈items,∀acc (L:-D->aw->Prop),↑acc<1000->(p d=θ->L (acc++[fn d]) δ0)->(p d=ι->L acc δ0)->uG δ0 bg g t f d acc δ0 L)
  (fin:K ((items.filter p).map fn) δ0):iD δ0 bg g t f K items [] δ0:=by
 refine AE (λi acc δ=>δ=δ0/\acc=((items.take i).filter p).map fn) ⟨Y,Y⟩ ?_ ?_
 .ext j d acc δ L hj ⟨rfl,rfl⟩ hL
  let dP:=(ph.mp hj).1;let hm:d∈items:=Xu hj
  let hn:↑(((items.take j).filter p).map fn)<1000:=by
   rw[qJ];let:=List.length_filter_le p (items.take j);rw[Xi] at this;symm
  let e:items.take (j+1)=items.take j++[d]:=by rw[Zb,hj];rfl
  refine st d hm _ L hn (λq=>hL _ _ ⟨Y,?_⟩) (λq=>hL _ _ ⟨Y,?_⟩)
  .rw[e,q2R,Xo];simp[q6v,q]
  .rw[e,q2R,Xo];simp[q6v,q]
 .ext acc δ ⟨rfl,rfl⟩
  rw[XD (vQ _)];calc⟨hc,fin⟩
theorem oa{δ0:aw}{bg:aw->Prop}{g:WG}{t:WT}{f:WE}{K:-D->aw->Prop}{items:-D}(fn:D->D)(hl:↑items<=1000)(hc:bg δ0)
  (st:∀d∈items,∀acc (L:-D->aw->Prop),↑acc<1000->L (acc++[fn d]) δ0->uG δ0 bg g t f d acc δ0 L)
  (fin:K (items.map fn) δ0):iD δ0 bg g t f K items [] δ0 :=
 GJ (λ_=>θ) fn hl hc (λd hd acc L ha h _=>st d hd acc L ha (h Y)) (by rw[List.filter_eq_self.mpr λ_ _=>Y];calc fin)
end L2
namespace LJ
open PySem L2
theorem GK:bootBuiltins "range" = U (.type "range"):=by decide +kernel
theorem Pg:bootBuiltins "sum" = U (.builtin "sum"):=by decide +kernel
theorem Ph:bootBuiltins "max" = U (.builtin "max"):=by decide +kernel
theorem Pj:bootBuiltins "min" = U (.builtin "min"):=by decide +kernel
structure BT(mg:R->Option J):Prop where
 len:mg "len" = Z
 range:mg "range" = Z
 list:mg "list" = Z
 tuple:mg "tuple" = Z
 set:mg "set" = Z
 sorted:mg "sorted" = Z
 min:mg "min" = Z
 max:mg "max" = Z
 sum:mg "sum" = Z
 all:mg "all" = Z
 any:mg "any" = Z
 enumerate:mg "enumerate" = Z
 zip:mg "zip" = Z
 isinstance:mg "isinstance" = Z
 int:mg "int" = Z
 bool:mg "bool" = Z
 str:mg "str" = Z
 repr:mg "repr" = Z
end LJ
namespace L2
open PySem PySem.Spec PyProof.Rows
variable[ay]
section
variable{X:Cx}{fa:WA}{pos:y}
theorem GL{F H:Hp}{ad:-O}{δ:aw}{σ:St}{p:O}(S:SR F ad δ σ H):df F (ad++[p]) (.o ↑δ.mu) (.ref p) :=
 ⟨p,by rw[<-S.cf,W8 (vQ _),Yl];rfl,Y⟩
def AF(fa:WA):WE:=fun δ K=>fa δ λxs δ1=>match xs with
 |[.p (.int j)]=>(0<=j/\j<=1000)/\K (.o ↑δ1.mu) ⟨δ1.sl,δ1.mu++[U (.lst (b9 0 j.toNat))]⟩
 |_=>False
theorem Pk{a:B}{p1 p2 q1 q2:y}(hc:X.calm=θ)(uy:Gl X "list")(hl:X.mg "list" = Z)(uz:bootBuiltins "list" = U (.type "list"))(uA:Gl X "range")(hr:X.mg "range" = Z)(uB:bootBuiltins "range" = U (.type "range"))(ha:JA X [a] (bH fa))
  (he:starEach [a] X.env=[(ι,eval a X.env)]:=by rfl) (uC:starEach [.Call (.Name "range" p2) [a] [] q2] X.env=[(ι,eval (.Call (.Name "range" p2) [a] [] q2) X.env)]:=by rfl):JE X (.Call (.Name "list" p1) [.Call (.Name "range" p2) [a] [] q2] [] q1) (tD (AF fa)) :=
 (nE (FD hc) uy hl uz (gZ (nE FA uA hr uB ha (he:=he)) aE) (he:=uC)).weak fun σ H Q h0_=>el7 h0_ λF ad δ K S q k =>⟨F,ad,δ,_,S,q,λxs δ1 h1 vs F1 aI H1 E1 S1 V1=>by
  split at h1
  .rename_i j
   let⟨v,r,e,W1,W2⟩:=V1;let W2:r=[]:=W2;let W1:v=.int j:=W1;subst W2 W1 e;calc⟨j,Y,λrr AA=>⟨rr,j.toNat,Y,by rw[aY,q2q h1.1.1],⋯,λl hl=>?_⟩⟩;let s1:ar H1 (upd H1 rr (.rng 0 j)):=bT AA;let S2:=S1.al s1;let E2:=Ext.al S1 s1;let oi:eW (Nw F1 H1 (upd H1 rr (.rng 0 j))) (.lst (b9 0 j.toNat)) (.lst ((cN j.toNat).map V.int)):=⟨_,Y,by rw[wJ];calc uq⟩;exact k _ _ h1.2 _ _ _ _ ((E1.trans E2).trans (Ext.own S2 hl)) (S2.own hl oi) (GL S2)
  .calc h1.elim⟩
def AG(f g:WE):WE:=fun δ K=>f δ λx δ1=>g δ1 λy δ2=>gc x δ2 λd=>gc y δ2 λe=>match d,e with
 |.lst a,.lst b=>↑a+↑b<=1000/\K (.o ↑δ2.mu) ⟨δ2.sl,δ2.mu++[U (.lst (a++b))]⟩
 |_,_=>False
theorem Pl{a b:B}{f g:WE}(ha:JE X a (tD f))(hb:JE X b (tD g)):JE X (.BinOp a .Add b pos) (tD (AG f g)) :=
 (oQ vO ha hb).weak fun σ H Q h0_=>el7 h0_ λF ad δ K S q k =>⟨F,ad,δ,_,S,q,λx δ1 h1 v1 F1 aI H1 E1 S1 V1=>⟨F1,aI,δ1,_,S1,h1,λy δ2 h2 v2 F2 bZ H2 E2 S2 V2=>by
  let⟨d,h3,rd⟩:=iy S2 (V1.ext E2) h2;let⟨e,h4,re⟩:=iy S2 V2 h3;split at h4
  .rename_i as bs
   let⟨a,us,rfl,g1,g2⟩:=rd;let⟨b,ws,rfl,g3,g4⟩:=re;let oi:eW F2 (.lst (as++bs)) (.lst (us++ws)):=⟨_,Y,rf g2 g4⟩;exact⟨a,b,us,ws,Y,Y,g1,g3,jW (by rw[↑g2,↑g4];calc h4.1),λp hp=>k _ _ h4.2 _ _ _ _ ((E1.trans E2).trans (Ext.own S2 hp)) (S2.own hp oi) (GL S2)⟩
  .calc h4.elim⟩⟩
theorem Pn[bu]{st:o}:JS X st (b8 pJ):=⟨λpins s D σ H I q=>by let⟨F,ad,δ,K,S,q,k⟩:=q;calc q.elim⟩
end
end L2
namespace LJS
open PySem PySem.SetTable PyProof.Rows
section
variable{prog:n}{w:g}{A:q}{S:O}{ks:-Int}
end
end LJS
namespace L2
open PySem PySem.Spec PyProof.Rows
section
variable{X:Cx}
end
end L2
namespace LJS
open PySem PySem.SetTable PyProof.Rows
noncomputable def fA(m:Nat)(p:Probe):Probe :=
 if p.more>0 then{p with j:=p.j+1,more:=p.more-1} else
 {p with j:=(leap m p.i p.perturb).1,more:=runEnd m (leap m p.i p.perturb).1-(leap m p.i p.perturb).1,i:=(leap m p.i p.perturb).1,perturb:=(leap m p.i p.perturb).2}
theorem GN(t:SetTable)(p:Probe):t.advance p=fA t.mask p:=rfl
noncomputable def bA(m:Nat):Nat->Probe->Probe
 |0,p=>p
 |k+1,p=>bA m k (fA m p)
theorem wL(m:Nat):∀(a b:Nat)(p:Probe),bA m (a+b) p=bA m b (bA m a p)
 |0,b,p=>by rw[XU];rfl
 |a+1,b,p=>by rw[show a+1+b=a+b+1 by symm];calc wL m a b (fA m p)
noncomputable def stM(m i q:Nat):Probe:=⟨i,runEnd m i-i,i,q,Z⟩
noncomputable def startM(m:Nat)(h:Int):Probe:=stM m (bits h%(m+1)) (bits h)
theorem AH(m:Nat):∀(l:Nat)(p:Probe),l<=p.more->bA m l p={p with j:=p.j+l,more:=p.more-l}
 |0,p,_=>Y
 |l+1,p,h=>by
  show bA m l (fA m p)=_;let e:fA m p={p with j:=p.j+1,more:=p.more-1}:=by unfold fA;rw[Xa ⋯]
  rw[e,AH m l _ (by show l<=p.more-1;symm)];congr 1<;>(dsimp only;symm)
theorem GP(m i q:Nat):bA m (runEnd m i-i+1) (stM m i q)=stM m (leap m i q).1 (leap m i q).2:=by
 rw[wL m (runEnd m i-i) 1,AH m (runEnd m i-i) (stM m i q) (vQ _)];show fA m _=_;unfold fA;rw[VR (by show ¬ (runEnd m i-i-(runEnd m i-i)>0);symm)];rfl
theorem GQ{m i:Nat}(h:i<=m):runEnd m i<=m/\i<=runEnd m i:=by unfold runEnd;split<;>symm
def oh(m:Nat)(p:Probe):Prop:=p.j+p.more<=m
theorem Po{m:Nat}{p:Probe}(h:oh m p):oh m (fA m p):=by
 unfold fA oh;split
 .rename_i c;let:p.j+p.more<=m:=h;dsimp only;symm
 .let:=GQ (Dw m p.i p.perturb)
  dsimp only;symm
theorem GS{m:Nat}:∀(k:Nat){p:Probe},oh m p->oh m (bA m k p)
 |0,_,h=>h
 |k+1,_,h=>GS k (Po h)
theorem Pp(m:Nat)(h:Int):oh m (startM m h):=by
 let h0:bits h%(m+1)<=m:=ZJ (q60 _ (q0g _));let:=GQ h0;unfold startM stM oh;dsimp only;symm
theorem GU(m:Nat)(h:Int)(k:Nat):(bA m k (startM m h)).j<=m:=by
 let:=GS k (Pp m h);unfold oh at this;symm
def oj(m:Nat)(wM:Nat->Prop)(h:Int)(j:Nat):Prop:=∃k,k<10*turns m/\(bA m k (startM m h)).j=j/\∀l,l<k->wM (bA m l (startM m h)).j
theorem oj.mono{m:Nat}{wM uH:Nat->Prop}{h:Int}{j:Nat}(r:oj m wM h j)(k:∀x,x<=m->wM x->uH x):oj m uH h j:=by
 let⟨n,h1,h2,h3⟩:=r;calc⟨n,h1,h2,λl hl=>k _ (GU m h l) (h3 l hl)⟩
theorem GV{m:Nat}{owner:Array (Option Nat)}:∀(F i q j:Nat),Yw m owner F i q=U j->∃k,k<10*F/\(bA m k (stM m i q)).j=j/\∀l,l<k->(owner.getD (bA m l (stM m i q)).j (U 0)).isSome=θ
 |0,i,q,j,h=>by unfold Yw at h;cases h
 |F+1,i,q,j,h=>by
  rw[xV] at h;let r9:=DB m i;let ri:i<=runEnd m i:=by unfold runEnd;split<;>symm
  let j6:∀l,l<=runEnd m i-i->(bA m l (stM m i q)).j=i+l:=λl hl=>by rw[AH m l _ hl];rfl
  split at h
  .rename_i k0 hk
   cases h
   let h1:=Z8 hk;let h2:=XC.mp (Z1 hk);calc⟨k0,⋯,j6 k0 ⋯,λl hl=>?_⟩;rw[j6 l ⋯]
   let h3:∀l,l<k0->¬ (owner.getD (i+l) (U 0)).isNone=θ:=by
    ext l hl hn;let⟨as,bs,e,hb⟩:=List.find?_eq_some_iff_append.mp hk |>.2
    let hlen:↑as=k0:=by
     let:=congrArg (λx=>x[↑as]?) e;simp at this
     let h5:↑as<runEnd m i+1-i:=by
      let:=congrArg q3E e;simp at this;symm
     rw[YQ h5] at this;exact Xt this
    let:l∈as:=by
     let h6:=congrArg (λx=>x[l]?) e;erw[W6 (show l<↑as by symm)] at h6;rw[YQ ⋯] at h6;exact Xu h6.symm
    let:=hb l this;rw[hn] at this;exact absurd this (by decide)
   let:=h3 l hl
   cases q:owner.getD (i+l) (U 0) with
   |none=>rw[q] at this;exact absurd Y this
   |some _=>rfl
  .rename_i hk
   let h1:=q0a.mp hk;let⟨k,V7,Pq,Pr⟩:=GV F _ _ j h;refine⟨runEnd m i-i+1+k,⋯,by rw[wL,GP];calc Pq,λl hl=>?_⟩
   by_cases c:l<=runEnd m i-i
   .rw[j6 l c]
    let:=h1 l (XC.mpr ⋯)
    cases q:owner.getD (i+l) (U 0) with
    |none=>rw[q] at this;exact absurd Y this
    |some _=>rfl
   .let:=Pr (l-(runEnd m i-i+1)) ⋯
    rw[show l=runEnd m i-i+1+(l-(runEnd m i-i+1)) by symm,wL,GP];calc this
section
variable{t:SetTable}{f:Nat->Int}{h:Int}
theorem GW(u:Up t.place){i:Nat}(hi:i<t.place.size):t.slot t.place[i]=.live i:=by
 let⟨h0,h1,h2⟩:=vC u t.place[i];let a:¬ i<below t.place t.place[i]:=λz=>by let:=h1 i hi z;symm
 let b:¬ below t.place t.place[i]<i:=λz=>by
  let:=h2 (below t.place t.place[i]) ⋯ (vQ _);let:=u.lt z hi;symm
 let eb:below t.place t.place[i]=i:=by symm
 unfold slot;rw[eb];let:(t.place[i]?==U t.place[i])=θ:=by rw[VT hi];simp
 erw[this,YU]
theorem GX(hd:t.dummies = #[]):∀(F:Nat)(p:Probe)(j:Nat)(d:Option Nat),ZE t f h F p=U (.empty j d)->∃k,k<F/\(bA t.mask k p).j=j/\∀l,l<k->(bA t.mask l p).j∈t.place.toList
 |0,p,j,d,e=>by unfold ZE at e;cases e
 |F+1,p,j,d,e=>by
  rw[oF] at e;rcases rV hd p.j with q|⟨i,q,hi,hm⟩
  .rw[q] at e
   cases e
   exact⟨0,q0g _,Y,λl hl=>absurd hl (q3U _)⟩
  .rw[q] at e
   dsimp only at e;split at e
   .cases e
   .let⟨k,h1,h2,h3⟩:=GX hd F _ j d e
    rw[GN] at h2 h3;refine⟨k+1,⋯,h2,λl hl=>?_⟩
    cases l with
    |zero=>exact hm
    |succ l=>calc h3 l ⋯
theorem GY(hd:t.dummies = #[])(u:Up t.place):∀(k F:Nat)(p:Probe)(i0:Nat),k<F->t.slot (bA t.mask k p).j=.live i0->f i0=h->(∀l,l<k->(bA t.mask l p).j∈t.place.toList)->∃j i nx,ZE t f h F p=U (.candidate j i nx)/\f i=h/\i<t.place.size
 |k,0,p,i0,hk,_,_,_=>absurd hk (q3U _)
 |0,F+1,p,i0,_,hs,hf,_=>by
  rw[oF,show t.slot p.j=.live i0 from hs];dsimp only;rw[Xa (by rw[hf];simp)];calc⟨_,_,_,Y,hf,?_⟩;rcases rV hd p.j with q|⟨i,q,hi,_⟩
  .rw[show t.slot p.j=.live i0 from hs] at q;cases q
  .rw[show t.slot p.j=.live i0 from hs] at q;cases q;exact hi
 |k+1,F+1,p,i0,hk,hs,hf,ho=>by
  let hm:=ho 0 (q0g _);let⟨i,hi,ei⟩:=XF.mp hm;let eV:i<t.place.size:=by rw[<-Mx];exact hi
  let x5:t.place[i]=p.j:=by simpa[bA] using ei
  let sl:=GW u eV;rw[x5] at sl;rw[oF,sl];dsimp only
  by_cases c:f i=h
  .rw[Xa (by rw[c];simp)]
   exact⟨_,_,_,Y,c,eV⟩
  .rw[VR c⁻¹,GN]
   calc GY hd u k F _ i0 ⋯ hs hf λl hl=>ho (l+1) ⋯
end
def pX(owner:Array (Option Nat))(j:Nat):Prop:=∃k,owner[j]?=U (U k)
structure rB(m:Nat)(hs:-Int)(owner:Array (Option Nat))(k:Nat):Prop where
 ow:Ow m owner k
 rC:∀(j i:Nat),owner[j]?=U (U i)->∃h,hs[i]?=U h/\oj m (pX owner) h j
theorem GZ{owner:Array (Option Nat)}{j k x:Nat}(h:pX owner x):pX (owner.setIfInBounds j (U k)) x:=by
 let⟨i,e⟩:=h;let hx:=(XQ.mp e).1
 by_cases c:j=x
 .subst c
  exact⟨k,by rw[ZH];simp[hx]⟩
 .calc⟨i,by rw[ZH];simp[c];calc e⟩
theorem Pt{m:Nat}{hs:-Int}{owner:Array (Option Nat)}{k:Nat}(hm:Mk m)(O:rB m hs owner k)(hk:k<=m){h:Int}(hh:hs[k]?=U h):
  ∃j,Yw m owner (turns m) (bits h%(m+1)) (bits h)=U j/\rB m hs (owner.setIfInBounds j (U k)) (k+1):=by
 let⟨j,ej,O'⟩:=J1 hm O.ow hk h;calc⟨j,ej,O',λx i e=>?_⟩;rw[ZH] at e
 by_cases c:j=x
 .subst c
  let Pu:j<owner.size:=by
   by_cases z:j<owner.size
   .exact z
   .simp[z] at e
  simp[Pu] at e;subst e;calc⟨h,hh,?_⟩;let⟨n,n1,n2,n3⟩:=GV _ _ _ _ ej;calc⟨n,n1,n2,λl hl=>GZ ?_⟩;let gA:=n3 l hl;let le:=GU m h l;let dP:(bA m l (startM m h)).j<owner.size:=by rw[O.ow.size];symm
  let uI:(owner.getD (bA m l (startM m h)).j (U 0)).isSome=θ:=gA;rw[show owner.getD (bA m l (startM m h)).j (U 0)=owner[(bA m l (startM m h)).j] by simp[q4g,dP]] at uI;let⟨v,hv⟩:=Zj.mp uI;exact⟨v,by rw[VT dP,hv]⟩
 .simp[c] at e
  let⟨h',e1,e2⟩:=O.rC x i e;calc⟨h',e1,e2.mono λy _ hy=>GZ hy⟩
theorem G3{m:Nat}(hm:Mk m){all:-Int}:∀(hs:-Int)(owner:Array (Option Nat))(k:Nat),rB m all owner k->all.drop k=hs->k+↑hs<=m+1 →
  ∃aO,(hs.foldl (init:=U (owner,k)) λacc h=>do
   let(owner,k) <- acc
   let j <- Yw m owner (turns m) (bits h%(m+1)) (bits h)
   pure (owner.setIfInBounds j (U k),k+1))=U (aO,k+↑hs)/\rB m all aO (k+↑hs)
 |[],owner,k,O,_,_=>⟨owner,Y,O⟩
 |h::hs,owner,k,O,hd,hl=>by
  rw[EA] at hl ⊢
  let hk:k<all.length:=by
   let:=congrArg q3E hd;rw[XO,EA] at this;symm
  rw[XJ hk] at hd;let hh:all[k]?=U h:=by rw[pj hk];exact congrArg U (q4K hd).1
  let⟨j,ej,O'⟩:=Pt hm O ⋯ hh;let⟨o2,e2,O2⟩:=G3 hm hs _ (k+1) O' (q4K hd).2 ⋯;calc⟨o2,?_,by rw[show k+(↑hs+1)=k+1+↑hs by symm];calc O2⟩;rw[q1O,show k+(↑hs+1)=k+1+↑hs by symm,<-e2];congr 1;show(do let j <- Yw m owner (turns m) (bits h%(m+1)) (bits h);pure (owner.setIfInBounds j (U k),k+1))=_;rw[ej];rfl
theorem Pw(m:Nat)(hs:-Int):rB m hs (q1N (m+1) Z) 0:=by
 calc⟨DF m,λj i e=>?_⟩;rw[Array.getElem?_replicate] at e;split at e<;>cases e
theorem Px{m:Nat}(hm:Mk m)(hs:Array Int)(hz:hs.size<=m+1):∃owner,layClean m hs=U owner/\rB m hs.toList owner hs.size:=by
 let⟨o,e,O⟩:=G3 hm hs.toList _ 0 (Pw m hs.toList) Y (by rw[Mx];symm);rw[XU,Mx] at O;calc⟨o,?_,O⟩;unfold layClean;rw[<-q2I,e];rfl
theorem Py{m:Nat}(hm:Mk m)(t:SetTable)(hs:Array Int)(wanted:Nat)(hw:sizeAbove wanted-1=m)(hz:hs.size<=m+1):
  ∃t' order,t.relaid hs wanted=U (t',order)/\t'.mask=m/\t'.dummies = #[]/\t'.place.size=hs.size/\Up t'.place/\order.size=hs.size/\order.toList.Perm (Xy hs.size) ∧
   ∀(i j k:Nat),t'.place[i]?=U j->order[i]?=U k->∃h,hs[k]?=U h/\oj m (· ∈ t'.place.toList) h j:=by
 let⟨owner,e,O⟩:=Px hm hs hz;let⟨aO,e',_,OP⟩:=Ki hm hs hz;let:aO=owner:=Xt (e'.symm.trans e);subst this;refine⟨{mask:=m,place:=((hZ m aO).map (·.1)).toArray,dummies := #[],finger:=t.finger,led:=t.led,moves:=t.movedTo m,plain:=t.plain},((hZ m aO).map (·.2)).toArray,?_,Y,Y,?_,Kc m aO,?_,?_,λi j k h1 h2=>?_⟩
 .unfold relaid laid
  rw[hw,e];rfl
 .rw[Ez,qJ,DG O.ow]
 .rw[Ez,qJ,DG O.ow]
 .show ((hZ m aO).map (·.2)).Perm _
  rw[Kj O.ow.size];exact OP
 .let h1:((hZ m aO).map (·.1))[i]?=U j:=by simpa using h1
  let h2:((hZ m aO).map (·.2))[i]?=U k:=by simpa using h2
  rw[W5] at h1 h2;let⟨z,G4,rfl⟩:=Xf.mp h1;let⟨z',G5,rfl⟩:=Xf.mp h2;rw[G4] at G5;cases G5;let zm:=Xu G4
  let own:∀z∈hZ m aO,aO[z.1]?=U (U z.2):=λz hz=>by
   unfold hZ at hz;let⟨j',Pz,PA⟩:=Y8.mp hz;let⟨k',wN,rfl⟩:=Xf.mp PA;let:j'<aO.size:=by rw[O.ow.size];exact XC.mp Pz
   rw[show aO.getD j' Z=aO[j'] by simp[q4g,this]] at wN;rw[VT this,wN]
  let⟨h,e1,e2⟩:=O.rC _ _ (own z zm);calc⟨h,by rw[<-Xp];calc e1,e2.mono λx hx PB=>?_⟩;let⟨kx,G6⟩:=PB;show x∈(hZ m aO).map (·.1);calc Xh.mpr ⟨(x,kx),?_,Y⟩;unfold hZ;calc Y8.mpr ⟨x,XC.mpr ⋯,?_⟩;let vT:=(XQ.mp G6).1;rw[show aO.getD x Z=aO[x] by simp[q4g,vT],(XQ.mp G6).2];rfl
structure ml(hk:Nat->Int)(ad:Nat->O)(t:SetTable)(es:Array (Int×J))(js:-Nat):Prop where
 P:e7 t es (js.map hk)
 up:Up t.place
 pY:(js.map hk).Nodup
 el:∀e∈es.toList,∃j∈js,e=(hk j,Xj (ad j))
 all:∀j∈js,∃e∈es.toList,e.1=hk j
 rC:∀(i:Nat)(e:Int×J)(j:Nat),es[i]?=U e->t.place[i]?=U j->oj t.mask (· ∈ t.place.toList) e.1 j
def fW(hk:Nat->Int)(ad:Nat->O)(h:I)(S:O)(js:-Nat):Prop:=∃o es ep t,h.get? S=U o/\o.ExactSet/\o.data=.set es ep t/\ml hk ad t es js
theorem G7{hk:Nat->Int}{ad:Nat->O}{h h':I}{S:O}{js:-Nat}(x:fW hk ad h S js)(k:∀o,h.get? S=U o->h'.get? S=U o):fW hk ad h' S js:=by
 let⟨o,es,ep,t,ho,r⟩:=x;calc⟨o,es,ep,t,k o ho,r⟩
theorem G8{α:Type}{xs:Array α}{p:Nat}{x:α}(hp:p<=xs.size)(i:Nat):(insertAt xs p x)[i]?=if i<p then xs[i]? else if i=p then U x else xs[i-1]?:=by
 let e:(insertAt xs p x).toList=xs.toList.take p++x::xs.toList.drop p:=by
  unfold insertAt;erw[q2c,q0i,q1Z,q0_,q0j,q1A,YX,List.singleton_append];rw[XD (l:=xs.toList.drop p) (by rw[XO,Mx];calc vQ _)]
 rw[<-Xp,e];let hl:↑(xs.toList.take p)=p:=by rw[Xi,Mx];symm
 by_cases c:i<p
 .rw[Xa c,W6 ⋯,XM c,Xp]
 .rw[VR c,W8 ⋯,hl]
  by_cases c2:i=p
  .rw[Xa c2,c2,Yl];rfl
  .rw[VR c2]
   let⟨d,rfl⟩:∃d,i=p+1+d:=⟨i-p-1,⋯⟩;rw[show p+1+d-p=d+1 by symm,YE,List.getElem?_drop,Xp];congr 1;symm
theorem PC{α:Type}{es:Array α}{order:Array Nat}(h:∀k∈order.toList,k<es.size)(i:Nat):(order.filterMap (es[·]?))[i]?=(order[i]?).bind λk=>es[k]?:=by
 let:∀l:-Nat,(∀k∈l,k<es.size)->∀i:Nat,(l.filterMap λk=>es[k]?)[i]?=(l[i]?).bind λk=>es[k]?:=by
  ext l
  induction l with
  |nil=>ext _ i;simp
  |cons k r ih =>
   ext hk i;let wO:=hk k Mv;rw[YR];rw[VT wO];dsimp only
   cases i with
   |zero=>simp[VT wO]
   |succ i=>simpa using ih (λk' ir=>hk k' (Mu _ ir)) i
 let e:=this order.toList h i;rw[<-Xp,Zu,e,Xp]
section
variable{hk:Nat->Int}{ad:Nat->O}{t:SetTable}{es:Array (Int×J)}{js:-Nat}
theorem ml.found(T:ml hk ad t es js){h:Int}(hm:h∈js.map hk):∃j i nx,t.probe (λi=>(es[i]?.map (·.1)).getD 0) h (t.probeStart h)=U (.candidate j i nx)/\∃e,es[i]?=U e/\e.1=h:=by
 let⟨j,hj,rfl⟩:=Xh.mp hm;let⟨e,he,e1⟩:=T.all j hj;let⟨i,hi,ei⟩:=XF.mp he;let eV:i<es.size:=by rw[<-Mx];exact hi
 let ee:es[i]?=U e:=by rw[VT eV];exact congrArg U ei⁻¹
 let hp:i<t.place.size:=by rw[T.P.m8];exact eV
 let r:=T.rC i e _ ee (VT hp);rw[e1] at r;let⟨k,k1,k2,k3⟩:=r;let sl:=GW T.up hp;let⟨j',i',nx,h1,h2,h3⟩:=GY (t:=t) (f:=λi=>(es[i]?.map (·.1)).getD 0) (h:=hk j) T.P.rX T.up k (10*turns t.mask) (startM t.mask (hk j)) i k1 (by rw[k2];calc sl) (by rw[ee];calc e1) k3;calc⟨j',i',nx,h1,?_⟩;let dP:i'<es.size:=by rw[<-T.P.m8];exact h3
 calc⟨es[i'],VT dP,by let:=h2;rw[VT dP] at this;calc this⟩
end
section
variable{prog:n}{w:g}{A:q}{E:aM}{s:L}{ad:Nat->O}{ks:Nat->-Int}{js:-Nat}{S:O}
noncomputable abbrev az(prog:n)(w:g)(ks:Nat->-Int)(j:Nat):Int:=hT prog w (ks j)
theorem G9{k:-Int}{a:O}{Q:Bool->L->Prop}(hk:IsTupleKey (intKind prog w) s.heap k a)(h:Q ι s):G (M prog w) A (ofAClassStatement 8 (.ref a)) Q E s:=by
 let hT:=hk.typeIs;let⟨o,ah,n,ho,_,hd,hi⟩:=hk;show G _ _ (ofAClassStatement (7+1) (.ref a)) _ _ _;unfold ofAClassStatement;calc lK (q0p hT ?_);dsimp only;calc lK ?_;calc zi ?_;erw[XX,VQ,XY];calc lK (YK ho hd ?_);dsimp only;calc lK ?_;show G _ _ (forIn ah _ _) _ _ s;rw[<-q2J];refine q0A _ (λrest r s'=>s'=s/\r=(Z,q7h)/\∀v∈rest,∃i t,v=q0d i t) _ ?_ ?_ _ _ ⟨Y,Y,DI hi⟩
 .ext v rest r s' ⟨rfl,rfl,e8⟩
  let⟨i,t,rfl⟩:=e8 v Mv;let e:ofAClassStatement 7 (.int i t)=pure ι:=by unfold ofAClassStatement;rfl
  rw[e];calc lK (zi ?_);erw[VQ,XY];exact zi ⟨Y,Y,λu hu=>e8 u (Mu _ hu)⟩
 .ext r s' ⟨rfl,rfl,_⟩
  calc zi h
theorem PD{k:-Int}{a:O}{Q:Bool->L->Prop}{stored:-J}(hx:IsTupleKey (intKind prog w) s.heap k a)(hy:∀y∈stored,∃k' b,y=Xj b/\IsTupleKey (intKind prog w) s.heap k' b)(h:Q ι s):G (M prog w) A (searchCouldBeSeen (.ref a) stored) Q E s:=by
 unfold searchCouldBeSeen;calc lK ?_;refine q0A _ (λrest r s'=>s'=s/\r=(Z,q7h)/\∀y∈rest,∃k' b,y=Xj b/\IsTupleKey (intKind prog w) s.heap k' b) _ ?_ ?_ _ _ ⟨Y,Y,hy⟩
 .ext v rest r s' ⟨rfl,rfl,e8⟩
  let⟨k',b,rfl,hb⟩:=e8 v Mv;let om:∀y∈rest,∃k' b,y=Xj b/\IsTupleKey (intKind prog w) s'.heap k' b:=λu hu=>e8 u (Mu _ hu);dsimp only;calc q3V (λ_=>zi ⟨Y,Y,om⟩) (λ_=>?_);calc lK (q1W hx ?_);erw[XX,VQ,XY];calc lK (q1W hb ?_);erw[XX,VQ,XY];calc lK (G9 hx ?_);erw[VQ,XY];calc lK (G9 hb ?_);erw[VQ,XY];exact zi ⟨Y,Y,om⟩
 .ext r s' ⟨rfl,rfl,_⟩
  calc zi h
theorem PE{i:Nat}{o:f}{es:Array (Int×J)}{ep:Nat}{t:SetTable}{Q:SetFound->L->Prop}(ho:s.heap.get? S=U o)(hd:o.data=.set es ep t)(T:ml (az prog w ks) ad t es js)(hu:A.units<cLine)
  (keys:∀j∈i::js,IsTupleKey (intKind prog w) s.heap (ks j) (ad j)) (inj:∀j∈js,az prog w ks j=az prog w ks i->ks j=ks i) (hm:az prog w ks i∈js.map (az prog w ks))
  (k:Q (.there Z) s):G (M prog w) A (setSearch S (.ref (ad i)) (az prog w ks i) θ) Q E s:=by
 unfold setSearch;show G _ _ (setSearchFrom S (.ref (ad i)) (az prog w ks i) θ (99999+1) Z) _ _ _;unfold setSearchFrom;calc lK (Zi ho hd T.P.fits ?_);dsimp only;rw[T.P.rZ];simp only[VQ,↓reduceIte];let⟨j',i',nx,ej,e,ee,eh⟩:=T.found hm;erw[q0C];generalize hP:t.probe _ (az prog w ks i) (t.probeStart (az prog w ks i))=P;let eP:P=U (.candidate j' i' nx):=hP.symm.trans ej;rw[eP];dsimp only;let em:e∈es.toList:=Xu (by rw[Xp];calc ee);let⟨j,hj,rfl⟩:=T.el e em;let ek:=inj j hj eh;let kx:=keys i Mv;let ky:=keys j (Mu _ hj)
 let tail:G (M prog w) A (do
   let U (_,y):=es[i']?|unsupported "internal:set-entry"
   let equal <- holding [y] (eqBool y (.ref (ad i)))
   let(sh,_,t') <- setState S
   if θ&&equal then return q4h Z
   let U same:=t'.sameMemory t.moves t.mask|unsupported "set.changed-during-lookup:is-the-new-block-at-the-old-address"
   let uJ <- match(if same then t'.slot j' else .empty) with
    |.live i'=>match sh[i']? with
     |some (_,y')=>do pure (if <- isSame y' y then U i' else Z)
     |none=>pure Z
    |_=>pure Z
   match uJ with
   |none=>rule "set.search.anew";setSearchFrom S (.ref (ad i)) (az prog w ks i) θ 99999 Z
   |some i'=>if equal then return q4h (U i') else setSearchFrom S (.ref (ad i)) (az prog w ks i) θ 99999 (U nx)) Q E s:=by
  rw[ee];dsimp only;calc lK (XI (wpAny_eqBool_tuple hu ky kx ?_));calc lK (Zi ho hd T.P.fits ?_);dsimp only;rw[VS ek];exact zi k
 calc q3V (λ_=>?_) (λ_=>tail);refine lK (PD kx (λy hy=>?_) ?_)
 .let⟨z,hz,rfl⟩:=Xh.mp hy
  let PF:z∈es.toList:=by
   let:=q0F.mp hz;exact q0F.mpr (Array.mem_filter.mp this).1
  let⟨q,hq,rfl⟩:=T.el z PF;exact⟨_,_,Y,keys q (Mu _ hq)⟩
 .calc tail
theorem PG{i:Nat}{Q:Bool->L->Prop}(hS:fW (az prog w ks) ad s.heap S js)(hl:↑js<60)(hu:A.units<cLine)
  (keys:∀j∈i::js,IsTupleKey (intKind prog w) s.heap (ks j) (ad j)) (inj:∀j∈js,az prog w ks j=az prog w ks i->ks j=ks i)
  (k:∀(b:Bool) h',ZW S s.heap h'->fW (az prog w ks) ad h' S (if az prog w ks i∈js.map (az prog w ks) then js else js++[i])->Q b {s with heap:=h'}) :
  G (M prog w) A (setAddHashed S (.ref (ad i)) (az prog w ks i)) Q E s:=by
 let⟨o,es,ep,t,ho,hex,hd,T⟩:=hS;unfold setAddHashed;calc XI ?_;show G _ _ (setAddHashedIn S (.ref (ad i)) (az prog w ks i) (99999+1)) _ _ _;unfold setAddHashedIn;calc lK (Zi ho hd T.P.fits ?_);let hb:byScan (.ref (ad i)) es=ι:=by unfold byScan;rfl
 dsimp only;rw[hb];simp only[VQ,↓reduceIte]
 by_cases hm:az prog w ks i∈js.map (az prog w ks)
 .refine lK (PE ho hd T hu keys inj hm ?_)
  dsimp only;calc zi ?_;let e:s={s with heap:=s.heap}:=by cases s;rfl
  rw[e];exact k ι s.heap (Heap.SameBut.refl S s.heap) (by rw[Xa hm];calc⟨o,es,ep,t,ho,hex,hd,T⟩)
 rw[VR hm] at k;let kx:=keys i Mv;let hz:t.place.size<=t.mask:=by let:=T.P.lt;rw[T.P.m8];symm
 let⟨j0,AI⟩:=J0 (t:=t) (f:=λi=>(es[i]?.map (·.1)).getD 0) (h:=az prog w ks i) T.P.rX T.P.rY hz (λi' eV z=>by
  rw[T.P.m8] at eV;rw[VT eV] at z
  calc hm (by rw[<-show es[i'].1=az prog w ks i from z];calc T.P.ins _ (q1g eV)))
 let nj:j0∉t.place.toList:=Kd T.up (x4 AI);let rj:oj t.mask (· ∈ t.place.toList) (az prog w ks i) j0:=GX T.P.rX _ _ _ _ AI
 let sf:G (M prog w) A (setSearch S (.ref (ad i)) (az prog w ks i) θ) (λr s'=>r=.free j0 ι/\s'=s) E s:=by
  unfold setSearch;show G _ _ (setSearchFrom S (.ref (ad i)) (az prog w ks i) θ (99999+1) Z) _ _ _;unfold setSearchFrom;calc lK (Zi ho hd T.P.fits ?_);dsimp only;rw[T.P.rZ];simp only[VQ,↓reduceIte];erw[q0C];generalize hP:t.probe _ (az prog w ks i) (t.probeStart (az prog w ks i))=P;let eP:P=U (.empty j0 Z):=hP.symm.trans AI;rw[eP];exact zi ⟨Y,Y⟩
 calc lK (YD sf ?_ λ_ _ e=>e);ext r s' ⟨rfl,rfl⟩;dsimp only;calc lK (Zi ho hd T.P.fits ?_);dsimp only;let⟨p1,p2,p3,p4,p5,p6,p7⟩:=J3 t T.P.rX j0;let up1:=Ka T.up nj;let pz:(t.put j0).2<=t.place.size:=(vC T.up j0).1
 let fin:∀b:Bool,G (M prog w) A (do
   storeSet S (SetTable.insertAt es (t.put j0).2 (az prog w ks i,.ref (ad i))) (if b=θ then(t.put j0).1 else{(t.put j0).1 with plain:=false})
   if(!ι&&(if b=θ then(t.put j0).1 else{(t.put j0).1 with plain:=false}:SetTable).tooFull)=θ then do
       setRelay S (q4i (es.size+1))
       pure θ
    else pure θ) Q E s':=by
  ext b;generalize jP:(if b=θ then(t.put j0).1 else{(t.put j0).1 with plain:=false}:SetTable)=t2;let q1:t2.dummies = #[]:=by rw[<-jP];cases b<;>exact p1
  let q2:t2.mask=t.mask:=by rw[<-jP];cases b<;>exact p2
  let q3:t2.place.size=es.size+1:=by rw[<-jP,<-T.P.m8];cases b<;>exact p3
  let q4:t2.place=insertAt t.place (t.put j0).2 j0:=by rw[<-jP];cases b<;>rfl
  let q5:Up t2.place:=by rw[<-jP];cases b<;>exact up1
  let mn:=J4 es (t.put j0).2 (az prog w ks i,Xj (ad i))
  let wQ:(insertAt es (t.put j0).2 (az prog w ks i,Xj (ad i))).toList.Perm (es.toList++[(az prog w ks i,Xj (ad i))]):=by
   let:=q1H es (t.put j0).2 (az prog w ks i,Xj (ad i));rw[q0i] at this;exact this
  let PH:t2.place.toList.Perm (t.place.toList++[j0]):=by
   rw[q4];let:=q1H t.place (t.put j0).2 j0;rw[q0i] at this;exact this
  let uK:∀(x:Nat)(e:Int×J)(j:Nat),(insertAt es (t.put j0).2 (az prog w ks i,Xj (ad i)))[x]?=U e->t2.place[x]?=U j->oj t2.mask (· ∈ t2.place.toList) e.1 j:=by
   ext x e j h1 h2;rw[q4,G8 pz] at h2;rw[G8 (by rw[<-T.P.m8];calc pz)] at h1;rw[q2];let more:∀y,y<=t.mask->y∈t.place.toList->y∈t2.place.toList:=λy _ hy=>PH.mem_iff.mpr (Ya _ hy)
   by_cases c:x<(t.put j0).2
   .rw[Xa c] at h1 h2
    exact(T.rC x e j h1 h2).mono more
   .rw[VR c] at h1 h2
    by_cases c2:x=(t.put j0).2
    .rw[Xa c2] at h1 h2
     cases h1;cases h2
     exact rj.mono more
    .rw[VR c2] at h1 h2
     exact(T.rC _ e j h1 h2).mono more
  generalize insertAt es (t.put j0).2 (az prog w ks i,Xj (ad i))=eN at mn wQ uK
  let AJ:∀e∈eN.toList,∃j∈js++[i],e=(az prog w ks j,Xj (ad j)):=λe he=>by
   rcases Xv.mp (wQ.mem_iff.mp he) with q|q
   .let⟨j,hj,e1⟩:=T.el e q
    exact⟨j,Ya _ hj,e1⟩
   .exact⟨i,Xw _ Mv,Xr.mp q⟩
  let all2:∀j∈js++[i],∃e∈eN.toList,e.1=az prog w ks j:=λj hj=>by
   rcases Xv.mp hj with q|q
   .let⟨e,he,e1⟩:=T.all j q
    exact⟨e,wQ.mem_iff.mpr (Ya _ he),e1⟩
   .rw[Xr.mp q]
    exact⟨_,wQ.mem_iff.mpr (Xw _ Mv),Y⟩
  let uL:((js++[i]).map (az prog w ks)).Nodup:=by
   rw[Xo];exact X_.mpr ⟨T.pY,by simp,λa ha b hb z=>hm (by rw[<-Xr.mp hb,<-z];calc ha)⟩
  let uM:∀e∈eN.toList,e.1∈(js++[i]).map (az prog w ks):=λe he=>by
   let⟨j,hj,rfl⟩:=AJ e he;exact Xh.mpr ⟨j,hj,Y⟩
  let uN:eN.size=↑((js++[i]).map (az prog w ks)):=by rw[mn,T.P.num,qJ,qJ,EB];rfl
  let V8:es.size<60:=by rw[T.P.num,qJ];exact hl
  refine lK (q3h ho hd ?_ (by rw[mn,q1d];symm))
  let wR:(s'.heap.update S (q1I eN t2)).get? S=U {o with data:=.set eN (ep+1) t2}:=by
   let:=Yg (q1I eN t2) ho (by rw[q3u eN t2 hd];rfl);rw[q3u eN t2 hd] at this;exact this
  let fl:t2.fill=es.size+1:=by unfold q2w;rw[q1,q3];rfl
  let lt:=T.P.lt
  let uO:t2.fits eN.size=θ:=by
   unfold q4u;rw[fl,q3,mn,q2];simp;rcases T.P.rY with e|e|e<;>rw[e] at lt ⊢ <;> symm
  by_cases tf:t2.tooFull=θ
  .rw[Xa (by rw[tf];rfl)]
   let AK:t.mask*3<=(es.size+1)*5:=by
    unfold tooFull at tf;rw[fl,q2] at tf;let:=Yk tf;symm
   let⟨m,tP,hw,hsz⟩:∃m,Mk m/\sizeAbove (grown (es.size+1))-1=m/\(es.size+1)*5<m*3:=by
    rcases T.P.rY with e|e|e
    .rw[e] at lt AK
     let:es.size+1=5:=by symm
     rw[this];exact⟨31,.inr (.inl Y),J7,⋯⟩
    .rw[e] at lt AK
     let:es.size+1=19:=by symm
     rw[this];exact⟨127,.inr (.inr Y),J8,⋯⟩
    .rw[e] at AK;symm
   calc lK ?_;unfold setRelay;calc lK (Zi wR Y uO ?_);dsimp only
   let PJ:¬ SetTable.sizeAbove (q4i (es.size+1))>sizeLine:=by
    rw[q1d];rcases tP with e|e|e<;>symm
   rw[VR PJ];let⟨t3,order,er,r1,r2,r3,r4,r5,r6,r7⟩:=Py tP t2 (eN.map (·.1)) (grown (es.size+1)) hw (by rw[q19,mn];symm);rw[er];rw[q19,mn] at r3 r5;rw[q19] at r6;let G_:∀k∈order.toList,k<eN.size:=λk hk=>XC.mp (r6.mem_iff.mp hk);let⟨o1,o2⟩:=J2 (es:=eN) (order:=order) G_;let og:=PC (es:=eN) (order:=order) G_;refine lK ?_
   show G _ _ (do
    if(order.filterMap (eN[·]?)).size != eN.size then
     unsupported "internal:set-table-lost-an-element"
    pure (order.filterMap (eN[·]?),t3)) _ _ _
   rw[VR (by rw[o1,r5,mn];simp)];calc zi ?_;dsimp only;refine q3h wR Y ?_ (by rw[o1,r5,q1d];symm)
   let jg:((s'.heap.update S (q1I eN t2)).update S (q1I (order.filterMap (eN[·]?)) t3)).get? S=U {o with data:=.set (order.filterMap (eN[·]?)) (ep+1+1) t3}:=by
    let:=Yg (q1I (order.filterMap (eN[·]?)) t3) wR (by rw[q3u _ t3 Y];rfl);rw[q3u _ t3 Y] at this;exact this
   refine zi (k θ _ ((Zl ..).trans (Zl ..)) ⟨_,_,_,_,jg,hex,Y,⟨r2,by rw[r1];calc tP,by rw[r3,o1,r5],by rw[o1,r5,<-mn];calc uN,?_,λe he=>uM e (o2 e he)⟩,r4,uL,λe he=>AJ e (o2 e he),λj hj=>?_,λx e j h1 h2=>?_⟩)
   .unfold tooFull q2w
    rw[r2,r3,r1];simp;symm
   .let⟨e,he,e1⟩:=all2 j hj
    let⟨x,hx,ex⟩:=XF.mp he;let fS:x<eN.size:=by rw[<-Mx];exact hx
    let:x∈order.toList:=r6.mem_iff.mpr (XC.mpr fS);calc⟨e,?_,e1⟩;rw[Zu];exact Y8.mpr ⟨x,this,by rw[VT fS];calc congrArg U ex⁻¹⟩
   .rw[og] at h1
    cases q:order[x]? with
    |none=>rw[q] at h1;cases h1
    |some Ha =>
     rw[q] at h1;let h1:eN[Ha]?=U e:=h1;let⟨hh,g1,g2⟩:=r7 x j Ha h2 q;rw[Array.getElem?_map,h1] at g1;cases g1
     rw[r1];exact g2
  .let Hb:t2.tooFull=ι:=by cases q:t2.tooFull<;>simp_all
   rw[VR (by rw[Hb];decide)];exact zi (k θ _ (Zl ..) ⟨_,_,_,_,wR,hex,Y,⟨q1,by rw[q2];calc T.P.rY,by rw[q3,mn],uN,Hb,uM⟩,q5,uL,AJ,all2,uK⟩)
 by_cases hp:(t.put j0).1.plain=θ
 .rw[Xa hp]
  calc lK (Kk kx λb=>?_);exact fin b
 .rw[VR hp]
  calc lK (zi ?_);calc fin θ
end
noncomputable def gg(hk:Nat->Int):Nat->-Nat
 |0=>[]
 |i+1=>if hk i∈(gg hk i).map hk then gg hk i else gg hk i++[i]
theorem Hc(hk:Nat->Int):∀i,↑(gg hk i)<=i
 |0=>vQ _
 |i+1=>by
  let:=Hc hk i;unfold gg;split
  .omega
  .rw[EB,Xx];symm
theorem wU(hk:Nat->Int):∀i,∀j∈gg hk i,j<i
 |0,j,h=>nomatch h
 |i+1,j,h=>by
  unfold gg at h;split at h
  .let:=wU hk i j h;symm
  .rcases Xv.mp h with h|h
   .let:=wU hk i j h;symm
   .rw[Xr.mp h];symm
theorem PK{hk:Nat->Int}{ad:Nat->O}{h:I}{S:O}{led:Bool}(e:h.get? S=U (fM led)):fW hk ad h S [] :=
 ⟨_,#[],0,_,e,⟨Y,Y,Y⟩,Y,⟨Y,.inl Y,Y,Y,by cases led<;>decide,λ_ h=>nomatch h⟩,q2_,Zq,(λ_ h=>nomatch h),(λ_ h=>nomatch h),λi e j h=>by simp at h⟩
section
variable{prog:ψ}{w:g}{A:q}{R:Result->L->Prop}{I S:O}{fp wr:-O}{G:Array GenState->Array GenState->Prop}{n:Nat}{P:Nat->J->Prop}{St:Nat->L->Prop}
theorem PL(W:WalksS prog w A.in1 I fp wr G n P St)(out:S∉fp)(ad:Nat->O)(ks:Nat->-Int)(pZ:∀i v,P i v->v=.ref (ad i))(apart:∀i,i<n->ad i∉S::wr)(room:A.in1.units<cLine)
  (inj:∀i j,i<n->j<i->hT prog w (ks j)=hT prog w (ks i)->ks j=ks i) (jV:n<=30) :
  ∀(left i:Nat)(s:L),i+left=n->St i s->(∀j,j<n->IsTupleKey (intKind prog w) s.heap (ks j) (ad j))->fW (az prog w ks) ad s.heap S (gg (az prog w ks) i) →
   (∀s',Moved (S::wr) G s s'->fW (az prog w ks) ad s'.heap S (gg (az prog w ks) n)->R (.ok (.ret .none)) s') →
   codeAny (M prog w) A (.builtin "set.update.loop" ⟨[.ref S,.ref I],[]⟩) R s:=by
 let uP:S∉wr:=λz=>out (W.sub _ z);let more:∀b,b∈wr->b∈S::wr:=λb hb=>Mu _ hb;ext left
 induction left with
 |zero =>
  ext i s hi st tk se fin;obtain rfl:i=n:=by symm
  calc q1S q1w ?_;rw[q1_ q0f _];show ρ _ A.in1 (pyNext (.ref I) >>= _) _ _ s;calc lK (W.done s _ _ st λs' mv=>?_);show ρ _ A.in1 (ret Yr) _ _ s';exact zi (fin s' (mv.mono more) (G7 se λo e=>mv.heap S o uP e))
 |succ left ih =>
  ext i s hi st tk se fin;let dP:i<n:=by symm
  calc q1S q1w ?_;rw[q1_ q0f _];show ρ _ A.in1 (pyNext (.ref I) >>= _) _ _ s;calc lK (W.item i s _ _ dP st λv s1 hP iQ mv=>?_);obtain rfl:=pZ i v hP;let qQ:∀j,j<n->IsTupleKey (intKind prog w) s1.heap (ks j) (ad j):=λj hj=>x8 (tk j hj) λo e=>mv.heap _ o (λz=>apart j hj (more _ z)) e;show ρ _ A.in1 (holding [Xj (ad i)] (setAdd S (.ref (ad i))) >>= _) _ _ s1;calc lK (XI ?_);unfold setAdd;calc XI (lK (wpAny_pyHash_tuple room (qQ i dP) ?_));let fl:=wU (az prog w ks) i;refine PG (s:={s1 with toks:=s1.toks+(↑(ks i)+1)}) (i:=i) (js:=gg (az prog w ks) i) (G7 se λo e=>mv.heap S o uP e) (by let:=Hc (az prog w ks) i;symm) room (λj hj=>?_) (λj hj e=>inj i j dP (fl j hj) e) λbb h2 sb PM=>?_
  .rcases Mt.mp hj with rfl|hj
   .exact qQ _ dP
   .exact qQ j (by let:=fl j hj;symm)
  .let nS:∀b,b∈fp->b≠S:=λb hb z=>out (by rw[<-z];calc hb)
   refine zi ⟨plainId_quiet q0f _,ih (i+1) _ ⋯ (W.frame _ s1 _ _ iQ (Zs _ _) λb hb o e=>by rw[sb.2 b (nS b hb)];calc e) (λj hj=>x8 (qQ j hj) λo e=>?_) PM λs3 PN PQ=>?_⟩
   .rw[sb.2 _ (λz=>apart j hj (by rw[z];calc Mv))];exact e
   .refine fin s3 (Moved.trans W.gtrans ((mv.mono more).then_heap (Zs _ _) λb o hb e=>?_) PN) PQ
    rw[sb.2 b (λz=>hb (by rw[z];calc Mv))];calc e
end
section
variable{prog:n}{w:g}{A:q}{E:aM}{s:L}
set_option maxHeartbeats 3200000 in
theorem PR {l:O} {items:Array J} {Q:aM} (ad:Nat->O) (ks:Nat->-Int) (hh:A.handled=Z) (room:A.units+8<cLine) (PS:s.heap.IsList l items) (pZ:∀(i:Nat)(v:J),items[i]?=U v->v=.ref (ad i))
  (tk:∀i,i<items.size->IsTupleKey (intKind prog w) s.heap (ks i) (ad i)) (inj:∀i j,i<items.size->j<i->hT prog w (ks j)=hT prog w (ks i)->ks j=ks i) (jV:items.size<=30)
  (fin:∀(h':I)(tk:Nat),fW (az prog w ks) ad h' ⇑s (gg (az prog w ks) items.size)->(∀b o,b<⇑s->s.heap.get? b=U o->h'.get? b=U o)->Q (.ref ⇑s) {s with heap:=h',toks:=tk}) :
  G (M prog w) A (call (.type "set") [.ref l]) Q E s:=by
 let⟨c,tl,PT⟩:=ZA.mro;let m1:=ZA.made;let m2:=ZA.sub;let m3:=ZA.notType;let m4:=ZA.canCreate;let m5:=F.typeCall_set_1 (.ref l);calc q0Z (q3T ?_);show G _ _ (callAny (.type "set") _) _ _ _;calc zi ⟨q04 _ (by decide +kernel),q1S F.entry_type_call ?_⟩;rw[Around.under_plain (weight_type_call_type "set" [.ref l] []) Y]
 repeat(any_goals (first|assumption|wp_step))
 refine q0l (code_set_new_1 (.ref l) (E:=E) (Q₁:=λr s1=>∃led:Bool,r=.ref ⇑s/\s1={s with heap:=s.heap.push (fM led)}) λled=>⟨led,Y,Y⟩) λr s1 hr=>?_
 cases r with
 |error e=>exact hr
 |ok fl =>
  cases fl with
  |ret obj =>
   let⟨led,rfl,rfl⟩:=hr;let gS:(s.heap.push (fM led)).get? ⇑s=U (fM led):=My _ Y;let tS:Shared.TypeIs {s with heap:=s.heap.push (fM led)} (.ref ⇑s) "set" := ⟨_,gS,Y⟩;let m6:=ZA.init.lookup;let m7:=ZA.init.bind (.ref ⇑s)
   repeat(any_goals (first|assumption|wp_step))
   refine q0l (q0G (R:=wants (λr s2=>r=.none/\∃h' tk,s2={s with heap:=h',toks:=tk}/\fW (az prog w ks) ad h' ⇑s (gg (az prog w ks) items.size) ∧
     ∀b o,b<⇑s->s.heap.get? b=U o->h'.get? b=U o) E) ZA.init.plain F.entry_set_init (check_set_init_1 tS ?_)) λr2 s2 uQ=>?_
   .let⟨ol,gl,cl,nl,dl⟩:=PS
    let⟨c0,d0,V9,AL⟩:=ol;simp only at cl dl;subst cl;subst dl;let PU:(s.heap.push (fM led)).get? l=U {cls:=.type "list",dict:=d0,data:=.seq items nl,slots:=AL}:=pf _ gl;let x1:=F.sub_list_set;let x2:=F.sub_list_frozenset;let x3:(q1B "list" == q1B "dict")=ι:=by decide
    let uR:(s.heap.push (fM led)).IsList l items:=⟨_,PU,Y,nl,Y⟩;let ll:l<⇑s:=EC gl;unfold Builtin.«set.__init__» noKeywords Builtin.Frozenset.updateFrom;generalize PV:pyIter=PI
    wp_walk
    subst PV;calc Zh uR (lK (wpAny_runValue ?_));let h3:A.in1.in1.in1.handled=Z:=by simp[hh]
    let ez:(s.heap.push (fM led)).objs.size=⇑s+1:=Yy ..;let nI:l≠(s.heap.push (fM led)).objs.size:=by rw[ez];exact Xg (Yi ll)
    let lt:∀i,i<items.size->ad i<⇑s:=λi hi=>by
     let⟨o,_,_,e,_⟩:=tk i hi;exact EC e
    refine PL ((q2O h3 _ l nI items).toS) (S:=s.heap.objs.size) ?out ad ks (λi v hv=>pZ i v hv) ?apart ?room inj jV items.size 0 _ (XU _)
     ⟨⟨_,My _ Y,Y,Y⟩,uR.push _⟩ ?tk ?fresh ?fin
    case out =>
     erw[Mt,Xd,Yp,not_or,ez];exact⟨Xg (ZU _),Zv ll⟩
    case apart =>
     ext i hi;let:=lt i hi;erw[Mt,Xd,Yp,not_or,ez];exact⟨Xg this,Xg (Yi this)⟩
    case room =>
     show A.units+1+1+1<cLine;exact q0U (Nat.add_le_add_left (by decide:3<=8) _) room
    case tk =>
     ext j hj;exact x8 (tk j hj) λo e=>pf _ (pf _ e)
    case fresh =>
     exact PK (led:=led) (pf _ gS)
    case fin =>
     ext s' mv se;let⟨h',g',d',qN,yJ⟩:=s';obtain rfl:g'=s.gens:=mv.gens;obtain rfl:d'=s.drawn:=mv.drawn;obtain rfl:yJ=s.os:=mv.os;show G _ _ _ _ _ _;calc zi ?_;show G _ _ (ret Yr) _ _ _;calc zi ⟨Y,h',qN,Y,se,λb o hb e=>?_⟩;calc mv.heap b o ?_ (pf _ (pf _ e));erw[Mt,Xd,Yp,not_or,ez];exact⟨Xg hb,Xg (Yi hb)⟩
   .cases r2 with
    |error e=>exact uQ
    |ok PW =>
     cases PW with
     |ret r =>
      let⟨rfl,h',qN,rfl,se,kp⟩:=uQ
      repeat(any_goals (first|assumption|wp_step))
      exact fin _ _ se kp
     |next=>exact uQ
     |brk=>exact uQ
     |cont=>exact uQ
  |next=>exact hr
  |brk=>exact hr
  |cont=>calc hr
end
end LJS
namespace L2
open PySem PySem.Spec PyProof.Rows
variable[ay]
noncomputable def oo:-D->Option (-(Int×Int))
 |[]=>U []
 |.tup [.int i,.int j]::r=>match oo r with
  |some ps=>U ((i,j)::ps)
  |none=>Z
 |_=>Z
theorem Hd:∀{ds:-D}{ps:-(Int×Int)},oo ds=U ps->ds=ps.map λp=>.tup [.int p.1,.int p.2]
 |[],ps,h=>by cases h;rfl
 |.tup [.int i,.int j]::r,ps,h=>by
  unfold oo at h;split at h
  .rename_i qs e
   cases h
   rw[Hd e];rfl
  .cases h
theorem He:∀ps:-(Int×Int),oo (ps.map λp=>D.tup [.int p.1,.int p.2])=U ps
 |[]=>Y
 |p::r=>by
  show oo (.tup [.int p.1,.int p.2]::r.map _)=_;unfold oo;rw[He r]
noncomputable def fJ(ps:-(Int×Int)):Nat->-(Int×Int)
 |0=>[]
 |i+1=>if ps.getD i (0,0)∈fJ ps i then fJ ps i else fJ ps i++[ps.getD i (0,0)]
theorem AM(ps:-(Int×Int)):∀i,↑(fJ ps i)<=i
 |0=>vQ _
 |i+1=>by
  let:=AM ps i;unfold fJ;split
  .omega
  .rw[EB,Xx];symm
theorem Hf{ps:-(Int×Int)}(hn:ps.Nodup):∀i,i<=↑ps->fJ ps i=ps.take i
 |0,_=>Y
 |i+1,h=>by
  let hi:i<↑ps:=by symm
  let e:ps.getD i (0,0)=ps[i]:=by rw[VP,pj hi];rfl
  unfold fJ;rw[Hf hn i ⋯,e,VR ?_,Zb,pj hi]
  .rfl
  .ext hm
   let⟨j,hj,ej⟩:=XF.mp hm;rw[Xi] at hj;rw[q3i] at ej;let:=(ZV (h₀:=by symm) (h₁:=hi) hn).mp ej;symm
theorem PX{ps:-(Int×Int)}(hl:↑(fJ ps ↑ps)=↑ps):ps.Nodup:=by
 let key:∀i,i<=↑ps->↑(fJ ps i)=i->(ps.take i).Nodup/\fJ ps i=ps.take i:=by
  ext i
  induction i with
  |zero=>ext _ _;exact⟨Zq,Y⟩
  |succ i ih =>
   ext hi hlen;let eV:i<↑ps:=by symm
   let le:=AM ps i;let e:ps.getD i (0,0)=ps[i]:=by rw[VP,pj eV];rfl
   unfold fJ at hlen ⊢;split at hlen
   .omega
   .rename_i hn
    rw[EB,Xx] at hlen;let⟨h1,h2⟩:=ih ⋯ ⋯;rw[VR hn,h2,Zb,pj eV,e];calc⟨?_,Y⟩;rw[h2,e] at hn
    exact X_.mpr ⟨h1,by simp,λa ha b hb z=>hn (by
     let hb:b=ps[i]:=by simpa using hb
     rw[<-hb,<-z];calc ha)⟩
 let:=(key ↑ps (vQ _) hl).1
 rwa [XD (vQ _)] at this
section
variable{X:Cx}{fa:WA}
theorem Hg{F:Hp}:∀{ps:-(Int×Int)}{vs:-V},ae F (ps.map λp=>D.tup [.int p.1,.int p.2]) vs->∃as:-O,vs=as.map V.ref/\↑as=↑ps/\∀(i:Nat)(a:O)(k:Int×Int),as[i]?=U a->ps[i]?=U k->F a=U (.tup [.int k.1,.int k.2])
 |[],vs,h=>by
  let h:vs=[]:=by simpa only [Y5,ae] using h
  subst h;exact⟨[],Y,Y,λi a k e=>by simp at e⟩
 |p::r,vs,h=>by
  rw[Xl] at h;erw[ae] at h;let⟨v,r',rfl,h1,h2⟩:=h;let⟨as,rfl,hl,g⟩:=Hg h2;erw[Is] at h1;let⟨a,us,rfl,e1,e2⟩:=h1;erw[ae,Is] at e2;let⟨_,_,rfl,rfl,_,_,rfl,rfl,rfl⟩:=e2;refine⟨a::as,Y,by rw[EA,EA,hl],λi b k eb ek=>?_⟩
  cases i with
  |zero =>
   cases(show U a=U b by simpa using eb)
   cases(show U p=U k by simpa using ek)
   exact e1
  |succ i=>calc g i b k eb⁻¹ ek⁻¹
theorem PY(hc:X.calm=θ)(hu:X.A.units+64<cLine):f_ X (.type "set") (λxs H Q=>∃(l:O)(ps:-O)(ks:-(Int×Int)),xs=[.ref l]/\aX X.K H l (ps.map V.ref)/\↑ps=↑ks ∧
  (∀(i:Nat)(a:O)(k:Int×Int),ps[i]?=U a->ks[i]?=U k->H a=U (.tup [.int k.1,.int k.2]))/\(∀k∈ks,0<=k.1/\k.1<k.2/\k.2<12)/\↑ks<=30/\∀p,H p=Z->Q (.ref p) (upd H p (jU p ↑(fJ ks ↑ks)))):=by
 ext pins s σ H xs us Q I r h;let⟨l,ps,ks,rfl,hq,hl,cA,bd,jV,q⟩:=h;let⟨u,rfl,rx⟩:=vals1 r;cases rx
 let⟨ah,r',pl,_⟩:=I.list hq;obtain rfl:=Fq r';let sz:(ps.map Xj).toArray.size=↑ks:=by rw[Ez,qJ,hl]
 let p9:∀i,i<↑ks->∃k,ks[i]?=U k/\ks.getD i (0,0)=k:=λi hi=>⟨ks[i],pj hi,by rw[VP,pj hi];rfl⟩;let AN:∀i,i<↑ks->∃a,ps[i]?=U a/\ps.getD i 0=a:=λi hi=>⟨ps[i]'(by rw[hl];calc hi),pj (by rw[hl];calc hi),by rw[VP,pj (by rw[hl];calc hi)];rfl⟩
 let same:∀i j,i<↑ks->j<↑ks->LJS.hT X.prog X.w [(ks.getD j (0,0)).1,(ks.getD j (0,0)).2]=LJS.hT X.prog X.w [(ks.getD i (0,0)).1,(ks.getD i (0,0)).2]->ks.getD j (0,0)=ks.getD i (0,0):=λi j hi hj z=>by
  let⟨k,ek,dk⟩:=p9 i hi;let⟨k',wN,Hh⟩:=p9 j hj;rw[dk,Hh,LJS.Fm,LJS.Fm] at z;rw[dk,Hh];let b1:=bd k (Xb.mpr ⟨i,ek⟩);let b2:=bd k' (Xb.mpr ⟨j,wN⟩);exact LJS.NS (k'.1,k'.2) (LJS.Fp b2.1 b2.2.1 b2.2.2) (k.1,k.2) (LJS.Fp b1.1 b1.2.1 b1.2.2) z
 refine LJS.PR (λi=>ps.getD i 0) (λi=>[(ks.getD i (0,0)).1,(ks.getD i (0,0)).2]) (I.ok.hd hc) ⋯ pl.isList (λi v hv=>?_) (λi hi=>?_) (λi j hi hj z=>?_) (by rw[sz];calc jV) λh' tk se kp=>?_
 .rw[Yv,W5] at hv
  let⟨a,ea,rfl⟩:=Xf.mp hv;rw[VP,ea];rfl
 .rw[sz] at hi
  let⟨k,ek,dk⟩:=p9 i hi;let⟨a,ea,da⟩:=AN i hi;show IsTupleKey _ _ [(ks.getD i (0,0)).1,(ks.getD i (0,0)).2] (ps.getD i 0);rw[dk,da];let⟨_,aU,r2,o,ho,AO,n,hd⟩:=I.aH a _ (cA i a k ea ek)
  cases r2 with
  |cons ra rr =>
   cases rr with
   |cons rb rn =>
    cases rn
    let⟨t1,rfl⟩:=ra;let⟨t2,rfl⟩:=rb;exact⟨o,_,n,ho,AO,hd,.cons (intKind_is ..) (.cons (intKind_is ..) .nil)⟩
 .rw[sz] at hi
  let:=same i j hi ⋯ z;show[(ks.getD j (0,0)).1,(ks.getD j (0,0)).2]=[(ks.getD i (0,0)).1,(ks.getD i (0,0)).2];rw[this]
 .let key:∀n,n<=↑ks->(LJS.gg (LJS.az X.prog X.w λi=>[(ks.getD i (0,0)).1,(ks.getD i (0,0)).2]) n).map (λi=>ks.getD i (0,0))=fJ ks n:=by
   ext n
   induction n with
   |zero=>ext _;rfl
   |succ n ih =>
    ext hn;let ih:=ih ⋯;unfold LJS.gg fJ;rw[<-ih]
    by_cases c:ks.getD n (0,0)∈(LJS.gg (LJS.az X.prog X.w λi=>[(ks.getD i (0,0)).1,(ks.getD i (0,0)).2]) n).map (λi=>ks.getD i (0,0))
    .let⟨j,hj,ej⟩:=Xh.mp c
     let:LJS.az X.prog X.w (λi=>[(ks.getD i (0,0)).1,(ks.getD i (0,0)).2]) n∈(LJS.gg (LJS.az X.prog X.w λi=>[(ks.getD i (0,0)).1,(ks.getD i (0,0)).2]) n).map (LJS.az X.prog X.w λi=>[(ks.getD i (0,0)).1,(ks.getD i (0,0)).2]):=by
      calc Xh.mpr ⟨j,hj,?_⟩;let ej:ks.getD j (0,0)=ks.getD n (0,0):=ej;show LJS.hT _ _ [(ks.getD j (0,0)).1,(ks.getD j (0,0)).2]=LJS.hT _ _ [(ks.getD n (0,0)).1,(ks.getD n (0,0)).2];rw[ej]
     rw[Xa c,Xa this]
    .let:LJS.az X.prog X.w (λi=>[(ks.getD i (0,0)).1,(ks.getD i (0,0)).2]) n∉(LJS.gg (LJS.az X.prog X.w λi=>[(ks.getD i (0,0)).1,(ks.getD i (0,0)).2]) n).map (LJS.az X.prog X.w λi=>[(ks.getD i (0,0)).1,(ks.getD i (0,0)).2]):=λz=>by
      let⟨j,hj,ej⟩:=Xh.mp z;let AQ:=LJS.wU _ n j hj;exact c (Xh.mpr ⟨j,hj,same n j ⋯ ⋯ ej⟩)
     rw[VR c,VR this,Xo];rfl
  let⟨o,es,ep,t,ho,hex,hd,T⟩:=se
  let hlen:↑((LJS.gg (LJS.az X.prog X.w λi=>[(ks.getD i (0,0)).1,(ks.getD i (0,0)).2]) ↑ks).map (LJS.az X.prog X.w λi=>[(ks.getD i (0,0)).1,(ks.getD i (0,0)).2]))=↑(fJ ks ↑ks):=by
   rw[<-key ↑ks (vQ _),qJ,qJ]
  let T':=T.P;rw[sz] at T';let PZ:LJS.jB h' ⇑s _:=⟨o,es,ep,t,ho,hex,hd,T'⟩;calc⟨.ref ⇑s,upd H ⇑s (jU ⇑s ↑(fJ ks ↑ks)),I.laid (t':=tk) (λb o e=>kp b o (EC e) e) (vQ _) (NT PZ hlen),Y,q _ (I.aH.fresh (vQ _))⟩
end
end L2
namespace HT
open PySem PySem.Spec PyProof.Rows
section
variable{prog:n}{w:g}{A:q}{E:aM}{s:L}
theorem P0{t b:O}{ws:-J}{Q:aM}(ht:IsTup s.heap t #[])(hb:IsTup s.heap b ws.toArray)(h:Q (.ref b) s):G (M prog w) A (binaryOp .Add (.ref t) (.ref b)) Q E s:=by
 let⟨⟨cls,dd,data,sl⟩,ho,hc,n,hd⟩:=id ht;let⟨⟨sT,nF,data2,nG⟩,jg,nH,n2,hd2⟩:=id hb;simp only at hc hd nH hd2;subst hc hd nH hd2
 exact q26 ⟨_,ho,Y⟩ ⟨_,jg,Y⟩ q1s q2y q0o q0e (Z5 _ _)
  (tuple_addW0 t b #[] ws.toArray n n2 dd nF sl nG Y) ⟨ho,jg,h⟩
theorem P8{t sl:O}{items:Array J}{vl vu:J}{lo hi:Option Int}{Q:aM}(ht:IsTup s.heap t items)(hs:s.heap.IsSliceOf sl vl vu .none)(pl:IsPart vl lo)(pu:IsPart vu hi)
  (hw:aP items.size 0 lo=0/\aP items.size items.size hi=items.size) (h:Q (.ref t) s):G (M prog w) A (getItem (.ref t) (.ref sl)) Q E s:=by
 let⟨os,iJ,lG,kM⟩:=id hs;let sV:s.TypeIs (.ref sl) "slice" := ⟨os,iJ,lG⟩;unfold getItem
 try with_reducible refine XI ?_
 first|refine lK (zi ?_)|skip
 refine lK (q1e ht.typeIs (by decide) ?_)
 refine lK (Ym (name:=XW "__getitem__") ht.typeIs Xs
  (Y7 Xs ht.typeIs q0R ?_ (q01 _ _)))
 show G _ _ (ZS (.ref t) >>= _) _ _ s;calc lK (q2z ht ?_);calc lK (q0p sV ?_);rw[Xa (by decide)];calc lK (Eh hs pl pu ?_);show G _ _ (if(((aP items.size 0 lo:Nat):Int)==0&&(1:Int)==1&&(aP items.size items.size hi-aP items.size 0 lo)==items.size)=θ then _ else _) _ _ s;rw[Xa (by rw[hw.1,hw.2];simp)];unfold Builtin.Tuple.tupleIsExact;calc lK (lK (q0p ht.typeIs (zi ?_)));rw[Xa (by decide)];calc lK (q2P ?_);calc zi ⟨_,Y,zi h⟩
theorem P9{sl:O}{n:Nat}{t:Tok}{Q:Int×Int×Nat->L->Prop}(hs:s.heap.IsSliceOf sl .none .none (.int (-1) t))
  (h:Q ((n:Int)-1,-1,n) s):G (M prog w) A (Y9 (.ref sl) (pure (n:Int))) Q E s:=by
 let⟨os,iJ,lG,kM⟩:=id hs;unfold Y9 q1a;calc lK (lK (X0 iJ kM (x:=.none) Y (lK (X0 iJ kM (x:=.none) Y (lK (X0 iJ kM (x:=.int (-1) t) Y (zi ?_)))))));calc lK (sU (.int (-1) t) ?_);show G _ _ (if((-1:Int)==0)=θ then _ else _) _ _ s;rw[VR (by decide)];calc lK (sU .none (lK (sU .none (lK (zi ?_)))));refine zi ?_
 let e:Yb ((n:Int)-1) (-1) (-1)=n:=by
  unfold Yb;rw[VR (by decide)];split
  .rename_i c
   rw[show -(-1:Int)=1 by decide,q27];symm
  .omega
 show Q ((n:Int)-1,-1,Yb ((n:Int)-1) (-1) (-1)) s;rw[e];calc h
theorem P_{t sl:O}{ah:-J}{tk:Tok}{Q:aM}(ht:IsTup s.heap t ah.toArray)(hs:s.heap.IsSliceOf sl .none .none (.int (-1) tk))
  (h:Q (.ref ⇑s) {s with heap:=s.heap.push {cls:=.type "tuple",data:=.seq ah.reverse.toArray}}) (hsz:↑ah<=sizeLine):G (M prog w) A (getItem (.ref t) (.ref sl)) Q E s:=by
 let dr:sizeOk (.seq ah.reverse.toArray):=by
  show ah.reverse.toArray.size<=sizeLine;rw[Ez,Zm];exact hsz
 let⟨os,iJ,lG,kM⟩:=id hs;let sV:s.TypeIs (.ref sl) "slice" := ⟨os,iJ,lG⟩;unfold getItem
 try with_reducible refine XI ?_
 first|refine lK (zi ?_)|skip
 refine lK (q1e ht.typeIs (by decide) ?_)
 refine lK (Ym (name:=XW "__getitem__") ht.typeIs Xs
  (Y7 Xs ht.typeIs q0R ?_ (q01 _ _)))
 show G _ _ (ZS (.ref t) >>= _) _ _ s;calc lK (q2z ht ?_);calc lK (q0p sV ?_);rw[Xa (by decide)];calc lK (P9 hs ?_);show G _ _ (if((((ah.toArray.size:Int)-1))==0&&(-1:Int)==1&&ah.toArray.size==ah.toArray.size)=θ then _ else _) _ _ s;rw[VR (by simp)]
 let e:((Xy ah.toArray.size).filterMap λ(k:Nat)=>ah.toArray[((ah.toArray.size:Int)-1+(k:Int) * -1).toNat]?).toArray=ah.reverse.toArray:=by
  congr 1;rw[Ez];refine q1b λi=>?_
  let all:∀k∈Xy ↑ah,((ah.toArray[((↑ah:Int)-1+(k:Int) * -1).toNat]?)).isSome=θ:=λk hk=>by
   let:=XC.mp hk;rw[Yv,pj ⋯];rfl
  let fm:∀l:-Nat,(∀k∈l,((ah.toArray[((↑ah:Int)-1+(k:Int) * -1).toNat]?)).isSome=θ)->∀i:Nat,(l.filterMap λ(k:Nat)=>ah.toArray[((↑ah:Int)-1+(k:Int) * -1).toNat]?)[i]?=(l[i]?).bind λk=>ah.toArray[((↑ah:Int)-1+(k:Int) * -1).toNat]?:=by
   ext l
   induction l with
   |nil=>ext _ i;simp
   |cons k r ih =>
    ext hk i;let⟨v,hv⟩:=Zj.mp (hk k Mv);rw[YR,hv];dsimp only
    cases i with
    |zero=>exact hv.symm
    |succ i=>simpa using ih (λk' ir=>hk k' (Mu _ ir)) i
  rw[fm _ all]
  by_cases c:i<↑ah
  .rw[YQ c,List.getElem?_reverse c]
   show ah.toArray[((↑ah:Int)-1+(i:Int) * -1).toNat]?=_;rw[Yv];congr 1;symm
  .rw[ZI (by rw[Yt];symm),ZI (by rw[Zm];symm)];rfl
 rw[e]
 first
  |exact lK (m:=X7 _) (X9 (zi ⟨_,Y,zi h⟩) dr)
  |exact lK (m:=X7 _) (X9 (lK (zi (zi ⟨_,Y,zi h⟩))) dr)
  |exact lK (lK (m:=X7 _) (X9 (zi (zi ⟨_,Y,zi h⟩)) dr))
  |calc lK (lK (m:=X7 _) (X9 (zi ⟨_,Y,zi h⟩) dr))
end
end HT
namespace L2
open PySem PySem.Spec PyProof.Rows
variable[ay]
section
variable{X:Cx}{e:B}{te:TE}{pos p2 p3 p4:y}
def Qa(K:tu):V->Option Int->Option Int->Hp->VK->Prop:=λx lo hi H Q=>∃a xs,x=.ref a/\bo K H a xs ∧
 (HT.aP ↑xs 0 lo=0/\HT.aP ↑xs ↑xs hi=↑xs->Q (.ref a) H)/\(¬ (HT.aP ↑xs 0 lo=0/\HT.aP ↑xs ↑xs hi=↑xs)->∀p,H p=Z->Q (.ref p) (upd H p (.tup (cq xs lo hi))))
theorem Qb:nK X (Qa X.K):=by
 ext pins s σ H x v vl vu lo hi sl Q I rx hs pl pu h;let⟨a,xs,rfl,hx,q1,q2⟩:=h
 by_cases hw:HT.aP ↑xs 0 lo=0/\HT.aP ↑xs ↑xs hi=↑xs
 .cases rx
  let⟨ah,r,ht,hz⟩:=I.tuple hx;let hlen:ah.toArray.size=↑xs:=by rw[Ez];exact r.length.symm
  calc⟨"tuple",_,Xs.lookup,ht.typeIs,?_⟩;exact HT.P8 ht hs pl pu (by rw[hlen];calc hw) ⟨.ref a,H,I,Y,q1 hw⟩
 .calc L_ pins s σ H _ v vl vu lo hi sl Q I rx hs pl pu ⟨a,xs,Y,hx,hw,q2 hw⟩
def Qc(K:tu)(te:TE):TE:=fun σ H Q=>te σ H λx H1=>(∃a xs,x=.ref a/\aX K H1 a xs/\∀p,H1 p=Z->Q (.ref p) (upd H1 p (.lst xs.reverse)))\/∃a xs,x=.ref a/\bo K H1 a xs/\∀p,H1 p=Z->Q (.ref p) (upd H1 p (.tup xs.reverse))
theorem Qd{j1}(he:JE X e te):JE X (.Subscript e (.Slice Z Z (U (.UnaryOp .USub (.Constant (.int 1) j1 p3) p4)) p2) pos) (Qc X.K te):=by
 calc⟨?_⟩;ext pins s σ H Q I h;calc Subscript_ (aS (he pins s σ H _ I h) λv s1 h0_=>el5 h0_ λx H1 I1 r1 q1=>?_);calc wpAny_Slice ?_;rw[q2A];calc zi ?_;calc zi ?_;rw[q4G];let h1:=D3 (X:=X) D5 (jG (X:=X) (i:=1) (j:=j1) (pos:=p3)) (pos:=p4) pins s1 σ H1 (λv H2=>v=.int (-1)/\H2=H1) I1 ⟨1,Y,Y,Y⟩;calc aS h1 λu s3 ⟨y,H3,I3,ry,ey,eH⟩=>?_;subst ey eH;let⟨t,rfl⟩:=ry;let I4:Inv X pins σ H3 {s3 with heap:=s3.heap.push {cls:=.type "slice",data:=.fields #[.none,.none,.int (-1) t]}}:=I3.kept (t':=s3.toks) λb ob q=>pf _ q;rcases q1 with⟨a,xs,rfl,hx,q⟩|⟨a,xs,rfl,hx,q⟩
 .cases r1
  let⟨ah,r,ht,hz⟩:=I4.list hx;let hlen:=↑r;calc q37 (ops:=[.ref a,.ref ⇑s3]) ht.isList.typeIs q1f.lookup ?_ (by with_unfolding_all rfl);calc q1i ht.isList (q02 ..) .none .none (.int (-1) t) (by decide) ?_ (by rw[Ez]<;>symm);rw[N8];calc⟨.ref _,_,I4.laid (t':=s3.toks) (o:=.lst xs.reverse) (λb ob q=>pf _ q) (vQ _) ?_,Y,q _ (I4.aH.fresh (vQ _))⟩;exact⟨by rw[Zm];calc hz,_,0,zU r,My _ Y⟩
 .cases r1
  let⟨ah,r,ht,hz⟩:=I4.tuple hx;let hlen:=↑r;calc q37 (ops:=[.ref a,.ref ⇑s3]) ht.typeIs Xs.lookup ?_ (by with_unfolding_all rfl);calc HT.P_ ht (q02 ..) ?_ ⋯;calc⟨.ref _,_,I4.laid (t':=s3.toks) (o:=.tup xs.reverse) (λb ob q=>pf _ q) (vQ _) ?_,Y,q _ (I4.aH.fresh (vQ _))⟩;calc⟨by rw[Zm];calc hz,_,zU r,q3r _ _⟩
theorem Qe:de X (binaryOp .Add) (λx y H Q=>∃a b ys,x=.ref a/\y=.ref b/\bo X.K H a []/\bo X.K H b ys/\Q (.ref b) H):=by
 ext pins s σ H x y v u Q I rx ry h;let⟨a,b,ys,rfl,rfl,ha,hb,q⟩:=h;cases rx
 cases ry
 let⟨ah,r1,p1,_⟩:=I.tuple ha;let⟨aU,r2,p2,_⟩:=I.tuple hb;let:ah=[]:=r1.eC.mpr Y;subst this;calc HT.P0 p1 p2 ⟨.ref b,H,I,Y,q⟩
theorem Qf:de X (compareOp .Is) (λx y H Q=>∃a b,x=.bl a/\y=.bl b/\Q (.bl (a==b)) H):=by
 ext pins s σ H x y v u Q I rx ry h;let⟨a,b,rfl,rfl,q⟩:=h;cases rx
 cases ry
 calc zi ⟨.bl (a==b),H,I,by cases a<;>cases b<;>rfl,q⟩
def bK:D->D->(D->Prop)->Prop
 |.int i,.int j,K=>K (.int (i+j))
 |.lst a,.lst b,K=>↑a+↑b<=1000/\K (.lst (a++b))
 |.tup a,.tup b,K=>↑a+↑b<=1000/\K (.tup (a++b))
 |.str a,.str b,K=>↑a+↑b<=1000/\K (.str (a++b))
 |_,_,_=>False
theorem mq:eE X (binaryOp .Add) bK:=by
 ext pins s σ H x y v u Q I rx ry ⟨F,d,e,K,sub,rd,re,q,md⟩;unfold bK at q;split at q
 .exact wA pins s σ H x y v u Q I rx ry ⟨F,_,_,K,sub,rd,re,q,md⟩
 .exact wA pins s σ H x y v u Q I rx ry ⟨F,_,_,K,sub,rd,re,q,md⟩
 .rename_i as bs
  by_cases c:as=[]
  .subst c
   let cw:Is F (.tup []) x:=rd;let gB:Is F (.tup bs) y:=re;let Qg:=gB;erw[Is] at cw gB;let⟨a,us,rfl,h1,h2⟩:=cw;let⟨b,ws,rfl,h3,h4⟩:=gB;let:us=[]:=by simpa only [ae] using h2
   subst this;exact Qe pins s σ H _ _ v u Q I rx ry ⟨a,b,ws,Y,Y,bo.of (sub _ _ h1),bo.of (sub _ _ h3),md _ _ _ q.2 (λ_ _ e=>e) (ur sub Qg)⟩
  .exact wA pins s σ H x y v u Q I rx ry ⟨F,_,_,K,sub,rd,re,⟨⟨c,q.1⟩,q.2⟩,md⟩
 .exact wA pins s σ H x y v u Q I rx ry ⟨F,_,_,K,sub,rd,re,q,md⟩
 .calc q.elim
def p_:D->Option Int->Option Int->(D->Prop)->Prop
 |.lst ds,lo,hi,K=>K (.lst (cutD ds lo hi))
 |.tup ds,lo,hi,K=>K (.tup (cutD ds lo hi))
 |_,_,_,_=>False
def cL(f:WE)(l h:WO):WE:=fun δ K=>f δ λx δ1=>l δ1 λlo δ2=>h δ2 λhi δ3=>gc x δ3 λd=>p_ d lo hi λz=>K (.p z) δ3
theorem Qh{ds:-D}{lo hi:Option Int}(h:HT.aP ↑ds 0 lo=0/\HT.aP ↑ds ↑ds hi=↑ds):cutD ds lo hi=ds:=by
 unfold cutD;rw[h.1,h.2,q0j,q1A,XD (vQ _)]
theorem rD{e:B}{f:WE}{lo hi:Option B}{l h:WO}{pos p2:y}(he:JE X e (tD f))(hl:PO X lo (wD l))(hh:PO X hi (wD h)):JE X (.Subscript e (.Slice lo hi Z p2) pos) (tD (cL f l h)) :=
 (yO (fQ.or Qb) he hl hh).weak fun σ H Q h0_=>el7 h0_ λF ad δ K S q k =>⟨F,ad,δ,_,S,q,λx δ1 h1 v F1 aI H1 E1 S1 V1=>⟨F1,aI,δ1,_,S1,h1,λlo δ2 h2 F2 bZ H2 E2 S2=>⟨F2,bZ,δ2,_,S2,h2,λhi δ3 h3 F3 qX H3 E3 S3=>by
  let⟨d,h4,rd⟩:=iy S3 ((V1.ext E2).ext E3) h3;let AR:=(E1.trans E2).trans E3;unfold p_ at h4;split at h4
  .rename_i ds
   let⟨a,vs,rfl,g1,g2⟩:=rd;calc .inl ⟨a,vs,Y,aX.of g1,λp hp=>?_⟩;exact k _ _ h4 _ _ _ _ (AR.trans (Ext.al S3 (bT hp))) (S3.al (bT hp)) (pQ S3.sub hp (Gx g2 _ _))
  .rename_i ds
   let cw:Is F3 (.tup ds) v:=rd;let Qi:=cw;erw[Is] at cw;let⟨a,vs,rfl,g1,g2⟩:=cw;refine .inr ⟨a,vs,Y,bo.of (S3.sub _ _ g1),λhw=>?_,λ_ p hp=>?_⟩
   .rw[↑g2] at hw
    rw[Qh hw] at h4;exact k _ _ h4 _ _ _ _ AR S3 Qi
   .exact k _ _ h4 _ _ _ _ (AR.trans (Ext.al S3 (bT hp))) (S3.al (bT hp)) (wy S3.sub hp (Gx g2 _ _))
  .calc h4.elim⟩⟩⟩
def wV:D->(D->Prop)->Prop
 |.lst ds,K=>K (.lst ds.reverse)
 |.tup ds,K=>K (.tup ds.reverse)
 |_,_=>False
theorem Qj{e:B}{f:WE}{j1}{pos p2 p3 p4:y}(he:JE X e (tD f)):JE X (.Subscript e (.Slice Z Z (U (.UnaryOp .USub (.Constant (.int 1) j1 p3) p4)) p2) pos) (tD (d1 f wV)) :=
 (Qd he).weak fun σ H Q h0_=>el7 h0_ λF ad δ K S q k =>⟨F,ad,δ,_,S,q,λx δ1 h1 v F1 aI H1 E1 S1 V1=>by
  let⟨d,h4,rd⟩:=iy S1 V1 h1;unfold wV at h4;split at h4
  .rename_i ds
   let⟨a,vs,rfl,g1,g2⟩:=rd;calc .inl ⟨a,vs,Y,aX.of g1,λp hp=>?_⟩;exact k _ _ h4 _ _ _ _ (E1.trans (Ext.al S1 (bT hp))) (S1.al (bT hp)) (pQ S1.sub hp (Aw g2))
  .rename_i ds
   let cw:Is F1 (.tup ds) v:=rd;erw[Is] at cw;let⟨a,vs,rfl,g1,g2⟩:=cw;calc .inr ⟨a,vs,Y,bo.of (S1.sub _ _ g1),λp hp=>?_⟩;exact k _ _ h4 _ _ _ _ (E1.trans (Ext.al S1 (bT hp))) (S1.al (bT hp)) (wy S1.sub hp (Aw g2))
  .calc h4.elim⟩
def j7:D->D->(D->Prop)->Prop
 |.bl a,.bl b,K=>K (.bl (a==b))
 |d,e,K=>j4 d e K
theorem Hi:eE X (compareOp .Is) j7:=by
 ext pins s σ H x y v u Q I rx ry ⟨F,d,e,K,sub,rd,re,q,md⟩;unfold j7 at q;split at q
 .rename_i a b
  exact Qf pins s σ H x y v u Q I rx ry ⟨a,b,rd,re,md _ _ _ q (λ_ _ e=>e) Y⟩
 .calc OW pins s σ H x y v u Q I rx ry ⟨F,_,_,K,sub,rd,re,q,md⟩
end
end L2
namespace LJ
open PySem L2
variable[ay]
theorem kU{H:Hp}{a:O}{o:HO}(h:H a=Z):ar H (upd H a o):=λb u e=>by rw[aC (bD e h)];calc e
structure wW(H:Hp)(p c:O)(at_ z:Int):Prop where
 lst:H p=U (.lst [.ref c,.int at_,.int z])
 cells:∃ns:-Int,H c=U (.lst (ns.map V.int))/\ns.length<=63
 pos:0<=at_
theorem wW.ne{H:Hp}{p c:O}{k z:Int}(P:wW H p c k z):c≠p:=by
 let⟨ns,h,_⟩:=P.cells;ext e;subst e;rw[P.lst] at h;let h':=Xt h;injection h' with qR
 cases ns with
 |nil=>cases qR
 |cons n r=>injection qR with h1 _;cases h1
theorem Qk{ns:-Int}{k:Int}(h0:0<=k)(h1:k<(ns.length:Int)):∃n,d3 (ns.map V.int) k=U (.int n):=by
 let⟨i,rfl⟩:∃i:Nat,k=i:=⟨k.toNat,⋯⟩;let hi:i<ns.length:=by symm
 calc⟨ns[i],jh ?_⟩;rw[W5,pj hi];rfl
def Hj(K:tu):Sp:=λvs H Q _=>∃(a:O)(ns:-Int),vs=[.ref a]/\aX K H a (ns.map V.int)/\ns.length<=63/\∀(p c:O)(H':Hp),ar H H'->H p=Z->wW H' p c 0 0->Q (.ref p) H'
def wX(K:tu):Sp:=λvs H Q _=>∃(a:O)(ns:-Int),vs=[.ref a]/\aX K H a (ns.map V.int)/\ns.length<=63/\ay.ok H/\∀H',Q (.bl θ) H'
theorem AS(ns:-Int)(lo hi:Option Int):cq (ns.map V.int) lo hi=((ns.drop (HT.aP ns.length 0 lo)).take (HT.aP ns.length ns.length hi-HT.aP ns.length 0 lo)).map V.int:=by
 unfold cq;rw[qJ,q2C,q2D]
theorem Ql{H:Hp}{p c a:O}{n:Nat}(hT:ay.ok H)(N:wW H p c 0 0):∃(F:Hp)(ns:-Int),ns.length<=63/\SR F [p] ⟨Z::U (.o 0)::W7 n Z,[U (.lst [.lst (ns.map D.int),.int 0,.int 0])]⟩ (U (.ref a)::U (.ref p)::W7 n Z) H:=by
 let⟨ns,hc,hn⟩:=N.cells;let ne:=N.ne
 refine⟨upd (λ_=>Z) c (.lst (ns.map V.int)),ns,hn,⟨λb o e=>?_,λb ⟨k,ov,e1,e2⟩=>?_,Y,λk l a ov ow e1 e2 _ _=>?_,λk ov e=>?_,λi x e=>?_,by simp,hT,λb hb=>by
  let⟨ps,q⟩:=ay.tb hT hb
  rw[aC λz=>by subst z;rw[hc] at q;cases q]⟩⟩
 .by_cases z:b=c
  .subst z;rw[aY] at e;cases e;exact hc
  .rw[aC z] at e;cases e
 .cases k with
  |zero=>cases(show U p=U b by simpa using e1);rw[aC (YV ne)]
  |succ k=>simp at e1
 .cases k with
  |zero =>
   cases l with
   |zero=>rfl
   |succ l=>simp at e2
  |succ k=>simp at e1
 .cases k with
  |zero =>
   cases(show OV.lst [.lst (ns.map D.int),.int 0,.int 0]=ov by simpa using e)
   calc⟨p,_,Y,N.lst,_,Y,?_⟩;calc .cons ?_ (.cons Y (.cons Y .nil));erw[Is];exact⟨c,_,Y,aY,uq⟩
  |succ k=>simp at e
 .cases i with
  |zero=>simp at e
  |succ i =>
   cases i with
   |zero =>
    cases(show DV.o 0=x by simpa using e)
    exact⟨_,Y,p,Y,Y⟩
   |succ i =>
    exfalso;let e:(W7 n (Z:Option DV))[i]?=U (U x):=by simpa using e
    rw[Zo] at e;split at e<;>cases e
theorem Qm{B:WS}{F:Hp}{ad:-O}{δ:aw}{σ:St}{H:Hp}{Q:VK}(S:SR F ad δ σ H)(h:B ⟨λ_=>False,λx _=>x=.p (.bl θ),λ_=>False,λ_=>False⟩ δ)(q:∀H',Q (.bl θ) H'):b8 B {nx:=λ_ H'=>Q .non H',rt:=Q} σ H :=
 ⟨F,ad,δ,_,S,h,⟨fun δ' h=>h.elim,fun δ' h=>h.elim,fun δ' h=>h.elim,λx δ' h v F' au σ' H' E' S' V=>by
  let h:x=.p (.bl θ):=h;subst h;let V:v=.bl θ:=V;subst V
  calc q H',trivial⟩⟩
end LJ
namespace L2
open PySem PySem.Spec PyProof.Rows
section
variable{X:Cx}{pins:aq}{σ:St}{H:Hp}{s:L}{h':I}
noncomputable def Qn(c:O)(q:R):HO:=.ext λh=>∃o vs tq,h.get? c=U o/\o.data=.fields vs/\vs[1]?=U (.str q tq)
end
end L2
namespace L2
open PySem PySem.Spec PyProof.Rows PySem.W
section
variable{X:Cx}{pins:aq}{σ:St}{H:Hp}{s:L}{params:Arguments}{body:B}{scope:u}{pos:y}{Qo:-(R×O)}{cc T:O}{ps:Array J}{E:aM}{Q:aM}
def d_(H:Hp)(T:O)(pos:y)(qual:R):Prop:=∃ps,H T=U (.tbl ps)/\TriplesOk ps.toList/\(codeAmong pos ps.toList=Z\/∃c,codeAmong pos ps.toList=U (.ref c)/\H c=U (Qn c qual))
end
section
variable{X:Cx}{pins:aq}{σ:St}{H:Hp}{s:L}{params:Arguments}{body:B}{scope:Δ}{cl:-(R×O)}{E:aM}{Q:VK}{name qual x:R}{f c:O}{pm:J}{A:q}{v:V}{u:J}{Nb:-R}{cp:-(Option Nat)}{t:TE}
end
section
variable{prog:n}{w:g}{A:q}{E:aM}{s:L}{Q:Bool->L->Prop}
end
section
variable{X:Cx}{pins:aq}{σ:St}{H:Hp}{s:L}{A:q}{E:aM}{a:O}{vs:-J}{f:J}
end
section
variable{prog:n}{w:g}{A:q}{E:aM}{s:L}
end
section
variable{X:Cx}{pins:aq}{σ:St}{H:Hp}{s:L}{E:aM}
end
structure oq where
 T:O
 pos:y
 qual:R
theorem d_.same{H H':Hp}{T:O}{pos:y}{q:R}(h:d_ H T pos q)(s:ar H H'):d_ H' T pos q:=by
 let⟨ps,e,t,c⟩:=h;calc⟨ps,s _ _ e,t,c.imp id λ⟨c,e1,e2⟩↦⟨c,e1,s _ _ e2⟩⟩
theorem d_.keep{H H':Hp}{T T':O}{pos:y}{q:R}(h:d_ H T pos q)(ne:T≠T')(hT:∃ps,H T'=U (.tbl ps))(s:∀b o,H b=U o->b≠T'->H' b=U o):d_ H' T pos q:=by
 let⟨ps,e,t,c⟩:=h;calc⟨ps,s _ _ e ne,t,c.imp id λ⟨c,e1,e2⟩=>⟨c,e1,s _ _ e2 λz=>?_⟩⟩;let⟨qs,hT⟩:=hT;rw[z,hT] at e2;cases e2
theorem d_.put{H:Hp}{T a:O}{pos:y}{q:R}{o o':HO}(h:d_ H T pos q)(ha:H a=U o)(hk:(∃vs,o=.lst vs)\/(∃ws,o=.dK ws)\/∃ws,o=.dT ws):d_ (upd H a o') T pos q:=by
 let⟨ps,e,t,c⟩:=h
 let ne:∀{b u},H b=U u->(∀vs,u≠.lst vs)->(∀ws,u≠.dK ws)->(∀ws,u≠.dT ws)->b≠a:=λ{b u} e n1 n2 n3 z=>by
  subst z;rw[ha] at e;cases e;rcases hk with⟨_,z⟩|⟨_,z⟩|⟨_,z⟩
  .exact n1 _ z
  .exact n2 _ z
  .exact n3 _ z
 calc⟨ps,by rw[aC (ne e (λ_ z=>by cases z) (λ_ z=>by cases z) λ_ z=>by cases z)];calc e,t,c.imp id λ⟨c,e1,e2⟩=>⟨c,e1,?_⟩⟩;rw[aC (ne e2 (λ_ z=>by cases z) (λ_ z=>by cases z) λ_ z=>by cases z)];exact e2
@[reducible] noncomputable def mw (ls:-oq):ay where
 ad:=ls.map (·.T)
 ok:=λH=>∀l∈ls,d_ H l.T l.pos l.qual
 same:=λh s l hl=>(h l hl).same s
 put:=λh ha hk l hl=>(h l hl).put ha hk
 tb:=λh ha=>by
  let⟨l,hl,rfl⟩:=Xh.mp ha;let⟨ps,e,_⟩:=h l hl;calc⟨ps,e⟩
variable[ay]
structure Hk(T:O)(pos:y)(q:R):Prop where
 mem:T∈ay.ad
 get:∀H:Hp,ay.ok H->d_ H T pos q
 put:∀H H':Hp,ay.ok H->d_ H' T pos q->(∀b o,H b=U o->b≠T->H' b=U o)->ay.ok H'
omit [ay] in
theorem Qp {ls:-oq} {l:oq} (hl:l∈ls) (nd:∀a∈ls,∀b∈ls,a.T=b.T->a=b):@Hk (mw ls) l.T l.pos l.qual:=by
 letI:ay:=mw ls;refine⟨List.mem_map_of_mem hl,λH h=>h l hl,λH H' h t k l' gA=>?_⟩
 by_cases z:l'.T=l.T
 .rw[nd _ gA _ hl z];exact t
 .let⟨ps,e,_⟩:=h l hl
  calc(h l' gA).keep z ⟨ps,e⟩ k
section
variable{F H H':Hp}{ad:-O}{δ:aw}{σ:St}
theorem Ext.Qq(S:SR F ad δ σ H)(k:∀b o,H b=U o->b∉ay.ad->H' b=U o)(tk:ay.ok H'):Ext F ad δ.mu H (Nw F H H') ad δ.mu H' where
 same:=Nw.same S.sub
 new:=λa o e=>by
  unfold Nw at e
  cases q:H a with
  |none=>exact .inr (.inl Y)
  |some u=>rw[q] at e;exact .inl e
 keep:=λa o e _ t=>k a o e t
 pre:=λ_ _ e=>e
 bN:=λ_ l=>.inl l
 gx:=λa o e=>by
  by_cases t:a∈ay.ad
  .let⟨ps,q⟩:=ay.tb tk t
   exact⟨_,q⟩
  .calc⟨o,k a o e t⟩
end
section
variable{X:Cx}{params:Arguments}{body:B}{scope:u}{uS:y}{x:R}{Nb:-R}{cp:-(Option Nat)}{fb:WE}{T:O}
end
structure Qr(mg:R->Option J)(base:I)(fd:FuncData)(T:O)(pos:y)(q:R):Prop where
 code:∃cc,fd.code=.ref cc/\CodeHd base cc T
 ng:mainGlobals≠T
 blt:base.BuiltinsAt mg T
 tbl:Hk T pos q
section
variable{X:Cx}{params:Arguments}{body a e:B}{scope:u}{uS p1 p2 q1 q2 sN:y}{x:R}{Nb:-R}{cp:-(Option Nat)}{fb f:WE}{fa:WA}{T:O}
end
end L2
set_option maxHeartbeats 8000000
namespace LJ
open PySem L2 PySem.Spec PySem.W PyProof.Rows
structure Ev where
 P:n
 w:g
 K:tu
 mg:R->Option J
 base:I
section
variable[ay]
structure Fx(V:Ev)(k:Nat)(x:R)(ps:-R)(n:Nat)(G:GD):Prop where
 ex:∃f fd,Fn V.P V.w V.K V.mg V.base k x ps (jZ G n) f fd
def Dx(V:Ev)(x:R)(st:o):Prop:=∃f fd,V.mg x=U (.ref f)/\gb V.K x x st f fd
def Hl(V:Ev)(x:R)(st:o)(T:O)(pos:y)(q:R):Prop:=∃f fd,(V.mg x=U (.ref f)/\gb V.K x x st f fd)/\Qr V.mg V.base fd T pos q
def Ct(V:Ev)(x:R)(i:Int):Prop:=∃u,V.mg x=U u/\RelV (.int i) u
section
variable{X:Cx}{x:R}{ps:-R}{G:GD}{e:B}{es:-B}{fa:WA}{p pos:y}{j k n:Nat}
theorem fX(F:Fx ⟨X.prog,X.w,X.K,X.mg,X.base⟩ j x ps n G)(hr:aZ k X.A)(ha:JA X (e::es) (bH fa))(hj:q1J j k=θ:=by rfl)(hg:Gl X x:=by rfl)(cn:bf x:=by decide)(he:cj X e es:=by rfl)(bV:cR X pos es:=by rfl):
  JE X (.Call (.Name x p) (e::es) [] pos) (tD (aj n G fa)):=let⟨_,_,F⟩:=F.ex;Oz F.ok (hr.mono (Yh hj)) hg F.pC F.kp F.bd ha cn he bV
theorem Qs(F:Fx ⟨X.prog,X.w,X.K,X.mg,X.base⟩ j x ps n G)(hr:aZ k X.A)(ha:JA X (e::es) (bH fa))(hj:q1J j k=θ:=by rfl)(hg:Gl X x:=by rfl)(cn:bf x:=by decide)(he:cj X e es:=by rfl)(bV:cR X pos es:=by rfl):
  JE X (.Call (.Name x p) (e::es) [] pos) (tD (uh n G fa)):=let⟨_,_,F⟩:=F.ex;OA F.ok (hr.mono (Yh hj)) hg F.pC F.kp F.bd ha cn he bV
theorem Qt{i:Int}(C:Ct ⟨X.prog,X.w,X.K,X.mg,X.base⟩ x i)(hg:Gl X x:=by rfl)(hd:bf x:=by decide):JE X (.Name x pos) (tD (dC (.int i))):=let⟨_,a,b⟩:=C;N9 hg a b hd
end
noncomputable def Qu:NameKind->Bool
 |.local=>θ
 |.cell=>θ
 |_=>ι
noncomputable def Qv:NameKind->Bool
 |.free=>ι
 |_=>θ
noncomputable def Qw:ScopeKind->Bool
 |.function=>θ
 |_=>ι
noncomputable def wY(N P:-R)(sc:u):Bool:=Qw sc.kind && !sc.isCoroutine && !sc.isGenerator&&S N.Nodup&&S (N.take ↑P=P)&&(P.all λx=>match sc.names.lookup x with
 |some k=>Qu k
 |none=>ι)&&sc.names.all λy=>Qv y.2
theorem fY{N P:-R}{sc:u}(h:wY N P sc=θ):kJ N P sc:=by
 unfold wY at h;erw[W9,q0u,YO,XN] at h;let⟨⟨⟨⟨⟨⟨h1,h2⟩,h3⟩,h4⟩,h5⟩,h6⟩,h7⟩:=h;refine⟨?_,h2,h3,h4,h5,λx hx=>?_,λy hy z=>?_⟩
 .cases q:sc.kind<;>rw[q] at h1<;>first|rfl|cases h1
 .let:=h6 x hx
  split at this
  .rename_i k e
   rw[e];cases k<;>first|exact .inl Y|exact .inr Y|cases this
  .cases this
 .let:=h7 y hy
  rw[z] at this;cases this
def g7(x:R)(st:o)(ps:-R):Prop:=∀(kV doc pm:J)(an:Option O)(aT ct:J)(us:-J),↑us=↑ps->bindArgs (YL x x (kN st) (d7 st) (cD st) .none kV doc pm an aT ct) ⟨us,[]⟩=pure (ps.zip us)
section
theorem Hm{us:-J}(h:↑us=1):∃a,us=[a]:=q1K.mp h
theorem AU{us:-J}(h:↑us=2):∃a b,us=[a,b]:=by
 cases us with
 |nil=>cases h
 |cons a r=>let⟨b,rfl⟩:=Hm (ZC h);calc⟨a,b,Y⟩
theorem Qx{us:-J}(h:↑us=3):∃a b c,us=[a,b,c]:=by
 cases us with
 |nil=>cases h
 |cons a r=>let⟨b,c,rfl⟩:=AU (ZC h);calc⟨a,b,c,Y⟩
theorem mx{x:R}{st:o}{ps:-R}(h:∀(kV doc pm:J) (an:Option O) (aT ct a:J),bindArgs (YL x x (kN st) (d7 st) (cD st) .none kV doc pm an aT ct) ⟨[a],[]⟩=pure (ps.zip [a]):=by intros;rfl)(hl:↑ps=1:=by rfl):g7 x st ps:=λkV doc pm an aT ct us hu=>by
 let⟨a,rfl⟩:=Hm (hu.trans hl);calc h kV doc pm an aT ct a
theorem g8{x:R}{st:o}{ps:-R}(h:∀(kV doc pm:J) (an:Option O) (aT ct a b:J),bindArgs (YL x x (kN st) (d7 st) (cD st) .none kV doc pm an aT ct) ⟨[a,b],[]⟩=pure (ps.zip [a,b]):=by intros;rfl)(hl:↑ps=2:=by rfl):g7 x st ps:=λkV doc pm an aT ct us hu=>by
 let⟨a,b,rfl⟩:=AU (hu.trans hl);calc h kV doc pm an aT ct a b
theorem kW{x:R}{st:o}{ps:-R}(h:∀(kV doc pm:J) (an:Option O) (aT ct a b c:J),bindArgs (YL x x (kN st) (d7 st) (cD st) .none kV doc pm an aT ct) ⟨[a,b,c],[]⟩=pure (ps.zip [a,b,c]):=by intros;rfl)(hl:↑ps=3:=by rfl):g7 x st ps:=λkV doc pm an aT ct us hu=>by
 let⟨a,b,c,rfl⟩:=Qx (hu.trans hl);calc h kV doc pm an aT ct a b c
variable{V:Ev}{x:R}{st:o}{N ps:-R}{k:Nat}{G:GD}
theorem eg(D:Dx V x st)(bd:g7 x st ps)(h:∀{aT:J} {A:q} {outer:-t} {s:L} {H:Hp} {E:XK} {f:O},aZ k (A.deeper (envOfC x (cD st) ⇑s f aT))->N.Nodup->(A.deeper (envOfC x (cD st) ⇑s f aT)).units+64<cLine →
   ∃B:WS,bR (aQ fG V.P V.w V.K V.mg V.base N x (cD st) f aT A outer s H E).nv (d7 st) (b8 B)/\∀ys ovs K',↑ys=↑ps->G ys ovs K'->B (gN ↑ovs K') ⟨ys.map U++W7 (↑N-↑ps) Z,ovs.map U⟩)(sc:wY N ps (cD st)=θ:=by decide +kernel):Fx V (k+1) x ps ↑ps G :=
 let⟨f,fd,a,F⟩:=D
 ⟨f,fd,F.Ou (fY sc) λaT A outer s H E hr=>h hr (fY sc).nd hr.units,a,F.kp,F.binds bd⟩
end
end
section
variable{K:tu}{h:I}{mg:R->Option J}
def Dk(K:tu)(x:R)(st:o):Prop:=∃f fd,XA K mainGlobals x=U (U (.ref f))/\gb K x x st f fd
inductive fZ (K:tu):-(R×o)->Prop
 |nil:fZ K []
 |cons {x st r}:Dk K x st->fZ K r->fZ K ((x,st)::r)
theorem AV{x:R}{st:o}{r:-(R×o)}{f:O}{od an:Option O}{sl:Array (Option J)}{oc kV dc pm cd ct:J}(a:XA K mainGlobals x=U (U (.ref f)))(l:K.lookup f=U ⟨oc,od,.func (YL x x (kN st) (d7 st) (cD st) .none kV dc pm an cd ct),sl⟩)(q:q0n K cd x=θ)(k:XZ K (.ref f)=θ)(h:fZ K r):fZ K ((x,st)::r) :=
 .cons ⟨f,_,a,ED l q k⟩ h
theorem fZ.at{ds:-(R×o)}(h:fZ K ds)(i:Nat){x:R}{st:o}(e:ds[i]?=U (x,st)):Dk K x st:=by
 induction h generalizing i with
 |nil=>cases e
 |cons d _ ih=>cases i with
  |zero=>cases e;exact d
  |succ i=>calc ih i e
def wZ(K:tu)(x:R)(st:o)(T:O):Prop:=∃f fd,(XA K mainGlobals x=U (U (.ref f))/\gb K x x st f fd)/\∃cc,fd.code=.ref cc/\PySem.W.codeHdIn K cc T=θ
inductive g9 (K:tu):-(R×o×O)->Prop
 |nil:g9 K []
 |cons {x st T r}:wZ K x st T->g9 K r->g9 K ((x,st,T)::r)
theorem g9.at{ds:-(R×o×O)}(h:g9 K ds)(i:Nat){x:R}{st:o}{T:O}(e:ds[i]?=U (x,st,T)):wZ K x st T:=by
 induction h generalizing i with
 |nil=>cases e
 |cons d _ ih=>cases i with
  |zero=>cases e;exact d
  |succ i=>calc ih i e
theorem Qy{x:R}{r:-R}(a:XA K mainGlobals x=U Z)(h:∀y∈r,XA K mainGlobals y=U Z):∀y∈x::r,XA K mainGlobals y=U Z:=λy hy=>by
 rcases Mt.mp hy with rfl|hy
 .exact a
 .calc h y hy
theorem Qz{ls:-oq}(nd:(ls.map (·.T)).Nodup):∀{a b:oq},a∈ls->b∈ls->a.T=b.T->a=b:=by
 induction ls with
 |nil=>ext a b ha;exact nomatch ha
 |cons c r ih =>
  ext a b ha hb e;rw[Xl,ZD] at nd;rcases Mt.mp ha with rfl|ha'<;>rcases Mt.mp hb with rfl|hb'
  .rfl
  .exact absurd (Xh.mpr ⟨b,hb',e.symm⟩) nd.1
  .exact absurd (Xh.mpr ⟨a,ha',e⟩) nd.1
  .calc ih nd.2 ha' hb' e
theorem Dk.v{P:n}{w:g}{base:I}{x:R}{st:o}(d:Dk K x st)(X:K.In h)(G:h.Ns mainGlobals mg):Dx ⟨P,w,K,mg,base⟩ x st :=
 let⟨f,fd,a,F⟩:=d
 ⟨f,fd,XB X G a,F⟩
theorem wZ.v{P:n}{w:g}{base:I}{x:R}{st:o}{ls:-oq}{T:O}{lp:y}{q:R}(d:wZ K x st T)(X:K.In h)(G:h.Ns mainGlobals mg)(KB:K.In base)(hB:∀t∈ls,base.BuiltinsAt mg t.T)(nd:(ls.map (·.T)).Nodup)(ng:∀t∈ls,mainGlobals≠t.T)(hl:⟨T,lp,q⟩∈ls):@Hl (mw ls) ⟨P,w,K,mg,base⟩ x st T lp q :=
 let⟨f,fd,⟨a,F⟩,cc,e1,e2⟩:=d
 letI:ay:=mw ls
 ⟨f,fd,⟨XB X G a,F⟩,⟨cc,e1,PySem.W.codeHd_of_K KB e2⟩,ng _ hl,hB _ hl,Qp hl λa ha b hb e=>Qz nd ha hb e⟩
def Ck(K:tu)(x:R)(i:Int):Prop:=∃u,XA K mainGlobals x=U (U u)/\RelV (.int i) u
theorem Ck.v{P:n}{w:g}{base:I}{x:R}{i:Int}(d:Ck K x i)(X:K.In h)(G:h.Ns mainGlobals mg):Ct ⟨P,w,K,mg,base⟩ x i :=
 let⟨u,a,r⟩:=d
 ⟨u,XB X G a,r⟩
noncomputable def AW:-R:=["len", "range", "list", "tuple", "set", "sorted", "min", "max", "sum", "all", "any", "enumerate", "zip", "isinstance", "int", "bool", "str", "repr"]
theorem QA(X:K.In h)(G:h.Ns mainGlobals mg)(N:∀x∈AW,XA K mainGlobals x=U Z):BT mg :=
 have n:∀i x,AW[i]?=U x->mg x=Z:=λi x e=>q2S X G (N x (Xu e))
 ⟨n 0 _ Y,n 1 _ Y,n 2 _ Y,n 3 _ Y,n 4 _ Y,n 5 _ Y,n 6 _ Y,n 7 _ Y,n 8 _ Y,n 9 _ Y,n 10 _ Y,n 11 _ Y,n 12 _ Y,n 13 _ Y,n 14 _ Y,n 15 _ Y,n 16 _ Y,n 17 _ Y⟩
end
end LJ
namespace L2
open PySem PySem.Spec PyProof.Rows
def j8(h:I)(a C:O)(dx T:Option O)(fl:J):Prop :=
 ∃vs sl,h.get? a=U ⟨.ref C,dx,.fields vs,sl⟩/\vs[1]?=U (T.elim Yr Xj)/\∀t,T=U t->t≠a/\∃oT ts,h.get? t=U oT/\oT.data=.fields ts/\ts[3]?=U fl
structure j9(fs:-O)(a:O)(T:Option O)(h h':I):Prop where
 keep:∀b o,b≠a->U b≠T->b∉fs->h.get? b=U o->h'.get? b=U o
 slot:∀b o,b≠a->U b≠T->h.get? b=U o->∃sl,h'.get? b=U {o with slots:=sl}
section
variable{M:Model}{A:q}{E:aM}{s:ο}{env:t}{outer:-t}{base:I}{L a C:O}{dx T:Option O}{Q:Unit->ο->Prop}
theorem Hn{head:J}{hn:Bool}{vs:Array J}{sl:Array (Option J)}(jj:A.frames=U (env::outer))(hl:s.heap.FunFrames base (env::outer))(hf:env.frame=U L)
  (he:s.heap.get? a=U ⟨.ref C,dx,.fields vs,sl⟩) (hsz:1<vs.size)
  (h:∀h' T',j8 h' a C dx (U T') (rawInt L)->s.heap.get? T'=Z->j9 (dM (env::outer)) a Z s.heap h'->Q () {s with heap:=h'}) :
  G M A (do let x <- frameOf env;let pl <- entryPlaceOf L hn;let b <- q2r head x .none (rawInt L) .none pl;setField (.ref a) 1 b) Q E s:=by
 let na:a∉(env::outer).filterMap (·.frame):=λhm=>by
  let⟨_,o,ho,nf⟩:=hl.mem hm;rw[he] at ho;cases ho;exact nf vs Y
 calc lK (wpAny_frameOf_fun jj hl hf λh1 e1=>?_);calc lK (wpAny_entryPlaceOf λpl bV=>?_);unfold q2r newFields;calc lK (X9 ?_ (bV.sizeOk5 _ _ _ _ _));let AX:=(e1.2.1 a na).trans he;calc q06 (pf _ AX) Y hsz ?_;let nT:h1.objs.size≠a:=Zv (EC AX)
 let keep:∀b o,b≠a->h1.get? b=U o->∀ob f,((h1.push ob).update a f).get? b=U o:=λb o n e ob f=>by
  rw[YN _ _ (YV n)];exact pf _ e
 refine h _ h1.objs.size ⟨_,_,Yg _ (pf _ AX) Y,?_,λt e=>?_⟩ ?_ ⟨λb o n _ nf e=>?_,λb o n _ e=>?_⟩
 .show (vs.setIfInBounds 1 (Xj h1.objs.size))[1]?=_
  simp[hsz]
 .cases e
  refine⟨nT,_,_,(YN _ _ (YV nT)).trans (My h1 Y),Y,?_⟩
  first|(simp;done)|(rcases bV with rfl|⟨_,_,_,_,_,_,_,rfl⟩<;>simp)
 .rw[ZR]
  rw[e1.1];exact vQ _
 .exact keep b o n ((e1.2.1 b nf).trans e) _ _
 .let⟨lA,e'⟩:=e1.2.2 b o e
  calc⟨lA,keep b _ n e' _ _⟩
theorem AY{t:O}{fl:J}(f:j8 s.heap a C dx (U t) fl)(h:∀h',j8 h' a C dx (U t) .none->j9 [] a (U t) s.heap h'->Q () {s with heap:=h'}):
  G M A (setFlight (.ref a) Z) Q E s:=by
 let⟨vs,sl,ea,e1,r⟩:=f;let⟨n,oT,ts,et,ed,e3⟩:=r t Y;let h3:=(XQ.mp e3).1;let o:∀b,b≠t->(s.heap.update t (q4L (·.setIfInBounds 3 .none))).get? b=s.heap.get? b:=λb nb=>YN _ _ (YV nb);refine wpAny_setFlight_none ea Y e1 et ed h3 (h _ ⟨vs,sl,(o a (YV n)).trans ea,e1,λt' e=>?_⟩ ⟨λb u _ nb _ e=>?_,λb u _ nb e=>⟨u.slots,?_⟩⟩)
 .cases e
  exact⟨n,_,_,Yg _ et (q0y (Zz ed _)),Zz ed _,by simp[h3]⟩
 .exact (o b λz=>nb (by rw[z])).trans e
 .calc (o b λz=>nb (by rw[z])).trans e
theorem Ho(jj:A.frames=U (env::outer))(hl:s.heap.FunFrames base (env::outer))(hf:env.frame=U L)(f:j8 s.heap a C dx T .none)
  (h:∀h' T',j8 h' a C dx (U T') (rawInt L)->s.heap.get? T'=Z->j9 (dM (env::outer)) a T s.heap h'->Q () {s with heap:=h'}):G M A (noteFrame (.ref a) env) Q E s:=by
 let⟨vs,sl,ea,e1,r⟩:=f;let hz:=(XQ.mp e1).1;unfold noteFrame;erw[hf];refine lK (X0 ea Y e1 ?_)
 cases T with
 |none =>
  rw[show(Z:Option O).elim Yr Xj=Yr from Y,VR (by decide)];exact Hn jj hl hf ea hz h
 |some t =>
  let⟨n,oT,ts,et,ed,e3⟩:=r t Y;let h3:=(XQ.mp e3).1;rw[show(U t).elim Yr Xj=Xj t from Y,Xa (show(Xj t != Yr)=θ from by simp)];calc lK (X0 et ed e3 ?_);rw[VR (show ¬ ((Yr==rawInt L)=θ) from by simp[rawInt])];calc lK (q06 et ed h3 ?_);let o:∀b,b≠t->(s.heap.update t (q4L (·.setIfInBounds 3 Yr))).get? b=s.heap.get? b:=λb nb=>YN _ _ (YV nb);refine Hn jj (hl.of_keeps λb u e nf=>⟨u,(o b λz=>?_).trans e,Y⟩) hf ((o a (YV n)).trans ea) hz λh' T' x1 x2 x3=>h h' T' x1 ?_ ⟨λb u na nb nf e=>x3.keep b u na (by simp) nf ((o b λz=>nb (by rw[z])).trans e),λb u na nb e=>x3.slot b u na (by simp) ((o b λz=>nb (by rw[z])).trans e)⟩
  .rw[z,et] at e;cases e
   exact nf ts ed
  .by_cases z:T'=t
   .rw[z,Yg _ et (q0y (Zz ed _))] at x2;cases x2
   .calc (o T' z).symm.trans x2
theorem QB(jj:A.frames=U (env::outer))(hl:s.heap.FunFrames base (env::outer))(hf:env.frame=U L)(f:j8 s.heap a C dx T .none)
  (h:∀h' T',j8 h' a C dx (U T') .none->s.heap.get? T'=Z->j9 (dM (env::outer)) a T s.heap h'->Q () {s with heap:=h'}):G M A (leaving env (.ref a)) Q E s:=by
 unfold leaving;refine lK (Ho jj hl hf f λh1 T' x1 x2 x3=>AY x1 λh2 y1 y2=>h h2 T' y1 x2 ⟨λb o na nb nf e=>?_,λb o na nb e=>?_⟩)
 .exact y2.keep b o na (λz=>by cases z;rw[x2] at e;cases e) (by simp) (x3.keep b o na nb nf e)
 .let⟨sl,e'⟩:=x3.slot b o na nb e
  calc⟨sl,y2.keep b _ na (λz=>by cases z;rw[x2] at e;cases e) (by simp) e'⟩
end
def bU(P:n)(w:g):ik:=λouter H s E e s'=>∃(a C:O)(dx:Option O)(T:O)(H':Hp),e=.ref a/\s'.os=s.os/\AllBare s'.gens/\Un (dM outer) [] H H' s.heap s'.heap/\bY P w H' s'.heap ∧
 j8 s'.heap a C dx (U T) .none/\H' a=Z/\H' T=Z/\s.heap.get? a=Z/\s.heap.get? T=Z/\E (.ref C) dx H'
section
variable{X:Cx}{P:n}{w:g}{K:tu}{mg:R->Option J}{base:I}{N:-R}{qual:R}{scope:u}{f:O}{cd:J}{A:q}{outer:-t}{s:L}{H:Hp}{E:XK}
theorem Un.qa{fs:-O}{H H':Hp}{h g h':I}{a:O}{T:Option O}(u:Un fs [] H H' h g)(na:∀o,h.get? a=U o->H a=Z->False)(nT:∀t,T=U t->h.get? t=Z)(ea:∃o,h'.get? a=U o)(x:j9 fs a T g h'):Un fs [] H H' h h' where
 keep:=λb o e n nf nx=>x.keep b o (λz=>by subst z;calc na o e n) (λz=>by rw[nT b z.symm] at e;cases e) nf (u.keep b o e n nf nx)
 slot:=λb o e n nf nx=>by
  let⟨sl,e1⟩:=u.slot b o e n nf nx;let⟨lA,e2⟩:=x.slot b _ (λz=>by subst z;calc na o e n) (λz=>by rw[nT b z.symm] at e;cases e) e1;exact⟨lA,e2⟩
 free:=u.free
 there:=λb o e nx=>by
  let⟨o1,e1⟩:=u.there b o e nx
  by_cases c:b=a
  .rw[c];exact ea
  .let⟨sl,e2⟩:=x.slot b o1 c (λz=>by rw[nT b z.symm] at e;cases e) e1
   exact⟨_,e2⟩
 cA:=u.cA
 cQ:=u.cQ
 dR:=u.dR
theorem bY.qa{H':Hp}{g h':I}{fs:-O}{a:O}{T:Option O}(k:bY P w H' g)(ha:H' a=Z)(hT:∀t,T=U t->H' t=Z)(hf:∀b∈fs,H' b=Z)(x:j9 fs a T g h'):bY P w H' h':=λb o e=>by
 let ne:∀c,(c=b\/H' c=U (.own b))->H' c≠Z:=λc hc z=>by
  rcases hc with rfl|hc
  .rw[e] at z;cases z
  .rw[hc] at z;cases z
 calc(k b o e).dQ (λc v hc z=>x.keep c v (λq=>ne c hc (by rw[q];calc ha)) (λq=>ne c hc (hT c q.symm)) (λq=>ne c hc (hf c q)) z) (λc z=>z) λc xs z=>z
theorem AZ{h h' base:I}:∀{l:-t},(∀b∈dM l,∀o,h.get? b=U o->∃sl,h'.get? b=U {o with slots:=sl})->h.FunFrames base l->h'.FunFrames base l
 |[],_,_=>trivial
 |env::r,k,⟨hk,⟨L,o,hf,hn,ho,hd⟩,hr⟩=>by
  let hL:L∈dM (env::r):=by unfold dM;rw[YR,hf];exact Mv
  let⟨sl,e⟩:=k L hL o ho;calc⟨hk,⟨L,_,hf,hn,e,hd⟩,AZ (λb hb=>k b (by unfold dM;rw[YR,hf];calc Mu _ hb)) hr⟩
theorem Hq{pins:aq}{σ:St}{H1 H':Hp}{s1 s2:L}{a C:O}{dx T:Option O}(eX:X=aQ (bU P w) P w K mg base N qual scope f cd A outer s H E)(I:Inv X pins σ H1 s1)(os:s2.os=s1.os)(ba:AllBare s2.gens)(u:Un (dM X.stack) [] H1 H' s1.heap s2.heap)(ok:bY P w H' s2.heap)(F:j8 s2.heap a C dx T .none)
  (ha:H' a=Z) (hT:∀t,T=U t->H' t=Z/\s1.heap.get? t=Z) (na:∀o,s1.heap.get? a=U o->H1 a=Z->False) (a0:s.heap.get? a=Z) (q:E (.ref C) dx H'):X.xe (.ref a) s2:=by
 subst eX
 let fr:∀b∈dM (envOfC qual scope ⇑s f cd::outer),H' b=Z:=λb hb=>by
  let⟨_,o,ho,_⟩:=I.stack.mem hb;exact u.free b o ho (I.di b hb) (by simp)
 let fk:s2.heap.FunFrames base (envOfC qual scope ⇑s f cd::outer):=AZ (λb hb o e=>u.any e (I.di b hb) (by simp)) I.stack;calc QB (base:=base) (outer:=outer) I.ok.frames fk Y F λh' T' x1 x2 x3=>?_;let u':=u.qa na (λt e=>(hT t e).2) (by let⟨vs,sl,e,_⟩:=x1;calc⟨_,e⟩) x3;let QC:=ok.qa ha (λt e=>(hT t e).1) fr x3;let J:=I.h_ (s':={s2 with heap:=h'}) os u' QC ba (λb z=>absurd z (by simp))
 let gone:∀b,s2.heap.get? b=Z->s.heap.get? b=Z:=λb e=>by
  cases q:s.heap.get? b with
  |none=>rfl
  |some o =>
   let⟨o1,e1⟩:=I.base.there b o q (by calc Xd);let⟨o2,e2⟩:=u.there b o1 e1 (by simp);rw[e] at e2;cases e2
 refine⟨a,C,dx,T',H',Y,J.os,J.bare,J.base,J.aH,x1,ha,?_,a0,gone T' x2,q⟩
 cases z:H' T' with
 |none=>rfl
 |some o =>
  let⟨ob,e⟩:=E8 (ok T' o z);rw[x2] at e;cases e
theorem QD:jL (bU P w) (aQ (bU P w) P w K mg base N qual scope f cd A outer s H E) E:=λpins σ H1 s1 e s' I h=>by
 let⟨a,C,dx,T,H',rfl,os,ba,u,ok,F,ha,hT,a0,t0,q⟩:=h;refine Hq Y I os ba u ok F ha (λt e=>by cases e;calc⟨hT,t0⟩) (λo e _=>by rw[a0] at e;cases e) ?_ q
 cases z:s.heap.get? a with
 |none=>rfl
 |some o =>
  let⟨o1,e1⟩:=I.base.there a o z (by calc Xd);rw[a0] at e1;cases e1
noncomputable def fB(H:Hp)(a:O):Hp:=λb=>if b=a then Z else H b
theorem rE{H:Hp}{a b:O}(n:b≠a):fB H a b=H b:=VR n
theorem Un.del{fs:-O}{H:Hp}{h:I}{a C:O}{dx:Option O}(e:H a=U (bE a C dx)):Un fs [] H (fB H a) h h where
 keep:=λ_ _ e _ _ _=>e
 slot:=λ_ o e _ _ _=>⟨o.slots,e⟩
 free:=λb o _ n _=>by
  unfold fB;split
  .rfl
  .exact n
 there:=λb o e _=>⟨o,e⟩
 cA:=λb xs q=>by rw[rE (m9 q e (by unfold bE;ext z;cases z))];exact q
 cQ:=λb o xs q=>by rw[rE (m9 q e (by unfold bE;ext z;cases z))];exact q
 dR:=λb ps q=>⟨#[],by rw[rE (m9 q e (by unfold bE;ext z;cases z)),q];simp⟩
theorem bY.del{H:Hp}{h:I}{a C:O}{dx:Option O}(k:bY P w H h)(e:H a=U (bE a C dx)):bY P w (fB H a) h:=λb o q=>by
 let nb:b≠a:=λz=>by unfold fB at q;rw[Xa z] at q;cases q
 rw[rE nb] at q;let own:∀c x,H c=U x->(∀φ,x≠.ext φ)->c≠a:=λc x z n y=>by rw[y,e] at z;cases z;exact n _ Y
 calc(k b o q).dQ (λc v hc z=>z) (λc z=>by rw[rE (own c _ z (by ext φ y;cases y))];calc z) λc xs z=>by rw[rE (own c _ z (by ext φ y;cases y))];calc z
theorem bO.exc{l:-J}(x:bO K l):l.contains (.type "BaseException")=θ:=by
 induction x with
 |base=>decide
 |own _ _ _ ih=>rw[q0c,ih,q1F]
theorem QE{M:Model}{A:Β}{env:Ζ}{E:aM}{s:L}{x:Sem J}{Q:Flow->L->Prop}(hh:A.handled=Z)
  (h:G M A x (λv s1=>∃a C dx jS,v=.ref a/\nP K C jS/\K.In s1.heap/\j8 s1.heap a C dx Z .none/\E (.ref a) s1) E s):G M A (raiseStmt env (U x) Z) Q E s:=by
 unfold raiseStmt;calc lK (YD h (λv s1 h1=>?_) λ_ _ z=>z);let⟨a,C,dx,jS,rfl,m,k,⟨vs,sl,ea,e1,_⟩,hE⟩:=h1;let⟨nm,q,N,bs,bm,dW,sn,sub,ab,col,dd,k0,k1,k2,k3,k5,l,t,_⟩:=m.zD;let hC:=k _ _ l;let hB:(Xj C::bm).contains (.type "BaseException")=θ:=by rw[q0c,t.exc,q1F]
 let⟨hp,g,d,tk,os⟩:=s1
 repeat(first|with_reducible refine ZL ea ?_|with_reducible refine ZL hC ?_|(with_reducible calc q2o hC ?_;rw[hB])|wp_step)
 rw[e1];calc zi ?_;rw[VR (by decide)];calc zi (wpAny_raiseNew_none hh hE)
def QF(K:tu)(H0:Hp)(te:TE)(E:XK):TS:=λ_ σ H=>te σ H λv H1=>∃(a C:O)(dx:Option O)(jS:Option J),v=.ref a/\H1 a=U (bE a C dx)/\nP K C jS/\H0 a=Z/\E (.ref C) dx (fB H1 a)
theorem Hr{e:B}{te:TE}{pos:y}(eX:X=aQ (bU P w) P w K mg base N qual scope f cd A outer s H E)(he:JE X e te):JS X (.Raise (U e) Z pos) (QF X.K X.H₀ te E):=by
 calc⟨?_⟩;ext pins s1 σ H1 D I h;show G _ _ (do standAt pos;raiseStmt X.env (U (do let v <- eval e X.env;standAt pos;pure v)) Z) _ _ _;let hc:X.calm=θ:=by rw[eX];rfl
 calc lK (Z4 (QE (K:=X.K) (I.ok.hd hc) (lK (aS (he pins s1 σ H1 _ I h) λu s2 ⟨v,H2,I2,r,a,C,dx,jS,ev,ea,m,h0,q⟩=>lK (Z4 (zi ?_))))));subst ev;obtain rfl:u=Xj a:=r;let⟨t,et⟩:=E7 (I2.aH a _ ea);let F:j8 s2.heap a C dx Z .none:=⟨_,_,et,Y,λ_ z=>nomatch z⟩;calc⟨a,C,dx,jS,Y,m,I2.cB,F,?_⟩;let eP:X.prog=P:=by rw[eX];rfl
 let ew:X.w=w:=by rw[eX];rfl
 let ok:=I2.aH;rw[eP,ew] at ok;calc Hq eX I2 Y I2.bare (Un.del ea) (ok.del ea) F (Xa Y) (λ_ z=>nomatch z) (λo _ n=>by rw[ea] at n;cases n) ?_ q;let e0:X.s₀=s:=by rw[eX];rfl
 let ex:X.ex=[]:=by rw[eX];rfl
 cases z:s.heap.get? a with
 |none=>rfl
 |some o =>
  let:=I2.base.free a o (by rw[e0];calc z) h0 (by rw[ex];calc Xd);rw[ea] at this;cases this
end
noncomputable def dB(a C:O)(dx:Option O):HO:=.ext λh=>∃vs sl,h.get? a=U ⟨.ref C,dx,.fields vs,sl⟩
theorem QG{P:n}{w:g}{H:Hp}{h:I}{a C:O}{dx:Option O}{vs:Array J}{sl:Array (Option J)}(e:h.get? a=U ⟨.ref C,dx,.fields vs,sl⟩):aD P w H h a (dB a C dx) :=
 ⟨⟨vs,sl,e⟩,⟨_,e⟩,λh1 h2 ⟨QH,lA,e1⟩ k↦⟨QH,lA,k _ e1⟩⟩
theorem Hs{P:n}{w:g}{H:Hp}{h:I}{a C:O}{dx:Option O}(x:aD P w H h a (dB a C dx)):∃vs sl,h.get? a=U ⟨.ref C,dx,.fields vs,sl⟩:=x.1
theorem j9.more{fs:-O}{a t:O}{T:Option O}{h h1 h2:I}(x:j9 fs a T h h1)(n:h.get? t=Z)(y:j9 [] a (U t) h1 h2):j9 fs a T h h2 where
 keep:=λb o na nb nf e=>y.keep b o na (λz=>by cases z;rw[n] at e;cases e) (by simp) (x.keep b o na nb nf e)
 slot:=λb o na nb e=>by
  let⟨sl,e'⟩:=x.slot b o na nb e;calc⟨sl,y.keep b _ na (λz=>by cases z;rw[n] at e;cases e) (by simp) e'⟩
section
variable{X:Cx}{pins gk:aq}{σ:St}{H:Hp}{s:L}{E:aM}
theorem Inv.uT(I:Inv X pins σ H s):Inv {X with pn:=X.pn++pins,xe:=E} [] σ H s :=
 ⟨⟨I.ok.mod,I.ok.kind,I.ok.glob,I.ok.blt,I.ok.above,I.ok.inj,I.ok.has,I.ok.m_,I.ok.hd,I.ok.frames,I.ok.oK,I.ok.sd,I.ok.bs,I.ok.jD,I.ok.gj,I.ok.gT,I.ok.cS,I.ok.kG⟩,I.os,I.bare,I.base,I.loc,I.cell,I.free,I.bw,λp hp=>I.pin p hp⁻¹,I.aH,I.len⟩
theorem Inv.fK(I:Inv {X with pn:=X.pn++pins,xe:=E} gk σ H s):Inv X pins σ H s :=
 ⟨⟨I.ok.mod,I.ok.kind,I.ok.glob,I.ok.blt,I.ok.above,I.ok.inj,I.ok.has,I.ok.m_,I.ok.hd,I.ok.frames,I.ok.oK,I.ok.sd,I.ok.bs,I.ok.jD,I.ok.gj,I.ok.gT,I.ok.cS,I.ok.kG⟩,I.os,I.bare,I.base,I.loc,I.cell,I.free,I.bw,λp hp=>I.pin p (Ya _ hp),I.aH,I.len⟩
theorem Inv.toSub{A:q}(I:Inv X pins σ H s)(e:A.frames=X.A.frames):Inv {X with A:=A,calm:=false,xe:=E} pins σ H s :=
 ⟨⟨I.ok.mod,I.ok.kind,I.ok.glob,I.ok.blt,I.ok.above,I.ok.inj,I.ok.has,I.ok.m_,(λz=>by cases z),e.trans I.ok.frames,I.ok.oK,I.ok.sd,I.ok.bs,I.ok.jD,I.ok.gj,I.ok.gT,I.ok.cS,I.ok.kG⟩,I.os,I.bare,I.base,I.loc,I.cell,I.free,I.bw,I.pin,I.aH,I.len⟩
theorem Inv.uU{A:q}(I:Inv {X with A:=A,calm:=false,xe:=E} pins σ H s)(k:X.Ok):Inv X pins σ H s :=
 ⟨k,I.os,I.bare,I.base,I.loc,I.cell,I.free,I.bw,I.pin,I.aH,I.len⟩
theorem Inv.blank(I:Inv X pins σ H s):Inv X pins (W7 ↑σ Z) H s :=
 ⟨I.ok,I.os,I.bare,I.base,let⟨m,hn,_⟩:=I.loc;⟨m,hn,λi x v _ e _=>by rw[Zo] at e;split at e<;>cases e⟩,I.cell,I.free,I.bw,I.pin,I.aH,by rw[Yu];calc I.len⟩
theorem Inv.locs{σ':St}{h':Α}{m':R->Option J}{t':Nat}(I:Inv X pins σ H s)(hn:h'.Ns X.env.locals m')(hs:ZW X.env.locals s.heap h')
  (hl:∀(i:Nat)(x:R)(v:V),X.N[i]?=U x->σ'[i]?=U (U v)->qv X.env.scope x->∃u,RelV v u/\Look X.env h' m' x u) (len:↑σ'=↑X.N):Inv X pins σ' H {s with heap:=h',toks:=t'}:=by
 let⟨m,⟨oL,_,_,DN,_⟩,_⟩:=id I.loc;let ne:∀b o,X.s₀.heap.get? b=U o->b≠X.env.locals:=λb o e=>Xg (Xk (EC e) I.ok.above);refine⟨I.ok,I.os,I.bare,⟨λb o e n hb hx=>(hs.2 b (ne b o e)).trans (I.base.keep b o e n hb hx),λb o e n hb hx=>?_,I.base.free,λb o e hx=>?_,I.base.cA,I.base.cQ,I.base.dR⟩,⟨m',hn,hl⟩,λy c e=>?_,I.free,I.bw,λp hp=>?_,λb ob e=>?_,len⟩
 .let⟨sl,e1⟩:=I.base.slot b o e n hb hx
  exact⟨sl,(hs.2 b (ne b o e)).trans e1⟩
 .let⟨o',e1⟩:=I.base.there b o e hx
  exact⟨o',(hs.2 b (ne b o e)).trans e1⟩
 .let⟨w',z⟩:=I.cell y c e
  exact⟨w',z.sameBut hs (I.lz y c e)⟩
 .let⟨e,n,nl,nf,d⟩:=I.pin p hp
  exact⟨(hs.2 p.1 nl).trans e,n,nl,nf,d⟩
 .refine (I.aH b ob e).dQ (λc w' hc q=>(hs.2 c ?_).trans q) (λ_ q=>q) λ_ _ q=>q
  ext rfl;rcases hc with rfl|hc
  .rw[I.free] at e;cases e
  .rw[I.free] at hc;cases hc
theorem name_goes{M:Model}{A:q}{E:aM}{Q:Unit->L->Prop}{i:Nat}{n:R}{pos:Ε}(I:Inv X pins σ H s)(nd:X.N.Nodup)(hi:X.N[i]?=U n)(hk:X.env.scope.names.lookup n=U .local)
  (h:∀s',Inv X pins (σ.set i Z) H s'->Q () s'):G M A (do bindName X.env n .none;unbindBehindTheSuite X.env n pos) Q E s:=by
 calc lK (wpAny_bindName (vF (v:=.non) (u:=.none) I nd hi (.inl hk) Y (λs1 I1=>?_) (.inr hk)));let hp:(X.env.scope.kind==.class||(X.env.scope.kind==.module&&X.env.locals != X.env.globals))=ι:=by rw[I.ok.kind];rfl
 let hl:X.env.kindOf n=U .local:=hk;unfold unbindBehindTheSuite;calc q0E ?_;unfold unbindName;calc lK (wpAny_point (lK ?_));unfold deleteName;erw[hl,hp];rw[VR (by decide)];let⟨m,hn,hm⟩:=id I1.loc;let hlen:i<↑σ:=by rw[I.len];exact(ph.mp hi).1
 let⟨u0,r0,l0⟩:=hm i n .non hi (by rw[Xz hlen]) (.inl hk)
 let QI:(m n).isSome=θ:=by
  rcases l0 with⟨_,e⟩|⟨k,_⟩
  .rw[e];rfl
  .rcases k with k|k<;>(rw[hl] at k;cases k)
 calc lK (wpAny_nsDel_keeps hn λh2 v zh dj=>?_);rw[QI];erw[YU,XX,VQ,XY];calc zi (wpAny_point (h _ (I1.locs (t':=s1.toks) zh dj (λj y w e1 e2 e3=>?_) (by rw[Yn];calc I.len))));let nj:j≠i:=λz=>by rw[z,Xz hlen] at e2;cases e2
 rw[XG (YV nj)] at e2;let⟨u,r,l⟩:=hm j y w e1 (by rw[XG (YV nj)];calc e2) e3;calc⟨u,r,?_⟩;rcases l with⟨k,e⟩|⟨k,c,e,z⟩
 .refine .inl ⟨k,?_⟩
  let:y≠n:=λe=>nj (yd nd e1 (e▸hi));simp[this,e]
 .calc .inr ⟨k,c,e,z.sameBut dj (I.lz y c e)⟩
end
section
variable{X:Cx}{body fL:-o}{b0:o}{x n:R}{p1 p2 pos:y}{L:O}{i:Nat}{tb:XK->TS}{th:TS}
def QJ(K:tu)(L:O)(i k:Nat)(th:TS)(D:Ends):XK:=λC dx H'=>∃c,C=.ref c/\q0v K C (.ref L)=U θ ∧
 ∀a,H' a=Z->th {nx:=fun σ H=>D.nx (σ.set i Z) H,rt:=λ_ _=>False} ((W7 k Z).set i (U (.ref a))) (upd H' a (dB a c dx))
def A0(K:tu)(L:O)(i:Nat)(tb:XK->TS)(th:TS):TS:=λD σ H=>tb (QJ K L i ↑σ th D) D σ H
theorem QK(f9:X.stack=X.env::X.outer)(jj:X.env.frame=U X.env.locals)(nd:X.N.Nodup)(hi:X.N[i]?=U n)(hk:X.env.scope.names.lookup n=U .local)(hg:Gl X x)(hm:X.mg x=U (.ref L))(cn:bf x)
  (hb:∀pn xe E,jL (bU X.prog X.w) {X with pn:=pn,xe:=xe} E->bR {X with pn:=pn,xe:=xe} body (tb E)) (hs:∀A xe,bR {X with A:=A,calm:=false,xe:=xe} (b0::fL) th) :
  JS X (.Try body [.ExceptHandler (U (.Name x p1)) (U n) (b0::fL) p2] [] [] pos) (A0 X.K L i tb th):=by
 calc⟨?_⟩;ext pins s σ H D I h;calc wpAny_Try_except ?_;refine YD (hb (X.pn++pins) (λe s1=>G (M X.prog X.w) X.A (noteFrame e X.env) (λ_ s2=>G (M X.prog X.w) X.A (setFlight e Z) (λ_ s3=>G (M X.prog X.w) X.A (handleBy e X.env [.ExceptHandler (U (.Name x p1)) (U n) (b0::fL) p2]) (SP X pins D) X.xe s3) X.xe s2) X.xe s1) _ ?_ [] s σ H D I.uT h) (λf s1 hq=>?_) (λe s1 z=>z)
 .ext gk σ' H1 s1 e s' I1 hx
  let⟨a,C,dx,T,H',rfl,os,ba,u,ok,F,ha,hT,a0,t0,c,ec,em,q⟩:=hx;cases ec
  let hA:X.A.frames=U (X.env::X.outer):=by rw[<-f9];exact I.ok.frames
  let iQ:s1.heap.FunFrames X.base (X.env::X.outer):=by rw[<-f9];exact I1.stack
  let Ht:∀b∈dM (X.env::X.outer),H1 b=Z:=by rw[<-f9];exact I1.di
  let u:Un (dM (X.env::X.outer)) [] H1 H' s1.heap s'.heap:=by rw[<-f9];exact u
  let fk:s'.heap.FunFrames X.base (X.env::X.outer):=AZ (λb hb o e=>u.any e (Ht b hb) (by simp)) iQ
  let fr:∀b∈dM (X.env::X.outer),H' b=Z:=λb hb=>by
   let⟨_,o,ho,_⟩:=iQ.mem hb;exact u.free b o ho (Ht b hb) (by simp)
  let na:∀o,s1.heap.get? a=U o->H1 a=Z->False:=λo e _=>by rw[a0] at e;cases e
  let inv:∀h,j9 (dM (X.env::X.outer)) a (U T) s'.heap h->(∃o,h.get? a=U o)->Inv X pins σ' H' {s' with heap:=h}:=λh x e =>
   Inv.fK (I1.h_ (s':={s' with heap:=h}) os (by show Un (dM X.stack) _ _ _ _ _;rw[f9];calc u.qa na (λt e=>by cases e;calc t0) e x) (ok.qa ha (λt e=>by cases e;calc hT) fr x) ba (λb z=>absurd z (by simp)))
  calc Ho hA fk jj F λh4 T4 x1 x2 x3=>?_;calc AY x1 λh5 y1 y2=>?_;let e5:=x3.more x2 y2;let⟨V_,Wa,Hu,_⟩:=id y1;let J5:=inv h5 e5 ⟨_,Hu⟩;calc wpAny_handleBy_cons (codeAny_handlers_test (sj (X:={X with A:=X.A.mark (U (.ref a)),calm:=false,xe:=λ_ _=>False}) (J5.toSub Y) hg hm ?_ cn)) (by ext q;cases q);let LT:PySem.W.Looks (M X.prog X.w) h5 (typeOf (.ref a)) (.ref C):=(PySem.W.Looks.ld Hu).andThen .now;calc PySem.W.Looks.here (PySem.W.exm_one J5.cB LT em) ?_;show codeAny _ _ _ _ _;calc codeAny_handlers_suite_as ?_;calc AY y1 λh6 z1 z2=>?_;let e6:=e5.more x2 z2
  let⟨Wb,Wc,Hv,_⟩:=id z1;let QL:=ok.qa ha (λt e=>by cases e;calc hT) fr e6;let u6:=u.qa na (λt e=>by cases e;calc t0) ⟨_,Hv⟩ e6;let ne:∀b y,H' b=U y->b≠a:=λb y e z=>by rw[z,ha] at e;cases e
  let J6:Inv X pins (W7 ↑σ Z) (upd H' a (dB a C dx)) {s' with heap:=h6}:=by
   let:=Inv.blank (Inv.fK (I1.h_ (s':={s' with heap:=h6}) (H':=upd H' a (dB a C dx)) os (by
    show Un (dM X.stack) _ _ _ _ _;rw[f9]
    calc⟨u6.keep,u6.slot,λb o e n nx=>by rw[aC (λz=>by rw[z,a0] at e;cases e)];calc u6.free b o e n nx,u6.there,λb xs e=>by rw[aC (ne _ _ (u6.cA b xs e))];calc u6.cA b xs e,λb o xs e=>by rw[aC (ne _ _ (u6.cQ b o xs e))];calc u6.cQ b o xs e,λb ps e=>by let⟨more,e'⟩:=u6.dR b ps e;calc⟨more,by rw[aC (ne _ _ e')];calc e'⟩⟩)
    (λb o e=>by
     by_cases c:b=a
     .subst c;rw[aY] at e;cases e;exact QG Hv
     .rw[aC c] at e
      calc(QL b o e).dQ (λ_ _ _ z=>z) (λc z=>by rw[aC (ne _ _ z)];calc z) λc xs z=>by rw[aC (ne _ _ z)];calc z) ba (λb z=>absurd z (by simp))))
   rwa [show ↑σ'=↑σ from I1.len.trans I.len.symm] at this
  let hl:i<↑(W7 ↑σ (Z:Option V)):=by rw[Yu,I.len];exact(ph.mp hi).1
  calc vF (X:=X) J6 nd hi (.inl hk) (v:=.ref a) Y (λs7 I7=>?_) (.inr hk);refine YD (hs (X.A.mark (U (.ref a))) _ pins s7 _ _ _ (I7.toSub Y) (q a ha)) (λf s8 hf=>?_) (λe s8 z=>z)
  cases f with
  |next =>
   let⟨σ9,H9,I9,q9⟩:=hf;exact name_goes (I9.uU I.ok) nd hi hk λs9 J9=>⟨_,_,J9,q9⟩
  |brk=>let⟨_,_,_,q9⟩:=hf;exact X1 q9
  |cont=>let⟨_,_,_,q9⟩:=hf;exact X1 q9
  |ret v=>let⟨_,_,_,_,_,q9⟩:=hf;exact X1 q9
 .cases f with
  |next =>
   let⟨σ',H',I',q⟩:=hq;exact q0J ⟨σ',H',I'.fK,q⟩
  |brk=>let⟨σ',H',I',q⟩:=hq;exact⟨σ',H',I'.fK,q⟩
  |cont=>let⟨σ',H',I',q⟩:=hq;exact⟨σ',H',I'.fK,q⟩
  |ret u=>let⟨v,σ',H',I',r,q⟩:=hq;calc⟨v,σ',H',I'.fK,r,q⟩
end
section
variable{X:Cx}{pins:aq}{σ:St}{H:Hp}{s:L}{e:B}{ta:TE}{pos:y}
theorem QM{a A2:O}{dx:Option O}{c:J}{b:Bool}{A:q}{E':aM}{Q:aM}(I:Inv X pins σ H s)(ea:H a=U (dB a A2 dx))(cl:bc X.K A2)(hd:∀d,dx=U d->∃fs,H d=U (.xd fs))
  (e:Xe X.K (.ref A2) c=U b) (h:∀tk,Q (.bool b) {s with toks:=tk}):G (M X.prog X.w) A (call (.builtin "isinstance") [.ref a,c]) Q E' s:=by
 let⟨vs,sl,ht⟩:=Hs (I.aH a _ ea);refine Yd (Nf cl) I.cB ?_ e (λz=>nomatch z) h
 cases dx with
 |none=>exact⟨_,Z,ht,Y,Y,trivial⟩
 |some d =>
  let⟨fs,ed⟩:=hd d Y;let⟨mA,hn,_⟩:=(show ∃mA,s.heap.Ns1 d mA/\∀g,eF (fs.lookup g) (mA g) from I.aH d _ ed);let⟨od,ho,_⟩:=yE hn;calc⟨_,U od,ht,Y,Y,ho⟩
theorem QN:f_ X (.builtin "isinstance") (λxs H Q=>∃a C dx y c b,xs=[.ref a,y]/\lO y=U c/\H a=U (dB a C dx)/\bc X.K C/\(∀d,dx=U d->∃fs,H d=U (.xd fs))/\Xe X.K (.ref C) c=U b/\Q (.bl b) H):=by
 ext pins s σ H xs us Q I rv h;let⟨a,C,dx,y,c,b,rfl,hc,ea,cl,hd,e,q⟩:=h;let⟨u,w',rfl,rx,ry⟩:=rv.two;cases rx
 rw[E_ ry hc];calc QM I ea cl hd e λtk=>⟨.bl b,H,I.tok tk,Y,q⟩
def Hw(K:tu)(ta:TE)(f:R):TE:=fun σ H Q=>ta σ H λx H1=>∃a C d fs v,x=.ref a/\H1 a=U (dB a C (U d))/\bc K C/\sL K C f/\H1 d=U (.xd fs)/\fs.lookup f=U v/\Q v H1
theorem QO{fn:R}(he:JE X e ta)(hb:attributeBase e fn X.env (eval e X.env)=eval e X.env):JE X (.Attribute e fn pos) (Hw X.K ta fn):=by
 calc⟨?_⟩;ext pins s σ H Q I h;calc Ly hb (aS (he pins s σ H _ I h) λu s1 ⟨x,H1,I1,rx,a,C,d,fs,v,ex,ea,c,n,ed,l,q⟩=>?_);subst ex;obtain rfl:u=Xj a:=rx;let⟨vs,sl,ht⟩:=Hs (I1.aH a _ ea);let⟨mA,hn,hr⟩:=(show ∃mA,s1.heap.Ns1 d mA/\∀g,eF (fs.lookup g) (mA g) from I1.aH d _ ed);let⟨od,ho,hl⟩:=yE hn;let⟨cd,fE,hm,dW⟩:=c.cd;let QP:q34 s1.heap a ⟨.ref C,U d,.fields vs,sl⟩ C (U od):=⟨ht,Y,Y,ho⟩;let r:=hr fn;rw[l] at r;let⟨u,eu,ru⟩:=r.some_of;calc M3 I1.cB QP c.ga c.gh c.base (PySem.W.findObj_own (by rw[q20,fE];simpa using dW) n Y (by rw[hl,eu])) (Lw ru) ?_;calc⟨v,H1,I1.tok _,ru,q⟩
end
theorem gb.rF{P:n}{w:ω}{K:tu}{mg:R->Option J}{base:I}{x qual:R}{st:o}{f:O}{fd:FuncData}{N ps:-R}{k:Nat}{sp:Sp}(F:gb K x qual st f fd)(S:kJ N ps (cD st))(len:∀vs H Q E,sp vs H Q E->↑vs=↑ps)
  (eI:∀(aT:J)(A:Β)(outer:-Ζ)(s:L)(H:Hp)(vs:-V)(Q:VK)(E:XK),aZ k (A.deeper (envOfC qual (cD st) ⇑s f aT))->sp vs H Q E →
   ∃t,bR (aQ (bU P w) P w K mg base N qual (cD st) f aT A outer s H E) (d7 st) t/\t {nx:=λ_ H'=>Q .non H',rt:=Q} (start N vs) H):bt P w K mg base (bU P w) (k+1) f fd ps sp:=by
 let⟨oc,od,kV,doc,pm,an,aT,ct,lF,rfl,lk,fE⟩:=F.ex;calc Ef lk fE S len λA outer s H vs Q E hr h=>?_;let⟨t,g,q⟩:=eI aT A outer s H vs Q E hr h;calc⟨t,g,q⟩
variable[ay]
structure Kp(H H':Hp):Prop where
 keep:∀a o,H a=U o->a∉ay.ad->H' a=U o
 tab:ay.ok H'
theorem Kp.none{H H':Hp}(x:Kp H H'){a:O}(h:H' a=Z):H a=Z:=by
 cases e:H a with
 |none=>rfl
 |some o =>
  by_cases c:a∈ay.ad
  .let⟨ps,q⟩:=ay.tb x.tab c
   rw[h] at q;cases q
  .rw[x.keep a o e c] at h;cases h
theorem QQ{H:Hp}{a:O}{o:HO}(h:H a=Z):fB (upd H a o) a=H:=by
 funext b;unfold fB upd;split
 .rename_i e;rw[e];exact h.symm
 .rfl
abbrev QR(Kf:tu):-V->Hp->VK->Prop:=λxs H Q=>∃p ys,xs=[.ref p]/\((aX Kf H p ys/\∀l,H l=Z->Q (.ref l) (upd H l (.tup ys)))\/(bo Kf H p ys/\Q (.ref p) H))
end L2
namespace LJ
open PySem L2
structure ExcAt(H:Hp)(a C:O)(dx:Option O):Prop where
 ob:H a=U (dB a C dx)
 dd:∀d,dx=U d->∃fs,H d=U (.xd fs)
theorem ExcAt.same{H H':Hp}{a C:O}{dx:Option O}(x:ExcAt H a C dx)(s:ar H H'):ExcAt H' a C dx:=⟨s _ _ x.ob,λd e=>let⟨fs,h⟩:=x.dd d e;⟨fs,s _ _ h⟩⟩
structure A3(K:tu)(L:O)(Cs:-O):Prop where
 len:↑Cs=13
 each:∀(j:Nat)(C:O),Cs[j]?=U C->bc K C/\Xe K (.ref C) (.ref L)=U θ/\Xe K (.ref C) (.type "ValueError")=U θ/\∀(i:Nat)(C':O),Cs[i]?=U C'->Xe K (.ref C) (.ref C')=U (S (i=j))
 above:bc K L/\Xe K (.ref L) (.ref L)=U θ/\Xe K (.ref L) (.type "ValueError")=U θ/\∀(i:Nat)(C':O),Cs[i]?=U C'->Xe K (.ref L) (.ref C')=U ι
 iF:∀(j:Nat)(C:O),Cs[j]?=U C->sL K C "place"
noncomputable def cx:-R:=["way", "join", "step", "house", "web", "price", "many", "closed", "free", "nothing", "number", "text", "line"]
theorem j_{H:Hp}{a:O}{o:HO}(h:H a=Z):ar H (upd H a o):=λb u e=>by rw[aC (bD e h)];calc e
noncomputable def names13:-R:=["NoWay", "NoJoin", "NoStep", "NoHouse", "NoWeb", "NoPrice", "TooMany", "Closed", "Free", "Nothing", "NoNumber", "NoText", "NoLine"]
noncomputable def dE:-R:=["way", "join", "step", "house", "web", "price", "many", "closed", "free", "nothing", "number", "text"]
structure A4(mg:R->Option J)(L:O)(Cs:-O):Prop where
 A5:mg "isinstance" = Z
 VE:mg "ValueError" = Z
 QS:mg "LotError" = U (.ref L)
 cls:∀(j:Nat)(x:R),names13[j]?=U x->∃C,Cs[j]?=U C/\mg x=U (.ref C)
theorem QT:bootBuiltins "ValueError" = U (.type "ValueError"):=by decide +kernel
section
variable{X:Cx}{a C:O}{dx:Option O}
def uV(a C:O)(dx:Option O)(v:Bool):TE:=fun σ H Q=>σ[0]?=U (U (.ref a))/\ExcAt H a C dx/\Q (.bl v) H
def my(a C:O)(dx:Option O)(vs:-Bool):TA:=fun σ H Q=>σ[0]?=U (U (.ref a))/\ExcAt H a C dx/\Q (vs.map V.bl) H
def qb(a C:O)(dx:Option O)(vs:-Bool):TE:=fun σ H Q=>σ[0]?=U (U (.ref a))/\ExcAt H a C dx/\∀(l:O)(H':Hp),ar H H'->H' l=U (.lst (vs.map V.bl))->Q (.ref l) H'
def ka(a C:O)(dx:Option O)(us vs:-Bool):TE:=fun σ H Q=>∃l:O,σ[0]?=U (U (.ref a))/\σ[1]?=U (U (.ref l))/\H l=U (.lst (us.map V.bl))/\ExcAt H a C dx/\∀(l':O)(H':Hp),ar H H'->H' l'=U (.lst ((us++vs).map V.bl))->Q (.ref l') H'
theorem A6{y z:R}{p q r pos:Ε}{cv:V}{c:J}{v:Bool}(h0:JE X (.Name y q) (b6 0))(hz:JE X (.Name z r) (tC cv))(hc:lO cv=U c)(cl:bc X.K C)(kt:Xe X.K (.ref C) c=U v)(hg:Gl X "isinstance")(hm:X.mg "isinstance" = Z):
  JE X (.Call (.Name "isinstance" p) [.Name y q,.Name z r] [] pos) (uV a C dx v) :=
 (vL QN hg hm q0O (fg h0 (fg hz aE)) (by decide) (by decide) Y Y).weak fun σ H Q ⟨e0,e,q⟩↦⟨_,e0,a,C,dx,_,_,_,Y,hc,e.ob,cl,e.dd,kt,q⟩
theorem uW:JA X [] (my a C dx []):=aE.weak fun σ H Q ⟨_,_,q⟩↦q
theorem iY{f:B}{as es:-B}{k:-Keyword}{p:y}{v:Bool}{vs:-Bool}(h:JE X (.Call f as k p) (uV a C dx v))(r:JA X es (my a C dx vs)):JA X (.Call f as k p::es) (my a C dx (v::vs)) :=
 (gZ h r).weak fun σ H Q ⟨e0,e,q⟩↦⟨e0,e,e0,e,q⟩
theorem uX{es:-B}{pos:y}{vs:-Bool}(h:JA X es (my a C dx vs))(hl:↑vs<=20):JE X (.List es pos) (qb a C dx vs) :=
 (jK h).weak fun σ H Q ⟨e0,e,q⟩↦⟨e0,e,(by rw[qJ];calc gu hl),λl hl=>q l _ (j_ hl) aY⟩
theorem w5{n:R}{q p pos:y}{es:-B}{us vs:-Bool}(h1:JE X (.Name n q) (b6 1))(h:JE X (.List es p) (qb a C dx vs))(hl:↑us+↑vs<=20):JE X (.BinOp (.Name n q) .Add (.List es p) pos) (ka a C dx us vs) :=
 (oQ vO h1 h).weak fun σ H Q ⟨l,e0,e1,gA,e,q⟩↦⟨_,e1,e0,e,λm H1 s hm=>⟨l,m,_,_,Y,Y,s _ _ gA,hm,(by rw[qJ,qJ];calc gu hl),λp hp=>q p _ (s.trans (j_ hp)) (by rw[Xo];calc aY)⟩⟩
theorem QU{es:-B}{pos:y}(ss:-R)(h:strsOf es=U ss)(hl:↑ss<=20):JE X (.List es pos) (λ_ H Q=>∀p,H p=Z->Q (.ref p) (upd H p (.lst (ss.map V.str)))):=NG h (gu hl)
theorem QV{e:B}{ta:TE}{fn:R}{pos:y}(he:JE X e ta)(hb:attributeBase e fn X.env (eval e X.env)=eval e X.env):JE X (.Attribute e fn pos) (Hw X.K ta fn):=⟨QO he hb⟩
end
noncomputable def dF(b:Nat->Bool):-Bool:=[b 0,b 1,b 2,b 3,b 4,b 5,b 6,b 7,b 8,b 9,b 10,b 11,b 12]
noncomputable def cnt(us:-Bool):Nat:=(us.map V.bl).countP λz=>fF z (.bl θ)
theorem A7:∀us:-Bool,(us.map V.bl).all ji=θ
 |[]=>Y
 |_::us=>by rw[Xl,q1j,A7 us];rfl
theorem QW{j:Nat}(h:j<4):(dE.map V.str)[j]?=U (.str (cx.getD j "")):=by
 rcases j with _|_|_|_|j
 .rfl
 .rfl
 .rfl
 .rfl
 .omega
theorem QX{j:Nat}(h:j<13):(dE.map V.str++[V.str "line"])[j]?=U (.str (cx.getD j "")):=by
 rcases j with _|_|_|_|_|_|_|_|_|_|_|_|_|j
 .rfl
 .rfl
 .rfl
 .rfl
 .rfl
 .rfl
 .rfl
 .rfl
 .rfl
 .rfl
 .rfl
 .rfl
 .rfl
 .omega
noncomputable def kX(j:Nat)(n:Int):-V:=if j<4 then[.str (cx.getD j ""),.int n] else[.str (cx.getD j "")]
def kc(Cs:-O):Sp:=λvs H Q _=>∃(j:Nat)(n:Int)(a C:O)(dx:Option O),vs=[.ref a]/\j<13/\Cs[j]?=U C/\ExcAt H a C dx/\(j<4->∃d,dx=U d/\H d=U (.xd [("place",.int n)]))/\∀(l:O)(H':Hp),ar H H'->H l=Z->H' l=U (.lst (kX j n))->Q (.ref l) H'
theorem QY:∀j:Nat,j<13->cnt (dF λi=>S (i=j))=1:=by decide
theorem Hx{b:Nat->Bool}{i:Nat}{z:V}(h:((dF b).map V.bl)[i]?=U z):z=.bl (b i):=by
 unfold dF at h;rcases i with _|_|_|_|_|_|_|_|_|_|_|_|_|i<;>simp at h<;>calc h.symm
end LJ
namespace LJ
open PySem L2 PySem.Spec PySem.W PyProof.Rows
def uY(C:O):Sp:=λvs H Q _=>∃(a:O)(n:Int),vs=[.ref a,.int n]/\H a=U (bE a C Z)/\∀d,H d=Z->Q .non (upd (upd H d (.xd [("place",.int n)])) a (bE a C (U d)))
def A8(c:Nat)(n:Int)(dx:Option O)(H:Hp):Prop:=(c<4/\∃d,dx=U d/\H d=U (.xd [("place",.int n)]))\/(4<=c/\dx=Z)
abbrev eO:=Nat->Int->Prop
section
variable[ay]
def Kept(H0:Hp):-O->-(Option OV)->Hp->Prop:=λad mu H=>∀b o,H0 b=U o->b∉ay.ad->H b=U o/\¬ Lv ad mu b
@[reducible] noncomputable def Hy (ok:eO) (H0:Hp):bu:=⟨ok,Kept H0,λE k b o e n=>by
 let⟨h1,h2⟩:=k b o e n;calc⟨E.keep b o h1 h2 n,λl=>?_⟩;rcases E.bN b l with z|z
 .exact h2 z
 .rw[h1] at z;cases z⟩
def uZ(Cs:-O)(G:eO->GD)(n:Nat):Sp:=λvs H Q E=>∃ok:eO,jZ (G ok) n vs H Q E/\∀c p,ok c p->∀C dx H',Cs[c]?=U C->Kp H H'->A8 c p dx H'->E (.ref C) dx H'
structure eQ[bu](Cs:-O)(E:XK)(H0:Hp):Prop where
 go:∀{c p C dx ad mu H'},bu.ok c p->bu.kp ad mu H'->ay.ok H'->Cs[c]?=U C->A8 c p dx H'->E (.ref C) dx H'
 fr:∀{ad mu H' a},bu.kp ad mu H'->ay.ok H'->H' a=Z->H0 a=Z
structure Hz(P:n)(w:g)(K:tu)(mg:R->Option J)(base:I)(x:R)(C:O):Prop where
 m:mg x=U (.ref C)
 ex:∃f fd,nP K C (U (.ref f))/\q3d K (.ref f)=θ/\bt P w K mg base fG 1 f fd ["self", "place"] (uY C)/\Binds K fd ["self", "place"] []
def rG(ok:eO)(c:Nat)(fa:WA):WS:=λ_ δ=>fa δ λxs _=>∃n,xs=[.p (.int n)]/\ok c n
def A9(ok:eO)(c:Nat):WS:=λ_ _=>ok c 0
section
variable{P:n}{w:g}{K:tu}{mg:R->Option J}{base:I}{N:-R}{qual:R}{scope:u}{f:O}{cd:J}{A:q}{outer:-t}{s:L}{H:Hp}{E:XK}{Cs:-O}{c:Nat}{C:O}{x:R}{e:B}{fe:WA}{p p2 pos:y}
theorem QZ[bu](I:Hz P w K mg base x C)(R:eQ Cs E H)(hC:Cs[c]?=U C)(h4:c<4)(hr:aZ 2 (A.deeper (envOfC qual scope ⇑s f cd)))(he:JA (aQ (bU P w) P w K mg base N qual scope f cd A outer s H E) [e] (bH fe))
  (hg:Gl (aQ (bU P w) P w K mg base N qual scope f cd A outer s H E) x:=by rfl) (cn:bf x:=by decide)
  (hs:starEach [e] (aQ (bU P w) P w K mg base N qual scope f cd A outer s H E).env=(ι,eval e (aQ (bU P w) P w K mg base N qual scope f cd A outer s H E).env)::starEach [] (aQ (bU P w) P w K mg base N qual scope f cd A outer s H E).env:=by rfl) (bV:(backTo p2 (starEach [] (aQ (bU P w) P w K mg base N qual scope f cd A outer s H E).env)).any (·.1)=ι:=by rfl) :
  JS (aQ (bU P w) P w K mg base N qual scope f cd A outer s H E) (.Raise (U (.Call (.Name x p) [e] [] p2)) Z pos) (b8 (rG bu.ok c fe)):=by
 let⟨hm,fi,Wd,M,iG,FI,bI⟩:=I;calc JS.weak ⟨Hr Y (Np M iG FI hr bI pk hg hm he cn hs bV)⟩ λD σ H1 ⟨F,ad,δ,K1,S,q,k⟩=>?_;calc⟨F,ad,δ,λxs _=>∃n,xs=[.p (.int n)]/\bu.ok c n,S,q,λxs δ1 h1 vs F1 aI H2 E1 S1 V1=>?_⟩;let⟨n,rfl,o⟩:=h1;let⟨v,r,rfl,W1,W2⟩:=V1;let W2:r=[]:=W2;subst W2;let W1:v=.int n:=W1;subst W1;refine⟨by show 1<=sizeLine;decide,λa ha=>⟨a,n,Y,aY,λd hd=>⟨Y,a,C,U d,_,Y,aY,M,?_,?_⟩⟩⟩
 .exact R.fr (k.ext E1).kp S1.tab ha
 .let au:d≠a:=λz=>by rw[z,aY] at hd;cases hd
  let A_:H2 d=Z:=by rw[aC au] at hd;exact hd
  let eq:fB (upd (upd (upd H2 a (bE a C Z)) d (.xd [("place",.int n)])) a (bE a C (U d))) a=upd H2 d (.xd [("place",.int n)]):=by
   funext b;unfold fB;split
   .rename_i z;subst z;rw[aC (λz=>au z.symm)];exact ha.symm
   .rename_i z
    rw[aC z]
    by_cases y:b=d
    .subst y;rw[aY,aY]
    .rw[aC y,aC y,aC z]
  rw[eq];let sm:ar H2 (upd H2 d (.xd [("place",.int n)])):=bT A_;calc R.go o (bu.st (Ext.al S1 sm) (k.ext E1).kp) (ay.same S1.tab sm) hC (.inl ⟨h4,d,Y,aY⟩)
theorem Q0[bu]{t:π}(M:nP K C Z)(R:eQ Cs E H)(hC:Cs[c]?=U C)(h4:4<=c)(hm:mg x=U (.ref C))(hg:Gl (aQ (bU P w) P w K mg base N qual scope f cd A outer s H E) x:=by rfl)(cn:bf x:=by decide)
  (he:JA (aQ (bU P w) P w K mg base N qual scope f cd A outer s H E) [e] (eB (tC (.str t)) dU))
  (hs:starEach [e] (aQ (bU P w) P w K mg base N qual scope f cd A outer s H E).env=(ι,eval e (aQ (bU P w) P w K mg base N qual scope f cd A outer s H E).env)::starEach [] (aQ (bU P w) P w K mg base N qual scope f cd A outer s H E).env:=by rfl) (bV:(backTo p2 (starEach [] (aQ (bU P w) P w K mg base N qual scope f cd A outer s H E).env)).any (·.1)=ι:=by rfl) :
  JS (aQ (bU P w) P w K mg base N qual scope f cd A outer s H E) (.Raise (U (.Call (.Name x p) [e] [] p2)) Z pos) (b8 (A9 bu.ok c)):=by
 calc JS.weak ⟨Hr Y (Nm M hg hm he cn hs bV)⟩ λD σ H1 ⟨F,ad,δ,K1,S,q,k⟩=>?_;calc⟨by show 1<=sizeLine;decide,λa ha=>⟨a,C,Z,Z,Y,aY,M,R.fr k.kp S.tab ha,?_⟩⟩;rw[QQ ha];calc R.go q k.kp S.tab hC (.inr ⟨h4,Y⟩)
structure Fy(V:Ev)(Cs:-O)(k:Nat)(x:R)(ps:-R)(n:Nat)(G:eO->GD):Prop where
 ex:∃f fd,bt V.P V.w V.K V.mg V.base (bU V.P V.w) k f fd ps (uZ Cs G n)/\V.mg x=U (.ref f)/\XZ V.K (.ref f)=θ/\Binds V.K fd ps []
section
variable{X:Cx}{j k n:Nat}{ps:-R}{G:eO->GD}{es:-B}{fa:WA}
theorem w6[bu](R:eQ Cs E H){σ:L2.St}{H1:Hp}{Q:VK}{F:Hp}{ad:-O}{δ:aw}{K1:DV->aw->Prop}(S:SR F ad δ σ H1)(q:aj n (G bu.ok) fa δ K1)(kp:bu.kp ad δ.mu H1)(kk:∀x δ',K1 x δ'->∀v F' au H',Ext F ad δ.mu H1 F' au δ'.mu H'->SR F' au δ' σ H'->df F' au x v->Q v H'):nB (uZ Cs G n) [] E (bH fa) σ H1 Q :=
 ⟨F,ad,δ,_,S,q,λxs δ1 h1 vs F1 aI H2 E1 S1 V1=>⟨bu.ok,Ge kk h1 E1 S1 V1,λc p o C dx H' hC z pl=>R.go o (bu.st (Ext.Qq S1 z.keep z.tab) (bu.st E1 kp)) z.tab hC pl⟩⟩
theorem Q1[bu](Fy:Fy ⟨X.prog,X.w,X.K,X.mg,X.base⟩ Cs j x ps n G)(R:eQ Cs E H)(hp:jL (bU X.prog X.w) X E)(hr:aZ k X.A)(ha:JA X (e::es) (bH fa))(hj:q1J j k=θ:=by rfl)(hg:Gl X x:=by rfl)(cn:bf x:=by decide)
  (hs:cj X e es:=by rfl) (bV:cR X p2 es:=by rfl) (hw:swapsWith (.Call (.Name x p) (e::es) [] p2) Z pos.line X.env=pure ι:=by rfl) :
  JS X (.Expr (.Call (.Name x p) (e::es) [] p2) pos) (b8 (iA (aj n (G bu.ok) fa))):=by
 let⟨g,fd,F1,hm,hk,hb⟩:=Fy.ex;calc(vH (qE F1 (hr.mono (Yh hj)) hg hm hk hb .nil hp ha cn hs bV) hw).weak λD σ H1 ⟨F,ad,δ,K1,S,q,k⟩↦w6 R S q k.kp λx δ1 h1 v F1 aI H1 E1 S1 V1=>k.nx _ h1 _ _ _ _ E1 S1
end
end
def EI(V:Ev)(Cs:-O)(c:Nat)(x:R):Prop:=c<4/\∃C,Cs[c]?=U C/\Hz V.P V.w V.K V.mg V.base x C
def ET(V:Ev)(Cs:-O)(c:Nat)(x:R):Prop:=4<=c/\∃C,Cs[c]?=U C/\nP V.K C Z/\V.mg x=U (.ref C)
section
variable{V:Ev}{N:-R}{qual:R}{scope:u}{f:O}{cd:J}{A:q}{outer:-t}{s:L}{H:Hp}{E:XK}{Cs:-O}{x:R}{e:B}{fe:WA}{p p2 pos:y}{k:Nat}
theorem Q2[bu]{c:Nat}(XS:EI V Cs c x)(R:eQ Cs E H)(hr:aZ k (A.deeper (envOfC qual scope ⇑s f cd)))(he:JA (aQ (bU V.P V.w) V.P V.w V.K V.mg V.base N qual scope f cd A outer s H E) [e] (bH fe))(hk:q1J 2 k=θ:=by rfl)
  (hg:Gl (aQ (bU V.P V.w) V.P V.w V.K V.mg V.base N qual scope f cd A outer s H E) x:=by rfl) (cn:bf x:=by decide)
  (hs:starEach [e] (aQ (bU V.P V.w) V.P V.w V.K V.mg V.base N qual scope f cd A outer s H E).env=(ι,eval e (aQ (bU V.P V.w) V.P V.w V.K V.mg V.base N qual scope f cd A outer s H E).env)::starEach [] (aQ (bU V.P V.w) V.P V.w V.K V.mg V.base N qual scope f cd A outer s H E).env:=by rfl) (bV:(backTo p2 (starEach [] (aQ (bU V.P V.w) V.P V.w V.K V.mg V.base N qual scope f cd A outer s H E).env)).any (·.1)=ι:=by rfl) :
  JS (aQ (bU V.P V.w) V.P V.w V.K V.mg V.base N qual scope f cd A outer s H E) (.Raise (U (.Call (.Name x p) [e] [] p2)) Z pos) (b8 (rG bu.ok c fe)) :=
 let⟨h4,_,hC,I⟩:=XS
 QZ I R hC h4 (hr.mono (Yh hk)) he hg cn hs bV
theorem Q3[bu]{c:Nat}{t:π}(XS:ET V Cs c x)(R:eQ Cs E H)(he:JA (aQ (bU V.P V.w) V.P V.w V.K V.mg V.base N qual scope f cd A outer s H E) [e] (eB (tC (.str t)) dU))
  (hg:Gl (aQ (bU V.P V.w) V.P V.w V.K V.mg V.base N qual scope f cd A outer s H E) x:=by rfl) (cn:bf x:=by decide)
  (hs:starEach [e] (aQ (bU V.P V.w) V.P V.w V.K V.mg V.base N qual scope f cd A outer s H E).env=(ι,eval e (aQ (bU V.P V.w) V.P V.w V.K V.mg V.base N qual scope f cd A outer s H E).env)::starEach [] (aQ (bU V.P V.w) V.P V.w V.K V.mg V.base N qual scope f cd A outer s H E).env:=by rfl) (bV:(backTo p2 (starEach [] (aQ (bU V.P V.w) V.P V.w V.K V.mg V.base N qual scope f cd A outer s H E).env)).any (·.1)=ι:=by rfl) :
  JS (aQ (bU V.P V.w) V.P V.w V.K V.mg V.base N qual scope f cd A outer s H E) (.Raise (U (.Call (.Name x p) [e] [] p2)) Z pos) (b8 (A9 bu.ok c)) :=
 let⟨h4,_,hC,M,hm⟩:=XS
 Q0 M R hC h4 hm hg cn he hs bV
end
theorem rF{V:Ev}{Cs:-O}{x:π}{st:χ}{N ps:-π}{k:Nat}{G:eO->GD}(D:Dx V x st)(bd:g7 x st ps)(hG:∀ok ys ovs K,G ok ys ovs K->ovs=[])(h:∀{aT:J} {A:q} {outer:-t} {s:L} {H:Hp} {E:XK} {f:O} [bu],eQ Cs E H->aZ k (A.deeper (envOfC x (cD st) ⇑s f aT))->N.Nodup->(A.deeper (envOfC x (cD st) ⇑s f aT)).units+64<cLine →
   ∃B:WS,bR (aQ (bU V.P V.w) V.P V.w V.K V.mg V.base N x (cD st) f aT A outer s H E) (d7 st) (b8 B)/\∀ys ovs K',↑ys=↑ps->G bu.ok ys ovs K'->B (gN ↑ovs K') ⟨ys.map U++W7 (↑N-↑ps) Z,ovs.map U⟩)(sc:wY N ps (cD st)=θ:=by decide +kernel):Fy V Cs (k+1) x ps ↑ps G:=by
 let⟨f,fd,a,F⟩:=D;calc⟨f,fd,F.rF (fY sc) (λvs H Q E h=>let⟨_,h,_⟩:=h;h.1) (λaT A outer s H vs Q E hr hh=>?_),a,F.kp,F.binds bd⟩;let⟨ok,⟨hl,Fz,ad,ys,ovs,K',S0,g,kk⟩,hE⟩:=hh;let ho:=hG ok ys ovs K' g;subst ho;let ea:ad=[]:=Zr.mp S0.cf;subst ea;letI:bu:=Hy ok H;let R:eQ Cs E H:=⟨λ{c p C dx ad mu H'} o kp tb hC pl=>hE c p o C dx H' hC ⟨λb u e n=>(kp b u e n).1,tb⟩ pl,λ{ad mu H' a} kp tb e=>Kp.none ⟨λb u e n=>(kp b u e n).1,tb⟩ e⟩;let⟨B,jb,hb⟩:=h R hr (fY sc).nd hr.units
 let hy:↑ys=↑ps:=by
  let:=S0.len;rw[qJ] at this;rw[<-hl,this];show _=↑(ys.map U);rw[qJ]
 refine⟨_,jb,Fz,[],⟨ys.map U++W7 (↑N-↑ps) Z,[]⟩,gN 0 K',by rw[<-hl];calc S0.start,hb ys [] K' hy g,⟨fun δ' h F' au σ' H' E' S'=>?_,fun δ' h=>h.elim,fun δ' h=>h.elim,λy δ' h v F' au σ' H' E' S' V=>?_,λb o e n=>⟨e,λ⟨k,ov,z,_⟩↦by simp at z⟩⟩⟩
 .exact wk (ovs:=[]) (σ':=σ') S0 E' S' (x:=.p .non) (v:=.non) Y h kk
 .calc wk (ovs:=[]) (σ':=σ') S0 E' S' V h kk
end
end LJ
namespace LJ
open PySem L2 PySem.Spec PySem.W
variable[ay]
noncomputable def w9(c:Nat)(n:Int):-D:=if c<4 then[.str (cx.getD c ""),.int n] else[.str (cx.getD c "")]
noncomputable def rH(tup:Bool)(c:Nat)(n:Int):D:=if tup then .tup (w9 c n) else .lst (w9 c n)
noncomputable def Ba(tup:Bool)(c:Nat)(n:Int):HO:=if tup then .tup (kX c n) else .lst (kX c n)
theorem HA{F:Hp}(c:Nat)(n:Int):ae F (w9 c n) (kX c n):=by
 unfold w9 kX;split
 .exact⟨_,_,Y,Y,⟨_,_,Y,Y,Y⟩⟩
 .calc⟨_,_,Y,Y,Y⟩
def HB(ic ie:Nat)(B:eO->WS)(f1:WE)(tup:Bool):WS:=λK δ=>(δ.mu=[]/\ic<↑δ.sl/\ie<↑δ.sl)/\B (λc p=>K.rt (.p (rH tup c p)) ⟨[],[]⟩) ⟨fun δ1=>δ1.sl[ic]?=U (U (.p .non))/\f1 δ1 K.rt,λ_ _=>False,λ_=>False,λ_=>False⟩ δ
theorem HC{F H H' H4:Hp}{ad:-O}{mu:-(Option OV)}{δ:aw}{σ:St}{K:KS}{D:Ends}{tup:Bool}{c:Nat}{n:Int}{z:O}(S:SR F [] δ σ H)(hm:δ.mu=[])(k:qW F [] δ.mu H K D)(kp:Kept H ad mu H')(tb:ay.ok H')(sm:ar H' H4)(hz:H' z=Z)(ez:H4 z=U (Ba tup c n))(h:K.rt (.p (rH tup c n)) ⟨[],[]⟩):D.rt (.ref z) H4:=by
 let t4:ay.ok H4:=ay.same tb sm
 let zt:z∉ay.ad:=λy=>by
  let⟨ps,q⟩:=ay.tb tb y;rw[hz] at q;cases q
 let Bc:H z=Z:=by
  cases q:H z with
  |none=>rfl
  |some o=>rw[(kp z o q zt).1] at hz;cases hz
 let fz:F z=Z:=by
  cases q:F z with
  |none=>rfl
  |some o=>rw[S.sub z o q] at Bc;cases Bc
 let keep:∀b o,H b=U o->b∉ay.ad->H4 b=U o:=λb o e n=>sm b o (kp b o e n).1
 let E':Ext F [] δ.mu H (upd F z (Ba tup c n)) [] [] H4:=by
  refine⟨λb o e=>?_,λb o e=>?_,λb o e _ nt=>keep b o e nt,λk a e=>e,λa ⟨k,ov,y,_⟩↦by simp at y,λb o e=>?_⟩
  .rw[aC (bD e fz)];exact e
  .by_cases y:b=z
   .subst y;exact .inr (.inl Bc)
   .rw[aC y] at e;exact .inl e
  .by_cases y:b∈ay.ad
   .let⟨ps,q⟩:=ay.tb t4 y;exact⟨_,q⟩
   .exact⟨o,keep b o e y⟩
 let S':SR (upd F z (Ba tup c n)) [] ⟨[],[]⟩ [] H4:=by
  refine⟨λb o e=>?_,λa ⟨k,ov,y,_⟩↦by simp at y,Y,λk l a ov ow e=>by simp at e,λk ov e=>by simp at e,λi x e=>by simp at e,Y,t4,λa ha=>?_⟩
  .by_cases y:b=z
   .subst y;rw[aY] at e;cases e;exact ez
   .rw[aC y] at e
    exact keep b o (S.sub b o e) λw=>by rw[S.nt b w] at e;cases e
  .rw[aC (λy=>zt (by rw[<-y];calc ha))];exact S.nt a ha
 calc k.rt _ _ h (.ref z) _ _ _ _ E' S' ?_;show Is _ (rH tup c n) _;unfold rH;cases tup
 .rw[VR Mw]
  erw[Is];exact⟨z,kX c n,Y,aY,HA c n⟩
 .rw[Xa Y]
  erw[Is];calc⟨z,kX c n,Y,aY,HA c n⟩
def HD(Kf:tu)(Cs:-O)(ic:Nat):Bool->TE
 |false=>nB (kc Cs) [] E0 (eB (b6 ic) dU)
 |true=>sR (QR Kf) (eB (nB (kc Cs) [] E0 (eB (b6 ic) dU)) dU)
theorem Q4{F H H':Hp}{ad:-O}{mu:-(Option OV)}{δ:aw}{σ σ':St}{K:KS}{D:Ends}{Kf:tu}{Cs:-O}{tup:Bool}{c ic:Nat}{n:Int}{a C:O}{dx:Option O}(S:SR F [] δ σ H)(hm:δ.mu=[])(k:qW F [] δ.mu H K D)(kp:Kept H ad mu H')(tb:ay.ok H')(h:K.rt (.p (rH tup c n)) ⟨[],[]⟩)(hc:c<13)(hC:Cs[c]?=U C)(pl:A8 c n dx H')(ha:H' a=Z)(hs:σ'[ic]?=U (U (.ref a))):
  HD Kf Cs ic tup σ' (upd H' a (dB a C dx)) D.rt:=by
 let s1:ar H' (upd H' a (dB a C dx)):=bT ha
 let E:ExcAt (upd H' a (dB a C dx)) a C dx:=by
  calc⟨aY,λd e=>?_⟩;rcases pl with⟨_,d',e',h'⟩|⟨_,e'⟩
  .rw[e] at e';cases e';exact⟨_,s1 _ _ h'⟩
  .rw[e] at e';cases e'
 let P:c<4->∃d,dx=U d/\upd H' a (dB a C dx) d=U (.xd [("place",.int n)]):=λh4=>by
  rcases pl with⟨_,d',e',h'⟩|⟨g4,_⟩
  .exact⟨d',e',s1 _ _ h'⟩
  .omega
 let nn:∀{l},upd H' a (dB a C dx) l=Z->H' l=Z:=λ{l} e=>by
  cases q:H' l with
  |none=>rfl
  |some o=>rw[s1 l o q] at e;cases e
 cases tup
 .exact⟨.ref a,hs,c,n,a,C,dx,Y,hc,hC,E,P,λl H3 sm hl e=>HC (tup:=false) S hm k kp tb (s1.trans sm) (nn hl) e h⟩
 .refine⟨.ref a,hs,c,n,a,C,dx,Y,hc,hC,E,P,λl H3 sm hl e=>⟨l,_,Y,.inl ⟨aX.of e,λt ht=>?_⟩⟩⟩
  let s3:ar H3 (upd H3 t (.tup (kX c n))):=bT ht;refine HC (tup:=true) S hm k kp tb ((s1.trans sm).trans s3) ?_ aY h
  cases q:H' t with
  |none=>rfl
  |some o=>rw[(s1.trans sm) t o q] at ht;cases ht
section
variable{X:Cx}{body fL:-o}{b0 st:o}{x n:R}{p1 p2 pos:y}{L:O}{ic ie:Nat}{B:eO->WS}{f1:WE}{tup:Bool}{Cs:-O}
theorem Q5(f9:X.stack=X.env::X.outer)(jj:X.env.frame=U X.env.locals)(nd:X.N.Nodup)(hi:X.N[ie]?=U n)(hk:X.env.scope.names.lookup n=U .local)(hg:Gl X x)(hm:X.mg x=U (.ref L))(hL:∀(c:Nat) (C:O),Cs[c]?=U C->c<13/\q0v X.K (.ref C) (.ref L)=U θ)(iO:ic≠ie)
  (hb:∀{pn xe E H0}[bu],jL (bU X.prog X.w) {X with pn:=pn,xe:=xe} E->eQ Cs E H0->bR {X with pn:=pn,xe:=xe} body (b8 (B bu.ok))) (hs:∀A xe,bR {X with A:=A,calm:=false,xe:=xe} (b0::fL) (cC (b6 ie) (gm ic)))
  (hr:JS X st (oM (DW (tB (sk (b6 ic))) (tD f1) (HD X.K Cs ic tup)))) (cn:bf x:=by decide) :
  bR X [.Try body [.ExceptHandler (U (.Name x p1)) (U n) (b0::fL) p2] [] [] pos,st] (b8 (HB ic ie B f1 tup)):=by
 refine(lB (QK (tb:=λE D σ H=>∃ex:bu,@eQ _ ex Cs E H/\@b8 _ ex (B ex.ok) D σ H) f9 jj nd hi hk hg hm cn (λpn xe E hp=>⟨λpins s σ H D I h=>?_⟩) λA xe=>(hs A xe)) (kI hr)).weak λD σ H ⟨F,ad,δ,K,S,⟨⟨zF,dP,hle⟩,q⟩,k⟩=>?_
 .let⟨ex,R,h⟩:=h
  exact(hb hp R) pins s σ H D I h
 .let ea:ad=[]:=Zr.mp (by rw[S.cf,zF];rfl)
  subst ea;let Q6:=k.rt;letI ex:bu:=Hy (λc p=>K.rt (.p (rH tup c p)) ⟨[],[]⟩) H;refine⟨ex,?_,F,[],δ,⟨fun δ1=>δ1.sl[ic]?=U (U (.p .non))/\f1 δ1 K.rt,λ_ _=>False,λ_=>False,λ_=>False⟩,S,q,?_⟩
  .refine⟨λ{c p C dx ad mu H'} o kp tb hC pl=>?_,λ{ad mu H' a} kp tb e=>Kp.none ⟨λb u e n=>((show Kept H ad mu H' from kp) b u e n).1,tb⟩ e⟩
   let⟨Q7,hx⟩:=hL c C hC;calc⟨C,Y,hx,λa ha=>?_⟩;let hl:=S.len;let e0:((W7 ↑σ (Z:Option V)).set ie (U (.ref a)))[ie]?=U (U (.ref a)):=Xz (by rw[Yu];symm)
   let e1:((((W7 ↑σ (Z:Option V)).set ie (U (.ref a))).set ic (U (.ref a))).set ie Z)[ic]?=U (U (.ref a)):=by
    rw[XG (λz=>iO z.symm),Xz (by rw[Yn,Yu];symm)]
   calc⟨.ref a,e0,.ref a,e1,ι,Y,?_⟩;dsimp only;rw[VR Mw];exact Q4 S zF k kp tb o Q7 hC pl ha e1
  .refine⟨fun δ1 ⟨h1,h2⟩ F' au σ' H' E' S'=>?_,fun δ' h=>h.elim,fun δ' h=>h.elim,λx δ' h=>h.elim,λb o e n=>⟨e,λ⟨k,ov,z,_⟩↦by simp at z⟩⟩
   let⟨v,e1,e2⟩:=S'.sl ic _ h1;let e2:v=.non:=e2;subst e2;calc⟨.non,e1,θ,Y,?_⟩;dsimp only;rw[Xa Y];calc⟨F',au,δ1,_,S',h2,λx δ' h v F2 bZ H2 E2 S2 V2=>Q6 _ _ h _ _ _ _ _ (E'.trans E2) S2 V2⟩
end
end LJ
open L2
open Lean in
local macro_rules
 | `(tactic| simp! [$ls,*] $[$loc:location]?)=>do
  let a ← ("q3v dep aV Xq Nat.max_self Nat.max_zero Nat.zero_max Nat.reduceLeDiff ak aB dN ag af d1 d2 dC aa lP gc lU iT aw.fix FP cE bp qU dT qV gy gL bz zX iz v9 b4 iA aF aW bJ jX gM kT pL cF iE n5 fq dA l8 l9 Am iX An cW aj uh passes j3 eM lY ug a_ pR bK p_ cL wV j7 pJ mj fu oI cJ oEq mf oLt j4 n_ bq wG ux rA wH g6 bj Az AF AG cK gP pW fw j5 pV wK wF gN uG aw.trim fj wd Option.join_some Option.join_none Xl Y5 List.cons_append q0L Yf q2s Zt YE List.getElem?_nil XR XT EA Ye q2p q0s List.take_nil List.any_nil Y6 Zc XX q2B Bool.and_self q4H VQ Bool.true_eq_false YU XY true_and and_true and_self reduceCtorEq q1t XU q2E Nat.reduceLT Nat.reduceEqDiff Nat.reduceSub qJ EB".splitOn " ").toArray.mapM λs => `(Parser.Tactic.simpLemma| $(mkIdent s.toName):ident)
  let r ← `(Parser.Tactic.simpLemma| ↓reduceIte)
  let a:Syntax.TSepArray [`Lean.Parser.Tactic.simpStar, `Lean.Parser.Tactic.simpErase, `Lean.Parser.Tactic.simpLemma] "," := ⟨(Syntax.SepArray.ofElems (sep:=",") ((a.push r).map (·.raw)++ls.getElems.map (·.raw))).elemsAndSeps⟩
  `(tactic| simp only [$a,*] $[$loc]?)
local macro_rules | `(tactic| simp! $[$l:location]?) => `(tactic| simp! [] $[$l]?)
namespace LJ
open PySem L2
variable[ay]
theorem HE{ns:-Int}{k:Int}(h0:0<=k)(h1:k<(ns.length:Int)):∃n,d3 (ns.map D.int) k=U (.int n):=by
 let⟨i,rfl⟩:∃i:Nat,k=i:=⟨k.toNat,⋯⟩;let hi:i<ns.length:=by symm
 calc⟨ns[i],jh ?_⟩;rw[W5,pj hi];rfl
theorem g_{α:Type}{x:α}{r:-α}:d3 (x::r) 0=U x:=jh (j:=0) Y
theorem fD{α:Type}{x y:α}{r:-α}:d3 (x::y::r) 1=U y:=jh (j:=1) Y
theorem at2{α:Type}{x y z:α}{r:-α}:d3 (x::y::z::r) 2=U z:=jh (j:=2) Y
theorem u3{a b A B:Int}(h0:0<=a)(h1:a<=A)(h2:0<=b)(h3:b<=B):0<=a*b/\a*b<=A*B :=
 ⟨Int.mul_nonneg h0 h2,Int.mul_le_mul h1 h3 h2 (Int.le_trans h0 h1)⟩
noncomputable def gC:-Int:=[2147483629,2147483587,2147483579,2147483563,2147483549,2147483543,2147483497,2147483489,2147483477,2147483423,2147483399,2147483353,2147483323]
theorem Be(n:Int):∃q:Int,d3 (gC.map D.int) (n%13)=U (.int q)/\0<q/\q<2147483648:=by
 let h0:0<=n%13:=YA _ (by decide);let h1:n%13<13:=Yc _ (by decide);generalize n%13=j at h0 h1;let⟨i,rfl⟩:∃i:Nat,j=i:=⟨j.toNat,⋯⟩;let hi:i<13:=by symm
 let hl:(gC.map D.int)[i]?=U (.int (gC[i]'(by show i<13;calc hi))):=by
  rw[W5,pj (by show i<13;calc hi)];rfl
 calc⟨_,jh hl,?_⟩;let all:∀q∈gC,0<q/\q<2147483648:=by decide
 calc all _ (YT _)
theorem Q8:iK 3 1=U 1:=rfl
theorem HF:iK 3 2=U 2:=rfl
abbrev Sem(n m:Nat)(g:GD)(b:WS):Prop:=∀ys ovs K',↑ys=n->g ys ovs K'->b (gN ↑ovs K') ⟨ys.map U++W7 m Z,ovs.map U⟩
theorem aJ{A B:WS}{K:KS}{δ:aw}(h:∀N:aw->Prop,N=B K->A {K with nx:=N} δ):ak A B K δ:=h _ Y
theorem kY{t:WT}{G G':WS}{K:KS}{δ:aw}(h:∀A B:aw->Prop,A=G K->B=G' K->t δ λb δ1=>if b=θ then A δ1 else B δ1):aW t G G' K δ:=h _ _ Y Y
theorem ot{w:WI}{g:WG}{b:WS}{K:KS}{δ:aw}(h:∀g' b' K',g'=g->b'=b->K'=K->w δ λit δ1=>jY δ1 it.bg g' b' K' it.items δ1):cF w g b K δ:=h _ _ _ Y Y Y
theorem jo{f:WE}{g:WA}{δ:aw}{K:-DV->aw->Prop}(h:∀K',K'=(λx δ1=>g δ1 λxs δ2=>K (x::xs) δ2)->f δ K'):ag f g δ K:=h _ Y
def Bf:GD:=λys ovs K=>∃cell at_:Int,ys=[.p (.int cell),.p (.int at_)]/\ovs=[]/\0<=at_/\at_<2 ^ 30/\∀z:Int,K (.p (.int z)) []
def Bg:WS:=(ak (aW (dT (d2 (aa 0) (d2 (dC (.int 10)) (dC (.int 18)) (cJ cU λi j=>.int (i ^ j.toNat))) (oI λi j=>.bl (S (j<=i))))) (aF (aa 0)) b4) (ak (aB 2 (bp (ag (dC (.int 2147483629)) (ag (dC (.int 2147483587)) (ag (dC (.int 2147483579)) (ag (dC (.int 2147483563)) (ag (dC (.int 2147483549)) (ag (dC (.int 2147483543)) (ag (dC (.int 2147483497)) (ag (dC (.int 2147483489)) af)))))))))) (ak (aB 2 (d2 (aa 2) (bp (ag (dC (.int 2147483477)) (ag (dC (.int 2147483423)) (ag (dC (.int 2147483399)) (ag (dC (.int 2147483353)) (ag (dC (.int 2147483323)) af)))))) bK)) (ak (aB 3 (d2 (d2 (d2 (d2 (d2 (d2 (aa 0) (dC (.int 1000000007)) (cJ (λ_ j=>0<j) λi j=>.int (i%j))) (d2 (d2 (dC (.int 2)) (aa 1) fu) (dC (.int 69069)) bK) fu) (d2 (aa 1) (dC (.int 40503)) fu) bK) (dC (.int 977)) bK) (dC (.int 3)) (cJ cU λi j=>.int (i ^ j.toNat))) (d2 (aa 2) (d2 (aa 1) (dC (.int 13)) (cJ (λ_ j=>0<j) λi j=>.int (i%j))) a_) (cJ (λ_ j=>0<j) λi j=>.int (i%j)))) (ak (aB 4 (d2 (d2 (d2 (d2 (d2 (aa 3) (d2 (aa 1) (dC (.int 3)) bK) fu) (d2 (aa 0) (dC (.int 65537)) (cJ (λ_ j=>0<j) λi j=>.int (i%j))) bK) (dC (.int 5)) bK) (dC (.int 5)) (cJ cU λi j=>.int (i ^ j.toNat))) (d2 (aa 2) (d2 (d2 (aa 1) (dC (.int 5)) bK) (dC (.int 13)) (cJ (λ_ j=>0<j) λi j=>.int (i%j))) a_) (cJ (λ_ j=>0<j) λi j=>.int (i%j)))) (ak (aB 5 (d2 (d2 (d2 (d2 (aa 4) (d2 (aa 3) (dC (.int 1009)) (cJ (λ_ j=>0<j) λi j=>.int (i%j))) bK) (aa 1) bK) (dC (.int 3)) (cJ cU λi j=>.int (i ^ j.toNat))) (d2 (aa 2) (d2 (d2 (aa 1) (dC (.int 7)) bK) (dC (.int 13)) (cJ (λ_ j=>0<j) λi j=>.int (i%j))) a_) (cJ (λ_ j=>0<j) λi j=>.int (i%j)))) (aF (d2 (d2 (d2 (d2 (aa 3) (dC (.int 2147483647)) fu) (aa 4) bK) (dC (.int 2147483647)) fu) (aa 5) bK))))))))
theorem Q9:Sem 2 4 Bf Bg:=by
 ext ys ovs K'-⟨cell,k,rfl,rfl,h0,h1,fin⟩;unfold Bg;let u4:∀(z:Int)(sl:-(Option DV)),d8 0 K' (.p (.int z)) ⟨sl,[]⟩:=λz sl=>⟨[],Y,Y,fin z⟩;simp!;calc⟨⟨by decide,by decide,by decide⟩,?_⟩;split
 .exact u4 _ _
 let⟨q1,e1,p1,b1⟩:=Be k;let⟨q2,e2,p2,b2⟩:=Be (k+5);let⟨q3,e3,p3,b3⟩:=Be (k+7);erw[gC,Xl,Y5] at e1 e2 e3;erw[e1,e2,e3];let c0:0<=cell%1000000007:=YA _ (by decide);let c1:cell%1000000007<1000000007:=Yc _ (by decide);let m1:=u3 c0 (Int.le_of_lt c1) (show(0:Int)<=2*k+69069 by symm) (show 2*k+69069<=2147552717 by symm);refine⟨by decide,.inl ⟨by decide,by decide⟩,.inl ⟨⋯,⋯⟩,.inr ⟨by decide,by decide⟩,⟨by decide,by decide,?cp1⟩,by decide,p1,?_⟩
 case cp1 =>
  generalize cell%1000000007*(2*k+69069)=m at m1 ⊢;symm
 generalize(cell%1000000007*(2*k+69069)+k*40503+977) ^ (3:Int).toNat=x1;let o0:0<=x1%q1:=YA _ ⋯;let o1:x1%q1<q1:=Yc _ p1;let d0:0<=cell%65537:=YA _ (by decide);let d1:cell%65537<65537:=Yc _ (by decide);let m2:=u3 o0 (show x1%q1<=2147483648 by symm) (show(0:Int)<=k+3 by symm) (show k+3<=1073741827 by symm);refine⟨.inl ⟨⋯,⋯⟩,by decide,⟨by decide,by decide,?cp2⟩,by decide,p2,?_⟩
 case cp2 =>
  generalize x1%q1*(k+3)=m at m2 ⊢;symm
 let t0:0<=(x1%q1*(k+3)+cell%65537+5) ^ (5:Int).toNat%q2:=YA _ ⋯;let t1:(x1%q1*(k+3)+cell%65537+5) ^ (5:Int).toNat%q2<q2:=Yc _ p2;let u0:0<=x1%q1%1009:=YA _ (by decide);let u1:x1%q1%1009<1009:=Yc _ (by decide);generalize(x1%q1*(k+3)+cell%65537+5) ^ (5:Int).toNat%q2=m at t0 t1 ⊢;calc⟨by decide,⟨by decide,by decide,⋯⟩,by decide,p3,.inr ⟨by decide,by decide⟩,.inr ⟨by decide,by decide⟩,u4 _ _⟩
noncomputable def hJ(ns:-Int)(k z:Int):OV:=.lst [.lst (ns.map D.int),.int k,.int z]
structure aN(n:Int)(o:OV):Prop where
 out:∃ns k z,o=hJ ns k z/\ns.length<=63/\0<=k/\k<=n
theorem aN.mono{n m:Int}{o:OV}(h:aN n o)(l:n<=m):aN m o:=by
 let⟨ns,k,z,e,h1,h2,h3⟩:=h.out;calc⟨ns,k,z,e,h1,h2,⋯⟩
def Bh:GD:=λys ovs K=>∃n o,ys=[.o 0]/\ovs=[o]/\aN n o/\∀o',aN n o'->K (.a 0) [o']
def Bi:WS:=(ak (pW (dC (.int 0)) (aa 0) (dC (.int 2))) (aF (aa 0)))
theorem Q_:Sem 1 0 Bh Bi:=by
 ext ys ovs K'-⟨n,o,rfl,rfl,P,fin⟩;let⟨ns,k,z,rfl,h1,h2,h3⟩:=P.out;unfold Bi hJ;simp!;calc⟨[hJ ns k 0],Y,Y,fin _ ⟨ns,k,0,Y,h1,h2,h3⟩⟩
def eZ:GD:=λys ovs K=>∃(n m:Int)(o:OV),ys=[.o 0,.p (.int m)]/\ovs=[o]/\aN n o/\n<2 ^ 30/\0<m/\m<1073741824/\∀r o',0<=r->r<m->aN (n+1) o'->K (.p (.int r)) [o']
def Bj:WS:=(ak (aW (dT (d2 (d2 (aa 0) (dC (.int 2)) a_) (aa 1) oLt)) (ak (aB 2 (d2 (aa 0) (dC (.int 1)) a_)) (ak (aB 3 (dC (.int 0))) (ak (aW (dT (d2 (aa 2) (dN (ag (d2 (aa 0) (dC (.int 0)) a_) af) bq) oLt)) (aB 3 (d2 (d2 (aa 0) (dC (.int 0)) a_) (aa 2) a_)) (aW (dT (d2 (dN (ag (d2 (aa 0) (dC (.int 0)) a_) af) bq) (dC (.int 0)) (oI λi j=>.bl (S (j<i))))) (aB 3 (d2 (d2 (d2 (aa 0) (dC (.int 0)) a_) (d2 (d2 (d2 (aa 2) (dC (.int 5)) fu) (dC (.int 3)) bK) (dN (ag (d2 (aa 0) (dC (.int 0)) a_) af) bq) (cJ (λ_ j=>0<j) λi j=>.int (i%j))) a_) (d2 (d2 (dC (.int 10)) (dC (.int 17)) (cJ cU λi j=>.int (i ^ j.toNat))) (aa 2) bK) (cJ (λ_ j=>0<j) λi j=>.int (i%j)))) b4)) (ak (pW (d2 (aa 2) (dC (.int 1)) bK) (aa 0) (dC (.int 1))) (pW (aj 2 Bf (ag (aa 3) (ag (aa 2) af))) (aa 0) (dC (.int 2))))))) b4) (ak (aB 4 (d2 (d2 (aa 0) (dC (.int 2)) a_) (aa 1) (cJ (λ_ j=>0<j) λi j=>.int (i%j)))) (ak (pW (d2 (d2 (aa 0) (dC (.int 2)) a_) (aa 1) (cJ sJ λi j=>.int (i.fdiv j))) (aa 0) (dC (.int 2))) (aF (aa 4)))))
theorem Ra:Sem 2 3 eZ Bj:=by
 ext ys ovs K'-⟨n,m,o,rfl,rfl,P,hn,HG,We,fin⟩;let⟨ns,k,z,rfl,h1,h2,h3⟩:=P.out;unfold Bj hJ
 let last:∀(k' z':Int)(sl:-(Option DV)),0<=k'->k'<=n+1->d8 1 K' (.p (.int (z'%m))) ⟨sl,[U (.lst [.lst (ns.map D.int),.int k',.int (z'.fdiv m)])]⟩:=λk' z' sl a b =>
  ⟨[hJ ns k' (z'.fdiv m)],Y,Y,fin _ _ (YA _ ⋯) (Yc _ HG) ⟨ns,k',_,Y,h1,a,b⟩⟩
 let Rb:∀z,sJ z m:=λz=>⟨⋯,⋯⟩
 let rest:∀(k' z':Int)(s2 s3 s4:Option DV),0<=k'->k'<=n+1->(ak (aB 4 (d2 (d2 (aa 0) (dC (.int 2)) a_) (aa 1) (cJ (λ_ j=>0<j) λi j=>.int (i%j)))) (ak (pW (d2 (d2 (aa 0) (dC (.int 2)) a_) (aa 1) (cJ sJ λi j=>.int (i.fdiv j))) (aa 0) (dC (.int 2))) (aF (aa 4)))) (gN 1 K') ⟨[U (.o 0),U (.p (.int m)),s2,s3,s4],[U (.lst [.lst (ns.map D.int),.int k',.int z'])]⟩:=λk' z' s2 s3 s4 a b=>by
  simp![at2,HF];exact⟨HG,Rb _,last _ _ _ a b⟩
 calc aJ λN hN=>?_;calc kY λA B hA hB=>?_;simp![at2];split
 .subst hA
  calc aJ λN2 cX=>?_;simp![fD];subst cX;calc aJ λN2 cX=>?_;simp!;subst cX;refine aJ λN2 cX=>?_
  let go:∀(c:Int)(s4:Option DV),N2 ⟨[U (.o 0),U (.p (.int m)),U (.p (.int k)),U (.p (.int c)),s4],[U (.lst [.lst (ns.map D.int),.int k,.int z])]⟩:=λc s4=>by
   subst cX;simp![Q8];calc⟨c,k,Y,Y,h2,⋯,λz'=>?_⟩;simp![HF];subst hN;exact rest _ _ _ _ _ ⋯ ⋯
  calc kY λA B hA hB=>?_;simp![g_];split
  .rename_i dP
   let⟨c,ec⟩:=HE h2 (Yk dP);subst hA;simp![g_];rw[ec];exact go _ _
  .subst hB
   calc kY λA B hA hB=>?_;simp![g_];split
   .rename_i mz
    let mz:=Yk mz;let⟨c,ec⟩:=HE (ns:=ns) (k:=(k*5+3)%(ns.length:Int)) (YA _ ⋯) (Yc _ mz);subst hA;simp![g_];calc⟨.inr ⟨by decide,by decide⟩,mz,?_⟩;rw[ec];exact⟨⟨by decide,by decide,by decide⟩,by show(0:Int)<10 ^ 17+k;symm,go _ _⟩
   .subst hB
    exact go _ _
 .subst hB hN
  calc rest _ _ _ _ _ ⋯ ⋯
theorem Rc(ns:-Int)(lo hi:Option Int):cutD (ns.map D.int) lo hi=((ns.drop (HT.aP ns.length 0 lo)).take (HT.aP ns.length ns.length hi-HT.aP ns.length 0 lo)).map D.int:=by
 unfold cutD;rw[qJ,q2C,q2D]
noncomputable def bB(p:Int×Int):D:=.tup [.int p.1,.int p.2]
structure cP(many:Int)(ps:-(Int×Int)):Prop where
 ends:∀p∈ps,0<=p.1/\p.1<p.2/\p.2<many
 pY:ps.Nodup
 gR:↑ps<=66
theorem cP.sub{many:Int}{ps qs:-(Int×Int)}(h:cP many ps)(s:qs.Sublist ps):cP many qs :=
 ⟨λp hp=>h.ends p (s.subset hp),h.pY.sublist s,XH s.length_le h.gR⟩
def Bk:GD:=λys ovs K=>∃(n kind many:Int)(o:OV),ys=[.o 0,.p (.int kind),.p (.int many)]/\ovs=[o]/\aN n o/\n+100<2 ^ 30/\1<=many/\many<=12/\∀ps o',cP many ps->aN (n+67) o'->K (.n (ps.map bB)) [o']
def Bl:WS:=(ak (aB 3 (qU af)) (ak (cF (l9 (ag (aa 2) af)) (bJ 4) (iA (pV (aa 3) (ag (iE (l9 (ag (aa 4) af)) [Z,U 4] (bJ 0) fq (cE (ag (aa 0) (ag (aa 1) af)))) af)))) (ak (aW (dT (d2 (aa 1) (dC (.int 1)) oEq)) (aF (n5 (Am (ag (dC (.int 1)) (ag (aa 2) af))) [Z,U 0] (bJ 0) fq (cE (ag (aj 2 eZ (ag (aa 1) (ag (aa 0) af))) (ag (aa 0) af))))) b4) (ak (aW (dT (d2 (aa 1) (dC (.int 2)) oEq)) (ak (aB 5 (iE (l9 (ag (d2 (aa 2) (dC (.int 1)) (oI λi j=>.int (i-j))) af)) [Z] (bJ 0) fq (cE (ag (aa 0) (ag (d2 (aa 0) (dC (.int 1)) bK) af))))) (aF (AG (aa 5) (iE (dA (aa 3)) [Z,U 2] (bJ 0) (gy (dT (d2 (aa 0) (cE (ag (dC (.int 0)) (ag (d2 (aa 1) (dC (.int 1)) (oI λi j=>.int (i-j))) af))) oEq)) (dT (d2 (aa 1) (dC (.int 2)) (oI λi j=>.bl (S (j<i)))))) (aa 0))))) b4) (ak (aW (dT (d2 (aa 1) (dC (.int 3)) oEq)) (aF (aa 3)) b4) (ak (aW (dT (d2 (aa 1) (dC (.int 4)) oEq)) (aF (n5 (dA (aa 3)) [Z,U 0] (bJ 0) (dT (d2 (aj 2 eZ (ag (aa 1) (ag (dC (.int 4)) af))) (dC (.int 0)) oEq)) (aa 0))) b4) (ak (aW (dT (d2 (aa 1) (dC (.int 5)) oEq)) (ak (aB 6 (aj 2 eZ (ag (aa 0) (ag (d2 (aa 2) (dC (.int 1)) bK) af)))) (aF (n5 (dA (aa 3)) [Z,U 6,U 0] (bJ 0) (gy (dT (d2 (d2 (d2 (aa 0) (dC (.int 0)) a_) (aa 1) oLt) (d2 (d2 (aa 0) (dC (.int 1)) a_) (aa 1) oLt) oEq)) (dT (d2 (aj 2 eZ (ag (aa 2) (ag (dC (.int 3)) af))) (dC (.int 0)) (oI λi j=>.bl (S (j<i)))))) (aa 0)))) b4) (aF (n5 (dA (aa 3)) [Z,U 0] (bJ 0) (dT (d2 (aj 2 eZ (ag (aa 1) (ag (dC (.int 2)) af))) (dC (.int 0)) oEq)) (aa 0))))))))))
theorem sub_snoc{α:Type}{zs ps:-α}{i:Nat}{x:α}(h:zs.Sublist (ps.take i))(e:ps[i]?=U x):(zs++[x]).Sublist (ps.take (i+1))/\zs.Sublist (ps.take (i+1)):=by
 let:ps.take (i+1)=ps.take i++[x]:=by rw[Zb,e];rfl
 rw[this];calc⟨h.append (q3j _),h.trans (List.sublist_append_left _ _)⟩
theorem Rf{α:Type}{l:-α}{c:α}(h:l.Nodup)(hc:∀x∈l,x=c):↑l<=1:=by
 match l,h,hc with
 |[],_,_=>exact Xq _
 |[_],_,_=>exact vQ _
 |x::y::r,h,hc =>
  let:=(q2H.mp h).1 y (Mv);calc absurd ((hc x Mv).trans (hc y (Mu _ Mv)).symm) this
theorem Bm{n:Int}{o:OV}{ps:-(Int×Int)}{t:WT}{K:-D->aw->Prop}{rest:-(Option DV)}{ev:Option OV}{bg:aw->Prop}(hc:∀sl o',bg ⟨sl,[U o',ev]⟩)(hw:↑ps<=66)(P:aN n o)(hn:n+70<2 ^ 30)
  (ht:∀(p:Int×Int)(i:Nat)(o':OV)(Q:Bool->aw->Prop),p∈ps->i<=66->aN (n+i) o'->(∀b ke,aN (n+i+1) ke->Q b ⟨U (.p (bB p))::rest,[U ke,ev]⟩)->t ⟨U (.p (bB p))::rest,[U o',ev]⟩ Q)
  (hr:fj 2 rest rest=rest)
  (fin:∀(zs:-(Int×Int)) o',zs.Sublist ps->aN (n+↑ps) o'->K (zs.map bB) ⟨Z::rest,[U o',ev]⟩) :
  iD ⟨Z::rest,[U o,ev]⟩ bg (bJ 0) t (aa 0) K (ps.map bB) [] ⟨Z::rest,[U o,ev]⟩:=by
 refine AE (λi acc δ=>∃(zs:-(Int×Int))(o':OV),zs.Sublist (ps.take i)/\acc=zs.map bB/\aN (n+i) o'/\δ=⟨Z::rest,[U o',ev]⟩) ⟨[],o,q3j _,Y,P.mono ⋯,Y⟩ ?_ ?_
 .ext j d acc δ L hj ⟨zs,o',hz,rfl,P',rfl⟩ hL
  rw[W5] at hj;let⟨p,hp,rfl⟩:=Xf.mp hj;let AQ:j<↑ps:=(ph.mp hp).1;calc⟨hc _ _,?_⟩;show t ⟨U (.p (bB p))::rest,[U o',ev]⟩ _;refine ht p j o' _ (Xu hp) ⋯ P' λb ke mB=>?_
  let hlen:↑(zs.map bB)<1000:=by
   rw[qJ];let:=hz.length_le;rw[Xi] at this;symm
  let P3:aN (n+((j+1:Nat):Int)) ke:=mB.mono ⋯
  cases b with
  |true =>
   rw[Xa Y];calc⟨hlen,hL _ _ ⟨zs++[p],ke,(sub_snoc hz hp).1,by rw[Xo];rfl,P3,?_⟩⟩;show(⟨Z::fj 2 rest rest,_⟩:aw)=_;rw[hr];rfl
  |false =>
   rw[VR (by decide)];calc hL _ _ ⟨zs,ke,(sub_snoc hz hp).2,Y,P3,?_⟩;show(⟨Z::fj 2 rest rest,_⟩:aw)=_;rw[hr];rfl
 .ext acc δ ⟨zs,o',hz,rfl,P',rfl⟩
  rw[qJ] at P' hz;rw[XD (vQ _)] at hz;calc⟨hc _ _,fin zs o' hz P'⟩
theorem Rg:Sem 3 4 Bk Bl:=by
 ext ys ovs K'-⟨n,kind,many,o,rfl,rfl,P,hn,m1,qP,fin⟩;let⟨mm,rfl⟩:∃mm:Nat,many=mm:=⟨many.toNat,⋯⟩;let Bn:mm<=12:=by symm
 unfold Bl;let bL:cP mm (iw mm):=⟨λp hp=>zP hp,Fu mm,Fv mm Bn⟩;calc aJ λN hN=>?_;simp!;subst hN;calc aJ λN hN=>?_;simp!;calc⟨⋯,?_⟩;refine jn (λi δ=>δ=⟨[U (.o 0),U (.p (.int kind)),U (.p (.int mm)),U (.o 1),Z,Z,Z],[U o,U (.lst ((iw i).map bB))]⟩) Y ?_ ?_
 .ext j d δ L hj rfl hL
  let⟨hj,rfl⟩:=l_ hj;simp!;let e:(0+(j:Int))=j:=by symm
  rw[e];refine⟨⋯,?_⟩
  refine oa (λd=>match d with
   |.int a=>bB (a,j)
   |_=>.non) (by rw[me];symm) trivial ?_ ?_
  .ext d hd acc L' ha h
   let⟨i,hi⟩:=Xb.mp hd;let⟨hi,rfl⟩:=l_ hi;simp!;exact⟨ha,h⟩
  .let e2:(iw j).map bB++(b9 0 (j:Int).toNat).map (λd=>match d with
    |.int a=>bB (a,j)
    |_=>.non)=(iw (j+1)).map bB:=by
    show _=(iw j++_).map bB;unfold b9;rw[Xo,XE,XE];congr 1;calc X8 λa _=>?_;simp[q4M]
   simp!;let Wf:=Fv j ⋯;calc⟨by rw[me];symm,?_⟩;rw[e2];exact hL _ Y
 .ext δ rfl
  calc⟨trivial,?_⟩;subst hN;let eL:((mm:Int)).toNat=mm:=by symm
  rw[me,eL];dsimp only
  let back:∀(ps:-(Int×Int))(o':OV)(sl:-(Option DV))(m:-(Option OV)),cP mm ps->aN (n+67) o'->d8 1 K' (.o (↑m+1)) ⟨sl,U o'::(m++[U (.lst (ps.map bB))])⟩:=λps o' sl m h1 h2=>by
   calc⟨[o'],Y,Y,?_⟩;show if ↑m+1<1 then _ else _;rw[VR ⋯]
   let:(U o'::(m++[U (OV.lst (ps.map bB))]))[↑m+1]?=U (U (.lst (ps.map bB))):=by
    rw[YE,W8 (vQ _),Yl];rfl
   dsimp only;rw[this];exact .inl (fin ps o' h1 h2)
  calc aJ λN hN=>?_;simp![av];split
  .refine⟨⋯,?_⟩
   refine AE (λi acc δ=>∃(zs:-(Int×Int))(o':OV),↑zs=i/\(∀(q:Nat)(p:Int×Int),zs[q]?=U p->p.2=q+1/\0<=p.1/\p.1<p.2)/\acc=zs.map bB/\aN (n+i) o'/\δ=⟨[Z,U (.o 0)],[U o',U (.lst ((iw mm).map bB))]⟩) ⟨[],o,Y,λq p e=>by simp at e,Y,P.mono ⋯,Y⟩ ?_ ?_
   .ext j d acc δ L hj ⟨zs,o',hz,hq,rfl,P',rfl⟩ hL
    let⟨hj,rfl⟩:=l_ hj;simp!;calc⟨n+j,1+j,o',Y,Y,P',⋯,⋯,⋯,λr ke r0 r1 mB=>?_⟩;simp!;refine⟨⋯,hL _ _ ⟨zs++[(r,1+(j:Int))],ke,by rw[EB,hz];rfl,λq p e=>?_,by rw[Xo];rfl,mB.mono ⋯,Y⟩⟩
    by_cases c:q<↑zs
    .rw[W6 c] at e
     exact hq q p e
    .let hl:=(ph.mp e).1
     rw[EB,Xx] at hl;let:q=↑zs:=by symm
     subst this;rw[W8 (vQ _),Yl] at e;cases(show U (r,1+(j:Int))=U p by simpa using e)
     exact⟨by show 1+(j:Int)=_;symm,r0,r1⟩
   .ext acc δ ⟨zs,o',hz,hq,rfl,P',rfl⟩
    rw[me] at hz P';calc⟨trivial,?_⟩;refine back zs o' _ [_] ⟨λp hp=>?_,?_,⋯⟩ (P'.mono ⋯)
    .let⟨q,nR⟩:=Xb.mp hp
     let:=hq q p nR;let hl:=(ph.mp nR).1;symm
    .refine q09.mpr λi j hi hj Wg e=>?_
     let q1:=hq i _ (pj hi);let q2:=hq j _ (pj hj);rw[e] at q1;symm
  subst hN;calc aJ λN hN=>?_;simp![av];split
  .clear hN
   refine⟨⋯,?_⟩
   refine oa (λd=>match d with
    |.int a=>bB (a,a+1)
    |_=>.non) (by rw[me];symm) trivial ?_ ?_
   .ext d hd acc L' ha h
    let⟨i,hi⟩:=Xb.mp hd;let⟨hi,rfl⟩:=l_ hi;simp!;exact⟨ha,h⟩
   .simp!
    refine GJ (λd=>av d (bB (0,mm-1))&&S ((2:Int)<mm)) id (by rw[qJ];let:=bL.gR;symm) Y ?_ ?_
    .ext d hd acc L' ha h h'
     let⟨p,hp,rfl⟩:=Xh.mp hd;erw[bB] at h h';simp![bB];split
     .rename_i q1
      split
      .rename_i q2
       exact⟨ha,h (by rw[q1,q2];rfl)⟩
      .rename_i q2
       exact h' (by rw[q1,ZY _ |>.mp q2];rfl)
     .rename_i q1
      exact h' (by rw[ZY _ |>.mp q1];rfl)
    .simp!
     let er:(b9 0 ((mm:Int)-1).toNat).map (λd=>match d with
       |D.int a=>bB (a,a+1)
       |x=>D.non)=((Xy (mm-1)).map λi:Nat=>((i:Int),(i:Int)+1)).map bB:=by
      unfold b9;rw[XE,XE];let:((mm:Int)-1).toNat=mm-1:=by symm
      rw[this];calc X8 λa _=>?_;simp[q4M]
     let ef:(((iw mm).map bB).filter λd=>av d (bB (0,mm-1))&&S ((2:Int)<mm))=((iw mm).filter λp=>av (bB p) (bB (0,mm-1))&&S ((2:Int)<mm)).map bB:=by
      rw[List.filter_map];rfl
     rw[er,q3J,ef,<-Xo]
     let hf:∀p∈(iw mm).filter (λp=>av (bB p) (bB (0,mm-1))&&S ((2:Int)<mm)),p=(0,(mm:Int)-1)/\(2:Int)<mm:=λp hp=>by
      let:=(q0I.mp hp).2;simp[bB,av,cG] at this;let⟨a,b⟩:=p;simp at this ⊢;symm
     let h1:↑((iw mm).filter (λp=>av (bB p) (bB (0,mm-1))&&S ((2:Int)<mm)))<=1:=Rf (bL.pY.sublist q2t) λp hp=>(hf p hp).1;refine⟨by rw[me,qJ];symm,back _ o _ [_] ⟨λp hp=>?_,?_,?_⟩ (P.mono ⋯)⟩
     .rcases Xv.mp hp with hp|hp
      .let⟨i,hi,rfl⟩:=Xh.mp hp
       let:=XC.mp hi;exact⟨⋯,⋯,by show(i:Int)+1<mm;symm⟩
      .exact bL.ends p (q0I.mp hp).1
     .refine X_.mpr ⟨?_,bL.pY.sublist q2t,λa ha b hb e=>?_⟩
      .refine q0k.mpr (q0z.imp λ{a b} ne e=>ne ?_)
       let:=congrArg q57 e;exact q1m this
      .subst e
       let⟨i,hi,rfl⟩:=Xh.mp ha;let:=hf _ hb;let h2:=congrArg q57 this.1;let h3:=congrArg Prod.snd this.1;simp at h2 h3;symm
     .rw[EB,qJ,Yt];symm
  subst hN;calc aJ λN hN=>?_;simp![av];split
  .exact⟨[o],Y,Y,.inl (fin _ _ bL (P.mono ⋯))⟩
  subst hN;calc aJ λN hN=>?_;simp![av];split
  .refine Bm (λ_ _=>Y) bL.gR P ⋯ (λp i o' Q hp hi P' hQ=>?_) Y λzs o' hz P'=>?_
   .simp![av]
    calc⟨n+i,4,o',Y,Y,P',⋯,⋯,⋯,λr ke r0 r1 mB=>?_⟩;simp!;exact hQ _ _ mB
   .exact back zs o' _ [_] (bL.sub hz) (P'.mono (by let:=bL.gR;symm))
  subst hN;calc aJ λN hN=>?_;simp![av];split
  .refine⟨n,mm+1,o,Y,Y,P,⋯,⋯,⋯,λhalf o1 r0 r1 P1=>?_⟩
   simp!;refine Bm (n:=n+1) (λ_ _=>Y) bL.gR P1 ⋯ (λp i o' Q hp hi P' hQ=>?_) Y λzs o' hz P'=>?_
   .simp![av,bB,g_,fD]
    split
    .refine⟨n+1+i,3,o',Y,Y,P',⋯,⋯,⋯,λr ke r0 r1 mB=>?_⟩
     simp!;exact hQ _ _ mB
    .exact hQ _ _ (P'.mono ⋯)
   .exact back zs o' _ [_] (bL.sub hz) (P'.mono (by let:=bL.gR;symm))
  subst hN;simp![av];refine Bm (λ_ _=>Y) bL.gR P ⋯ (λp i o' Q hp hi P' hQ=>?_) Y λzs o' hz P'=>?_
  .simp![av]
   calc⟨n+i,2,o',Y,Y,P',⋯,⋯,⋯,λr ke r0 r1 mB=>?_⟩;simp!;exact hQ _ _ mB
  .calc back zs o' _ [_] (bL.sub hz) (P'.mono (by let:=bL.gR;symm))
theorem Bo{α:Type}:∀{l:-α}{j:Nat}(h:j<↑l),q7x (l[j]::l.eraseIdx j) l
 |x::r,0,h=>q10 _
 |x::r,j+1,h=>by
  let hj:j<↑r:=by simpa using h
  show q7x (r[j]::x::r.eraseIdx j) (x::r);calc(q32 x r[j] _).trans ((Bo hj).cons x)
theorem Bp{α β:Type}(f:α->β):∀(l:-α)(j:Nat),(l.map f).eraseIdx j=(l.eraseIdx j).map f
 |[],_=>Y
 |_::_,0=>Y
 |x::r,j+1=>by
  show f x::(r.map f).eraseIdx j=f x::(r.eraseIdx j).map f;rw[Bp f r j]
noncomputable def bX(y:Int×Int×Int):D:=.tup [.int y.1,.int y.2.1,.int y.2.2]
noncomputable def aK(m:Int)(ys:-(Int×Int×Int)):D:=.tup [.int m,.tup (ys.map bX)]
noncomputable def qc(y:Int×Int×Int):Int×Int:=(y.1,y.2.1)
theorem cP.perm{many:Int}{ps qs:-(Int×Int)}(h:cP many ps)(p:qs.Perm ps):cP many qs :=
 ⟨λx hx=>h.ends x (p.mem_iff.mp hx),p.nodup_iff.mpr h.pY,by rw[p.length_eq];calc h.gR⟩
def Bq:GD:=λys ovs K=>∃(n cY most:Int)(o:OV),ys=[.o 0,.p (.int cY),.p (.int most)]/\ovs=[o]/\aN n o/\n+400<2 ^ 30/\1<=cY/\cY<=12/\0<=most/\most<=30 ∧
 ∀m ws o',fT m ws->m<=cY->(↑ws:Int)<=most->aN (n+300) o'->K (.p (aK m ws)) [o']
def Br:WS:=(ak (aB 3 (aj 2 eZ (ag (aa 0) (ag (dC (.int 8)) af)))) (ak (aB 4 (aj 2 eZ (ag (aa 0) (ag (dC (.int 4)) af)))) (ak (aB 5 (d2 (dC (.int 1)) (aj 2 eZ (ag (aa 0) (ag (aa 1) af))) bK)) (ak (aB 6 (uh 3 Bk (ag (aa 0) (ag (aa 3) (ag (aa 5) af))))) (ak (aB 7 (qU af)) (ak (cF (l9 (ag (dN (ag (aa 2) (ag (dN (ag (aa 6) af) bq) af)) rA) af)) (bJ 8) (ak (pL (wK (aa 6) (ag (aj 2 eZ (ag (aa 0) (ag (dN (ag (aa 6) af) bq) af))) af)) (kT 2 (gM (bJ 9) (gM (bJ 10) jX)))) (ak (aB 11 (d2 (bp (ag (dC (.int 7)) (ag (aj 2 eZ (ag (aa 0) (ag (dC (.int 3)) af))) (ag (d2 (d2 (dC (.int 10)) (dC (.int 9)) (cJ cU λi j=>.int (i ^ j.toNat))) (aj 2 eZ (ag (aa 0) (ag (dC (.int 2)) af))) (oI λi j=>.int (i-j))) (ag (aj 2 eZ (ag (aa 0) (ag (d2 (d2 (dC (.int 10)) (dC (.int 9)) (cJ cU λi j=>.int (i ^ j.toNat))) (dC (.int 1)) bK) af))) af))))) (aa 4) a_)) (iA (j5 (aa 7) (ag (cE (ag (aa 9) (ag (aa 10) (ag (aa 11) af)))) af)))))) (aF (cE (ag (aa 5) (ag (dN (ag (aa 7) af) ux) af))))))))))
theorem Rh:Sem 3 9 Bq Br:=by
 ext ys ovs K'-⟨n,cY,most,o,rfl,rfl,P,hn,h1,Ri,s0,Wh,fin⟩;unfold Br;calc aJ λN hN=>?_;simp!;calc⟨n,8,o,Y,Y,P,⋯,⋯,⋯,λkind o1 _ _ P1=>?_⟩;simp!;subst hN;calc aJ λN hN=>?_;simp!;calc⟨n+1,4,o1,Y,Y,P1,⋯,⋯,⋯,λdZ o2 p0 p4 P2=>?_⟩;simp!;subst hN;calc aJ λN hN=>?_;simp!;calc⟨n+1+1,cY,o2,Y,Y,P2,⋯,⋯,⋯,λmm o3 m0 mh P3=>?_⟩;simp!;subst hN;calc aJ λN hN=>?_;simp!;refine⟨n+1+1+1,kind,1+mm,o3,Y,Y,P3,⋯,⋯,⋯,λps o4 HH P4=>?_⟩
 simp!;subst hN;calc aJ λN hN=>?_;simp!;subst hN;calc aJ λN hN=>?_;let Wi:=HH.gR;simp!;calc⟨⋯,?_⟩;let ek:(min most (↑ps:Int)).toNat=min most.toNat ↑ps:=by symm
 rw[ek];generalize hk:min most.toNat ↑ps=k
 refine jn (λi δ=>∃(qs:-(Int×Int))(ws:-(Int×Int×Int))(o':OV),↑qs+i=↑ps/\↑ws=i/\cP (1+mm) (ws.map qc++qs)/\(∀y∈ws,0<=y.2.2/\y.2.2<=1000000000)/\aN (n+70+4*i) o' ∧
  δ=⟨[U (.o 0),U (.p (.int cY)),U (.p (.int most)),U (.p (.int kind)),U (.p (.int dZ)),U (.p (.int (1+mm))),U (.o 1),U (.o 2),Z,Z,Z,Z],[U o',U (.lst (qs.map bB)),U (.lst (ws.map bX))]⟩)
  ⟨ps,[],o4,⋯,Y,HH,λy hy=>absurd hy Xd,P4.mono ⋯,Y⟩ ?_ ?_
 .ext j d δ L hj ⟨qs,ws,o',hq,hw,hp,hy,P',rfl⟩ hL
  let⟨hj,rfl⟩:=l_ hj;let q0:0<↑qs:=by symm
  let Rj:=hp.gR;rw[EB,qJ] at Rj;calc⟨trivial,?_⟩;erw[bJ,XR,XT];calc aJ λN2 cX=>?_;simp!;calc⟨n+70+4*j,↑qs,o',Y,Y,P',⋯,⋯,⋯,λr o1 r0 r1 P1=>?_⟩;let⟨rn,rfl⟩:∃rn:Nat,r=rn:=⟨r.toNat,⋯⟩;let hr:rn<↑qs:=by symm
  let ix:seqIndex? (rn:Int) ↑qs=U rn:=Fw hr;let eq:(qs.map bB)[rn]?=U (.tup [.int qs[rn].1,.int qs[rn].2]):=by rw[W5,pj hr];rfl
  simp![ix,eq];calc⟨⟨⋯,⋯⟩,?_⟩;subst cX;calc aJ λN2 cX=>?_;erw[aB,d2,bp];calc jo λK3 qd=>?_;simp!;subst qd;calc jo λK3 qd=>?_;simp!;calc⟨n+70+4*j+1,3,o1,Y,Y,P1,⋯,⋯,⋯,λa1 o2 Wj Wk P2=>?_⟩;simp!;subst qd;calc jo λK3 qd=>?_;simp!;calc⟨⟨by decide,by decide,by decide⟩,n+70+4*j+1+1,2,o2,Y,Y,P2,⋯,⋯,⋯,λa2 o3 Wl Wm P3=>?_⟩;simp!;subst qd;calc jo λK3 qd=>?_;simp!;refine⟨⟨by decide,by decide,by decide⟩,n+70+4*j+1+1+1,10 ^ Zf 9+1,o3,Y,Y,P3,⋯,by decide,by decide,λa3 o4 Wn Rk P4=>?_⟩
  simp!;subst qd;simp!;let e9:(10:Int) ^ Zf 9=1000000000:=by decide
  rw[e9] at Rk ⊢
  let⟨pr,Rl,Rm,Rn⟩:∃pr:Int,d3 [D.int 7,D.int a1,D.int (1000000000-a2),D.int a3] dZ=U (.int pr)/\0<=pr/\pr<=1000000000:=by
   let:dZ=0\/dZ=1\/dZ=2\/dZ=3:=by symm
   rcases this with rfl|rfl|rfl|rfl
   .exact⟨7,Y,⋯,⋯⟩
   .exact⟨a1,Y,⋯,⋯⟩
   .exact⟨1000000000-a2,Y,⋯,⋯⟩
   .exact⟨a3,Y,⋯,⋯⟩
  rw[Rl];show N2 _;subst cX;simp!;refine⟨⋯,hL _ ⟨qs.eraseIdx rn,ws++[(qs[rn].1,qs[rn].2,pr)],o4,?_,?_,?_,?_,P4.mono ⋯,?_⟩⟩
  .rw[q07 hr];symm
  .rw[EB,hw];rfl
  .refine hp.perm ?_
   rw[Xo,YX];calc q1X _ ?_;exact Bo hr
  .ext y rJ
   rcases Xv.mp rJ with h|h
   .exact hy y h
   .rw[Xr.mp h];exact⟨Rm,Rn⟩
  .rw[Xo,Bp];rfl
 .ext δ ⟨qs,ws,o',hq,hw,hp,hy,P',rfl⟩
  calc⟨trivial,?_⟩;subst hN;simp!;rw[me] at hw P';calc⟨[o'],Y,Y,?_⟩;refine fin (1+mm) ws o' ⟨⋯,⋯,⋯,λy rJ=>?_,?_⟩ ⋯ ⋯ (P'.mono ⋯)
  .let:=hp.ends (qc y) (Ya _ (Xh.mpr ⟨y,rJ,Y⟩))
   let h2:=hy y rJ;erw[qc] at this;symm
  .calc (X_.mp hp.pY).1
end LJ
namespace L2
open PySem PySem.Spec PyProof.Rows
variable[ay]
def w_:-D->(D->Prop)->Prop
 |[.lst ds],K=>match oo ds with
  |some ps=>(↑ps<=30/\∀p∈ps,0<=p.1/\p.1<p.2/\p.2<12)/\K (.int ↑(fJ ps ↑ps))
  |none=>False
 |_,_=>False
section
variable{X:Cx}{fa:WA}
theorem Ro{a:B}{p1 p2 q1 q2:y}(hc:X.calm=θ)(hu:X.A.units+64<cLine)(uy:Gl X "len")(hl:X.mg "len" = Z)(uz:bootBuiltins "len" = U (.builtin "len"))(uA:Gl X "set")(hr:X.mg "set" = Z)(uB:bootBuiltins "set" = U (.type "set"))(ha:JA X [a] (bH fa))
  (he:starEach [a] X.env=[(ι,eval a X.env)]:=by rfl) (uC:starEach [.Call (.Name "set" p2) [a] [] q2] X.env=[(ι,eval (.Call (.Name "set" p2) [a] [] q2) X.env)]:=by rfl):JE X (.Call (.Name "len" p1) [.Call (.Name "set" p2) [a] [] q2] [] q1) (tD (dN fa w_)) :=
 (vL (NU) uy hl uz (gZ (nE (PY hc hu) uA hr uB ha (he:=he)) aE) (he:=uC)).weak fun σ H Q h0_=>el7 h0_ λF ad δ K S q k =>⟨F,ad,δ,_,S,q,λxs δ1 h1 vs F1 aI H1 E1 S1 V1=>by
  let⟨ds,h2,t9⟩:=zV S1 V1 h1;unfold w_ at h2;split at h2
  .split at h2
   .rename_i es ps e
    let⟨v,rfl,a,vs,rfl,g1,g2⟩:=cw t9;rw[Hd e] at g2;let⟨as,rfl,hl,g⟩:=Hg g2;calc⟨a,as,ps,Y,aX.of g1,hl,λi b k' e1 e2=>S1.sub _ _ (g i b k' e1 e2),h2.1.2,h2.1.1,λp hp=>⟨p,↑(fJ ps ↑ps),Y,aY,by let:=h2.1.1;let:=AM ps ↑ps;symm,?_⟩⟩;let s1:ar H1 (upd H1 p (jU p ↑(fJ ps ↑ps))):=bT hp;exact k _ _ h2.2 _ _ _ _ (E1.trans (Ext.al S1 s1)) (S1.al s1) Y
   .exact h2.elim
  .calc h2.elim⟩
end
end L2
namespace LJ
open PySem L2
variable[ay]
noncomputable def xa:D->Bool
 |.int _=>θ
 |_=>ι
noncomputable def cZ:D->Int->Int->Bool
 |.int i,lo,hi=>S (lo<=i)&&S (i<=hi)
 |_,_,_=>ι
noncomputable def jq:D->Int->Bool
 |.tup ds,n=>(↑ds:Int)==n
 |_,_=>ι
theorem cy{K:RV->-OV->Prop}{d:D}{sl:-(Option DV)}(h:K (.p d) []):d8 0 K (.p d) ⟨sl,[]⟩:=⟨[],Y,Y,h⟩
def xb:GD:=λys ovs K=>∃d,ys=[.p d]/\ovs=[]/\K (.p (.bl (xa d))) []
def Bs:WS:=(aF (iz (d1 (aa 0) (bj "int")) (v9 (d1 (aa 0) (bj "bool")))))
theorem HI:Sem 1 0 xb Bs:=by
 ext ys ovs K'-⟨d,rfl,rfl,k⟩;unfold Bs;simp!;cases d<;>erw[bh,aA]<;>calc cy k
def mC:GD:=λys ovs K=>∃d lo hi,ys=[.p d,.p (.int lo),.p (.int hi)]/\ovs=[]/\K (.p (.bl (cZ d lo hi))) []
def Bt:WS:=(aF (iz (aj 1 xb (ag (aa 0) af)) (wF (aa 1) (aa 0) (aa 2) (oI λi j=>.bl (S (i<=j))) (oI λi j=>.bl (S (i<=j))))))
theorem HJ:Sem 3 0 mC Bt:=by
 ext ys ovs K'-⟨d,lo,hi,rfl,rfl,k⟩;unfold Bt;simp!;calc⟨d,Y,Y,?_⟩;cases d<;>simp![xa,cZ] at k ⊢ <;> first|exact cy k|skip
 rename_i i
 by_cases c:lo<=i
 .rw[VS c] at k ⊢
  erw[Z7] at k;exact cy k
 .rw[W_ c] at k ⊢
  erw[q11] at k;calc cy k
def xc:GD:=λys ovs K=>∃d n,ys=[.p d,.p (.int n)]/\ovs=[]/\K (.p (.bl (jq d n))) []
def Bu:WS:=(aF (iz (d1 (aa 0) (bj "tuple")) (d2 (dN (ag (aa 0) af) bq) (aa 1) oEq)))
theorem Rq:Sem 2 0 xc Bu:=by
 ext ys ovs K'-⟨d,n,rfl,rfl,k⟩;unfold Bu;simp!;cases d<;>simp![bh,aA,jq,av] at k ⊢ <;> calc cy k
noncomputable def HK(m:Int):D->D->Bool
 |.int i,b=>cZ b (i+1) (m-1)
 |_,_=>ι
noncomputable def ou(m:Int)(a b:D):Bool:=cZ a 0 (m-1)&&HK m a b
theorem oy{d:D}{lo hi:Int}(h:cZ d lo hi=θ):∃i,d=.int i/\lo<=i/\i<=hi:=by
 cases d with
 |int i =>
  let h:(S (lo<=i)&&S (i<=hi))=θ:=h;rw[W9,YO,YO] at h;exact⟨i,Y,h⟩
 |_=>cases h
def Bv:GD:=λys ovs K=>∃m a b,ys=[.p (.int m),.p a,.p b]/\ovs=[]/\K (.p (.bl (ou m a b))) []
def Bw:WS:=(aF (iz (aj 3 mC (ag (aa 1) (ag (dC (.int 0)) (ag (d2 (aa 0) (dC (.int 1)) (oI λi j=>.int (i-j))) af)))) (aj 3 mC (ag (aa 2) (ag (d2 (aa 1) (dC (.int 1)) bK) (ag (d2 (aa 0) (dC (.int 1)) (oI λi j=>.int (i-j))) af))))))
theorem Rr:Sem 3 0 Bv Bw:=by
 ext ys ovs K'-⟨m,a,b,rfl,rfl,k⟩;unfold Bw;simp!;calc⟨a,0,m-1,Y,Y,?_⟩;simp!;unfold ou at k;cases q:cZ a 0 (m-1)
 .rw[q] at k
  exact cy k
 .rw[q] at k
  let⟨i,rfl,_,_⟩:=oy q;simp![Z7,HK] at k ⊢;calc⟨b,i+1,m-1,Y,Y,?_⟩;simp!;calc cy k
noncomputable def br(m:Int):D->Bool
 |.tup [a,b,p]=>ou m a b&&cZ p 0 1000000000
 |_=>ι
def Bx:GD:=λys ovs K=>∃m d,ys=[.p (.int m),.p d]/\ovs=[]/\K (.p (.bl (br m d))) []
def By:WS:=(ak (aW (bz (dT (aj 2 xc (ag (aa 1) (ag (dC (.int 3)) af))))) (aF (dC (.bl ι))) b4) (aF (iz (aj 3 Bv (ag (aa 0) (ag (d2 (aa 1) (dC (.int 0)) a_) (ag (d2 (aa 1) (dC (.int 1)) a_) af)))) (aj 3 mC (ag (d2 (aa 1) (dC (.int 2)) a_) (ag (dC (.int 0)) (ag (dC (.int 1000000000)) af)))))))
theorem HL{m:Int}{d:D}(h:jq d 3=ι):br m d=ι:=by
 unfold br;split
 .exact absurd h (by simp[jq])
 .rfl
theorem u5{d:D}(h:jq d 3=θ):∃a b c,d=.tup [a,b,c]:=by
 cases d with
 |tup ds =>
  let h:((↑ds:Int)==3)=θ:=h;let h:=Xc h
  match ds,h with
  |[a,b,c],_=>exact⟨a,b,c,Y⟩
  |[],h=>simp at h
  |[_],h=>simp at h
  |[_,_],h=>simp at h
  |_::_::_::_::r,h=>simp at h;symm
 |_=>cases h
theorem u7{d:D}(h:jq d 2=θ):∃a b,d=.tup [a,b]:=by
 cases d with
 |tup ds =>
  let h:((↑ds:Int)==2)=θ:=h;let h:=Xc h
  match ds,h with
  |[a,b],_=>exact⟨a,b,Y⟩
  |[],h=>simp at h
  |[_],h=>simp at h
  |_::_::_::r,h=>simp at h;symm
 |_=>cases h
theorem Rt:Sem 2 0 Bx By:=by
 ext ys ovs K'-⟨m,d,rfl,rfl,k⟩;unfold By;calc aJ λN hN=>?_;simp!;calc⟨d,3,Y,Y,?_⟩;simp!;cases q:jq d 3
 .rw[HL q] at k
  erw[Zc,YU];exact cy k
 .erw[XX,VQ,XY]
  subst hN;let⟨a,b,c,rfl⟩:=u5 q;simp![g_,fD,at2];calc⟨m,a,b,Y,Y,?_⟩;simp![br] at k ⊢;cases q2:ou m a b
  .rw[q2] at k
   exact cy k
  .rw[q2] at k
   calc⟨c,0,1000000000,Y,Y,?_⟩;simp![Z7] at k ⊢;calc cy k
noncomputable def pairOf:D->Int×Int
 |.tup [.int i,.int j,_]=>(i,j)
 |_=>(0,0)
theorem u9{m:Int}{d:D}(h:br m d=θ):∃i j p,d=.tup [.int i,.int j,.int p]/\0<=i/\i<j/\j<m/\0<=p/\p<=1000000000:=by
 unfold br at h;split at h
 .rename_i a b p
  rw[W9] at h;let⟨h1,h2⟩:=h;unfold ou at h1;rw[W9] at h1;let⟨i,rfl,i0,i1⟩:=oy h1.1;let h3:cZ b (i+1) (m-1)=θ:=h1.2;let⟨j,rfl,j0,j1⟩:=oy h3;let⟨p',rfl,p0,p1⟩:=oy h2;exact⟨i,j,p',Y,i0,⋯,⋯,p0,p1⟩
 .cases h
noncomputable def kZ(m:Int):D->Bool
 |.tup ws=>S (↑ws<=30)&&(ws.all (br m)&&S ((ws.map pairOf).Nodup))
 |_=>ι
def Bz:GD:=λys ovs K=>∃m d,ys=[.p (.int m),.p d]/\ovs=[]/\m<=12/\K (.p (.bl (kZ m d))) []
def BA:WS:=(ak (aW (gL (bz (dT (d1 (aa 1) (bj "tuple")))) (dT (d2 (dN (ag (aa 1) af) bq) (dC (.int 30)) (oI λi j=>.bl (S (j<i)))))) (aF (dC (.bl ι))) b4) (ak (aW (bz (dT (dN (ag (iE (dA (aa 1)) [Z,U 0] (bJ 0) fq (aj 2 Bx (ag (aa 1) (ag (aa 0) af)))) af) mj))) (aF (dC (.bl ι))) b4) (aF (d2 (dN (ag (iE (dA (aa 1)) [Z] (bJ 0) fq (cL (aa 0) cK (gP (dC (.int 2))))) af) w_) (dN (ag (aa 1) af) bq) oEq))))
theorem Ru:Sem 2 0 Bz BA:=by
 ext ys ovs K'-⟨m,d,rfl,rfl,hm,k⟩;unfold BA;refine aJ λN hN=>?_
 by_cases ht:∃ws,d=.tup ws
 .let⟨ws,rfl⟩:=ht
  simp![bh,show aA "tuple" "tuple" = θ from Y]
  by_cases u_:(30:Int)<↑ws
  .rw[Xa (VS u_)]
   let:kZ m (.tup ws)=ι:=by
    show(S (↑ws<=30)&&_)=ι;rw[W_ ⋯];rfl
   rw[this] at k;exact cy k
  .rw[VR (by rw[W_ u_];decide)]
   subst hN;let mD:↑ws<=30:=by symm
   calc aJ λN hN=>?_;simp!;refine oa (λd=>.bl (br m d)) ⋯ trivial ?_ ?_
   .ext d hd acc L ha h
    simp!;calc⟨m,d,Y,Y,?_⟩;simp!;exact⟨ha,h⟩
   .let e:pT (ws.map λd=>D.bl (br m d))=U (ws.map (br m)):=by
     let:=Gy (ws.map (br m));rw[XE] at this;exact this
    simp![e];let ea:(ws.map (br m)).all id=ws.all (br m):=by rw[q5c];rfl
    rw[ea];cases q:ws.all (br m)
    .let:kZ m (.tup ws)=ι:=by
      show(S (↑ws<=30)&&(ws.all (br m)&&_))=ι;rw[q];simp
     rw[this] at k;exact cy k
    .erw[XX,VQ,XY]
     subst hN;let hw:∀w∈ws,br m w=θ:=XN.mp q;simp!;refine oa (λd=>.tup [.int (pairOf d).1,.int (pairOf d).2]) ⋯ trivial ?_ ?_
     .ext d hd acc L ha h
      let⟨i,j,p,rfl,_⟩:=u9 (hw d hd)
      let ec:cutD [D.int i,D.int j,D.int p] Z (U 2)=[D.int i,D.int j]:=by
       unfold cutD;rfl
      simp![ec];exact⟨ha,h⟩
     .let ep:oo (ws.map λd=>D.tup [.int (pairOf d).1,.int (pairOf d).2])=U (ws.map pairOf):=by
       let:=He (ws.map pairOf);rw[XE] at this;exact this
      let kk:kZ m (.tup ws)=S ((ws.map pairOf).Nodup):=by
       show(S (↑ws<=30)&&(ws.all (br m)&&_))=_;rw[q,VS mD];rfl
      rw[kk] at k;simp![w_,ep,av];refine⟨⟨mD,λp hp=>?_⟩,cy ?_⟩
      .let⟨w,Rv,rfl⟩:=Xh.mp hp
       let⟨i,j,p,rfl,a1,a2,a3,_⟩:=u9 (hw w Rv);exact⟨a1,a2,by show j<12;symm⟩
      .let:((↑(fJ (ws.map pairOf) ↑ws):Int)==(↑ws:Int))=S ((ws.map pairOf).Nodup):=by
        by_cases c:(ws.map pairOf).Nodup
        .let e2:=Hf c ↑(ws.map pairOf) (vQ _)
         rw[qJ] at e2;rw[VS c,e2,Xi,qJ,q3g];simp
        .rw[W_ c]
         calc beq_false_of_ne λz=>c (PX ?_);rw[qJ];symm
       rw[this];exact k
 .let:kZ m d=ι:=by
   cases d with
   |tup ws=>exact absurd ⟨ws,Y⟩ ht
   |_=>rfl
  rw[this] at k
  cases d with
  |tup ws=>exact absurd ⟨ws,Y⟩ ht
  |_=>simp![bh];calc cy k
noncomputable def bP:D->Bool
 |.tup [m,ws]=>cZ m 1 12&&(match m with
  |.int i=>kZ i ws
  |_=>ι)
 |_=>ι
def xf:GD:=λys ovs K=>∃d,ys=[.p d]/\ovs=[]/\K (.p (.bl (bP d))) []
def BB:WS:=(ak (aW (bz (dT (aj 2 xc (ag (aa 0) (ag (dC (.int 2)) af))))) (aF (dC (.bl ι))) b4) (aF (iz (aj 3 mC (ag (d2 (aa 0) (dC (.int 0)) a_) (ag (dC (.int 1)) (ag (dC (.int 12)) af)))) (aj 2 Bz (ag (d2 (aa 0) (dC (.int 0)) a_) (ag (d2 (aa 0) (dC (.int 1)) a_) af))))))
theorem Rw:Sem 1 0 xf BB:=by
 ext ys ovs K'-⟨d,rfl,rfl,k⟩;unfold BB;calc aJ λN hN=>?_;simp!;calc⟨d,2,Y,Y,?_⟩;simp!;cases q:jq d 2
 .let:bP d=ι:=by
   unfold bP;split
   .exact absurd q (by simp[jq])
   .rfl
  rw[this] at k;erw[Zc,YU];exact cy k
 .erw[XX,VQ,XY]
  subst hN;let⟨a,b,rfl⟩:=u7 q;simp![g_,fD];calc⟨a,1,12,Y,Y,?_⟩;simp![bP] at k ⊢;cases q2:cZ a 1 12
  .rw[q2] at k
   exact cy k
  .rw[q2] at k
   let⟨i,rfl,_,hi⟩:=oy q2;calc⟨i,b,Y,Y,hi,?_⟩;simp![Z7] at k ⊢;calc cy k
theorem b_{K:RV->-OV->Prop}{d:D}{sl:-(Option DV)}{mu:-(Option OV)}(h:K (.p d) []):d8 0 K (.p d) ⟨sl,mu⟩:=⟨[],Y,Y,h⟩
def xg:GD:=xb
def HM:WS:=(aF (iz (d1 (aa 0) (bj "int")) (v9 (d1 (aa 0) (bj "bool")))))
theorem Rx:Sem 1 0 xg HM:=HI
def qe:GD:=mC
def HN:WS:=(aF (iz (aj 1 xg (ag (aa 0) af)) (wF (aa 1) (aa 0) (aa 2) (oI λi j=>.bl (S (i<=j))) (oI λi j=>.bl (S (i<=j))))))
theorem Ry:Sem 3 0 qe HN:=HJ
theorem Rz(p q:Int×Int):av (bB p) (bB q)=S (p=q):=by
 let⟨a,b⟩:=p;let⟨c,d⟩:=q;erw[bB,av,cG,q2B]
 by_cases h1:a=c<;>by_cases h2:b=d<;>simp[h1,h2]
theorem HP:∀ps:-(Int×Int),aV (ps.map bB)<=1
 |[]=>Xq _
 |p::r=>by
  rw[Xl];let:=HP r;erw[aV,bB,dep];symm
theorem HQ:∀(ps:-(Int×Int))(q:Int×Int),((ps.map bB).any λe=>av e (.tup [.int q.1,.int q.2]))=S (q∈ps)
 |[],q=>by simp
 |p::r,q=>by
  rw[Xl,Y6,HQ r q,show av (bB p) (.tup [.int q.1,.int q.2])=S (p=q) from Rz p q]
  by_cases c:p=q
  .subst c;simp
  .let c':¬ q=p:=λz=>c z.symm
   simp[c,c']
def BC:GD:=xf
def BE:WS:=(ak (aW (gL (bz (dT (d1 (aa 0) (bj "tuple")))) (gL (dT (d2 (dN (ag (aa 0) af) bq) (dC (.int 2)) mf)) (bz (dT (aj 3 qe (ag (d2 (aa 0) (dC (.int 0)) a_) (ag (dC (.int 1)) (ag (dC (.int 12)) af)))))))) (aF (dC (.bl ι))) b4) (ak (aW (gL (bz (dT (d1 (d2 (aa 0) (dC (.int 1)) a_) (bj "tuple")))) (dT (d2 (dN (ag (d2 (aa 0) (dC (.int 1)) a_) af) bq) (dC (.int 30)) (oI λi j=>.bl (S (j<i)))))) (aF (dC (.bl ι))) b4) (ak (aB 1 (qU af)) (ak (cF (dA (d2 (aa 0) (dC (.int 1)) a_)) (bJ 2) (ak (aW (gL (bz (dT (d1 (aa 2) (bj "tuple")))) (gL (dT (d2 (dN (ag (aa 2) af) bq) (dC (.int 3)) mf)) (bz (dT (aj 3 qe (ag (d2 (aa 2) (dC (.int 2)) a_) (ag (dC (.int 0)) (ag (d2 (dC (.int 10)) (dC (.int 9)) (cJ cU λi j=>.int (i ^ j.toNat))) af)))))))) (aF (dC (.bl ι))) b4) (ak (aW (gL (bz (dT (aj 3 qe (ag (d2 (aa 2) (dC (.int 0)) a_) (ag (dC (.int 0)) (ag (d2 (d2 (aa 0) (dC (.int 0)) a_) (dC (.int 1)) (oI λi j=>.int (i-j))) af)))))) (bz (dT (aj 3 qe (ag (d2 (aa 2) (dC (.int 1)) a_) (ag (d2 (d2 (aa 2) (dC (.int 0)) a_) (dC (.int 1)) bK) (ag (d2 (d2 (aa 0) (dC (.int 0)) a_) (dC (.int 1)) (oI λi j=>.int (i-j))) af))))))) (aF (dC (.bl ι))) b4) (ak (aW (dT (d2 (cL (aa 2) cK (gP (dC (.int 2)))) (aa 1) (n_ ι))) (aF (dC (.bl ι))) b4) (iA (j5 (aa 1) (ag (cL (aa 2) cK (gP (dC (.int 2)))) af))))))) (aF (dC (.bl θ)))))))
theorem RA:Sem 1 2 BC BE:=by
 ext ys ovs K'-⟨d,rfl,rfl,k⟩;unfold BE;refine aJ λN hN=>?_
 by_cases ht:jq d 2=θ
 .let⟨a,b,rfl⟩:=u7 ht
  simp![bh,show aA "tuple" "tuple" = θ from Y,g_,fD,av];erw[show(((1+1:Nat):Int)==2)=θ from Y,XX,VQ,XY];calc⟨a,1,12,Y,Y,?_⟩;simp!;erw[bP] at k;cases q2:cZ a 1 12
  .rw[q2] at k
   erw[Zc,YU];exact b_ k
  .rw[q2] at k
   let⟨i,rfl,_,hi⟩:=oy q2;erw[XX,VQ,XY,Z7] at k ⊢;subst hN;refine aJ λN hN=>?_
   by_cases hb:∃ws,b=.tup ws
   .let⟨ws,rfl⟩:=hb
    simp![bh,show aA "tuple" "tuple" = θ from Y,g_,fD,av]
    by_cases u_:(30:Int)<↑ws
    .rw[Xa (VS u_)]
     let:kZ i (.tup ws)=ι:=by
      show(S (↑ws<=30)&&_)=ι;rw[W_ ⋯];rfl
     rw[this] at k;exact b_ k
    .rw[VR (by rw[W_ u_];decide)]
     let mD:↑ws<=30:=by symm
     subst hN
     let kk:kZ i (.tup ws)=(ws.all (br i)&&S ((ws.map pairOf).Nodup)):=by
      show(S (↑ws<=30)&&_)=_;rw[VS mD];rfl
     rw[kk] at k;calc aJ λN hN=>?_;simp!;subst hN;calc aJ λN hN=>?_;simp![fD];refine jn (λj δ=>(∀w∈ws.take j,br i w=θ)/\((ws.take j).map pairOf).Nodup/\δ=⟨[U (.p (.tup [.int i,.tup ws])),U (.o 0),Z],[U (.lst (((ws.take j).map pairOf).map bB))]⟩) ⟨λw hw=>by simp at hw,Zq,Y⟩ ?_ ?_
     .ext j w δ L hj ⟨h1,h2,rfl⟩ hL
      calc⟨trivial,?_⟩;let AQ:j<↑ws:=(ph.mp hj).1;let hm:w∈ws:=Xu hj;let et:ws.take (j+1)=ws.take j++[w]:=by rw[Zb,hj];rfl
      let bad:br i w=ι->K' (.p (.bl ι)) []:=λz=>by
       let:ws.all (br i)=ι:=List.all_eq_false.mpr ⟨w,hm,by rw[z];decide⟩;rw[this] at k;exact k
      erw[bJ,XR,XT];refine aJ λN hN=>?_
      by_cases h3:jq w 3=θ
      .let⟨x,y,z,rfl⟩:=u5 h3
       simp![bh,show aA "tuple" "tuple" = θ from Y,g_,fD,at2,av];erw[show(((2+1:Nat):Int)==3)=θ from Y,XX,VQ,XY];let e9:(10:Int) ^ Zf 9=1000000000:=by decide
       rw[e9];calc⟨⟨by decide,by decide,by decide⟩,z,0,1000000000,Y,Y,?_⟩;simp!;cases qz:cZ z 0 1000000000
       .erw[Zc,YU]
        exact b_ (bad (by show(ou i x y&&cZ z 0 1000000000)=ι;rw[qz,q0q]))
       .erw[XX,VQ,XY]
        subst hN;calc aJ λN hN=>?_;simp![g_,fD];calc⟨x,0,i-1,Y,Y,?_⟩;simp!;cases qx:cZ x 0 (i-1)
        .erw[Zc,YU]
         exact b_ (bad (by show(ou i x y&&cZ z 0 1000000000)=ι;unfold ou;rw[qx];rfl))
        .let⟨u,rfl,_,_⟩:=oy qx
         simp![g_,fD];calc⟨y,u+1,i-1,Y,Y,?_⟩;simp!;cases qy:cZ y (u+1) (i-1)
         .erw[Zc,YU]
          exact b_ (bad (by show((cZ (.int u) 0 (i-1)&&cZ y (u+1) (i-1))&&cZ z 0 1000000000)=ι;rw[qy,q0q];rfl))
         .erw[XX,VQ,XY]
          let⟨v,rfl,_,_⟩:=oy qy
          let good:br i (.tup [.int u,.int v,z])=θ:=by
           show((cZ (.int u) 0 (i-1)&&cZ (.int v) (u+1) (i-1))&&cZ z 0 1000000000)=θ;rw[qx,qy,qz];rfl
          subst hN;let ec:cutD [D.int u,D.int v,z] Z (U 2)=[D.int u,D.int v]:=Y;calc aJ λN hN=>?_;simp![ec];calc⟨XH (HP _) (by decide),?_⟩;let ea:((((ws.take j).map pairOf).map bB).any λe=>av e (.tup [.int u,.int v]))=S ((u,v)∈(ws.take j).map pairOf):=HQ _ (u,v);rw[ea]
          by_cases c:(u,v)∈(ws.take j).map pairOf
          .rw[VS c]
           refine b_ ?_
           let nn:¬ (ws.map pairOf).Nodup:=λnd=>by
            let e2:ws.map pairOf=(ws.take j).map pairOf++(ws.drop j).map pairOf:=by rw[<-Xo,List.take_append_drop]
            rw[e2] at nd;calc(X_.mp nd).2.2 (u,v) c (u,v) ?_ Y;rw[XJ AQ];let:ws[j]=.tup [.int u,.int v,z]:=(ph.mp hj).2;rw[this];exact Mv
           rw[W_ nn,q0q] at k;exact k
          .rw[W_ c]
           erw[VQ,XY];subst hN;simp![ec];let hl:↑(ws.take j)<=30:=by rw[Xi];symm
           refine⟨⋯,hL _ ⟨λw hw=>?_,?_,?_⟩⟩
           .rw[et] at hw
            rcases Xv.mp hw with hw|hw
            .exact h1 w hw
            .rw[Xr.mp hw];exact good
           .rw[et,Xo]
            calc X_.mpr ⟨h2,by simp,λa ha b hb e=>c ?_⟩;let hb:b=(u,v):=by simpa[pairOf] using hb
            rw[<-hb,<-e];exact ha
           .rw[et,Xo,Xo];rfl
      .let:br i w=ι:=HL (ZY _ |>.mp h3)
       cases w with
       |tup ds =>
        simp![bh,show aA "tuple" "tuple" = θ from Y,av];let:((↑ds:Int)==3)=ι:=ZY _ |>.mp h3;rw[this];exact b_ (bad (by assumption))
       |_=>simp![bh];exact b_ (bad (by assumption))
     .ext δ ⟨h1,h2,rfl⟩
      calc⟨trivial,?_⟩;subst hN;simp!;rw[XD (vQ _)] at h1 h2;rw[XN.mpr h1,VS h2] at k;exact b_ k
   .let:kZ i b=ι:=by
     cases b with
     |tup ws=>exact absurd ⟨ws,Y⟩ hb
     |_=>rfl
    rw[this] at k
    cases b with
    |tup ws=>exact absurd ⟨ws,Y⟩ hb
    |_=>simp![fD,bh];exact b_ k
 .let:bP d=ι:=by
   unfold bP;split
   .exact absurd (by simp[jq]) ht
   .rfl
  rw[this] at k
  cases d with
  |tup ds =>
   simp![bh,show aA "tuple" "tuple" = θ from Y,av];let:((↑ds:Int)==2)=ι:=ZY _ |>.mp ht;rw[this];exact b_ k
  |_=>simp![bh];calc b_ k
theorem BF:∀{ds:-D}{d:D},d∈ds->dep d<=aV ds
 |a::r,d,h=>by
  erw[aV];rcases Mt.mp h with rfl|h
  .omega
  .let:=BF h;symm
theorem mE:aA "NoneType" "bool" = ι:=rfl
theorem mF:aA "NoneType" "int" = ι:=rfl
theorem mG:aA "NoneType" "str" = ι:=rfl
theorem mH:aA "NoneType" "tuple" = ι:=rfl
theorem mI:aA "NoneType" "list" = ι:=rfl
theorem k6:aA "bool" "bool" = θ:=rfl
theorem k9:aA "bool" "int" = θ:=rfl
theorem k_:aA "bool" "str" = ι:=rfl
theorem lg:aA "bool" "tuple" = ι:=rfl
theorem lh:aA "bool" "list" = ι:=rfl
theorem kh:aA "int" "bool" = ι:=rfl
theorem ki:aA "int" "int" = θ:=rfl
theorem kj:aA "int" "str" = ι:=rfl
theorem km:aA "int" "tuple" = ι:=rfl
theorem kn:aA "int" "list" = ι:=rfl
theorem jr:aA "str" "bool" = ι:=rfl
theorem ju:aA "str" "int" = ι:=rfl
theorem jw:aA "str" "str" = θ:=rfl
theorem jx:aA "str" "tuple" = ι:=rfl
theorem jy:aA "str" "list" = ι:=rfl
theorem mJ:aA "tuple" "bool" = ι:=rfl
theorem mK:aA "tuple" "int" = ι:=rfl
theorem mL:aA "tuple" "str" = ι:=rfl
theorem mM:aA "tuple" "tuple" = θ:=rfl
theorem mO:aA "tuple" "list" = ι:=rfl
theorem mP:aA "list" "bool" = ι:=rfl
theorem mQ:aA "list" "int" = ι:=rfl
theorem mR:aA "list" "str" = ι:=rfl
theorem mS:aA "list" "tuple" = ι:=rfl
theorem mT:aA "list" "list" = θ:=rfl
theorem BG:∀{as:-D}{d:D},d∈bW as as->∃a,d=.tup [a,a]/\a∈as
 |[],d,h=>nomatch h
 |x::r,d,h=>by
  erw[bW] at h;rcases Mt.mp h with rfl|h
  .exact⟨x,Y,Mv⟩
  .let⟨a,e,m⟩:=BG h
   calc⟨a,e,Mu _ m⟩
theorem BH:∀l:-D,aV (l.map λ_=>D.bl θ)<=55
 |[]=>Xq _
 |_::r=>by
  rw[Xl];let:=BH r;erw[aV,dep];symm
end LJ
namespace L2
open PySem PySem.Spec PyProof.Rows
variable[ay]
section
variable{X:Cx}{fa:WA}
end
end L2
namespace LJ
open PySem L2
variable[ay]
def HR:GD:=λys ovs K=>∃m ws,fT m ws/\ys=[.p (aK m ws)]/\ovs=[]/\K (.p (.bl θ)) []
noncomputable def dO(ns:-Int):D:=.lst (ns.map D.int)
noncomputable def mU(fs:-Int)(i j:Nat):-Int:=fs.map λx=>if x=max (fs.getD i 0) (fs.getD j 0) then min (fs.getD i 0) (fs.getD j 0) else x
theorem RB(fs:-Int)(i j:Nat):↑(mU fs i j)=fs.length:=by unfold mU;rw[qJ]
theorem HS{ns:-Int}{i:Nat}(h:i<ns.length):d3 (ns.map D.int) (i:Int)=U (.int (ns.getD i 0)):=by
 calc jh ?_;rw[W5,pj h,VP,pj h];rfl
theorem cM{K:RV->-OV->Prop}{d:D}{sl:-(Option DV)}{mu:-(Option OV)}(h:K (.p d) []):d8 0 K (.p d) ⟨sl,mu⟩:=⟨[],Y,Y,h⟩
def xh:GD:=λys ovs K=>∃(fs:-Int)(i j:Nat),ys=[.p (dO fs),.p (.int i),.p (.int j)]/\ovs=[]/\i<fs.length/\j<fs.length/\fs.length<=12/\K (.p (dO (mU fs i j))) []
def BI:WS:=(ak (aB 3 (dN (ag (d2 (aa 0) (aa 1) a_) (ag (d2 (aa 0) (aa 2) a_) af)) wH)) (ak (aB 4 (dN (ag (d2 (aa 0) (aa 1) a_) (ag (d2 (aa 0) (aa 2) a_) af)) rA)) (aF (iE (dA (aa 0)) [Z,U 4,U 3] (bJ 0) fq (zX (dT (d2 (aa 0) (aa 2) oEq)) (aa 1) (aa 0))))))
theorem RC:Sem 3 2 xh BI:=by
 ext ys ovs K'-⟨fs,i,j,rfl,rfl,hi,hj,Ri,k⟩;let a1:=HS hi;let a2:=HS hj;unfold BI dO;calc aJ λN hN=>?_;simp![a1,a2];subst hN;calc aJ λN hN=>?_;simp![a1,a2];subst hN;simp!
 refine oa (λd=>match d with
  |.int x=>.int (if x=max (fs.getD i 0) (fs.getD j 0) then min (fs.getD i 0) (fs.getD j 0) else x)
  |_=>.non) (by rw[qJ];symm) trivial ?_ ?_
 .ext d hd acc L ha h
  let⟨x,_,rfl⟩:=Xh.mp hd;simp!;cases q:av (.int x) (.int (max (fs.getD i 0) (fs.getD j 0)))
  .let:¬ x=max (fs.getD i 0) (fs.getD j 0):=λz=>by rw[z,fH] at q;cases q
   erw[this,XY] at h;exact⟨ha,h⟩
  .let:x=max (fs.getD i 0) (fs.getD j 0):=by erw[av] at q;exact Xc q
   erw[this,YU] at h;exact⟨ha,h⟩
 .refine cM ?_
  let e:(fs.map D.int).map (λd=>match d with
   |.int x=>D.int (if x=max (fs.getD i 0) (fs.getD j 0) then min (fs.getD i 0) (fs.getD j 0) else x)
   |_=>.non)=(mU fs i j).map D.int:=by
   unfold mU;rw[XE,XE];rfl
  rw[e];calc k
noncomputable def iZ(ws:-(Int×Int×Int))(n:Int):Nat×Nat:=((ws.getD n.toNat (0,0,0)).1.toNat,(ws.getD n.toNat (0,0,0)).2.1.toNat)
noncomputable def kq(ws:-(Int×Int×Int))(fs:-Int)(ns:-Int):-Int:=ns.foldl (λfs n=>mU fs (iZ ws n).1 (iZ ws n).2) fs
theorem BJ(ws:-(Int×Int×Int)):∀(ns:-Int)(fs:-Int),↑(kq ws fs ns)=fs.length
 |[],fs=>Y
 |n::r,fs=>by
  show↑(kq ws (mU fs _ _) r)=_;rw[BJ ws r,RB]
noncomputable def lj(m:Int)(ws:-(Int×Int×Int))(ns:-Int):-Int:=kq ws (cN m.toNat) ns
def Nums(ws:-(Int×Int×Int))(ns:-Int):Prop:=∀n∈ns,0<=n/\n<(↑ws:Int)
theorem BK{m:Int}{ws:-(Int×Int×Int)}(W:fT m ws){n:Int}(h0:0<=n)(h1:n<(↑ws:Int)):∃y,ws.getD n.toNat (0,0,0)=y/\y∈ws/\d3 (ws.map bX) n=U (bX y)/\∃i j:Nat,y.1=i/\y.2.1=j/\i<m.toNat/\j<m.toNat/\i<j:=by
 let⟨k,rfl⟩:∃k:Nat,n=k:=⟨n.toNat,⋯⟩;let hk:k<↑ws:=by symm
 refine⟨ws[k],?_,YT hk,jh ?_,?_⟩
 .rw[YM,VP,pj hk];rfl
 .rw[W5,pj hk];rfl
 .let⟨a,b,c,_,_⟩:=W.ends _ (YT hk)
  calc⟨ws[k].1.toNat,ws[k].2.1.toNat,⋯,⋯,⋯,⋯,⋯⟩
def BL:GD:=λys ovs K=>∃(m:Int)(ws:-(Int×Int×Int))(ns:-Int),fT m ws/\Nums ws ns/\((ys=[.p (aK m ws),.p (dO ns)]/\ovs=[]/\K (.p (dO (lj m ws ns))) [])\/(ys=[.p (aK m ws),.o 0]/\ovs=[.lst (ns.map D.int)]/\K (.p (dO (lj m ws ns))) [.lst (ns.map D.int)]))
def xi:WS:=(ak (aB 2 (Az (ag (d2 (aa 0) (dC (.int 0)) a_) af))) (ak (cF (dA (aa 1)) (bJ 3) (ak (aB 4 (d2 (d2 (aa 0) (dC (.int 1)) a_) (aa 3) a_)) (aB 2 (aj 3 xh (ag (aa 2) (ag (d2 (aa 4) (dC (.int 0)) a_) (ag (d2 (aa 4) (dC (.int 1)) a_) af))))))) (aF (aa 2))))
theorem RD:Sem 2 3 BL xi:=by
 ext ys ovs K'-⟨m,ws,ns,W,hn,h⟩;let m1:=W.m1;let qP:=W.qP;let il:↑(cN m.toNat)=m.toNat:=by unfold cN;simp
 let core:∀(x:DV)(mu:-(Option OV))(bg:aw->Prop)(K:KS),(∀sl,bg ⟨sl,mu⟩)->(∀fs,fs=lj m ws ns->K.nx ⟨[U (.p (aK m ws)),U x,U (.p (dO fs)),Z,Z],mu⟩)->((∃d,x=.p d)\/∃k,x=.o k/\k<↑mu) →
   jY ⟨[U (.p (aK m ws)),U x,U (.p (dO (cN m.toNat))),Z,Z],mu⟩ bg (bJ 3) (ak (aB 4 (d2 (d2 (aa 0) (dC (.int 1)) a_) (aa 3) a_)) (aB 2 (aj 3 xh (ag (aa 2) (ag (d2 (aa 4) (dC (.int 0)) a_) (ag (d2 (aa 4) (dC (.int 1)) a_) af)))))) K (ns.map D.int) ⟨[U (.p (aK m ws)),U x,U (.p (dO (cN m.toNat))),Z,Z],mu⟩:=by
  ext x mu bg K hc hK hx;refine jn (λi δ=>δ=⟨[U (.p (aK m ws)),U x,U (.p (dO (kq ws (cN m.toNat) (ns.take i)))),Z,Z],mu⟩) Y ?_ ?_
  .ext j d δ L hj rfl hL
   rw[W5] at hj;let⟨n,qf,rfl⟩:=Xf.mp hj;let⟨n0,n1⟩:=hn n (Xu qf);let⟨y,ey,hy,ea,i,k,e1,e2,h1,h2,_⟩:=BK W n0 n1;calc⟨hc _,?_⟩;erw[bJ,XR,XT];calc aJ λN hN=>?_;simp![fD,aK,ea];subst hN;simp![g_,fD,bX];let hlen:↑(kq ws (cN m.toNat) (ns.take j))=m.toNat:=by rw[BJ,il]
   refine⟨kq ws (cN m.toNat) (ns.take j),i,k,by rw[e1,e2],Y,⋯,⋯,⋯,?_⟩
   let ej:mU (kq ws (cN m.toNat) (ns.take j)) i k=kq ws (cN m.toNat) (ns.take (j+1)):=by
    let:ns.take (j+1)=ns.take j++[n]:=by rw[Zb,qf];rfl
    rw[this];unfold kq;rw[List.foldl_append];show _=mU _ (iZ ws n).1 (iZ ws n).2
    let:iZ ws n=(i,k):=by
     unfold iZ;rw[ey,e1,e2,YM,YM]
    rw[this]
   rw[ej]
   let eq:(aw.trim ⟨[U (.p (aK m ws)),U x,U (.p (dO (cN m.toNat))),Z,Z],mu⟩ ⟨[U (.p (aK m ws)),U x,U (.p (dO (kq ws (cN m.toNat) (ns.take (j+1))))),U (.p (.int n)),U (.p (bX y))],mu⟩)=⟨[U (.p (aK m ws)),U x,U (.p (dO (kq ws (cN m.toNat) (ns.take (j+1))))),Z,Z],mu⟩:=by
    unfold aw.trim;rw[q3v];rcases hx with⟨d,rfl⟩|⟨q,rfl,this⟩
    .rfl
    .erw[fj,wd,this,YU]
   let:=hL _ Y;rw[<-eq] at this;exact this
  .ext δ rfl
   rw[qJ,XD (vQ _)];exact⟨hc _,hK _ Y⟩
 let rg:b9 0 m.toNat=(cN m.toNat).map D.int:=wJ m.toNat;rcases h with⟨rfl,rfl,k⟩|⟨rfl,rfl,k⟩
 .unfold xi
  calc aJ λN hN=>?_;simp![g_,aK];calc⟨⟨⋯,⋯⟩,?_⟩;subst hN;rw[rg];calc aJ λN hN=>ot λg' b' K2 hg hb' hK=>?_;simp![dO];subst hg hb' hK;calc core (.p (dO ns)) [] _ _ (λ_=>trivial) (λfs e=>?_) (.inl ⟨_,Y⟩);subst e;show N _;subst hN;simp!;exact cM k
 .unfold xi
  calc aJ λN hN=>?_;simp![g_,aK];calc⟨⟨⋯,⋯⟩,?_⟩;subst hN;rw[rg];calc aJ λN hN=>ot λg' b' K2 hg hb' hK=>?_;simp!;subst hg hb' hK;calc core (.o 0) [U (.lst (ns.map D.int))] _ _ (λ_=>Y) (λfs e=>?_) (.inr ⟨0,Y,Nat.zero_lt_one⟩);subst e;show N _;subst hN;simp!;calc⟨[.lst (ns.map D.int)],Y,Y,k⟩
noncomputable def HU(ls:-(-Int)):D:=.lst (ls.map dO)
theorem RE{m:Int}{ws:-(Int×Int×Int)}{ns:-Int}:↑(lj m ws ns)=m.toNat:=by
 unfold lj;rw[BJ];unfold cN;simp
theorem RF{n:Nat}{z:Int}(h:z∈cN n):0<=z/\z<(n:Int):=by
 unfold cN at h;let⟨i,hi,rfl⟩:=Xh.mp h;let:=XC.mp hi;simp;symm
theorem RG(n:Nat):(cN n).Nodup:=by
 unfold cN;calc q0k.mpr (q0z.imp λ{a b} ne e=>ne ?_);calc q1m e
def BM:GD:=λys ovs K=>∃(n m most:Int)(ws:-(Int×Int×Int))(o:OV),fT m ws/\ys=[.o 0,.p (aK m ws),.p (.int most)]/\ovs=[o]/\aN n o/\n+100<2 ^ 30/\0<=most/\most<=1000 ∧
 ∀ns o',Nums ws ns->ns.Nodup->(ns.length:Int)<=most->ns.length<=↑ws->aN (n+31) o'->K (.n (ns.map D.int)) [o']
def BN:WS:=(ak (aB 3 (AF (ag (dN (ag (d2 (aa 1) (dC (.int 1)) a_) af) bq) af))) (ak (aB 4 (qU af)) (ak (cF (l9 (ag (dN (ag (dN (ag (aa 3) af) bq) (ag (aj 2 eZ (ag (aa 0) (ag (d2 (aa 2) (dC (.int 1)) bK) af))) af)) rA) af)) (bJ 5) (iA (j5 (aa 4) (ag (wK (aa 3) (ag (aj 2 eZ (ag (aa 0) (ag (dN (ag (aa 3) af) bq) af))) af)) af)))) (aF (aa 4)))))
theorem RH:Sem 3 3 BM BN:=by
 ext ys ovs K'-⟨n,m,most,ws,o,W,rfl,rfl,P,hn,s0,s1,fin⟩;let HV:=W.jV;unfold BN;calc aJ λN hN=>?_;simp![fD,aK];calc⟨⟨⋯,⋯⟩,?_⟩;subst hN;rw[YM,wJ];calc aJ λN hN=>?_;simp!;subst hN;calc aJ λN hN=>ot λg' b' K2 hg hb' hK=>?_;simp!;calc⟨n,most+1,o,Y,Y,P,⋯,⋯,⋯,λr o1 r0 r1 P1=>?_⟩;let il:↑(cN ↑ws)=↑ws:=by unfold cN;simp
 simp![il];calc⟨⋯,?_⟩;subst hg hb' hK;let ek:(min (↑ws:Int) r).toNat=min ↑ws r.toNat:=by symm
 rw[ek];generalize hk:min ↑ws r.toNat=k
 refine jn (λi δ=>∃(ls fs:-Int)(o':OV),↑ls+i=↑ws/\fs.length=i/\(fs++ls).Nodup/\Nums ws (fs++ls)/\aN (n+1+i) o' ∧
  δ=⟨[U (.o 0),U (.p (.tup [.int m,.tup (ws.map bX)])),U (.p (.int most)),U (.o 1),U (.o 2),Z],[U o',U (.lst (ls.map D.int)),U (.lst (fs.map D.int))]⟩)
  ⟨cN ↑ws,[],o1,⋯,Y,RG _,λz hz=>RF hz,P1.mono ⋯,Y⟩ ?_ ?_
 .ext j d δ L hj ⟨ls,fs,o',hl,hf,nd,nu,P',rfl⟩ hL
  let⟨hj,rfl⟩:=l_ hj;let q0:0<↑ls:=by symm
  simp!;calc⟨n+1+j,↑ls,o',Y,Y,P',⋯,⋯,⋯,λz o2 z0 z1 P2=>?_⟩;let⟨zn,rfl⟩:∃zn:Nat,z=zn:=⟨z.toNat,⋯⟩;let hz:zn<↑ls:=by symm
  let ix:seqIndex? (zn:Int) ↑ls=U zn:=Fw hz;let eq:(ls.map D.int)[zn]?=U (.int ls[zn]):=by rw[W5,pj hz];rfl
  simp![ix,eq]
  let pm:((fs++[ls[zn]])++ls.eraseIdx zn).Perm (fs++ls):=by
   rw[YX];exact q1X _ (Bo hz)
  refine⟨⟨⋯,⋯⟩,⋯,hL _ ⟨ls.eraseIdx zn,fs++[ls[zn]],o2,?_,?_,pm.nodup_iff.mpr nd,λx hx=>nu x (pm.mem_iff.mp hx),P2.mono ⋯,?_⟩⟩
  .rw[q07 hz];symm
  .rw[EB,hf];rfl
  .rw[Xo,Bp];rfl
 .ext δ ⟨ls,fs,o',hl,hf,nd,nu,P',rfl⟩
  calc⟨trivial,?_⟩;show N _;subst hN;simp!;rw[me] at hf P';calc⟨[o'],Y,Y,.inl (fin fs o' (λx hx=>nu x (Ya _ hx)) (X_.mp nd).1 ⋯ ⋯ (P'.mono ⋯))⟩
end LJ
namespace L2
open PySem PySem.Spec PyProof.Rows PySem.W
section
variable{prog:n}{w:g}{A:q}{E:aM}{s:L}{Q:Bool->L->Prop}
end
section
variable{X:Cx}{pins:aq}{σ:St}{H:Hp}{s:L}{A:q}{E:aM}{a:O}{vs:-J}{ks:-LK}{κ:SortKind}
end
section
variable[ay]{X:Cx}
end
end L2
namespace LJ
open PySem L2 PySem.W
end LJ
namespace LJ
open PySem L2
variable[ay]
def BO:GD:=λys ovs K=>∃(m:Int)(ws:-(Int×Int×Int)),fT m ws/\ys=[.p (aK m ws)]/\ovs=[]/\K (.p .non) []
def BP:WS:=(aW (bz (dT (aj 1 HR (ag (aa 0) af)))) pJ b4)
theorem RI:Sem 1 0 BO BP:=by
 ext ys ovs K'-⟨m,ws,W,rfl,rfl,k⟩;unfold BP;simp!;calc⟨m,ws,W,Y,Y,?_⟩;simp!;calc cM k
end LJ
namespace L2
open PySem PySem.Spec PyProof.Rows
variable[ay]
noncomputable def bG(kvs:-(Key×D))(k:Key):Option D:=(kvs.find? λkv=>S (kv.1=k)).map (·.2)
noncomputable def putD(kvs:-(Key×D))(k:Key)(d:D):-(Key×D) :=
 if(kvs.any λkv=>S (kv.1=k))=θ then kvs.map (λkv=>if kv.1=k then(kv.1,d) else kv) else kvs++[(k,d)]
theorem eK.val{F:Hp}(k:Key):∀{fh:-(Key×D)}{ws:-(Key×V)},eK F fh ws->(bG fh k=Z/\bF ws k=Z)\/∃d v,bG fh k=U d/\bF ws k=U v/\Is F d v
 |[],_,h=>by let h:_=[]:=h;subst h;exact .inl ⟨Y,Y⟩
 |kd::r,_,⟨v,t,e,h1,h2⟩=>by
  subst e
  by_cases c:kd.1=k
  .refine .inr ⟨kd.2,v,?_,tX c,h1⟩
   unfold bG;rw[q1L c⁻¹];rfl
  .rw[tY c]
   let e:bG (kd::r) k=bG r k:=by unfold bG;rw[q1M c⁻¹]
   rw[e];calc eK.val k h2
theorem eK.length{F:Hp}:∀{fh:-(Key×D)}{ws:-(Key×V)},eK F fh ws->↑ws=↑fh
 |[],_,h=>by let h:_=[]:=h;subst h;rfl
 |kd::r,_,⟨v,t,e,h1,h2⟩=>by subst e;rw[EA,EA,↑h2]
theorem eK.any{F:Hp}(k:Key):∀{fh:-(Key×D)}{ws:-(Key×V)},eK F fh ws->(ws.any λkv=>S (kv.1=k))=fh.any λkv=>S (kv.1=k)
 |[],_,h=>by let h:_=[]:=h;subst h;rfl
 |kd::r,_,⟨v,t,e,h1,h2⟩=>by subst e;rw[Y6,Y6,h2.any k]
theorem eK.g0{F:Hp}(k:Key){d:D}{v:V}(hd:Is F d v):∀{fh:-(Key×D)}{ws:-(Key×V)},eK F fh ws->eK F (fh.map λkv=>if kv.1=k then(kv.1,d) else kv) (ws.map λkv=>if kv.1=k then(kv.1,v) else kv)
 |[],_,h=>by let h:_=[]:=h;subst h;rfl
 |kd::r,_,⟨u,t,e,h1,h2⟩=>by
  subst e
  by_cases c:kd.1=k
  .rw[Xl,Xl,Xa c,Xa c]
   exact⟨v,_,Y,hd,h2.g0 k hd⟩
  .rw[Xl,Xl,VR c,VR c]
   calc⟨u,_,Y,h1,h2.g0 k hd⟩
theorem eK.snoc{F:Hp}{k:Key}{d:D}{v:V}(hd:Is F d v):∀{fh:-(Key×D)}{ws:-(Key×V)},eK F fh ws->eK F (fh++[(k,d)]) (ws++[(k,v)])
 |[],_,h=>by let h:_=[]:=h;subst h;exact⟨v,[],Y,hd,Y⟩
 |kd::r,_,⟨u,t,e,h1,h2⟩=>by subst e;calc⟨u,_,Y,h1,h2.snoc hd⟩
theorem eK.put{F:Hp}{fh:-(Key×D)}{ws:-(Key×V)}{k:Key}{d:D}{v:V}(h:eK F fh ws)(hd:Is F d v):eK F (putD fh k d) (putK ws k v):=by
 unfold putD putK;rw[h.any k];split
 .exact h.g0 k hd
 .calc h.snoc hd
def gD(x:DV)(δ:aw)(K:Nat->-(Key×D)->Prop):Prop:=match x with
 |.o k=>match δ.mu[k]? with
  |some (some (.dct kvs))=>K k kvs
  |_=>False
 |_=>False
theorem HW{F H:Hp}{ad:-O}{δ:aw}{σ:St}{x:DV}{v:V}{K:Nat->-(Key×D)->Prop}(S:SR F ad δ σ H)(V1:df F ad x v)(h:gD x δ K):∃k kvs a ws,x=.o k/\K k kvs/\v=.ref a/\ad[k]?=U a/\H a=U (.dK ws)/\eK F kvs ws/\δ.mu[k]?=U (U (.dct kvs)):=by
 unfold gD at h;split at h
 .rename_i k
  split at h
  .rename_i kvs e
   let⟨a,e1,rfl⟩:=V1;let⟨a',o,e2,e3,ws,rfl,h4⟩:=S.mu k _ e;rw[e1] at e2;cases e2;exact⟨k,kvs,a,ws,Y,h,Y,e1,e3,h4,e⟩
  .exact h.elim
 .calc h.elim
def gE(x:DV)(P:Int->Prop):Prop:=match x with
 |.p (.int i)=>P i
 |_=>False
theorem HX{F:Hp}{ad:-O}{x:DV}{v:V}{P:Int->Prop}(hv:df F ad x v)(h:gE x P):∃i,v=kV (.inl i)/\P i:=by
 unfold gE at h;split at h
 .rename_i i;exact⟨i,hv,h⟩
 .calc h.elim
def va:WE:=fun δ K=>K (.o ↑δ.mu) ⟨δ.sl,δ.mu++[U (.dct [])]⟩
def i5(neg:Bool)(fi fo:WE):WE:=fun δ K=>fi δ λx δ1=>fo δ1 λy δ2=>gE x λi=>gD y δ2 λ_ kvs=>K (.p (.bl (neg != (bG kvs (.inl i)).isSome))) δ2
def vb(fv fo fi:WE):WS:=λK δ=>fv δ λz δ1=>fo δ1 λx δ2=>fi δ2 λy δ3=>lU z δ3 λd δ4=>gE y λi=>gD x δ4 λk kvs=>↑kvs<1000/\K.nx ⟨δ4.sl,δ4.mu.set k (U (.dct (putD kvs (.inl i) d)))⟩
section
variable{X:Cx}{o i e v:B}{fo fi fv fk fe:WE}{pos:y}
theorem RJ:JE X (.Dict [] [] pos) (tD va):=gv.weak fun σ H Q ⟨F,ad,δ,K,S,q,k⟩ p hp=>by
 let oi:eW F (.dct []) (.dK []):=⟨[],Y,Y⟩;calc k _ _ q _ _ _ _ (Ext.own S hp) (S.own hp oi) ⟨p,?_,Y⟩;rw[<-S.cf,W8 (vQ _),Yl];rfl
theorem RK{neg:Bool}(td:TE)(hn:∀σ H (Q:VK),(tD fi σ H λy H1=>tD fo σ H1 λx H2=>∃a o,x=.ref a/\iP H2 a y o/\Q (.bl (neg != o.isSome)) H2)->td σ H Q):∀σ H Q,tD (i5 neg fi fo) σ H Q->td σ H Q:=fun σ H Q h0_=>el7 h0_ λF ad δ K S q k =>hn σ H Q ⟨F,ad,δ,_,S,q,λx δ1 h1 v F1 aI H1 E1 S1 V1=>⟨F1,aI,δ1,_,S1,h1,λy δ2 h2 u F2 bZ H2 E2 S2 V2=>by
  let⟨i,rfl,h3⟩:=HX (V1.ext E2) h2;let⟨k0,kvs,a,ws,rfl,h4,rfl,e1,e2,i1,m1⟩:=HW S2 V2 h3;refine⟨a,_,Y,iP.k e2,?_⟩
  let es:(bF ws (ZK i:Key)).isSome=(bG kvs (.inl i)).isSome:=by
   rcases i1.val (.inl i) with⟨z1,z2⟩|⟨d,v,z1,z2,_⟩
   .rw[z1,z2];rfl
   .rw[z1,z2];rfl
  rw[es]
  calc k _ _ h4 _ _ _ _ (E1.trans E2) S2 Y⟩⟩
theorem RL{t:TE}{f:WE}(h:∀σ H Q,tD f σ H Q->t σ H Q):∀σ H Q,cg (dT f) σ H Q->tB t σ H Q:=fun σ H Q h0_=>el7 h0_ λF ad δ K S q k =>h σ H _ ⟨F,ad,δ,_,S,q,λx δ1 h1 v F1 aI H1 E1 S1 V1=>by
  let⟨b,rfl,h2⟩:=ub V1 h1
  calc⟨b,Y,k _ _ h2 _ _ _ E1 S1⟩⟩
theorem RM(hu:X.A.units+64<cLine)(hi:JE X i (tD fi))(ho:JE X o (tD fo))(hm:behindInMarks .In o=ι:=by rfl):JT X (.Compare i [.In] [o] pos) (cg (dT (i5 ι fi fo))) :=
 (DR (NP ⋯ hi ho) hm).weak (RL (RK (tZ (tD fi) (tD fo)) fun σ H Q h=>by erw[q4k] at h;calc h))
theorem RN[bu]{pos':Ε}(hu:X.A.units+64<cLine)(ho:JE X o (tD fo))(hi:JE X i (tD fi))(hv:JE X v (tD fv))(hs:swapsWith v (U (.Subscript o i pos')) pos.line X.env=pure ι:=by rfl):JS X (.Assign [.Subscript o i pos'] v pos) (b8 (vb fv fo fi)) :=
 (NQ ⋯ ho hi hv hs).weak λD σ H h0_=>el7 h0_ λF ad δ K S q k =>⟨F,ad,δ,_,S,q,λz δ1 h1 w F1 aI H1 E1 S1 V1=>⟨F1,aI,δ1,_,S1,h1,λx δ2 h2 u F2 bZ H2 E2 S2 V2=>⟨F2,bZ,δ2,_,S2,h2,λy δ3 h3 t F3 qX H3 E3 S3 V3=>by
  let⟨d,δ4,F4,h4,E4,S4,i4⟩:=ua S3 ((V1.ext E2).ext E3) h3;let⟨i,rfl,h5⟩:=HX V3 h4;let⟨k0,kvs,a,ws,rfl,h6,rfl,e1,e2,i1,m1⟩:=HW S4 ((V2.ext E3).ext E4) h5;let oi:eW F4 (.dct (putD kvs (.inl i) d)) (.dK (putK ws (.inl i) w)):=⟨_,Y,i1.put i4⟩;refine⟨a,_,Y,jT.k e2 (lM (by rw[↑i1];calc Y4 h6.1)),?_⟩
  calc k.nx _ h6.2 _ _ _ _ ((((E1.trans E2).trans E3).trans E4).trans (Ext.put S4 m1 e1)) (S4.put m1 e1 oi)⟩⟩⟩
end
end L2
namespace LJ
open PySem L2
variable[ay]
theorem HY{kvs:-(Key×D)}{k l:Key}{d:D}(h:bG kvs k=Z):bG (putD kvs k d) l=if l=k then U d else bG kvs l:=by
 let na:(kvs.any λkv=>S (kv.1=k))=ι:=by
  cases q:kvs.any λkv=>S (kv.1=k) with
  |false=>rfl
  |true =>
   let⟨kv,h1,h2⟩:=q3w.mp q;unfold bG at h;rw[Option.map_eq_none_iff] at h;exact absurd h2 (q0a.mp h kv h1)
 unfold putD;rw[na,VR Mw];unfold bG;rw[List.find?_append]
 cases q:kvs.find? λkv=>S (kv.1=l) with
 |some kv =>
  let e:=Z8 q;let e:kv.1=l:=by simpa using e
  rw[VR]
  .rfl
  .ext z
   subst z;let hm:=Z1 q;let:=YZ.mp na kv hm;exact this e⁻¹
 |none =>
  by_cases c:l=k
  .subst c
   rw[Xa Y];simp
  .rw[VR c]
   simp[show ¬ k=l fromλz=>c z.symm]
theorem HZ{kvs:-(Key×D)}{k:Key}{d:D}:↑(putD kvs k d)<=↑kvs+1:=by
 unfold putD;split
 .rw[qJ];symm
 .rw[EB];simp
def BQ:GD:=λys ovs K=>∃(m:Int)(ws:-(Int×Int×Int))(ns:-Int),fT m ws/\Nums ws ns/\ns.Nodup/\ns.length<=900/\ys=[.p (aK m ws),.p (dO ns)]/\ovs=[]/\K (.p .non) []
def BR:WS:=(ak (iA (aj 1 BO (ag (aa 0) af))) (ak (aW (bz (dT (d1 (aa 1) (bj "list")))) pJ b4) (ak (aB 2 (d2 (dN (ag (d2 (aa 0) (dC (.int 1)) a_) af) bq) (dC (.int 1)) (oI λi j=>.int (i-j)))) (ak (aB 3 va) (cF (iX (ag (aa 1) af)) (kT 2 (gM (bJ 4) (gM (bJ 5) jX))) (ak (aW (gL (bz (dT (aj 3 mC (ag (aa 5) (ag (dC (.int 0)) (ag (aa 2) af)))))) (dT (i5 ι (aa 5) (aa 3)))) pJ b4) (vb (dC (.bl θ)) (aa 3) (aa 5))))))))
theorem RO:Sem 2 4 BQ BR:=by
 ext ys ovs K'-⟨m,ws,ns,W,hn,nd,hl,rfl,rfl,k⟩;unfold BR;calc aJ λN hN=>?_;simp!;calc⟨m,ws,W,Y,Y,?_⟩;show N _;subst hN;calc aJ λN hN=>?_;simp!;rw[show dO ns=.lst (ns.map D.int) from Y];simp![bh,aA,q1G];subst hN;calc aJ λN hN=>?_;simp![fD,aK];subst hN;calc aJ λN hN=>?_;simp![va];subst hN
 let il:∀(j:Nat)(d:D),(jm 0 (ns.map D.int))[j]?=U d->∃n:Int,ns[j]?=U n/\d=D.tup [.int (j:Int),.int n]:=λj d hd=>by
  let⟨e,h1,h2⟩:=q_ hd;rw[W5] at h1;let⟨n,h3,rfl⟩:=Xf.mp h1;exact⟨n,h3,by rw[h2,XU]⟩
 let el:↑(jm 0 (ns.map D.int))=ns.length:=by rw[qZ,qJ]
 erw[cF,iX,ag,aa,af,Zt,YE,l8];refine jn (λi δ=>∃kvs:-(Key×D),↑kvs<=i/\(∀n:Int,(bG kvs (.inl n)).isSome=S (n∈ns.take i))/\δ=⟨[U (.p (.tup [.int m,.tup (ws.map bX)])),U (.p (.lst (ns.map D.int))),U (.p (.int (↑ws-1))),U (.o 0),Z,Z],[U (.dct kvs)]⟩) ?_ ?_ ?_
 .refine⟨[],vQ _,λn=>by simp[bG],?_⟩
  erw[qJ]
 .ext j d δ L hj ⟨kvs,kl,kv,rfl⟩ hL
  let⟨n,qf,rfl⟩:=il j d hj;let⟨n0,n1⟩:=hn n (Xu qf);let jl:j<ns.length:=(ph.mp qf).1
  let ff:(bG kvs (.inl n)).isSome=ι:=by
   rw[kv n];calc W_ λhm=>?_;let⟨i,hi,ei⟩:=XF.mp hm;rw[Xi] at hi;rw[q3i] at ei;let e2:ns[j]=n:=(ph.mp qf).2;let:=(ZV (h₀:=by symm) (h₁:=jl) nd).mp (ei.trans e2.symm);symm
  let fn:bG kvs (.inl n)=Z:=by
   cases q:bG kvs (.inl n) with
   |none=>rfl
   |some d=>rw[q] at ff;cases ff
  let wb:cZ (.int n) 0 (↑ws-1)=θ:=by
   show(S (0<=n)&&S (n<=(↑ws:Int)-1))=θ;rw[VS n0,VS ⋯];rfl
  calc⟨trivial,?_⟩;erw[kT,gM,jX,bJ,gc,XR,XT,EA,Ye];calc⟨trivial,?_⟩;calc aJ λN hN=>?_;simp!;calc⟨.int n,0,↑ws-1,Y,Y,?_⟩;simp![wb,i5,gE,gD,ff,q4k];subst hN;simp![vb,gE,gD];refine⟨⋯,hL _ ⟨putD kvs (.inl n) (.bl θ),?_,λl=>?_,?_⟩⟩
  .let:=HZ (kvs:=kvs) (k:=.inl n) (d:=.bl θ);symm
  .rw[HY fn,Zb,qf]
   by_cases c:l=n
   .subst c
    rw[Xa Y];exact(VS (by simp)).symm
   .rw[VR (λz=>c (q3C z)),kv l]
    simp[c]
  .simp!
 .ext δ ⟨kvs,_,_,rfl⟩
  calc⟨trivial,cM k⟩
end LJ
namespace L2
open PySem PySem.Spec PyProof.Rows PySem.W
section
open PySem.SeqAt
open PySem.AutoSeq1 (wpAny_loadPart')
open PySem.MeetsSeq PySem.MeetsSeq2 PySem.MeetsSeq3
end
section
variable{prog:n}{w:g}{A:q}{E:aM}{s:L}{Q:Bool->L->Prop}
end
section
variable[ay]{X:Cx}
end
end L2
namespace LJ
open PySem L2
abbrev Lt:=Int×(O×-Int)
noncomputable def dG(es:-Lt):-(Key×V):=es.map λe=>(ZK e.1,V.ref e.2.1)
structure cz(H:Hp)(es:-Lt):Prop where
 at_:∀e∈es,H e.2.1=U (.lst (e.2.2.map V.int))
 mV:(es.map (·.2.1)).Nodup
 mW:(es.map (·.1)).Nodup
noncomputable def strip(es:-Lt):-(Int×-Int):=es.map λe=>(e.1,e.2.2)
noncomputable def oz(g:-(Int×-Int))(x h:Int):-(Int×-Int):=if x∈g.map (·.1) then g.map (λe=>if e.1=x then(e.1,e.2++[h]) else e) else g++[(x,[h])]
noncomputable def eR(fs:-Int):Nat->-(Int×-Int)
 |0=>[]
 |i+1=>oz (eR fs i) (fs.getD i 0) i
theorem H_(x:Int):∀es:-Lt,bF (dG es) (ZK x:Key)=(es.find? λe=>S (e.1=x)).map λe=>V.ref e.2.1
 |[]=>Y
 |e::es=>by
  by_cases c:e.1=x
  .rw[q1L c⁻¹]
   exact tX (congrArg ZK c)
  .rw[q1M c⁻¹]
   let:=H_ x es;rw[<-this];calc tY (λz=>c (q3C z))
theorem RP(es:-Lt):(strip es).map (·.1)=es.map (·.1):=by unfold strip;rw[XE];rfl
noncomputable def grow(es:-Lt)(x h:Int):-Lt:=es.map λe=>if e.1=x then(e.1,e.2.1,e.2.2++[h]) else e
theorem RQ(es:-Lt)(x h:Int):dG (grow es x h)=dG es:=by
 unfold dG grow;rw[XE];calc X8 λe _=>?_;show((ZK (if e.1=x then(e.1,e.2.1,e.2.2++[h]) else e).1:Key),V.ref (if e.1=x then(e.1,e.2.1,e.2.2++[h]) else e).2.1)=_;split<;>rfl
theorem RR(es:-Lt)(x h:Int):(grow es x h).map (·.2.1)=es.map (·.2.1):=by
 unfold grow;rw[XE];calc X8 λe _=>?_;show(if e.1=x then(e.1,e.2.1,e.2.2++[h]) else e).2.1=_;split<;>rfl
theorem RS(es:-Lt)(x h:Int):(grow es x h).map (·.1)=es.map (·.1):=by
 unfold grow;rw[XE];calc X8 λe _=>?_;show(if e.1=x then(e.1,e.2.1,e.2.2++[h]) else e).1=_;split<;>rfl
theorem RT{es:-Lt}{x h:Int}(hx:x∈es.map (·.1)):strip (grow es x h)=oz (strip es) x h:=by
 unfold oz;rw[Xa (by rw[RP];calc hx)];unfold strip grow;rw[XE,XE];calc X8 λe _=>?_;show((if e.1=x then(e.1,e.2.1,e.2.2++[h]) else e).1,(if e.1=x then(e.1,e.2.1,e.2.2++[h]) else e).2.2)=if e.1=x then(e.1,e.2.2++[h]) else(e.1,e.2.2);split<;>rfl
theorem RU{es:-Lt}(n:(es.map (·.1)).Nodup){e e':Lt}(h:e∈es)(h':e'∈es)(q:e.1=e'.1):e=e':=by
 let⟨i,hi,rfl⟩:=XF.mp h;let⟨j,hj,rfl⟩:=XF.mp h';let:=(ZV (h₀:=by rw[qJ];calc hi) (h₁:=by rw[qJ];calc hj) n).mp (by rw[ZX,ZX];calc q);subst this;rfl
theorem RW{es:-Lt}(n:(es.map (·.2.1)).Nodup){e e':Lt}(h:e∈es)(h':e'∈es)(q:e.2.1=e'.2.1):e=e':=by
 let⟨i,hi,rfl⟩:=XF.mp h;let⟨j,hj,rfl⟩:=XF.mp h';let:=(ZV (h₀:=by rw[qJ];calc hi) (h₁:=by rw[qJ];calc hj) n).mp (by rw[ZX,ZX];calc q);subst this;rfl
theorem cz.grow{H:Hp}{es:-Lt}{e:Lt}{h:Int}(L:cz H es)(he:e∈es):cz (upd H e.2.1 (.lst (e.2.2.map V.int++[V.int h]))) (grow es e.1 h):=by
 calc⟨λe' oA=>?_,by rw[RR];calc L.mV,by rw[RS];calc L.mW⟩;unfold LJ.grow at oA;let⟨d,hd,rfl⟩:=Xh.mp oA
 by_cases c:d.1=e.1
 .obtain rfl:=RU L.mW hd he c
  rw[Xa Y];show upd H d.2.1 _ d.2.1=U (.lst ((d.2.2++[h]).map V.int));rw[aY,Xo];rfl
 .rw[VR c]
  rw[aC λz=>c (by rw[RW L.mV hd he z])];calc L.at_ d hd
theorem cz.snoc{H H':Hp}{es:-Lt}{x h:Int}{n:O}(L:cz H es)(hn:H n=Z)(hx:x∉es.map (·.1))(kp:∀e∈es,H' e.2.1=H e.2.1)(h':H' n=U (.lst [V.int h])):cz H' (es++[(x,n,[h])]):=by
 refine⟨λe he=>?_,?_,?_⟩
 .rcases Xv.mp he with q|q
  .rw[kp e q];exact L.at_ e q
  .rw[Xr.mp q];exact h'
 .rw[Xo]
  calc X_.mpr ⟨L.mV,by simp,λa ha b hb z=>?_⟩;subst z;let⟨e,he,rfl⟩:=Xh.mp ha;let:e.2.1=n:=by simpa using hb
  rw[<-this,L.at_ e he] at hn;cases hn
 .rw[Xo]
  calc X_.mpr ⟨L.mW,by simp,λa ha b hb z=>?_⟩;subst z;let:a=x:=by simpa using hb
  calc hx (by rw[<-this];calc ha)
variable[ay]
def Ia:GD:=λys ovs K=>∃(m:Int)(ws:-(Int×Int×Int))(ns:-Int),fT m ws/\Nums ws ns/\ns.Nodup/\ns.length<=900/\ys=[.p (aK m ws),.p (dO ns)]/\ovs=[]/\K (.p (HU ((eR (lj m ws ns) m.toNat).map (·.2)))) []
end LJ
namespace L2
open PySem
variable[ay]
section
variable{F F' H H':Hp}{ad au:-O}{δ δ':aw}{σ σ':St}
def Ib(H:Hp)(v:V)(H':Hp):Prop:=∃a b r,v=.ref a/\H a=Z/\H' a=U (.lst (.ref b::r))/\H b=Z
end
section
variable{X:Cx}{Wo iQ jJ nA:o}{i n:Nat}{G:GD}{fa:WA}{t:WT}{B:TS}{E:XK}
end
end L2
namespace LJ
open PySem L2
variable[ay]
def RX:V->-V->Hp->VK->Prop:=λx vs H Q=>∃(d:O)(kvs:-(Key×V))(k:Key)(dv:V),x=.ref d/\vs=[kV k,dv]/\H d=U (.dK kvs)/\↑kvs<sizeLine/\(∀v,bF kvs k=U v->Q v H)/\(bF kvs k=Z->Q dv (upd H d (.dK (putK kvs k dv))))
def RY:V->-V->Hp->VK->Prop:=λx vs H Q=>∃(d:O)(kvs:-(Key×V)),x=.ref d/\vs=[]/\H d=U (.dK kvs)/\∀r,H r=Z->Q (.ref r) (upd H r (gw r d))
def RZ:-V->Hp->VK->Prop:=λxs H Q=>∃(r d:O)(kvs:-(Key×V)),xs=[.ref r]/\H r=U (gw r d)/\H d=U (.dK kvs)/\∀l,H l=Z->Q (.ref l) (upd H l (.lst (kvs.map (·.2))))
def R0:TS:=b8 (iA (aj 2 BQ (ag (aa 0) (ag (aa 1) af))))
def R1(Kf:tu):TS:=jI (cC Fl (gm 2)) (jI (sE (ER Kf (eB (nB (jZ BL 2) [] E0 (eB (b6 0) (eB (b6 1) dU))) dU)) (sA Kf 2 (yp (gm 3) (yp (gm 4) sx)))
 (DX (qH Kf "list" y6 (qH Kf "dict" RX (b6 2) (eB (b6 4) (eB (oV dU) dU))) (eB (b6 3) dU))))
 (oM (sR RZ (eB (tj Kf "dict" RY (b6 2)) dU))))
theorem R3{fs:-Int}:∀{i:Nat},0<i->eR fs i≠[]
 |i+1,_,z=>by
  unfold eR oz at z;split at z
  .rename_i c
   rw[List.map_eq_nil_iff] at z;rw[z] at c;exact nomatch c
  .simp at z
theorem R4{Kf:tu}{H F0:Hp}{ad:-O}{vs:-V}{m:Int}{ws:-(Int×Int×Int)}{ns:-Int}{K':RV->-OV->Prop}{Q:VK}{Dd:Ends}(hl:↑vs=2)(W:fT m ws)(hn:Nums ws ns)(hd:ns.Nodup)(BS:ns.length<=900)
  (hK:K' (.p (HU ((eR (lj m ws ns) m.toNat).map (·.2)))) []) (S0:SR F0 ad ⟨[DV.p (aK m ws),DV.p (dO ns)].map U,([]:-OV).map U⟩ (vs.map U) H) (kk:∀r ows,K' r ows->∀v F' H',wj F0 ad H r ows v F' H'->Ib H v H'->Q v H') (hD:∀v H',Q v H'->Dd.rt v H') :
  jI R0 (R1 Kf) Dd (start ["web", "ways", "lots", "house", "first"] vs) H:=by
 let ea:ad=[]:=by let:=S0.cf;simpa using this
 subst ea;let S1:=S0.start (N:=["web", "ways", "lots", "house", "first"]);rw[hl] at S1;refine⟨F0,[],_,{nx:=fun δ'=>δ'=⟨[U (.p (aK m ws)),U (.p (dO ns)),Z,Z,Z],[]⟩,rt:=λ_ _=>False},S1,?_,⟨?_,λ_ h=>h.elim,λ_ h=>h.elim,λ_ _ h=>h.elim,trivial⟩⟩
 .simp!
  exact⟨m,ws,ns,W,hn,hd,BS,Y,Y,Y⟩
 ext δ' rfl F1 aI σ1 H1 E1 S1;let ea:aI=[]:=by let:=S1.cf;simpa using this
 subst ea;let⟨v0,e0,i0⟩:=S1.sl 0 _ Y;let⟨v1,e1,i1⟩:=S1.sl 1 _ Y;let hlen:=S1.len
 let⟨w2,w3,w4,rfl⟩:∃w2 w3 w4,σ1=[U v0,U v1,w2,w3,w4]:=by
  let⟨a,r,rfl⟩:=Yo hlen;let⟨b,r,rfl⟩:=Yo (ZC hlen);let hlen:=ZC (ZC hlen);let⟨c,r,rfl⟩:=Yo hlen;let⟨d,r,rfl⟩:=Yo (ZC hlen);let⟨e,rfl⟩:=q1K.mp (ZC (ZC hlen));cases(show U a=U (U v0) from e0)
  cases(show U b=U (U v1) from e1)
  exact⟨c,d,e,Y⟩
 ext dl l6
 let vc:H dl=Z:=by
  cases q:H dl with
  |none=>rfl
  |some u=>let⟨u',h'⟩:=E1.gx dl u q;rw[l6] at h';cases h'
 let fl:F1 dl=Z:=by
  cases q:F1 dl with
  |none=>rfl
  |some u=>rw[S1.sub dl u q] at l6;cases l6
 let nl:¬ Lv [] ([]:-(Option OV)) dl:=λ⟨k,ov,z,_⟩↦by simp at z
 let S2:=S1.other (o:=.dK []) fl nl (ay.same S1.tab (bT l6));let E2:=E1.other (o:=.dK []) vc;calc⟨_,Y,_,Y,?_⟩;calc Ae (E:=E0) (xs:=[.p (aK m ws),.p (dO ns)]) (K:=λr ows=>r=.p (dO (lj m ws ns))/\ows=[]) S2 ⟨v0,_,Y,i0,v1,_,Y,i1,Y⟩ Y Y Y ⟨m,ws,ns,W,hn,.inl ⟨Y,Y,Y,Y⟩⟩ λres ows v F3 H3 ⟨er,eo⟩ X3 S3 d9=>?_;subst er eo;let vd:↑(lj m ws ns)=m.toNat:=RE;let qP:=W.qP;generalize lj m ws ns=fs at hK d9 vd;let d9:Is F3 (.lst (fs.map D.int)) v:=d9;erw[Is] at d9;let⟨g,us,rfl,hg,iu⟩:=d9;let R5:=uo iu;subst R5;let BU:Ext F1 [] [] (upd H1 dl (.dK [])) F3 [] [] H3:=X3
 let E3:Ext F0 [] [] H F3 [] [] H3:=E2.trans BU;let xj:∀a,¬ Lv [] ([]:-(Option OV)) a:=λa ⟨k,ov,z,_⟩↦by simp at z
 let R6:dl∉ay.ad:=λz=>by let⟨ps,q⟩:=ay.tb S1.tab z;rw[l6] at q;cases q
 let xk:H3 dl=U (.dK []):=BU.keep dl _ aY (xj _) R6;let xl:H3 g=U (.lst (fs.map V.int)):=S3.sub _ _ hg
 let R7:F3 dl=Z:=by
  cases q:F3 dl with
  |none=>rfl
  |some u =>
   rcases BU.new dl u q with z|z|z
   .rw[fl] at z;cases z
   .rw[aY] at z;cases z
   .exact absurd z (xj _)
 let gd:g≠dl:=λz=>by rw[z,xk] at xl;cases xl
 calc⟨g,Y,⟨_,aX.of xl⟩,?_⟩;refine Fc (K:=Kf) (a:=g) (xs:=fs.map V.int) (λi σ H4=>∃(es:-Lt)(w3 w4:Option V),σ=[U v0,U v1,U (.ref dl),w3,w4]/\(∀a o,H3 a=U o->a≠dl->H4 a=U o)/\ay.ok H4/\H4 dl=U (.dK (dG es))/\cz H4 es/\(∀e∈es,H3 e.2.1=Z)/\strip es=eR fs i/\↑es<=i/\∀e∈es,↑e.2.2<=i) ?_ (λi σ H4 _ ⟨_,_,_,_,kp,_⟩↦aX.of (kp g _ xl gd)) ?_ ?_
 .exact⟨[],w3,w4,Y,λa o e _=>e,S3.tab,xk,⟨(λe he=>nomatch he),Zq,Zq⟩,(λe he=>nomatch he),Y,vQ _,λe he=>nomatch he⟩
 .ext i x T' σ H4 hx ⟨es,w3,w4,rfl,kp,tk,oB,L4,fr,st,le,ll⟩ R8
  rw[W5] at hx;let⟨y,ey,rfl⟩:=Xf.mp hx;let hi:=(ph.mp ey).1;let eD:fs.getD i 0=y:=by rw[VP,ey];rfl
  let s5:ar H4 (upd H4 T' (.tup [.int (i:Int),.int y])):=kU R8;calc⟨T',_,Y,bo.of aY,Y,_,_,Y,_,_,Y,Y,?_⟩;let R9:=s5 _ _ oB;calc⟨_,Y,.inr (.inr (.inl ⟨Y,.inl ⟨_,R9⟩⟩)),_,Y,Xq _,λen vV=>?_⟩;let s6:=s5.trans (kU (o:=.lst []) vV);let xm:=s6 _ _ oB;let ve:upd (upd H4 T' (.tup [.int (i:Int),.int y])) en (.lst []) en=U (.lst []):=aY;let i7:H4 en=Z:=s5.free vV;let rK:=ay.same tk s6;generalize upd (upd H4 T' (.tup [.int (i:Int),.int y])) en (.lst [])=H6 at s6 xm ve rK;let L6:cz H6 es:=⟨λe he=>s6 _ _ (L4.at_ e he),L4.mV,L4.mW⟩;let BV:en≠dl:=λz=>by rw[z,oB] at i7;cases i7
  let vf:H3 en=Z:=by
   cases q:H3 en with
   |none=>rfl
   |some u=>rw[kp en u q BV] at i7;cases i7
  let fv:=H_ y es;refine⟨dl,dG es,ZK y,.ref en,Y,Y,xm,lM (by unfold dG;rw[qJ];symm),λv hv=>?_,λhv=>?_⟩
  .rw[hv] at fv
   cases ff:es.find? λe=>S (e.1=y) with
   |none=>rw[ff] at fv;cases fv
   |some e =>
    rw[ff] at fv;obtain rfl:v=V.ref e.2.1:=by simpa using fv
    let he:e∈es:=Z1 ff;let ek:e.1=y:=by simpa using Z8 ff
    let fS:y∈es.map (·.1):=Xh.mpr ⟨e,he,ek⟩;let BW:=L6.at_ e he;let BX:e.2.1≠dl:=λz=>by let:=fr e he;rw[z,xk] at this;cases this
    refine⟨.inl ⟨Y,_,aX.of BW⟩,_,Y,e.2.1,_,_,Y,Y,BW,?_,?_⟩
    .refine lM ?_
     rw[qJ];let:=ll e he;symm
    .refine⟨LJ.grow es y i,_,_,Y,λb' o eb nb=>?_,ay.put rK BW (.inl ⟨_,Y⟩),?_,?_,?_,?_,?_,?_⟩
     .rw[aC (bD eb (fr e he))];exact s6 _ _ (kp _ _ eb nb)
     .rw[aC (YV BX),RQ];exact xm
     .rw[<-ek];exact L6.grow he
     .ext e' oA
      unfold LJ.grow at oA;let⟨d,hd,rfl⟩:=Xh.mp oA;let:=fr d hd;split<;>exact this
     .rw[RT fS,st];show oz (eR fs i) y i=oz (eR fs i) (fs.getD i 0) i;rw[eD]
     .unfold LJ.grow;rw[qJ];symm
     .ext e' oA
      unfold LJ.grow at oA;let⟨d,hd,rfl⟩:=Xh.mp oA;let:=ll d hd;split
      .show ↑(d.2.2++[(i:Int)])<=i+1
       rw[EB,Xx];symm
      .omega
  .rw[hv] at fv
   let fS:y∉es.map (·.1):=λz=>by
    let⟨e,he,ek⟩:=Xh.mp z
    cases ff:es.find? λe=>S (e.1=y) with
    |none=>exact absurd (q0a.mp ff e he) ek⁻¹
    |some e'=>rw[ff] at fv;cases fv
   let qg:upd H6 dl (.dK (putK (dG es) (ZK y) (.ref en))) en=U (.lst []):=by rw[aC BV];exact ve
   calc⟨.inl ⟨Y,_,aX.of qg⟩,_,Y,en,_,_,Y,Y,qg,lM (Xq _),?_⟩;refine⟨es++[(y,en,[(i:Int)])],_,_,Y,λb' o eb nb=>?_,ay.put (ay.put rK xm (.inr (.inl ⟨_,Y⟩))) qg (.inl ⟨_,Y⟩),?_,?_,?_,?_,?_,?_⟩
   .rw[aC (bD eb vf),aC nb];exact s6 _ _ (kp _ _ eb nb)
   .rw[aC (YV BV),aY,NL _ hv];unfold dG;rw[Xo];rfl
   .refine L4.snoc i7 fS (λe he=>?_) (by rw[aY];rfl)
    let ne1:e.2.1≠en:=bD (L4.at_ e he) i7;let BX:e.2.1≠dl:=λz=>by let:=fr e he;rw[z,xk] at this;cases this
    rw[aC ne1,aC BX,L4.at_ e he];exact s6 _ _ (L4.at_ e he)
   .ext e he
    rcases Xv.mp he with q|q
    .exact fr e q
    .rw[Xr.mp q];exact vf
   .unfold strip at st ⊢
    rw[Xo,st];show eR fs i++[(y,[(i:Int)])]=oz (eR fs i) (fs.getD i 0) i;unfold oz;rw[eD,VR (by rw[<-st,XE];calc fS)]
   .rw[EB,Xx];symm
   .ext e he
    rcases Xv.mp he with q|q
    .let:=ll e q;symm
    .rw[Xr.mp q];show 1<=i+1;symm
 .ext σ H4 ⟨es,w3,w4,rfl,kp,tk,oB,L4,fr,st,le,ll⟩
  rw[qJ,vd] at st;calc⟨_,Y,.inr (.inr (.inl ⟨Y,.inl ⟨_,oB⟩⟩)),dl,_,Y,Y,oB,λv hv=>?_⟩;let s5:ar H4 (upd H4 v (gw v dl)):=kU hv;calc⟨v,dl,_,Y,aY,s5 _ _ oB,λr Ic=>?_⟩;let s6:=s5.trans (kU (o:=.lst ((dG es).map (·.2))) Ic);let xn:H4 r=Z:=s5.free Ic;let BY:upd (upd H4 v (gw v dl)) r (.lst ((dG es).map (·.2))) r=U (.lst ((dG es).map (·.2))):=aY;let rK:=ay.same tk s6;generalize upd (upd H4 v (gw v dl)) r (.lst ((dG es).map (·.2)))=H5 at s6 BY rK;let R_:r≠dl:=λz=>by rw[z,oB] at xn;cases xn
  let Ie:H3 r=Z:=by
   cases q:H3 r with
   |none=>rfl
   |some u=>rw[kp r u q R_] at xn;cases xn
  let non:∀{x:O},H3 x=Z->H x=Z:=λ{x} e=>by
   cases q:H x with
   |none=>rfl
   |some u=>let⟨u',z⟩:=E3.gx x u q;rw[e] at z;cases z
  let Sa:Ib H (.ref r) H5:=by
   cases es with
   |nil=>exact absurd st.symm (R3 (by let:=W.m1;symm))
   |cons e es=>exact⟨r,e.2.1,_,Y,non Ie,BY,non (fr e Mv)⟩
  calc hD _ _ (kk _ _ hK _ (Nw F3 H3 H5) _ ?_ Sa);let sm:ar F3 (Nw F3 H3 H5):=Nw.same S3.sub;refine⟨λa o e=>?_,E3.same.trans sm,λa o e=>?_,λa o e _ t=>?_,rK,λa ha=>?_,Y,λj ow e=>by simp at e,λa ha=>by simp at ha,?_⟩
  .unfold Nw at e
   cases q:H3 a with
   |none=>rw[q] at e;exact e
   |some u =>
    rw[q] at e;let e:F3 a=U o:=e;exact s6 _ _ (kp _ _ (S3.sub _ _ e) λz=>by rw[z,R7] at e;cases e)
  .unfold Nw at e
   cases q:H3 a with
   |none =>
    refine .inr ?_
    cases q0:H a with
    |none=>rfl
    |some u=>let⟨u',h'⟩:=E3.gx a u q0;rw[q] at h';cases h'
   |some u =>
    rw[q] at e;let e:F3 a=U o:=e;rcases E3.new a o e with z|z|z
    .exact .inl z
    .exact .inr z
    .exact absurd z (xj _)
  .exact s6 _ _ (kp _ _ (E3.keep a o e (xj _) t) λz=>by rw[z,vc] at e;cases e)
  .let⟨ps,q⟩:=ay.tb S3.tab ha
   unfold Nw;rw[q];exact S3.nt a ha
  .show Is (Nw F3 H3 H5) (.lst (((eR fs m.toNat).map (·.2)).map dO)) _
   erw[Is];calc⟨r,_,Y,by unfold Nw;rw[Ie];calc BY,?_⟩;rw[<-st]
   let key:∀xs:-Lt,(∀e∈xs,e∈es)->ae (Nw F3 H3 H5) (((strip xs).map (·.2)).map dO) ((dG xs).map (·.2)):=by
    ext xs
    induction xs with
    |nil=>ext _;exact .nil
    |cons e xs ih =>
     ext h;show ae _ (dO e.2.2::_) (V.ref e.2.1::_);erw[ae];calc⟨_,_,Y,?_,ih λx hx=>h x (Mu _ hx)⟩;let he:=h e Mv;show Is _ (.lst (e.2.2.map D.int)) _;erw[Is];refine⟨e.2.1,e.2.2.map V.int,Y,by unfold Nw;rw[fr e he];calc s6 _ _ (L4.at_ e he),uq⟩
   calc key es λ_ h=>h
theorem Sb{a b:Int}:av (.int a) (.int b)=S (a=b):=by
 cases q:av (.int a) (.int b)
 .exact (W_ λz=>by rw[z,fH] at q;cases q).symm
 .erw[av] at q
  calc(VS (Xc q)).symm
end LJ
namespace LJ
open PySem L2
abbrev Wy:=Int×Int×Int
section
variable{S S':Wy->Prop}{a b c:Int}
end
variable[ay]
theorem Ig:∀us:-Int,aV (us.map D.int)=0
 |[]=>by simp[aV]
 |u::r=>by rw[Xl];erw[aV,dep];rw[Ig r];rfl
theorem Sd(l:-Int)(x:Int):((l.map D.int).any λe=>av e (.int x))=S (x∈l):=by
 rw[List.any_map]
 cases q:S (x∈l) with
 |true=>exact q3w.mpr ⟨x,Yk q,fH _⟩
 |false =>
  calc YZ.mpr λy hy=>?_;show ¬ av (.int y) (.int x)=θ;rw[Sb];ext z;let:=Yk z;subst this;calc of_decide_eq_false q hy
noncomputable def intOf:D->Int
 |.int k=>k
 |_=>0
noncomputable def oC(n:Nat):-Int->Nat->-D->Option Int
 |_,_,[]=>Z
 |seen,i,d::r=>if cZ d 0 ((n:Int)-1)=ι\/intOf d∈seen then U i else oC n (seen++[intOf d]) (i+1) r
noncomputable def gF(n:Nat):D->Option Int
 |.lst ds=>oC n [] 0 ds
 |_=>U 0
theorem within_int{n:Nat}{d:D}(h:cZ d 0 ((n:Int)-1)=θ):d=.int (intOf d)/\0<=intOf d/\intOf d<n:=by
 cases d with
 |int i =>
  let h:(S (0<=i)&&S (i<=(n:Int)-1))=θ:=h;rw[W9,decide_eq_true_iff,decide_eq_true_iff] at h;exact⟨Y,h.1,show i<n by symm⟩
 |_=>cases h
theorem Ih{n:Nat}:∀{ds:-D}{seen:-Int}{i:Nat},oC n seen i ds=Z->seen.Nodup->∃us:-Int,ds=us.map D.int/\(seen++us).Nodup/\∀x∈us,0<=x/\x<(n:Int)
 |[],seen,i,_,nd=>⟨[],Y,by rw[Ze];calc nd,λx h=>nomatch h⟩
 |d::r,seen,i,h,nd=>by
  unfold oC at h;split at h
  .cases h
  .rename_i c
   let c1:cZ d 0 ((n:Int)-1)=θ:=by
    cases q:cZ d 0 ((n:Int)-1) with
    |true=>rfl
    |false=>exact absurd (.inl q) c
   let⟨e,h0,h1⟩:=within_int c1;let⟨us,e2,n2,u2⟩:=Ih h (X_.mpr ⟨nd,by simp,λa ha b hb z=>c (.inr (by rw[Xr] at hb;rw[<-hb,<-z];calc ha))⟩);calc⟨intOf d::us,by rw[Xl,<-e,e2],by rw[YX] at n2;calc n2,λx hx=>?_⟩;rcases Mt.mp hx with rfl|hx
   .exact⟨h0,h1⟩
   .calc u2 x hx
theorem Ii{n:Nat}{d:D}(h:gF n d=Z):∃us:-Int,d=dO us/\us.Nodup/\∀x∈us,0<=x/\x<(n:Int):=by
 cases d with
 |lst ds =>
  let⟨us,rfl,nd,hu⟩:=Ih (seen:=[]) h Zq;exact⟨us,Y,nd,hu⟩
 |_=>cases h
noncomputable def kr:D->Int×Int×Int
 |.tup [.int i,.int j,.int p]=>(i,j,p)
 |_=>(0,0,0)
theorem BZ{d:D}(h:bP d=θ):∃m ws,d=aK m ws/\fT m ws:=by
 unfold bP at h;split at h
 .rename_i m ws
  rw[W9] at h;let⟨h1,h2⟩:=h;split at h2
  .rename_i i
   cases ws with
   |tup us =>
    let h2:(S (↑us<=30)&&(us.all (br i)&&S ((us.map pairOf).Nodup)))=θ:=h2;erw[W9,YO] at h2;let⟨a,b,c⟩:=h2;let h1:(S (1<=i)&&S (i<=12))=θ:=h1;erw[W9,YO] at h1;let all:∀w∈us,br i w=θ:=XN.mp b
    let e:us=(us.map kr).map bX:=by
     rw[XE]
     conv=>lhs;rw[<-q3J us]
     calc X8 λw hw=>?_;let⟨x,y,z,rfl,_⟩:=u9 (all w hw);rfl
    refine⟨i,us.map kr,by show D.tup [.int i,.tup us]=.tup [.int i,.tup _];rw[<-e],?_⟩
    let pe:(us.map kr).map (λy=>(y.1,y.2.1))=us.map pairOf:=by
     rw[XE];calc X8 λw hw=>?_;let⟨x,y,z,rfl,_⟩:=u9 (all w hw);rfl
    calc⟨h1.1,h1.2,by rw[qJ];calc a,λy hy=>?_,by rw[pe];calc c⟩;let⟨w,hw,rfl⟩:=Xh.mp hy;let⟨x,y,z,rfl,q⟩:=u9 (all w hw);exact q
   |_=>cases h2
  .cases h2
 .cases h
def xo(ok:eO):GD:=λys ovs K=>∃d,ys=[.p d]/\ovs=[]/\(bP d=ι->ok 4 0)/\(bP d=θ->K (.p .non) [])
theorem Se:∀ok ys ovs K,xo ok ys ovs K->ovs=[]:=λok ys ovs K ⟨_,_,h,_⟩↦h
def B0(ok:eO):WS:=(aW (bz (dT (aj 1 xf (ag (aa 0) af)))) (A9 ok 4) b4)
theorem Sf(ok:eO):Sem 1 0 (xo ok) (B0 ok):=by
 ext ys ovs K'-⟨d,rfl,rfl,k0,k⟩;unfold B0;calc kY λA1 B1 hA hB=>?_;simp!;calc⟨d,Y,Y,?_⟩;simp!
 cases q:bP d with
 |false =>
  simp!;subst hA;exact k0 q
 |true =>
  simp!;subst hB;calc cM (k q)
def rL(ok:eO):GD:=λys ovs K=>∃(dw d:D),ys=[.p dw,.p d]/\ovs=[]/\(bP dw=ι->ok 4 0)/\∀(m:Int)(ws:-Wy),dw=aK m ws->fT m ws->(∀ds,d=.lst ds->↑ds<=900)/\(∀p,gF ↑ws d=U p->ok 0 p)/\(gF ↑ws d=Z->K (.p .non) [])
theorem Sg:∀ok ys ovs K,rL ok ys ovs K->ovs=[]:=λok ys ovs K ⟨_,_,_,h,_⟩↦h
def B2(ok:eO):WS:=(ak (iA (aj 1 (xo ok) (ag (aa 0) af))) (ak (aW (bz (dT (d1 (aa 1) (bj "list")))) (rG ok 0 (ag (dC (.int 0)) af)) b4) (ak (aB 2 (d2 (dN (ag (d2 (aa 0) (dC (.int 1)) a_) af) bq) (dC (.int 1)) (oI λi j=>.int (i-j)))) (ak (aB 3 va) (cF (iX (ag (aa 1) af)) (kT 2 (gM (bJ 4) (gM (bJ 5) jX))) (ak (aW (gL (bz (dT (aj 3 mC (ag (aa 5) (ag (dC (.int 0)) (ag (aa 2) af)))))) (dT (i5 ι (aa 5) (aa 3)))) (rG ok 0 (ag (aa 4) af)) b4) (vb (dC (.bl θ)) (aa 3) (aa 5))))))))
theorem Sh(ok:eO):Sem 2 4 (rL ok) (B2 ok):=by
 ext ys ovs K'-⟨dw,d,rfl,rfl,k0,k⟩;unfold B2;calc aJ λN hN=>?_;simp!;calc⟨dw,Y,Y,k0,λhw=>?_⟩;let⟨m,ws,rfl,W⟩:=BZ hw;let⟨dl,kb,kg⟩:=k m ws Y W;show N _;subst hN;calc aJ λN hN=>?_;refine kY λA1 B1 hA hB=>?_
 let no:(∀ds,d≠.lst ds)->A1 ⟨[U (.p (aK m ws)),U (.p d),Z,Z,Z,Z],[]⟩:=λh=>by
  let:gF ↑ws d=U 0:=by
   cases d with
   |lst ds=>exact absurd Y (h ds)
   |_=>rfl
  subst hA;simp![rG];exact⟨0,Y,kb 0 this⟩
 cases d with
 |lst ds =>
  simp![bh,aA,q1G];subst hB;show N _;subst hN;let dl:=dl ds Y;calc aJ λN hN=>?_;simp![fD,aK];subst hN;calc aJ λN hN=>?_;simp![va];subst hN;let el:↑(jm 0 ds)=↑ds:=by rw[qZ]
  calc ot λg' b' K2 hg hb' hK=>?_;simp!;subst hg hb' hK;refine jn (λi δ=>∃(kvs:-(Key×D))(ns:-Int),↑kvs<=i/\(∀n:Int,(bG kvs (.inl n)).isSome=S (n∈ns))/\gF ↑ws (.lst ds)=oC ↑ws ns i (ds.drop i)/\δ=⟨[U (.p (.tup [.int m,.tup (ws.map bX)])),U (.p (.lst ds)),U (.p (.int (↑ws-1))),U (.o 0),Z,Z],[U (.dct kvs)]⟩) ⟨[],[],vQ _,λn=>by simp[bG],Y,Y⟩ ?_ ?_
  .ext i d δ L hi ⟨kvs,ns,kl,kv,eb,rfl⟩ hL
   let⟨e,h1,h2⟩:=q_ hi;rw[XU] at h2;subst h2;let⟨il,ei⟩:=ph.mp h1;rw[XJ il,ei] at eb;unfold oC at eb;calc⟨trivial,?_⟩;erw[kT,gM,jX,bJ,gc,gN,EA,Ye,Xl,Y5,XR,XT,XU,q2E,and_self,true_and,Zt,YE];calc aJ λN2 cX=>?_;refine kY λA1 B1 hA hB=>?_
   let bad:gF ↑ws (.lst ds)=U (i:Int)->A1 ⟨[U (.p (.tup [.int m,.tup (ws.map bX)])),U (.p (.lst ds)),U (.p (.int (↑ws-1))),U (.o 0),U (.p (.int (i:Nat))),U (.p e)],[U (.dct kvs)]⟩:=λh=>by
    subst hA;simp![rG];exact⟨i,Y,kb i h⟩
   simp!;refine⟨e,0,↑ws-1,Y,Y,?_⟩
   cases q:cZ e 0 ((↑ws:Int)-1) with
   |false =>
    rw[Xa (.inl q)] at eb;simp!;exact bad eb
   |true =>
    let⟨ee,e0,e1⟩:=within_int q;rw[ee] at bad ⊢;generalize intOf e=x at ee e0 e1 eb bad;simp![i5,gE,gD];rw[kv x]
    by_cases c:x∈ns
    .rw[Xa (.inr c)] at eb
     rw[VS c,Xa (by decide)];exact bad eb
    .rw[VR (λz=>z.elim (λz=>by rw[q] at z;cases z) c)] at eb
     rw[W_ c,VR (by decide)];subst hB;show N2 _;subst cX
     let vn:bG kvs (.inl x)=Z:=by
      cases y:bG kvs (.inl x) with
      |none=>rfl
      |some d=>let:=kv x;rw[y,W_ c] at this;cases this
     simp![vb,gE,gD];calc⟨by rw[el] at *;symm,?_⟩;calc hL _ ⟨putD kvs (.inl x) (.bl θ),ns++[x],XH HZ ⋯,λn=>?_,eb,Y⟩;rw[HY vn]
     by_cases y:n=x
     .subst y;rw[Xa Y,VS (Xw _ (.head _))];rfl
     .rw[VR (λz=>y (by cases z;rfl)),kv n]
      by_cases w:n∈ns
      .rw[VS w,VS (Ya _ w)]
      .rw[W_ w,W_ λz=>(Xv.mp z).elim w λz=>y (Xr.mp z)]
  .ext δ ⟨kvs,ns,kl,kv,eb,rfl⟩
   rw[el,q3x] at eb;exact⟨trivial,cM (kg eb)⟩
 |_=>simp![bh,aA];exact no λds z=>nomatch z
mutual
noncomputable def i8:D->Nat
 |.tup ds=>max ↑ds (eS ds)
 |.lst ds=>max ↑ds (eS ds)
 |_=>0
noncomputable def eS:-D->Nat
 |[]=>0
 |d::ds=>max (i8 d) (eS ds)
end
theorem dH{l:Nat}:∀{ds:-D},eS ds<=l↔∀d∈ds,i8 d<=l
 |[]=>by simp[eS]
 |d::r=>by
  erw[eS,Mt,forall_eq_or_imp,<-dH (ds:=r)];symm
theorem dI{l:Nat}:∀{ds:-D},aV ds<=l↔∀d∈ds,dep d<=l
 |[]=>by simp[aV]
 |d::r=>by
  erw[aV,Mt,forall_eq_or_imp,<-dI (ds:=r)];symm
def Bd(l m:Nat)(d:D):Prop:=i8 d<=l/\dep d<=m
theorem Bd.mono{l l' m m':Nat}{d:D}(h:Bd l m d)(h1:l<=l')(h2:m<=m'):Bd l' m' d:=⟨XH h.1 h1,XH h.2 h2⟩
theorem bC{l m:Nat}{ds:-D}:Bd l (m+1) (.tup ds)↔↑ds<=l/\∀d∈ds,Bd l m d:=by
 unfold Bd;erw[i8,dep]
 constructor
 .ext ⟨h1,h2⟩
  let a:eS ds<=l:=by symm
  let b:aV ds<=m:=by symm
  exact⟨⋯,λd hd=>⟨dH.mp a d hd,dI.mp b d hd⟩⟩
 .ext ⟨h1,h2⟩
  let a:eS ds<=l:=dH.mpr λd hd=>(h2 d hd).1;let b:aV ds<=m:=dI.mpr λd hd=>(h2 d hd).2;symm
theorem qh{l m:Nat}{ds:-D}:Bd l (m+1) (.lst ds)↔↑ds<=l/\∀d∈ds,Bd l m d:=by
 unfold Bd;erw[i8,dep]
 constructor
 .ext ⟨h1,h2⟩
  let a:eS ds<=l:=by symm
  let b:aV ds<=m:=by symm
  exact⟨⋯,λd hd=>⟨dH.mp a d hd,dI.mp b d hd⟩⟩
 .ext ⟨h1,h2⟩
  let a:eS ds<=l:=dH.mpr λd hd=>(h2 d hd).1;let b:aV ds<=m:=dI.mpr λd hd=>(h2 d hd).2;symm
theorem xp{α:Type}{xs:-α}{k:Int}(h0:0<=k)(h1:k<(↑xs:Int)):∃x∈xs,d3 xs k=U x:=by
 let⟨i,rfl⟩:∃i:Nat,k=i:=⟨k.toNat,⋯⟩;let hi:i<↑xs:=by symm
 calc⟨xs[i],YT hi,jh (pj hi)⟩
theorem vg{ds:-D}{lo hi:Option Int}{d:D}(h:d∈cutD ds lo hi):d∈ds:=ZP (ZT h)
theorem vh(ds:-D)(lo hi:Option Int):↑(cutD ds lo hi)<=↑ds:=by
 unfold cutD;rw[Xi,XO];symm
def lq(n:Nat):GD:=λys ovs K=>∃(N deep:Int)(l m:Nat)(d:D)(o:OV),ys=[.o 0,.p d,.p (.int deep)]/\ovs=[o]/\aN N o/\N+10*(n+1)<2 ^ 30/\deep<=n/\n<=3/\Bd l m d/\l<=400/\1<=l/\m<=40 ∧
 ∀d' o',Bd (l+1) (m+1) d'->aN (N+4*(n+1)) o'->K (.p d') [o']
noncomputable def qi:-D:=[.non,.bl θ,.bl ι,.str "",.str "0",.tup [],.lst [],.int (10 ^ Zf 20),.int (-1),.int 0,.int 1,.int (10 ^ Zf 9),.int (10 ^ Zf 9+1),.tup [.int 0],.lst [.int 0],.int 12]
theorem Si:∀x∈qi,Bd 1 1 x:=by
 ext x hx;erw[qi,Mt,Xd,Yp] at hx;rcases hx with rfl|rfl|rfl|rfl|rfl|rfl|rfl|rfl|rfl|rfl|rfl|rfl|rfl|rfl|rfl|rfl<;>calc⟨by simp[i8,eS],by simp[dep,aV]⟩
def B3(lq:GD):WS:=(ak (aB 3 (aj 2 eZ (ag (aa 0) (ag (dC (.int 8)) af)))) (ak (aB 4 (aj 2 eZ (ag (aa 0) (ag (dC (.int 16)) af)))) (ak (aB 5 (d2 (aj 2 eZ (ag (aa 0) (ag (dC (.int 9)) af))) (dC (.int 2)) (oI λi j=>.int (i-j)))) (ak (aW (gy (dT (d1 (aa 1) (bj "tuple"))) (gy (dT (d2 (aa 1) (cE af) mf)) (gy (dT (d2 (aa 2) (dC (.int 0)) (oI λi j=>.bl (S (j<i))))) (dT (d2 (aa 4) (dC (.int 3)) (oI λi j=>.bl (S (j<i)))))))) (ak (aB 6 (aj 2 eZ (ag (aa 0) (ag (dN (ag (aa 1) af) bq) af)))) (aF (d2 (d2 (cL (aa 1) cK (gP (aa 6))) (cE (ag (aj 3 lq (ag (aa 0) (ag (d2 (aa 1) (aa 6) a_) (ag (d2 (aa 2) (dC (.int 1)) (oI λi j=>.int (i-j))) af)))) af)) bK) (cL (aa 1) (gP (d2 (aa 6) (dC (.int 1)) bK)) cK) bK))) b4) (ak (aB 7 (bp (ag (dC .non) (ag (dC (.bl θ)) (ag (dC (.bl ι)) (ag (dC (.str "")) (ag (dC (.str "0")) (ag (cE af) (ag (bp af) (ag (d2 (dC (.int 10)) (dC (.int 20)) (cJ cU λi j=>.int (i ^ j.toNat))) (ag (d1 (dC (.int 1)) g6) (ag (dC (.int 0)) (ag (dC (.int 1)) (ag (d2 (dC (.int 10)) (dC (.int 9)) (cJ cU λi j=>.int (i ^ j.toNat))) (ag (d2 (d2 (dC (.int 10)) (dC (.int 9)) (cJ cU λi j=>.int (i ^ j.toNat))) (dC (.int 1)) bK) (ag (cE (ag (dC (.int 0)) af)) (ag (bp (ag (dC (.int 0)) af)) (ag (dC (.int 12)) af)))))))))))))))))) (ak (aW (dT (d1 (aa 1) (bj "tuple"))) (ak (aB 8 (bp (ag (dN (ag (aa 1) af) wG) (ag (d2 (aa 1) (cL (aa 1) cK (gP (dC (.int 1)))) bK) (ag (cL (aa 1) cK (gP (d1 (dC (.int 1)) g6))) (ag (d1 (aa 1) wV) (ag (d2 (aa 1) (cE (ag (aa 5) af)) bK) (ag (cL (aa 1) (gP (dC (.int 1))) cK) (ag (cE (ag (aa 1) af)) af))))))))) (aF (d2 (d2 (aa 8) (bp (ag (d2 (aa 7) (aa 4) a_) af)) bK) (aa 3) a_))) b4) (ak (aW (dT (aj 1 xg (ag (aa 1) af))) (aF (d2 (bp (ag (d2 (aa 1) (dC (.int 1)) bK) (ag (d2 (aa 1) (dC (.int 1)) (oI λi j=>.int (i-j))) (ag (d2 (dC (.int 0)) (aa 1) (oI λi j=>.int (i-j))) (ag (aa 5) (ag (aa 5) (ag (d2 (aa 1) (dC (.int 1)) oEq) (ag (d2 (dC (.int 13)) (aa 1) (oI λi j=>.int (i-j))) (ag (d2 (aa 7) (aa 4) a_) af))))))))) (aa 3) a_)) b4) (aF (d2 (aa 7) (aa 4) a_)))))))))
def B4(g:Nat->GD):Nat->GD
 |0=>λ_ _ _=>False
 |n+1=>g n
theorem Sj(n:Nat):Sem 3 6 (lq n) (B3 (B4 lq n)):=by
 ext ys ovs K'-⟨N,deep,l,m,d,o,rfl,rfl,P,Wq,Ij,Wr,bd,hl,Sk,hm,fin⟩;unfold B3;let back:∀(d':D)(o':OV)(sl:-(Option DV))(mu:-(Option OV)),Bd (l+1) (m+1) d'->aN (N+4*(n+1)) o'->d8 1 K' (.p d') ⟨sl,U o'::mu⟩:=λd' o' sl mu h1 h2=>⟨[o'],Y,Y,fin d' o' h1 h2⟩;calc aJ λN' hN=>?_;simp!;calc⟨N,8,o,Y,Y,P,⋯,⋯,⋯,λkind o1 k0 k8 P1=>?_⟩;simp!;subst hN;calc aJ λN' hN=>?_;simp!;calc⟨N+1,16,o1,Y,Y,P1,⋯,⋯,⋯,λpick o2 p0 Ws P2=>?_⟩;simp!;subst hN;refine aJ λN' hN=>?_
 simp!;calc⟨N+1+1,9,o2,Y,Y,P2,⋯,⋯,⋯,λnr o3 n0 n9 P3=>?_⟩;simp!;subst hN;let Pe:aN (N+4*(n+1)) o3:=P3.mono ⋯;let⟨od,Sl,Ik⟩:=xp (xs:=qi) (k:=pick) p0 (by show pick<16;symm);let B5:Bd (l+1) (m+1) od:=(Si od Sl).mono ⋯ ⋯;let tail:∀N':aw->Prop,True:=λ_=>trivial;refine aJ λN' hN=>?_
 by_cases ht:∃ds,d=.tup ds
 .let⟨ds,rfl⟩:=ht
  let⟨mm,rfl⟩:∃mm,m=mm+1:=⟨m-1,by let:=bd.2;erw[dep] at this;symm⟩;let⟨b1,b2⟩:=bC.mp bd
  let rest:N' ⟨[U (.o 0),U (.p (.tup ds)),U (.p (.int deep)),U (.p (.int kind)),U (.p (.int pick)),U (.p (.int (nr-2))),Z,Z,Z],[U o3]⟩:=by
   subst hN;calc aJ λN' hN=>?_;simp!;calc⟨⟨by decide,by decide,by decide⟩,⟨by decide,by decide,by decide⟩,⟨by decide,by decide,by decide⟩,?_⟩;subst hN;calc aJ λN' hN=>?_;let c1:=vh ds Z (U 1);let mX:d3 [D.non,D.bl θ,D.bl ι,D.str (XW ""),D.str (XW "0"),D.tup [],D.lst [],D.int (10 ^ Zf 20),D.int (-1),D.int 0,D.int 1,D.int (10 ^ Zf 9),D.int (10 ^ Zf 9+1),D.tup [D.int 0],D.lst [D.int 0],D.int 12] pick=U od:=Ik;simp![bh,show aA "tuple" "tuple" = θ from Y,mX];let⟨r,hr,er⟩:=xp (xs:=[D.lst ds,D.tup (ds++cutD ds Z (U 1)),D.tup (cutD ds Z (U (-1))),D.tup ds.reverse,D.tup (ds++[D.int (nr-2)]),D.tup (cutD ds (U 1) Z),D.tup [D.tup ds],od]) (k:=kind) k0 (by show kind<8;symm)
   rw[er];calc⟨⋯,⋯,back _ _ _ _ ?_ Pe⟩;erw[Mt,Xd,Yp] at hr;let up:∀y∈ds,Bd (l+1) (mm+1) y:=λy hy=>(b2 y hy).mono ⋯ ⋯;let ib:Bd (l+1) (mm+1) (.int (nr-2)):=⟨Xq _,Xq _⟩;rcases hr with rfl|rfl|rfl|rfl|rfl|rfl|rfl|rfl
   .exact qh.mpr ⟨⋯,up⟩
   .refine bC.mpr ⟨?_,λy hy=>?_⟩
    .rw[EB]
     let:↑(cutD ds Z (U 1))<=1:=by
      unfold cutD;rw[Xi];let:HT.aP ↑ds ↑ds (U 1)=min 1 ↑ds:=HT.nJ ↑ds ↑ds 1;rw[this];symm
     symm
    .rcases Xv.mp hy with hy|hy
     .exact up y hy
     .exact up y (vg hy)
   .exact bC.mpr ⟨by let:=vh ds Z (U (-1));symm,λy hy=>up y (vg hy)⟩
   .exact bC.mpr ⟨by rw[Zm];symm,λy hy=>up y (List.mem_reverse.mp hy)⟩
   .refine bC.mpr ⟨by rw[EB,Xx];symm,λy hy=>?_⟩
    rcases Xv.mp hy with hy|hy
    .exact up y hy
    .rw[Xr.mp hy];exact ib
   .exact bC.mpr ⟨by let:=vh ds (U 1) Z;symm,λy hy=>up y (vg hy)⟩
   .refine bC.mpr ⟨by show 1<=l+1;symm,λy hy=>?_⟩
    rw[Xr.mp hy];exact bd.mono ⋯ ⋯
   .exact B5
  simp![bh,show aA "tuple" "tuple" = θ from Y,av];calc⟨by let:=bd.2;erw[dep] at this;symm,?_⟩;cases q:cG ds []
  .erw[Zc,YU]
   by_cases hd:0<deep
   .rw[Xa (VS hd)]
    by_cases hp:3<pick
    .rw[Xa (VS hp)]
     let dn:0<↑ds:=by
      cases ds with
      |nil=>cases q
      |cons _ _=>exact q0g _
     calc⟨N+1+1+1,↑ds,o3,Y,Y,P3,⋯,⋯,⋯,λat_ o4 a0 a1 P4=>?_⟩;let⟨x,hx,ex⟩:=xp (xs:=ds) (k:=at_) a0 a1;let⟨nn,rfl⟩:∃nn:Nat,n=nn+1:=⟨n-1,⋯⟩;simp![ex];calc⟨N+1+1+1+1,deep-1,l,mm,x,o4,Y,Y,P4,⋯,⋯,⋯,b2 x hx,hl,Sk,⋯,λd' o5 b5 P5=>?_⟩;let c1:=vh ds Z (U at_);let c2:=vh ds (U (at_+1)) Z;simp!;refine⟨⋯,⋯,back _ _ _ _ (bC.mpr ⟨?_,λy hy=>?_⟩) (P5.mono ⋯)⟩
     .let e1:↑(cutD ds Z (U at_))=at_.toNat:=by
       unfold cutD;rw[Xi,XO];let:HT.aP ↑ds 0 Z=0:=Y
       let h2:HT.aP ↑ds ↑ds (U at_)=min at_.toNat ↑ds:=by
        let⟨ii,rfl⟩:∃ii:Nat,at_=ii:=⟨at_.toNat,⋯⟩;exact HT.nJ ↑ds ↑ds ii
       rw[this,h2];symm
      let e2:↑(cutD ds (U (at_+1)) Z)=↑ds-(at_.toNat+1):=by
       unfold cutD;rw[Xi,XO];let:HT.aP ↑ds ↑ds Z=↑ds:=Y
       let h2:HT.aP ↑ds 0 (U (at_+1))=min (at_.toNat+1) ↑ds:=by
        let⟨ii,rfl⟩:∃ii:Nat,at_=ii:=⟨at_.toNat,⋯⟩;exact HT.nJ ↑ds 0 (ii+1)
       rw[this,h2];symm
      rw[EB,EB,e1,e2,Xx];symm
     .rcases Xv.mp hy with hy|hy
      .rcases Xv.mp hy with hy|hy
       .exact (b2 y (vg hy)).mono ⋯ ⋯
       .rw[Xr.mp hy];exact b5
      .exact (b2 y (vg hy)).mono ⋯ ⋯
    .rw[VR (by rw[W_ hp];decide)]
     exact rest
   .rw[VR (by rw[W_ hd];decide)]
    exact rest
  .erw[XX,VQ,XY]
   exact rest
 .let nt:∀K2:KS,True:=λ_=>trivial
  let mX:d3 [D.non,D.bl θ,D.bl ι,D.str (XW ""),D.str (XW "0"),D.tup [],D.lst [],D.int (10 ^ Zf 20),D.int (-1),D.int 0,D.int 1,D.int (10 ^ Zf 9),D.int (10 ^ Zf 9+1),D.tup [D.int 0],D.lst [D.int 0],D.int 12] pick=U od:=Ik
  let Il:aA (bh d) "tuple" = ι:=by
   cases d with
   |tup ds=>exact absurd ⟨ds,Y⟩ ht
   |_=>rfl
  simp![Il];subst hN;calc aJ λN' hN=>?_;simp!;calc⟨⟨by decide,by decide,by decide⟩,⟨by decide,by decide,by decide⟩,⟨by decide,by decide,by decide⟩,?_⟩;subst hN;calc aJ λN' hN=>?_;simp![Il];subst hN;calc aJ λN' hN=>?_;simp!;calc⟨d,Y,Y,?_⟩;simp!
  by_cases hi:∃i,d=.int i
  .let⟨i,rfl⟩:=hi
   simp![xa,mX,av];let⟨r,hr,er⟩:=xp (xs:=[D.int (i+1),D.int (i-1),D.int (0-i),D.int (nr-2),D.int (nr-2),D.bl (i==1),D.int (13-i),od]) (k:=kind) k0 (by show kind<8;symm);rw[er];calc back _ _ _ _ ?_ Pe;erw[Mt,Xd,Yp] at hr;rcases hr with rfl|rfl|rfl|rfl|rfl|rfl|rfl|rfl
   all_goals first|exact B5|exact⟨Xq _,Xq _⟩
  .let hw:xa d=ι:=by
    cases d with
    |int i=>exact absurd ⟨i,Y⟩ hi
    |_=>rfl
   rw[hw];erw[VQ,XY];subst hN;simp![mX];calc back _ _ _ _ B5 Pe
end LJ
namespace PySem
open Sem (wp)
structure ZG(z TI TO i j:O)(fp gp:-O):Prop where
 a1:TI≠z
 a2:TO≠z
 a3:i≠z
 a4:j≠z
 a5:TI≠TO
 a6:TI≠i
 a7:TI≠j
 a8:TO≠i
 a9:TO≠j
 b1:i≠j
 f1:z∉fp
 f2:TO∉fp
 f3:j∉fp
 g1:z∉gp
 g2:TO∉gp
 g3:i∉gp
theorem bk{a:O}{h h':I}(hs:ZW a h h'){b:O}{o:f}(n:b≠a)(e:h.get? b=U o):h'.get? b=U o:=(hs.2 b n).trans e
section
variable{prog:ψ}{w:g}{A:q}{E:aM}{s:L}{z TI TO i j:O}{fp gp:-O}{n m k:Nat}{P P':Nat->J->Prop}{St i9:Nat->I->Prop}{a b:J}
theorem Sm{Q:aM}(D:Draws prog w A i fp n P St)(D':Draws prog w A j gp m P' i9)(Z:ZG z TI TO i j fp gp)
  (hz:IsZip s.heap z TI TO .none) (hI:IsPair s.heap TI (.ref i) (.ref j)) (hO:IsPair s.heap TO a b) (st:St k s.heap) (gJ:i9 k s.heap) (hk:k<n) (ir:k<m)
  (hQ:∀x y h' tk,P k x->P' k y->IsZip h' z TI TO (rawInt ⇑s)->IsPair h' TO x y->St (k+1) h'->i9 (k+1) h'->IsPair h' ⇑s x y →
   (∀c o,c≠z->c≠TO->c≠i->c≠j->s.heap.get? c=U o->h'.get? c=U o)->Q (.ref ⇑s) {s with heap:=h',toks:=tk}) :
  G (M prog w) A (Builtin.«zip.__next__» ⟨[.ref z],[]⟩) (λfin s'=>∃v,fin=.done (.ret v)/\Q v s') E s:=by
 show G _ _ (field (.ref z) 2 >>= _) _ _ _;calc lK (X0 hz Y (x:=.bool ι) Y ?_);show G _ _ (field (.ref z) 3 >>= _) _ _ _;calc lK (X0 hz Y (x:=.ref TI) Y (lK (YK hI Y ?_)));show G _ _ (Yz (.ref z) >>= _) _ _ _;calc lK ?_;unfold Yz;calc lK (X0 hz Y (x:=.none) Y (zi ?_));erw[YU];calc lK (q2P (lK (X0 hz Y (x:=.ref TO) Y (lK (Zd hz (by simp) λk1 z1 s1=>?_)))));let z1:IsZip k1 z TI TO .ellipsis:=z1;calc lK ?_;erw[q3z,q3X,q1R,q17];calc lK (lK (q0E ?_));show G _ _ (Yq (.ref i) >>= _) _ _ _;refine lK (D.item k {s with heap:=k1} _ _ hk (D.frame k _ _ st λc hc o e=>bk s1 (λy=>Z.f1 (y▸hc)) e) λx k2 t2 px jJ s2=>zi ?_)
 let o2:IsPair k2 TO a b:=bk s2 Z.a8 (bk s1 Z.a2 hO);calc lK (YK o2 Y (lK (q0H o2 λk3 o3 s3=>?_)));let o3:IsPair k3 TO x b:=o3;calc lK (q3K (zi (lK (lK (q0E ?_)))));show G _ _ (Yq (.ref j) >>= _) _ _ _;let qj:i9 k k3:=D'.frame k _ _ gJ λc hc o e=>bk s3 (λy=>Z.g2 (y▸hc)) (bk s2 (λy=>Z.g3 (y▸hc)) (bk s1 (λy=>Z.g1 (y▸hc)) e));let nA:St (k+1) k3:=D.frame _ _ _ jJ λc hc o e=>bk s3 (λy=>Z.f2 (y▸hc)) e;calc lK (D'.item k {s with heap:=k3,toks:=t2} _ _ ir qj λy k4 t4 py Sn s4=>zi ?_);let o4:IsPair k4 TO x b:=bk s4 Z.a9 o3;refine lK (YK o4 Y (lK (q0H o4 λk5 o5 s5=>?_)))
 let o5:IsPair k5 TO x y:=o5;calc lK (q3K (zi (zi (lK (YK o5 Y (lK (wpAny_newTuple ?_)))))));let sz:k5.objs.size=⇑s:=by rw[s5.1,s4.1,s3.1,s2.1,s1.1]
 let z5:IsZip k5 z TI TO .ellipsis:=bk s5 Z.a2.symm (bk s4 Z.a4.symm (bk s3 Z.a2.symm (bk s2 Z.a3.symm z1)));let kp:∀c o,c≠z->c≠TO->c≠i->c≠j->s.heap.get? c=U o->k5.get? c=U o:=λc o c1 c2 c3 c4 e=>bk s5 c2 (bk s4 c4 (bk s3 c2 (bk s2 c3 (bk s1 c1 e))));let t5:St (k+1) k5:=D.frame _ _ _ nA λc hc o e=>bk s5 (λy=>Z.f2 (y▸hc)) (bk s4 (λy=>Z.f3 (y▸hc)) e);let So:i9 (k+1) k5:=D'.frame _ _ _ Sn λc hc o e=>bk s5 (λy=>Z.g2 (y▸hc)) e;let zl:z<k5.objs.size:=EC z5;show G _ _ (Z2 (.ref z) (.ref k5.objs.size) >>= _) _ _ _;calc lK ?_;unfold Z2;refine lK (Zd (show IsZip (k5.push {cls:=.type "tuple",data:=.seq #[x,y]}) z TI TO .ellipsis from pf _ z5) (by simp) λk7 z7 s7=>?_)
 let z7:IsZip k7 z TI TO (rawInt k5.objs.size):=z7;calc Zd z7 (by simp) λk8 z8 s8=>?_;let z8:IsZip k8 z TI TO (rawInt k5.objs.size):=z8;let up:∀c o,c≠z->k5.get? c=U o->k8.get? c=U o:=λc o c1 e=>bk s8 c1 (bk s7 c1 (pf _ e));let p8:IsPair k8 k5.objs.size x y:=bk s8 (Zv zl) (bk s7 (Zv zl) (My _ Y));rw[sz] at z8 p8;calc zi ⟨_,Y,?_⟩;show Q (.ref k5.objs.size) _;rw[sz];calc hQ x y k8 t4 px py z8 (up _ _ Z.a2 o5) (D.frame _ _ _ t5 λc hc o e=>up c o (λy=>Z.f1 (y▸hc)) e) (D'.frame _ _ _ So λc hc o e=>up c o (λy=>Z.g1 (y▸hc)) e) p8 λc o c1 c2 c3 c4 e=>up c o c1 (kp c o c1 c2 c3 c4 e)
theorem Sq{Q:Fin->L->Prop}(D:Draws prog w A i fp n P St)(D':Draws prog w A j gp m P' i9)(Z:ZG z TI TO i j fp gp)
  (hz:IsZip s.heap z TI TO .none) (hI:IsPair s.heap TI (.ref i) (.ref j)) (hO:IsPair s.heap TO a b) (st:St k s.heap) (gJ:i9 k s.heap) (hk:k=n\/(k<n/\k=m))
  (hE:∀h' e tk,(∀c o,c≠z->c≠TO->c≠i->c≠j->s.heap.get? c=U o->h'.get? c=U o)->(∃o,h'.get? e=U o/\o.cls=.type "StopIteration")->E (.ref e) {s with heap:=h',toks:=tk}) :
  G (M prog w) A (Builtin.«zip.__next__» ⟨[.ref z],[]⟩) Q E s:=by
 show G _ _ (field (.ref z) 2 >>= _) _ _ _;calc lK (X0 hz Y (x:=.bool ι) Y ?_);show G _ _ (field (.ref z) 3 >>= _) _ _ _;calc lK (X0 hz Y (x:=.ref TI) Y (lK (YK hI Y ?_)));show G _ _ (Yz (.ref z) >>= _) _ _ _;calc lK ?_;unfold Yz;calc lK (X0 hz Y (x:=.none) Y (zi ?_));erw[YU];calc lK (q2P (lK (X0 hz Y (x:=.ref TO) Y (lK (Zd hz (by simp) λk1 z1 s1=>?_)))));let z1:IsZip k1 z TI TO .ellipsis:=z1;calc lK ?_;erw[q3z,q3X,q1R,q17];calc lK (lK (q0E ?_));show G _ _ (Yq (.ref i) >>= _) _ _ _;let iQ:St k k1:=D.frame k _ _ st λc hc o e=>bk s1 (λy=>Z.f1 (y▸hc)) e
 rcases hk with rfl|⟨hk,rfl⟩
 .refine lK (D.done {s with heap:=k1} _ _ iQ λk2 e s2 he=>?_)
  let⟨oe,ho,hc⟩:=he;let z2:IsZip k2 z TI TO .ellipsis:=s2 _ _ Z.a3.symm z1;let ez:e≠z:=λx=>by subst x;rw[z2] at ho;cases ho;simp at hc
  exact Zd z2 (by simp) λk3 _ s3=>hE k3 e _ (λc o c1 _ c3 _ x=>bk s3 c1 (s2 _ _ c3 (bk s1 c1 x))) ⟨oe,bk s3 ez ho,hc⟩
 .refine lK (D.item k {s with heap:=k1} _ _ hk iQ λx k2 t2 px jJ s2=>zi ?_)
  let o2:IsPair k2 TO a b:=bk s2 Z.a8 (bk s1 Z.a2 hO);calc lK (YK o2 Y (lK (q0H o2 λk3 o3 s3=>?_)));calc lK (q3K (zi (lK (lK (q0E ?_)))));show G _ _ (Yq (.ref j) >>= _) _ _ _;let qj:i9 k k3:=D'.frame k _ _ gJ λc hc o e=>bk s3 (λy=>Z.g2 (y▸hc)) (bk s2 (λy=>Z.g3 (y▸hc)) (bk s1 (λy=>Z.g1 (y▸hc)) e));calc lK (D'.done {s with heap:=k3,toks:=t2} _ _ qj λk4 e s4 he=>?_);let⟨oe,ho,hc⟩:=he;let z4:IsZip k4 z TI TO .ellipsis:=s4 _ _ Z.a4.symm (bk s3 Z.a2.symm (bk s2 Z.a3.symm z1));let ez:e≠z:=λx=>by subst x;rw[z4] at ho;cases ho;simp at hc
  calc Zd z4 (by simp) λk5 _ s5=>hE k5 e _ (λc o c1 c2 c3 c4 x=>bk s5 c1 (s4 _ _ c4 (bk s3 c2 (bk s2 c3 (bk s1 c1 x))))) ⟨oe,bk s5 ez ho,hc⟩
theorem Sr{Q:Option J->L->Prop}(D:Draws prog w A.in1 i fp n P St)(D':Draws prog w A.in1 j gp m P' i9)(Z:ZG z TI TO i j fp gp)
  (hz:IsZip s.heap z TI TO .none) (hI:IsPair s.heap TI (.ref i) (.ref j)) (hO:IsPair s.heap TO a b) (st:St k s.heap) (gJ:i9 k s.heap) (hk:k<n) (ir:k<m)
  (hQ:∀x y h' tk,P k x->P' k y->IsZip h' z TI TO (rawInt ⇑s)->IsPair h' TO x y->St (k+1) h'->i9 (k+1) h'->IsPair h' ⇑s x y →
   (∀c o,c≠z->c≠TO->c≠i->c≠j->s.heap.get? c=U o->h'.get? c=U o)->Q (U (.ref ⇑s)) {s with heap:=h',toks:=tk}):G (M prog w) A (pyNext (.ref z)) Q E s:=by
 let hT:s.TypeIs (.ref z) "zip" := ⟨_,hz,Y⟩;unfold pyNext;calc lK (q1k (Ym (name:=XW "__next__") hT q0P (Y7 q0P hT q3A (Sm D D' Z hz hI hO st gJ hk ir λx y h' tk a1 a2 a3 a4 a5 a6 a7 a8=>zi (hQ x y h' tk a1 a2 a3 a4 a5 a6 a7 a8)) (q3k _))))
theorem Ss{Q:Option J->L->Prop}(D:Draws prog w A.in1 i fp n P St)(D':Draws prog w A.in1 j gp m P' i9)(Z:ZG z TI TO i j fp gp)
  (hz:IsZip s.heap z TI TO .none) (hI:IsPair s.heap TI (.ref i) (.ref j)) (hO:IsPair s.heap TO a b) (st:St k s.heap) (gJ:i9 k s.heap) (hk:k=n\/(k<n/\k=m))
  (hQ:∀h' tk,(∀c o,c≠z->c≠TO->c≠i->c≠j->s.heap.get? c=U o->h'.get? c=U o)->Q η {s with heap:=h',toks:=tk}):G (M prog w) A (pyNext (.ref z)) Q E s:=by
 let hT:s.TypeIs (.ref z) "zip" := ⟨_,hz,Y⟩;unfold pyNext;calc lK (q1k (Ym (name:=XW "__next__") hT q0P (Y7 q0P hT q3A (Sq D D' Z hz hI hO st gJ hk λh' e tk kp he=>?_) (q3k _))));let⟨o,ho,hc⟩:=he;calc lK (wpAny_isInstance (T:="StopIteration") (b:=true) ⟨o,ho,hc⟩ isSubtype_stop (zi (hQ _ _ kp)))
end
def c_(h:I)(t:Bool)(l:O)(xs:Array J):Prop:=match t with
 |true=>h.IsTuple l xs
 |false=>h.IsList l xs
noncomputable abbrev hU(t:Bool)(l:O)(k:Nat):f:={cls:=.type (match t with|true=>"tuple_iterator" | false=>"list_iterator"),data:=.fields #[.ref l,.int k 0]}
def eA(h:I)(t:Bool)(it l:O)(k:Nat):Prop:=match t with
 |true=>h.IsTupleIter it l k
 |false=>h.IsListIter it l k
theorem c_.lt{h:I}{t:Bool}{l:O}{xs:Array J}(x:c_ h t l xs):l<h.objs.size:=by
 cases t<;>(let⟨o,e,_⟩:=x;calc EC e)
theorem c_.at{h h':I}{t:Bool}{l:O}{xs:Array J}(x:c_ h t l xs)(k:∀o,h.get? l=U o->h'.get? l=U o):c_ h' t l xs:=by
 cases t with
 |true=>exact Heap.IsTuple.at x k
 |false=>calc Heap.IsList.at x k
theorem eA.at{h h':I}{t:Bool}{i l:O}{n:Nat}(x:eA h t i l n)(k:∀o,h.get? i=U o->h'.get? i=U o):eA h' t i l n:=by
 cases t with
 |true=>exact Heap.IsTupleIter.at x k
 |false=>calc Heap.IsListIter.at x k
theorem eA.obj{h:I}{t:Bool}{i l:O}{n:Nat}(x:eA h t i l n):∃o,h.get? i=U o/\∀v,o.data≠.cell v:=by
 cases t<;>(let⟨o,e,_,d⟩:=x;calc⟨o,e,λv z=>by rw[d] at z;cases z⟩)
theorem eA.new{h:I}{t:Bool}{i l:O}(e:h.get? i=U (hU t l 0)):eA h t i l 0:=by
 cases t<;>calc⟨_,e,Y,Y⟩
section
variable{prog:n}{w:g}{A:q}{E:aM}{s:L}
theorem xq(hh:A.handled=Z)(t:Bool)(it l:O)(iO:l≠it)(items:Array J):Draws prog w A it [it,l] items.size (λi v=>items[i]?=U v) (λi h=>eA h t it l i/\c_ h t l items):=by
 cases t
 .exact Draws.list hh it l iO items
 .calc Aj hh it l iO items
theorem Im{t:Bool}{l:O}{xs:Array J}{Q:aM}(hl:c_ s.heap t l xs)(h:Q (.ref ⇑s) {s with heap:=s.heap.push (hU t l 0)}):G (M prog w) A (pyIter (.ref l)) Q E s:=by
 cases t
 .exact Zh hl h
 .calc Zy hl h
end
noncomputable abbrev xr(h:I)(t:Bool)(l:O):I:=h.push (hU t l 0)
noncomputable abbrev xt(h:I)(t u:Bool)(l m:O):I:=(xr h t l).push (hU u m 0)
noncomputable abbrev xu(h:I)(t u:Bool)(l m:O):I:=(xt h t u l m).push {cls:=.type "tuple",data:=.seq #[.ref h.objs.size,.ref (xr h t l).objs.size]}
noncomputable abbrev xv(h:I)(t u:Bool)(l m:O):I:=(xu h t u l m).push {cls:=.type "tuple",data:=.seq #[.none,.none]}
noncomputable abbrev rM(h:I)(t u:Bool)(l m:O):I:=(xv h t u l m).push {cls:=.type "zip",data:=.fields #[.none,.bool ι,.bool ι,.ref (xt h t u l m).objs.size,.ref (xu h t u l m).objs.size]}
theorem Su(t u:Bool)(l m:O)(xs ys:Array J):
  Meets (Builtin.«zip.__new__» ⟨[.type "zip",.ref l,.ref m],[]⟩) (λ_ R s=>c_ s.heap t l xs/\c_ s.heap u m ys/\R (.ok (.ret (.ref (xv s.heap t u l m).objs.size))) {s with heap:=rM s.heap t u l m}) :=
 .of_wp λprog w A R s h=>by
  let⟨hp,g,d,tk,os⟩:=s;let⟨h1,h2,h⟩:=h;let Ah:=sub_zip;let e1:c_ (q3I ⟨hp,g,d,tk,os⟩) t l xs:=h1;let e2:c_ (q3I ⟨hp.push (hU t l 0),g,d,tk,os⟩) u m ys:=c_.at h2 λo e=>pf _ e
  wp_walk using Im e1,Im e2
  calc⟨_,Y,h⟩
section
variable{prog:n}{w:g}{A:q}{E:aM}{s:L}
theorem Sv{t u:Bool}{l m:O}{xs ys:Array J}{Q:aM}(h1:c_ s.heap t l xs)(h2:c_ s.heap u m ys)
  (h:∀h',IsZip h' (⇑s+4) (⇑s+2) (⇑s+3) .none->IsPair h' (⇑s+2) (.ref ⇑s) (.ref (⇑s+1)) →
   IsPair h' (⇑s+3) .none .none->eA h' t ⇑s l 0->eA h' u (⇑s+1) m 0->(∀c o,s.heap.get? c=U o->h'.get? c=U o)->Q (.ref (⇑s+4)) {s with heap:=h'}) :
  G (M prog w) A (call (.type "zip") [.ref l,.ref m]) Q E s:=by
 calc callType_new F.called_zip (by decide) (F.typeCall_zip_2 _ _) (F.newCall_zip_2 _ _) (λobj=>F.args_object_init_3 obj _ _) F.entry_zip_new (Su t u l m xs ys) ⟨h1,h2,?_⟩;let z1:(xr s.heap t l).objs.size=⇑s+1:=Yy ..;let z2:(xt s.heap t u l m).objs.size=⇑s+2:=by rw[Yy,z1]
 let z3:(xu s.heap t u l m).objs.size=⇑s+3:=by rw[Yy,z2]
 let z4:(xv s.heap t u l m).objs.size=⇑s+4:=by rw[Yy,z3]
 let q5:(rM s.heap t u l m).get? (xv s.heap t u l m).objs.size=U _:=My _ Y;let q4:(rM s.heap t u l m).get? (xu s.heap t u l m).objs.size=U _:=pf _ (My _ Y);let q3:(rM s.heap t u l m).get? (xt s.heap t u l m).objs.size=U _:=pf _ (pf _ (My _ Y));let q2:(rM s.heap t u l m).get? (xr s.heap t l).objs.size=U (hU u m 0):=pf _ (pf _ (pf _ (My _ Y)));let q1:(rM s.heap t u l m).get? ⇑s=U (hU t l 0):=pf _ (pf _ (pf _ (pf _ (My _ Y))));show _/\_;rw[z2,z3,z4] at q5;rw[z1,z2] at q3;rw[z3] at q4;rw[z1] at q2;rw[z4];calc⟨⟨_,q5,Y⟩,h _ q5 q3 q4 (.new q1) (.new q2) λc o x=>pf _ (pf _ (pf _ (pf _ (pf _ x))))⟩
end
end PySem
namespace L2
open PySem PySem.Spec PyProof.Rows
def i_(K:tu)(H:Hp)(t:Bool)(a:O)(xs:-V):Prop:=match t with
 |true=>bo K H a xs
 |false=>aX K H a xs
section
variable{X:Cx}{pins:aq}{σ:St}{H:Hp}{s:L}
theorem Inv.sq{t:Bool}{a:O}{xs:-V}(I:Inv X pins σ H s)(h:i_ X.K H t a xs):∃ah:-J,Vals xs ah/\c_ s.heap t a ah.toArray:=by
 cases t
 .let⟨ah,r,p,_⟩:=I.list h;exact⟨ah,r,p.isList⟩
 .let⟨ah,r,⟨o,o1,o2,n,o3⟩,_⟩:=I.tuple h;calc⟨ah,r,o,o1,o2,n,o3⟩
theorem Inv.ku{t:Bool}{a:O}{xs ys:-V}(I:Inv X pins σ H s)(h:i_ X.K H t a xs)(h':i_ X.K H t a ys):xs=ys:=by
 cases t
 .exact I.eG h h'
 .calc I.dS h h'
end
noncomputable def vj(K:tu)(t u:Bool)(a b:O):It :=
 ⟨λi H=>∃xs ys x y,i_ K H t a xs/\i_ K H u b ys/\xs[i]?=U x/\ys[i]?=U y,
  λi H v H'=>∃T x y,v=.ref T/\H T=Z/\H'=upd H T (.tup [x,y])/\(∀xs,i_ K H t a xs->xs[i]?=U x)/\∀ys,i_ K H u b ys->ys[i]?=U y,
  λi H=>∃xs ys,i_ K H t a xs/\i_ K H u b ys/\((↑xs=i)\/(i<↑xs/\↑ys=i))⟩
structure B6(t u:Bool)(z TI TO i1 i2 l1 l2:O)(i:Nat)(h:I):Prop where
 hz:IsZip h z TI TO .none
 jz:IsPair h TI (.ref i1) (.ref i2)
 kz:∃x y,IsPair h TO x y
 h1:eA h t i1 l1 i
 h2:eA h u i2 l2 i
theorem Sw{P:n}{w:g}{K:tu}{elts:-B}{x1}{tp:Ε}{t u:Bool}{z TI TO i1 i2 l1 l2:O}(D:ZG z TI TO i1 i2 [i1,l1] [i2,l2])(n1:l1≠i1)(n2:l2≠i2):
  Turn P w K (.Tuple elts x1 tp) (vj K t u l1 l2) [z,TI,TO,i1,i2] z (B6 t u z TI TO i1 i2 l1 l2) where
 mem:=by simp
 obj:=λi h st b hb=>by
  let⟨hz,jz,⟨x,y,kz⟩,g1,g2⟩:=st;erw[Mt,Xd,Yp] at hb;rcases hb with rfl|rfl|rfl|rfl|rfl
  .exact⟨_,hz,λv z=>by cases z⟩
  .exact⟨_,jz,λv z=>by cases z⟩
  .exact⟨_,kz,λv z=>by cases z⟩
  .exact g1.obj
  .exact g2.obj
 keep:=λi h h' st k=>by
  let⟨hz,jz,⟨x,y,kz⟩,g1,g2⟩:=st;exact⟨k z (by simp) _ hz,k TI (by simp) _ jz,⟨x,y,k TO (by simp) _ kz⟩,g1.at λo q=>k i1 (by simp) o q,g2.at λo q=>k i2 (by simp) o q⟩
 item:=by
  ext X hP hw hK hc i pins s σ H E I hf st hg;subst hP hw hK;let⟨hz,jz,⟨a,b,kz⟩,g1,g2⟩:=id st;let⟨xs,ys,x,y,rN,rO,hx,hy⟩:=hg;let⟨ah,rv,p⟩:=I.sq rN;let⟨aU,vk,p2⟩:=I.sq rO;let hh:X.A.in1.handled=Z:=by rw[Y_];exact I.ok.hd hc
  let lx:=(ph.mp hx).1;let ly:=(ph.mp hy).1;calc Sr (xq hh t i1 l1 n1 ah.toArray) (xq hh u i2 l2 n2 aU.toArray) D hz jz kz ⟨g1,p⟩ ⟨g2,p2⟩ (by rw[Ez,<-↑rv];calc lx) (by rw[Ez,<-↑vk];calc ly) λcu cv k1 tk pu pv z1 t1 a1 a2 Sx xw=>⟨_,Y,?_⟩;let⟨u',hu,ru⟩:=rv.get hx;let⟨v',hv,Sy⟩:=vk.get hy;let pu:ah[i]?=U cu:=by simpa using pu
  let pv:aU[i]?=U cv:=by simpa using pv
  rw[hu] at pu;rw[hv] at pv;obtain rfl:=Xt pu;obtain rfl:=Xt pv;calc wpAny_letOwnedTupleGo_zip z1 λk2 z2 dj=>?_;let Sz:⇑s≠z:=Zv (EC hz);let SA:IsPair k2 ⇑s u' v':=(dj.2 _ Sz).trans Sx
  let SD:∀b o,b∉[z,TI,TO,i1,i2]->s.heap.get? b=U o->k2.get? b=U o:=λb o hb q=>by
   erw[Mt,Xd,Yp,not_or] at hb;exact(dj.2 _ hb.1).trans (xw b o hb.1 hb.2.2.1 hb.2.2.2.1 hb.2.2.2.2 q)
  let hn:H ⇑s=Z:=I.aH.fresh (vQ _);refine⟨.ref ⇑s,upd H ⇑s (.tup [x,y]),I.eJ (ch:=[z,TI,TO,i1,i2]) (t':=tk) hf SD (vQ _) ?_,Y,⟨_,x,y,Y,hn,Y,λzs hy=>by rw[I.ku hy rN];calc hx,λzs rJ=>by rw[I.ku rJ rO];calc hy⟩,⟨z2,?_,⟨u',v',(dj.2 _ D.a2).trans t1⟩,a1.1.at λo q=>(dj.2 _ D.a3).trans q,a2.1.at λo q=>(dj.2 _ D.a4).trans q⟩,λb hb=>?_⟩
  .exact⟨by show 2<=sizeLine;decide,[u',v'],.cons ru (.cons Sy .nil),_,SA,Y,_,Y⟩
  .exact (dj.2 _ D.a1).trans (xw TI _ D.a1 D.a5 D.a6 D.a7 jz)
  .let:b<⇑s:=by
    let⟨o1,q1,_⟩:=g1.obj;let⟨o2,q2,_⟩:=g2.obj;erw[Mt,Xd,Yp] at hb;rcases hb with rfl|rfl|rfl|rfl|rfl
    .exact EC hz
    .exact EC jz
    .exact EC kz
    .exact EC q1
    .exact EC q2
   rw[aC (Xg this)];exact(hf b hb).1
 done:=by
  ext X hP hw hK hc i pins s σ H E I hf st hg;subst hP hw hK;let⟨hz,jz,⟨a,b,kz⟩,g1,g2⟩:=id st;let⟨xs,ys,rN,rO,hx⟩:=hg;let⟨ah,rv,p⟩:=I.sq rN;let⟨aU,vk,p2⟩:=I.sq rO;let hh:X.A.in1.handled=Z:=by rw[Y_];exact I.ok.hd hc
  let hl:=↑rv;let qI:=↑vk;refine Ss (xq hh t i1 l1 n1 ah.toArray) (xq hh u i2 l2 n2 aU.toArray) D hz jz kz ⟨g1,p⟩ ⟨g2,p2⟩ ?_ λk1 tk xw=>⟨Y,I.iN (t':=tk) (ch:=[z,TI,TO,i1,i2]) hf λb o hb q=>?_⟩
  .rw[Ez,Ez];symm
  .erw[Mt,Xd,Yp,not_or] at hb
   exact xw b o hb.1 hb.2.2.1 hb.2.2.2.1 hb.2.2.2.2 q
 self:=λA i s Q E st h=>q3B st.hz h
theorem SE(n l1 l2:Nat)(q1:l1<n)(q2:l2<n):ZG (n+4) (n+2) (n+3) n (n+1) [n,l1] [n+1,l2]:=by
 constructor<;>first|(show @Ne Nat _ _;symm)|(ext h;erw[Mt,Xd,Yp] at h;rcases h with h|h<;>(let h:(_:Nat)=_:=h;symm))
section
variable{X:Cx}{elts:-B}{x1:Nat}{tp:y}
def SG(K:tu)(ta:TA):TI:=fun σ H R=>ta σ H λvs H1=>∃a b t u,vs=[.ref a,.ref b]/\(∃xs,i_ K H1 t a xs)/\(∃ys,i_ K H1 u b ys)/\R (vj K t u a b) H1
theorem SH{a b:B}{ta:TA}{p pos:y}(hg:Gl X "zip")(hm:X.mg "zip" = Z)(ha:JA X [a,b] ta)(hs:starEach [a,b] X.env=[(ι,eval a X.env),(ι,eval b X.env)]:=by rfl)(dj:starEach [b] X.env=[(ι,eval b X.env)]:=by rfl):
  JI X (.Tuple elts x1 tp) (.Call (.Name "zip" p) [a,b] [] pos) (SG X.K ta):=by
 calc⟨λpins s σ H R I h=>?_⟩;calc Call_ (nq I hg hm MS (Yj (aS (ha pos pins s σ H _ I h) λus s1 h0_=>el5 h0_ λvs H1 I1 r1 q1=>?_) (by rw[hs,dj]) (by rw[dj];rfl)));let⟨l1,l2,t,u,e,⟨xs,rN⟩,⟨ys,rO⟩,q⟩:=q1;subst e
 cases r1 with
 |cons r rr =>
  cases rr with
  |cons r' SI =>
   cases SI
   cases r
   cases r'
   let⟨ah,rv,p⟩:=I1.sq rN;let⟨aU,vk,p2⟩:=I1.sq rO;let b1:l1<⇑s1:=p.lt;let b2:l2<⇑s1:=p2.lt;calc Sv p p2 λh' hz jz kz tJ SJ hk=>?_;let I2:Inv X pins σ H1 {s1 with heap:=h'}:=I1.kept (t':=s1.toks) hk;let D:=SE ⇑s1 l1 l2 b1 b2;calc q3B hz ?_;refine⟨_,_,_,_,H1,Y,I2,Sw D (Xg b1) (Xg (Yi b2)),⟨hz,jz,⟨_,_,kz⟩,tJ,SJ⟩,λb hb=>?_,q⟩
   let hb':⇑s1<=b:=by
    erw[Mt,Xd,Yp] at hb;rcases hb with rfl|rfl|rfl|rfl|rfl
    .exact Zs _ _
    .exact Zs _ _
    .exact Zs _ _
    .exact vQ _
    .exact Zs _ _
   calc I1.iI hb' (I1.aH.fresh hb')
end
section
variable[ay]{X:Cx}{a b:B}{fa:WA}
def xx(fa:WA):WI:=fun δ K=>fa δ λxs δ1=>match xs with
 |[x,y]=>l8 x δ1 λi=>l8 y δ1 λj=>K ⟨bW i.items j.items,fun δ'=>i.bg δ'/\j.bg δ'⟩ δ1
 |_=>False
theorem Io{F H:Hp}{ad:-O}{δ:aw}{σ:St}{x:DV}{v:V}{K0:tu}{K:nZ->Prop}(S:SR F ad δ σ H)(hv:df F ad x v)(h:l8 x δ K):∃a it t,v=.ref a/\K it/\(∃xs,i_ K0 H t a xs) ∧
  ∀(F':Hp)(au:-O)(δ':aw)(σ':St)(H':Hp),ar F F'->(∀(k:Nat)(a:O),ad[k]?=U a->au[k]?=U a)->SR F' au δ' σ' H'->it.bg δ'->∃ws,i_ K0 H' t a ws/\ae F' it.items ws:=by
 let⟨a,it,e,hk,r⟩:=Ao S hv h;rcases r with⟨⟨vs,e1⟩,r⟩|⟨⟨vs,e1⟩,r⟩
 .exact⟨a,it,ι,e,hk,⟨vs,aX.of e1⟩,λF' au δ' σ' H' s pre S' ck=>let⟨ws,q1,q2⟩:=r F' au δ' σ' H' s pre S' ck;⟨ws,aX.of q1,q2⟩⟩
 .calc⟨a,it,θ,e,hk,⟨vs,bo.of e1⟩,λF' au δ' σ' H' s pre S' ck=>let⟨ws,q1,q2⟩:=r F' au δ' σ' H' s pre S' ck;⟨ws,bo.of q1,q2⟩⟩
theorem SK{elts:-B}{x1:Nat}{tp p pos:Ε}(hg:Gl X "zip")(hm:X.mg "zip" = Z)(ha:JA X [a,b] (bH fa))(hs:starEach [a,b] X.env=[(ι,eval a X.env),(ι,eval b X.env)]:=by rfl)(dj:starEach [b] X.env=[(ι,eval b X.env)]:=by rfl):
  JI X (.Tuple elts x1 tp) (.Call (.Name "zip" p) [a,b] [] pos) (iC (xx fa)):=(SH hg hm ha hs dj).weak fun σ H R h0_=>el7 h0_ λF ad δ K S q k =>⟨F,ad,δ,_,S,q,λxs δ1 h1 vs F1 aI H1 E1 S1 V1=>by
 match xs,h1,V1 with
 |[x,y],g1,⟨v,r,e,W1,w,r2,e2,W2,W3⟩ =>
  subst e;subst e2;let W4:r2=[]:=W3;subst W4;let⟨a,it,t,rfl,wO,SM,r⟩:=Io (K0:=X.K) S1 W1 g1;let⟨b,jt,u,rfl,hk,dj,r'⟩:=Io (K0:=X.K) S1 W2 wO;calc⟨a,b,t,u,Y,SM,dj,k _ _ hk _ _ _ _ E1 S1 λF' au δ' σ' H' s pre S' ck=>?_⟩;let⟨ws,e1,e2⟩:=r F' au δ' σ' H' s pre S' ck.1;let⟨zs,e3,e4⟩:=r' F' au δ' σ' H' s pre S' ck.2;refine⟨⟨ws,zs,e1,e3,?_⟩,λi d ed=>?_⟩
  .rw[↑e2,↑e4,wt];symm
  .let⟨d1,d2,SN,SO,rfl⟩:=Gi ed
   let⟨w1,f1,g1⟩:=n8 e2 SN;let⟨w2,f2,g2⟩:=n8 e4 SO;calc⟨⟨ws,zs,w1,w2,e1,e3,f1,f2⟩,λy nW ⟨T,v1,v2,ey,hT,eh,SQ,SS⟩=>?_⟩;subst eh ey;let q1:=SQ ws e1;let q2:=SS zs e3;rw[f1] at q1;cases q1;rw[f2] at q2;cases q2;exact⟨bT hT,Ap S'.sub hT g1 g2⟩
 |[],h1,_=>exact h1.elim
 |[_],h1,_=>exact h1.elim
 |_::_::_::_,h1,_=>calc h1.elim⟩
end
end L2
namespace LJT
open PySem L2 LJ
variable[ay]
mutual
noncomputable def jA:D->Bool
 |.lst ds=>S (↑ds<=1000)&&hV ds
 |.tup ds=>S (↑ds<=1000)&&hV ds
 |_=>θ
noncomputable def hV:-D->Bool
 |[]=>θ
 |d::r=>jA d&&hV r
end
theorem f6:∀{ds:-D},hV ds=θ->∀d∈ds,jA d=θ
 |[],_,d,h=>nomatch h
 |a::r,hn,d,h=>by
  erw[hV,W9] at hn;rcases Mt.mp h with rfl|h
  .exact hn.1
  .calc f6 hn.2 d h
def aG(n:Nat):GD:=λys ovs K=>∃d,dep d<=n/\n<=50/\jA d=θ/\ys=[.p d,.p d]/\ovs=[]/\K (.p (.bl θ)) []
def ax(B7:GD):WS:=(ak (aW (dT (d2 (aa 1) (dC .non) j7)) (aF (d2 (aa 0) (dC .non) j7)) b4) (ak (aW (gL (dT (d1 (aa 1) (bj "bool"))) (dT (d1 (aa 0) (bj "bool")))) (aF (iz (d1 (aa 1) (bj "bool")) (iz (d1 (aa 0) (bj "bool")) (d2 (aa 0) (aa 1) oEq)))) b4) (ak (aW (dT (d1 (aa 1) (bj "int"))) (aF (iz (d1 (aa 0) (bj "int")) (d2 (aa 0) (aa 1) oEq))) b4) (ak (aW (dT (d1 (aa 1) (bj "str"))) (aF (iz (d1 (aa 0) (bj "str")) (d2 (aa 0) (aa 1) oEq))) b4) (ak (aW (gL (dT (d2 (d1 (aa 1) (bj "tuple")) (d1 (aa 0) (bj "tuple")) mf)) (dT (d2 (d1 (aa 1) (bj "list")) (d1 (aa 0) (bj "list")) mf))) (aF (dC (.bl ι))) b4) (ak (aW (dT (d2 (dN (ag (aa 0) af) bq) (dN (ag (aa 1) af) bq) mf)) (aF (dC (.bl ι))) b4) (aF (d2 (dC (.bl ι)) (iE (xx (ag (aa 0) (ag (aa 1) af))) [Z,Z] (kT 2 (gM (bJ 0) (gM (bJ 1) jX))) fq (aj 2 B7 (ag (aa 0) (ag (aa 1) af)))) (n_ θ)))))))))
def gG(g:Nat->GD):Nat->GD
 |0=>λ_ _ _=>False
 |n+1=>g n
theorem SU(g:GD){K':RV->-OV->Prop}(k:K' (.p (.bl θ)) []):ax g (gN 0 K') ⟨[U (.p .non),U (.p .non)],[]⟩:=by
 unfold ax;calc aJ λN hN=>?_;simp![bh,mE,mF,mG,mH,mI,av];calc b_ k
theorem SV(g:GD){K':RV->-OV->Prop}(b:Bool)(k:K' (.p (.bl θ)) []):ax g (gN 0 K') ⟨[U (.p (.bl b)),U (.p (.bl b))],[]⟩:=by
 unfold ax;calc aJ λN hN=>?_;simp![bh,k6,k9,k_,lg,lh,fH];subst hN;calc aJ λN hN=>?_;simp![bh,k6,k9,k_,lg,lh,fH];calc b_ k
theorem same_int(g:GD){K':RV->-OV->Prop}(b:Int)(k:K' (.p (.bl θ)) []):ax g (gN 0 K') ⟨[U (.p (.int b)),U (.p (.int b))],[]⟩:=by
 unfold ax;calc aJ λN hN=>?_;simp![bh,kh,ki,kj,km,kn,fH];subst hN;calc aJ λN hN=>?_;simp![bh,kh,ki,kj,km,kn,fH];subst hN;calc aJ λN hN=>?_;simp![bh,kh,ki,kj,km,kn,fH];calc b_ k
theorem same_str(g:GD){K':RV->-OV->Prop}(b:R)(k:K' (.p (.bl θ)) []):ax g (gN 0 K') ⟨[U (.p (.str b)),U (.p (.str b))],[]⟩:=by
 unfold ax;calc aJ λN hN=>?_;simp![bh,jr,ju,jw,jx,jy,fH];subst hN;calc aJ λN hN=>?_;simp![bh,jr,ju,jw,jx,jy,fH];subst hN;calc aJ λN hN=>?_;simp![bh,jr,ju,jw,jx,jy,fH];subst hN;calc aJ λN hN=>?_;simp![bh,jr,ju,jw,jx,jy,fH];calc b_ k
theorem SW{n:Nat}{K':RV->-OV->Prop}{ds:-D}(hd:dep (.lst ds)<=n)(hn:n<=50)(nd:jA (.lst ds)=θ)(k:K' (.p (.bl θ)) []):ax (gG aG n) (gN 0 K') ⟨[U (.p (.lst ds)),U (.p (.lst ds))],[]⟩:=by
 unfold ax;calc aJ λN hN=>?_;simp![bh,mE,mF,mG,mH,mI,k6,k9,k_,lg,lh,kh,ki,kj,km,kn,jr,ju,jw,jx,jy,mJ,mK,mL,mM,mO,mP,mQ,mR,mS,mT];subst hN;calc aJ λN hN=>?_;simp![bh,mE,mF,mG,mH,mI,k6,k9,k_,lg,lh,kh,ki,kj,km,kn,jr,ju,jw,jx,jy,mJ,mK,mL,mM,mO,mP,mQ,mR,mS,mT];subst hN;calc aJ λN hN=>?_;simp![bh,mE,mF,mG,mH,mI,k6,k9,k_,lg,lh,kh,ki,kj,km,kn,jr,ju,jw,jx,jy,mJ,mK,mL,mM,mO,mP,mQ,mR,mS,mT];subst hN;calc aJ λN hN=>?_;simp![bh,mE,mF,mG,mH,mI,k6,k9,k_,lg,lh,kh,ki,kj,km,kn,jr,ju,jw,jx,jy,mJ,mK,mL,mM,mO,mP,mQ,mR,mS,mT];subst hN;calc aJ λN hN=>?_;simp![bh,mP,mQ,mR,mS,mT]
 subst hN;erw[fH,XX,VQ,XY];calc aJ λN hN=>?_;simp![fH];subst hN;let⟨m,rfl⟩:∃m,n=m+1:=⟨n-1,by erw[dep] at hd;symm⟩;let B8:aV ds<=m:=by erw[dep] at hd;symm
 let B9:hV ds=θ:=by erw[jA,W9] at nd;exact nd.2
 let vm:↑ds<=1000:=by erw[jA,W9,YO] at nd;exact nd.1
 let zl:↑(bW ds ds)<=1000:=by rw[wt];symm
 simp![xx];refine L2.oa (λd=>.bl θ) zl trivial ?_ ?_
 .ext d sg acc L ha h
  let⟨a,rfl,ma⟩:=BG sg;simp!;calc⟨a,XH (BF ma) B8,⋯,f6 B9 a ma,Y,Y,?_⟩;simp!;exact⟨ha,h⟩
 .simp!
  let e1:((bW ds ds).map λ_=>D.bl θ).any (λe=>av e (.bl ι))=ι:=by
   rw[YZ];ext x hx;let⟨_,_,rfl⟩:=Xh.mp hx;simp[av]
  let e2:aV ((bW ds ds).map λ_=>D.bl θ)<=55:=BH _;calc⟨e2,by rw[e1];calc b_ k⟩
theorem kA{n:Nat}{K':RV->-OV->Prop}{ds:-D}(hd:dep (.tup ds)<=n)(hn:n<=50)(nd:jA (.tup ds)=θ)(k:K' (.p (.bl θ)) []):ax (gG aG n) (gN 0 K') ⟨[U (.p (.tup ds)),U (.p (.tup ds))],[]⟩:=by
 unfold ax;calc aJ λN hN=>?_;simp![bh,mE,mF,mG,mH,mI,k6,k9,k_,lg,lh,kh,ki,kj,km,kn,jr,ju,jw,jx,jy,mJ,mK,mL,mM,mO,mP,mQ,mR,mS,mT];subst hN;calc aJ λN hN=>?_;simp![bh,mE,mF,mG,mH,mI,k6,k9,k_,lg,lh,kh,ki,kj,km,kn,jr,ju,jw,jx,jy,mJ,mK,mL,mM,mO,mP,mQ,mR,mS,mT];subst hN;calc aJ λN hN=>?_;simp![bh,mE,mF,mG,mH,mI,k6,k9,k_,lg,lh,kh,ki,kj,km,kn,jr,ju,jw,jx,jy,mJ,mK,mL,mM,mO,mP,mQ,mR,mS,mT];subst hN;calc aJ λN hN=>?_;simp![bh,mE,mF,mG,mH,mI,k6,k9,k_,lg,lh,kh,ki,kj,km,kn,jr,ju,jw,jx,jy,mJ,mK,mL,mM,mO,mP,mQ,mR,mS,mT];subst hN;calc aJ λN hN=>?_;simp![bh,mJ,mK,mL,mM,mO]
 subst hN;erw[fH,XX,VQ,XY];calc aJ λN hN=>?_;simp![fH];subst hN;let⟨m,rfl⟩:∃m,n=m+1:=⟨n-1,by erw[dep] at hd;symm⟩;let B8:aV ds<=m:=by erw[dep] at hd;symm
 let B9:hV ds=θ:=by erw[jA,W9] at nd;exact nd.2
 let vm:↑ds<=1000:=by erw[jA,W9,YO] at nd;exact nd.1
 let zl:↑(bW ds ds)<=1000:=by rw[wt];symm
 simp![xx];refine L2.oa (λd=>.bl θ) zl trivial ?_ ?_
 .ext d sg acc L ha h
  let⟨a,rfl,ma⟩:=BG sg;simp!;calc⟨a,XH (BF ma) B8,⋯,f6 B9 a ma,Y,Y,?_⟩;simp!;exact⟨ha,h⟩
 .simp!
  let e1:((bW ds ds).map λ_=>D.bl θ).any (λe=>av e (.bl ι))=ι:=by
   rw[YZ];ext x hx;let⟨_,_,rfl⟩:=Xh.mp hx;simp[av]
  let e2:aV ((bW ds ds).map λ_=>D.bl θ)<=55:=BH _;calc⟨e2,by rw[e1];calc b_ k⟩
theorem eT(n:Nat):Sem 2 0 (aG n) (ax (gG aG n)):=by
 ext ys ovs K'-⟨d,hd,hn,nd,rfl,rfl,k⟩
 .cases d with
  |tup ds=>exact kA hd hn nd k
  |non=>exact SU _ k
  |bl b=>exact SV _ b k
  |int b=>exact same_int _ b k
  |str b=>exact same_str _ b k
  |lst ds=>calc SW hd hn nd k
end LJT
namespace LJ
open PySem L2
variable[ay]
theorem SX{ds:-D}{t:Nat}(h:t<=↑ds):cutD ds (U (t:Int)) Z=ds.drop t:=by
 unfold cutD;rw[HT.nJ ↑ds 0 t,HT.yN,q3Y h,XD (by rw[XO];symm)]
theorem Ip{ds:-D}{t:Nat}(h:t<=↑ds):cutD ds Z (U (t:Int))=ds.take t:=by
 unfold cutD;rw[HT.yN,HT.nJ ↑ds ↑ds t,q3Y h,q0j,q1A]
end LJ
namespace L2
open PySem PySem.Spec PyProof.Rows PySem.W
section
variable{X:Cx}
end
variable[ay]{X:Cx}
end L2
namespace L2
open PySem PySem.Spec PyProof.Rows
mutual
noncomputable def kB:D->PyData
 |.non=>.none
 |.bl b=>.bool b
 |.int i=>.int i
 |.str x=>.str x
 |.tup ds=>.tuple (bQ ds)
 |.lst ds=>.list (bQ ds)
noncomputable def bQ:-D->-PyData
 |[]=>[]
 |d::r=>kB d::bQ r
end
noncomputable def rep(d:D):R:=(kB d).shown
def xy(d:D):Prop:=(kB d).showable=θ/\(kB d).depth<=8/\↑(rep d)<=sizeLine
def qk:-D->(D->Prop)->Prop
 |[d],K=>xy d/\K (.str (rep d))
 |_,_=>False
mutual
theorem B_:∀d:D,(kB d).hasDict=ι
 |.non=>Y
 |.bl _=>Y
 |.int _=>Y
 |.str _=>Y
 |.tup ds=>by erw[kB,q4l];exact Ca ds
 |.lst ds=>by erw[kB,q4l];calc Ca ds
theorem Ca:∀ds:-D,q3l (bQ ds)=ι
 |[]=>Y
 |d::r=>by erw[bQ,q3l,B_ d,Ca r];rfl
end
variable[ay]{X:Cx}{pins:aq}{σ:St}{F H:Hp}{s:L}
mutual
theorem Iq (I:Inv X pins σ H s) (sub:ar F H):∀{d:D}{v:V}{u:J},Is F d v->RelV v u->∃as,Reads s.heap u (kB d) as
 |.non,_,_,h,r=>by cases(show _=V.non from h);cases r;exact⟨_,.none⟩
 |.bl b,_,_,h,r=>by cases(show _=V.bl b from h);cases r;exact⟨_,.bool b⟩
 |.int i,_,_,h,r=>by cases(show _=V.int i from h);let⟨t,rfl⟩:=r;exact⟨_,.int i t⟩
 |.str x,_,_,h,r=>by cases(show _=V.str x from h);let⟨t,rfl⟩:=r;exact⟨_,.str x t⟩
 |.tup ds,_,_,h,r=>by
  erw[Is] at h;let⟨a,vs,rfl,h1,h2⟩:=h;cases r
  let⟨_,ah,q,o,e1,e2,n,e3⟩:=(show aD X.prog X.w H s.heap a (.tup vs) from I.aH a _ (sub _ _ h1));let⟨as,ra⟩:=Cb I sub h2 q;exact⟨as,.tuple e1 e2 e3 ra⁻¹⟩
 |.lst ds,_,_,h,r=>by
  erw[Is] at h;let⟨a,vs,rfl,h1,h2⟩:=h;cases r
  let⟨_,ah,n,q,e1⟩:=(show aD X.prog X.w H s.heap a (.lst vs) from I.aH a _ (sub _ _ h1));let⟨as,ra⟩:=Cb I sub h2 q;calc⟨_,.list e1 Y Y ra⁻¹⟩
theorem Cb (I:Inv X pins σ H s) (sub:ar F H):∀{ds:-D}{vs:-V}{us:-J},ae F ds vs->Vals vs us->∃as,ReadsAll s.heap us (bQ ds) as
 |[],_,_,h,r=>by erw[ae] at h;subst h;cases r;exact⟨_,.nil⟩
 |d::ds,_,_,h,r=>by
  erw[ae] at h;let⟨v,t,rfl,h1,h2⟩:=h
  cases r with
  |cons r1 r2 =>
   let⟨as,a1⟩:=Iq I sub h1 r1;let⟨bs,b1⟩:=Cb I sub h2 r2;calc⟨_,.cons a1 b1⟩
end
theorem SY(hg:X.A.guards=U [])(hu:X.A.units+64<cLine):cO X (.builtin "repr") qk:=by
 ext pins s σ H xs us Q I r ⟨F,ds,K,sub,rd,q,md⟩;unfold qk at q;split at q
 .rename_i d
  let⟨⟨h1,h2,h3⟩,q⟩:=q;let⟨v,rfl,hv⟩:=cw rd;let⟨u,rfl,rx⟩:=vals1 r;let hv:=fU.is sub hv;let⟨as,ra⟩:=Iq I (λ_ _ e=>e) hv rx;let fin:∀t (s':L),Inv X pins σ H s'->∃v' H',Inv X pins σ H' s'/\RelV v' (.str (rep d) t)/\Q v' H':=λt s' J=>⟨.str (rep d),H,J,⟨_,Y⟩,md _ _ _ q (λ_ _ e=>e) Y⟩;unfold rep at h3
  cases d with
  |non=>cases(show v=V.non from hv);cases rx;exact PySem.P.repr_of_none (fin _ _ (I.tok _))
  |bl b=>cases(show v=V.bl b from hv);cases rx;exact PySem.P.repr_of_bool (fin _ _ (I.tok _))
  |int i=>cases(show v=V.int i from hv);let⟨t,rfl⟩:=rx;exact PySem.P.repr_of_int (by simpa[kB,PyData.showable] using h1) (fin _ _ (I.tok _))
  |str x=>cases(show v=V.str x from hv);let⟨t,rfl⟩:=rx;exact PySem.P.repr_of_str (hsz:=h3) (fin _ _ (I.tok _))
  |tup ds =>
   erw[Is] at hv;let⟨a,vs,rfl,_,_⟩:=hv;cases rx
   exact q4m (hsz:=h3) ra h1 (λz=>by rw[B_] at z;cases z) hg ⋯ (λ_ _ e=>e) λh' u tk k=>fin _ _ (I.kept k)
  |lst ds =>
   erw[Is] at hv;let⟨a,vs,rfl,_,_⟩:=hv;cases rx
   exact q4m (hsz:=h3) ra h1 (λz=>by rw[B_] at z;cases z) hg ⋯ (λ_ _ e=>e) λh' u tk k=>fin _ _ (I.kept k)
 .calc q.elim
end L2
namespace LJ
open PySem L2
theorem S7:bootBuiltins "repr" = U (.builtin "repr"):=by decide +kernel
def Rp(d:D):Prop:=(kB d).showable=θ/\(kB d).depth<=5/\↑(rep d)<=100
theorem xA{i:Int}(h:i.natAbs<10 ^ 30):Rp (.int i):=by
 refine⟨?_,Xq _,?_⟩
 .show S (i.natAbs.log2<1920)=θ
  refine VS ?_
  by_cases z:i.natAbs=0
  .rw[z];decide
  .exact (Nat.log2_lt z).mpr (Xk h (by decide))
 .show ↑(XW (toString i))<=100
  rw[ofString_length];let:=int_text_length_le10 (k:=30) (by decide) h;symm
theorem Cc:∀ds:-D,↑(bQ ds)=↑ds
 |[]=>Y
 |_::r=>by erw[bQ,EA,Cc r]
theorem Cd:∀{ds:-D},(∀d∈ds,Rp d)->q2U (bQ ds)=θ
 |[],_=>Y
 |d::r,h=>by
  erw[bQ,q2U,W9];calc⟨(h d Mv).1,Cd λe he=>h e (Mu _ he)⟩
theorem Ce:∀{ds:-D},(∀d∈ds,Rp d)->q0Q (bQ ds)<=5
 |[],_=>Xq _
 |d::r,h=>by
  erw[bQ,q0Q];let:=(h d Mv).2.1;let:=Ce λe he=>h e (Mu _ he);symm
theorem Cf:∀{ds:-D},(∀d∈ds,Rp d)->∀t∈YS (bQ ds),↑t<=100
 |[],_,t,ht=>by simp[bQ,YS] at ht
 |d::r,h,t,ht=>by
  erw[bQ,YS] at ht;rcases Mt.mp ht with rfl|ht
  .exact (h d Mv).2.2
  .calc Cf (λe he=>h e (Mu _ he)) t ht
theorem Cg:∀ds:-PyData,↑(YS ds)=↑ds
 |[]=>Y
 |_::r=>by erw[YS,EA,Cg r]
theorem Ir:∀(ts:-R)(k:Nat)(acc:R),(∀t∈ts,↑t<=100)->↑(textFrom k acc ts)<=↑acc+102*↑ts
 |[],k,acc,_=>by show ↑acc<=_;symm
 |t::r,k,acc,h=>by
  let ih:=Ir r (k+1) (acc++(if k>0 then ", " else "" : String)++t) λe he=>h e (Mu _ he);let h1:=h t Mv
  let e:↑(acc++(if k>0 then ", " else "" : String)++t)<=↑acc+2+↑t:=by
   rw[ZM,ZM];split
   .let:↑(XW ", ")=2:=by decide +kernel
    symm
   .let:↑(XW "")=0:=by decide +kernel
    symm
  show↑(textFrom (k+1) _ r)<=_;rw[EA];symm
theorem Iu:∀ts:-R,(∀t∈ts,↑t<=100)->piled ts<=102*↑ts
 |[],_=>Xq _
 |t::r,h=>by
  let ih:=Iu r λe he=>h e (Mu _ he);let h1:=h t Mv;let e:piled (t::r)=↑t+2+piled r:=by simp[piled]
  rw[e,EA];symm
theorem S8{ds:-D}(h:∀d∈ds,Rp d)(hl:↑ds<=300):xy (.lst ds):=by
 let e1:=Cd h;let e2:=Ce h;calc⟨e1,by show q0Q (bQ ds)+1<=8;symm,?_⟩;show↑(listText (YS (bQ ds)))<=2 ^ 24;unfold listText;rw[ZM]
 let:=Ir _ 0 "[" (Cf h)
 let a1:↑(XW "[")=1:=by decide +kernel
 let a2:↑(XW "]")=1:=by decide +kernel
 rw[Cg,Cc] at this;symm
theorem Iv{ds:-D}(h:∀d∈ds,Rp d)(hl:↑ds<=300):xy (.tup ds):=by
 let e1:=Cd h;let e2:=Ce h;calc⟨e1,by show q0Q (bQ ds)+1<=8;symm,?_⟩;show↑(tupleText (YS (bQ ds)))<=2 ^ 24;let el:↑(YS (bQ ds))=↑ds:=by rw[Cg,Cc]
 let hp:=Iu _ (Cf h);generalize YS (bQ ds)=ts at el hp;unfold tupleText;rw[ZM,ZM]
 let a1:↑(XW "(")=1:=by decide +kernel
 let a2:↑(XW (if ↑ts==1 then ",)" else ")"))<=2:=by split<;>decide +kernel
 let a3:↑(Str.join ", " ts)<=102*↑ts:=by
  cases ts with
  |nil=>decide +kernel
  |cons t r=>let:=join_length_add (t::r) (by simp);symm
 let e:↑((if ↑ts==1 then ",)" else ")" : String):R)=↑(XW (if ↑ts==1 then ",)" else ")")):=Y
 symm
theorem Ci{m:Int}{ws:-(Int×Int×Int)}(h:fT m ws):bP (aK m ws)=θ:=by
 show(cZ (.int m) 1 12&&kZ m (.tup (ws.map bX)))=θ
 let h1:cZ (.int m) 1 12=θ:=by
  show(S (1<=m)&&S (m<=12))=θ;rw[VS h.m1,VS h.qP];rfl
 rw[h1,Z7];show(S (↑(ws.map bX)<=30)&&((ws.map bX).all (br m)&&S (((ws.map bX).map pairOf).Nodup)))=θ
 let h2:(ws.map bX).all (br m)=θ:=by
  calc XN.mpr λd hd=>?_;let⟨y,hy,rfl⟩:=Xh.mp hd;let⟨a,b,c,d,e⟩:=h.ends y hy;show(((S (0<=y.1)&&S (y.1<=m-1))&&(S (y.1+1<=y.2.1)&&S (y.2.1<=m-1)))&&(S (0<=y.2.2)&&S (y.2.2<=1000000000)))=θ;rw[VS a,VS (by symm:y.1<=m-1),VS (by symm:y.1+1<=y.2.1),VS (by symm:y.2.1<=m-1),VS d,VS e];rfl
 let h3:(ws.map bX).map pairOf=ws.map λy=>(y.1,y.2.1):=by rw[XE];rfl
 rw[h2,h3,VS h.unlike,qJ,VS h.jV];rfl
end LJ
namespace LJ
open PySem L2 PySem.Spec PySem.W PyProof.Rows
variable[ay]
section
variable{X:Cx}{fe e:B}{es:-B}{tf:TE}{t:TA}{pos:y}{E:XK}
theorem S9{T:O->Sp->Prop}(hf:JE X fe tf)(FS:∀f sp,T f sp->∃CX k fd ps,bt X.prog X.w X.K X.mg X.base CX k f fd ps sp/\aZ k X.A/\XZ X.K (.ref f)=θ/\Binds X.K fd ps []/\jL CX X E)(ha:JA X (e::es) t)
  (he:cj X e es:=by rfl) (bV:cR X pos es:=by rfl)
  (ht:eval (.Call fe (e::es) [] pos) X.env=(do
   let f <- eval fe X.env
   callWith pos f [] (backTo pos (starEach (e::es) X.env)) (backToKw pos (keywordEach [] X.env))):=by rfl) :
  JE X (.Call fe (e::es) [] pos) (fun σ H Q=>tf σ H λv H1=>∃f sp,v=.ref f/\T f sp/\nB sp [] E t σ H1 Q):=by
 calc⟨?_⟩;ext pins s σ H Q I h;rw[ht];calc lK (aS (hf pins s σ H _ I h) λfv s1 ⟨v,H1,I1,r,f,sp,ev,S_,q⟩=>?_);subst ev;cases r
 let⟨CX,k,fd,ps,F,hr,hk,hb,hx⟩:=FS f sp S_;calc q0b (h₀:=X.base) I1.ok.mod.jC hk (aS (ha pos pins s1 σ H1 _ I1 q) λus s2 h0_=>el5 h0_ λvs H2 I2 r2 q2 =>⟨I2.cB,?_⟩) he bV;calc D9 F hr hb .nil hx I2 r2 q2
end
def Cj(ai n:Nat)(G0 g1 G1 G2:GD)(fa:WA):WE:=fun δ K=>∃i:Nat,δ.sl[ai]?=U (U (.p (.int (i:Int))))/\((i=0/\aj n G0 fa δ K)\/(i=1/\aj n g1 fa δ K)\/(i=1/\aj n G1 fa δ K)\/(i=2/\aj n G2 fa δ K))
section
variable{X:Cx}{Cs:-O}{E:XK}{H:Hp}{x0 x1 x2:R}{Ta Tb Cm Tc:-R}{G0 G1 G2:eO->GD}{g1:GD}{j0 j1 Iw j2 k n ai:Nat}{ie e:B}{es:-B}{fa:WA}{p0 p1 p2 pl pb pc pos:y}
theorem Td[bu](Y0:Fy ⟨X.prog,X.w,X.K,X.mg,X.base⟩ Cs j0 x0 Ta n G0)(N1:Fx ⟨X.prog,X.w,X.K,X.mg,X.base⟩ j1 x1 Tb n g1)(Y1:Fy ⟨X.prog,X.w,X.K,X.mg,X.base⟩ Cs Iw x1 Cm n G1)(Y2:Fy ⟨X.prog,X.w,X.K,X.mg,X.base⟩ Cs j2 x2 Tc n G2)
  (R:eQ Cs E H) (hp:jL (bU X.prog X.w) X E) (hr:aZ k X.A) (hi:JE X ie (b6 ai)) (ha:JA X (e::es) (bH fa)) (Te:q1J j0 k=θ:=by rfl) (Tf:q1J j1 k=θ:=by rfl) (Co:q1J Iw k=θ:=by rfl) (Tg:q1J j2 k=θ:=by rfl)
  (Th:Gl X x0:=by rfl) (Ti:Gl X x1:=by rfl) (Tj:Gl X x2:=by rfl) (lN:bf x0:=by decide) (A_:bf x1:=by decide) (hd2:bf x2:=by decide)
  (hs:cj X e es:=by rfl) (bV:cR X pc es:=by rfl) (Tn:yS ie:=by calcλ_ _=>Y)
  (hw:swapsWith (.Call (.Subscript (.List [.Name x0 p0,.Name x1 p1,.Name x2 p2] pl) ie pb) (e::es) [] pc) Z pos.line X.env=pure ι:=by rfl) :
  JS X (.Expr (.Call (.Subscript (.List [.Name x0 p0,.Name x1 p1,.Name x2 p2] pl) ie pb) (e::es) [] pc) pos) (b8 (iA (Cj ai n (G0 bu.ok) g1 (G1 bu.ok) (G2 bu.ok) fa))):=by
 let⟨f0,Wt,F0,m0,k0,b0⟩:=Y0.ex;let⟨f1,Wu,F1⟩:=N1.ex;let⟨To,Tp,Tq,Iy,Tr,Ts⟩:=Y1.ex;let⟨f2,Wv,F2,m2,k2,b2⟩:=Y2.ex;obtain rfl:f1=To:=by let:=F1.pC;rw[Iy] at this;cases this;rfl
 let je:JE X (.Subscript (.List [.Name x0 p0,.Name x1 p1,.Name x2 p2] pl) ie pb) (qD (sY X.K) (oV (eB (tC (.ref f0)) (eB (tC (.ref f1)) (eB (tC (.ref f2)) dU)))) (b6 ai)) :=
  sX sZ (jK (gn (qA Th m0 Y lN) (gn (qA Ti Iy Y A_) (gn (qA Tj m2 Y hd2) aE)))) hi Tn
 letI T:O->Sp->Prop:=λf sp=>(f=f0/\sp=uZ Cs G0 n)\/(f=f1/\sp=jZ g1 n)\/(f=f1/\sp=uZ Cs G1 n)\/(f=f2/\sp=uZ Cs G2 n)
 let FS:∀f sp,T f sp->∃CX k fd ps,bt X.prog X.w X.K X.mg X.base CX k f fd ps sp/\aZ k X.A/\XZ X.K (.ref f)=θ/\Binds X.K fd ps []/\jL CX X E:=by
  rintro f sp (⟨rfl,rfl⟩|⟨rfl,rfl⟩|⟨rfl,rfl⟩|⟨rfl,rfl⟩)
  .exact⟨_,_,_,_,F0,hr.mono (Yh Te),k0,b0,hp⟩
  .exact⟨_,_,_,_,F1.ok,hr.mono (Yh Tf),F1.kp,F1.bd,pk⟩
  .exact⟨_,_,_,_,Tq,hr.mono (Yh Co),Tr,Ts,hp⟩
  .exact⟨_,_,_,_,F2,hr.mono (Yh Tg),k2,b2,hp⟩
 calc(vH (S9 (T:=T) je FS ha hs bV) hw).weak λD σ H1 ⟨F,ad,δ,K1,S,q,k⟩=>?_;let⟨i,es,q⟩:=q;let⟨v,ev,vi⟩:=S.sl ai _ es;cases(show v=V.int i from vi)
 calc⟨by show 3<=sizeLine;decide,λp hp=>⟨.int i,ev,p,[.ref f0,.ref f1,.ref f2],i,?_⟩⟩;let sm:=bT (o:=.lst [V.ref f0,V.ref f1,V.ref f2]) hp;let S':=S.al sm;let E':=Ext.al S sm;let Cp:=bu.st E' k.kp;let cont:∀x δ1,K1.nx δ1->∀(v:V) F1 aI H2,Ext (Nw F H1 (upd H1 p (.lst [V.ref f0,V.ref f1,V.ref f2]))) ad δ.mu (upd H1 p (.lst [V.ref f0,V.ref f1,V.ref f2])) F1 aI δ1.mu H2->SR F1 aI δ1 σ H2->df F1 aI x v->D.nx σ H2:=λx δ1 h1 v F1 aI H2 E1 S1 _=>k.nx _ h1 _ _ _ _ (E'.trans E1) S1;rcases q with⟨rfl,q⟩|⟨rfl,q⟩|⟨rfl,q⟩|⟨rfl,q⟩
 .exact⟨.ref f0,Y,Y,aX.of aY,Y,f0,_,Y,.inl ⟨Y,Y⟩,w6 R S' q Cp cont⟩
 .exact⟨.ref f1,Y,Y,aX.of aY,Y,f1,_,Y,.inr (.inl ⟨Y,Y⟩),Gf _ _ _ ⟨_,ad,δ,_,S',q,cont⟩⟩
 .exact⟨.ref f1,Y,Y,aX.of aY,Y,f1,_,Y,.inr (.inr (.inl ⟨Y,Y⟩)),w6 R S' q Cp cont⟩
 .calc⟨.ref f2,Y,Y,aX.of aY,Y,f2,_,Y,.inr (.inr (.inr ⟨Y,Y⟩)),w6 R S' q Cp cont⟩
end
end LJ
namespace LJ
open PySem L2
variable[ay]
noncomputable def vo:D->-Wy
 |.tup [_,.tup us]=>us.map kr
 |_=>[]
theorem Cq(m:Int)(ws:-Wy):vo (aK m ws)=ws:=by
 show(ws.map bX).map kr=ws;rw[XE]
 conv=>rhs;rw[<-q3J ws]
 calc X8 λy _=>Y
noncomputable def eU(dw d:D):D:=if bP dw=θ then match gF ↑(vo dw) d with
 |some p=>.lst [.str "way",.int p]
 |none=>.non
 else .lst [.str "web"]
theorem Iz{dw d:D}(h:bP dw=ι):eU dw d=.lst [.str "web"]:=by unfold eU;rw[h];rfl
theorem Cr{m:Int}{ws:-Wy}(W:fT m ws){d:D}:eU (aK m ws) d=match gF ↑ws d with
 |some p=>.lst [.str "way",.int p]
 |none=>.non:=by
 unfold eU;rw[Ci W,Cq];rfl
def xB(ok:eO):GD:=λys ovs K=>∃(dw d:D),ys=[.p dw,.p d]/\ovs=[]/\(bP dw=ι->ok 4 0)/\∀(m:Int)(ws:-Wy),dw=aK m ws->fT m ws->(∀ds,d=.lst ds->↑ds<=900)/\(∀p,gF ↑ws d=U p->ok 0 p)/\(gF ↑ws d=Z->∀r,K (.p r) [])
theorem Tt:∀ok ys ovs K,xB ok ys ovs K->ovs=[]:=λok ys ovs K ⟨_,_,_,h,_⟩↦h
def Cu(ok:eO):WS:=(ak (iA (aj 2 (rL ok) (ag (aa 0) (ag (aa 1) af)))) (aF (dN (ag (iE (dA (aa 1)) [Z,U 0] (bJ 0) fq (d2 (d2 (d2 (aa 1) (dC (.int 1)) a_) (aa 0) a_) (dC (.int 2)) a_)) af) mi)))
theorem Tu(ok:eO):Sem 2 0 (xB ok) (Cu ok):=by
 ext ys ovs K'-⟨dw,d,rfl,rfl,k0,kk⟩;unfold Cu;calc aJ λN hN=>?_;simp!;calc⟨dw,d,Y,Y,k0,λm ws ew W=>?_⟩;let⟨dl,kb,kg⟩:=kk m ws ew W;calc⟨dl,kb,λhb=>?_⟩;let⟨ns,rfl,nd,hn⟩:=Ii hb;let k:=kg hb;subst ew;let hl:=dl _ Y;rw[qJ] at hl;show N _;subst hN;unfold dO;simp!
 refine oa (λd=>match d with
  |.int n=>.int (ws.getD n.toNat (0,0,0)).2.2
  |_=>.non) (by rw[qJ];symm) trivial ?_ ?_
 .ext d hd acc L ha h
  let⟨n,gQ,rfl⟩:=Xh.mp hd;let⟨n0,n1⟩:=hn n gQ;let⟨y,ey,hy,ea,_⟩:=BK W n0 n1;simp![fD,at2,aK,ea,bX];erw[ey] at h;exact⟨ha,h⟩
 .let e:intsOf ((ns.map D.int).map λd=>match d with
   |.int n=>D.int (ws.getD n.toNat (0,0,0)).2.2
   |_=>.non)=U (ns.map λn=>(ws.getD n.toNat (0,0,0)).2.2):=by
   rw[XE];let:=Gm (ns.map λn=>(ws.getD n.toNat (0,0,0)).2.2);rw[XE] at this;exact this
  simp![mi,e];calc⟨⟨λx hx=>?_,⋯⟩,cM (k _)⟩;let⟨n,gQ,rfl⟩:=Xh.mp hx;let⟨n0,n1⟩:=hn n gQ;let⟨y,ey,hy,_⟩:=BK W n0 n1;rw[ey];calc⟨(W.ends y hy).2.2.2.1,(W.ends y hy).2.2.2.2⟩
def xC(ok:eO):GD:=λys ovs K=>∃(dw d:D),ys=[.p dw,.p d]/\ovs=[]/\(bP dw=ι->ok 4 0)/\∀(m:Int)(ws:-Wy),dw=aK m ws->fT m ws->(∀ds,d=.lst ds->↑ds<=900)/\∃p,gF ↑ws d=U p/\ok 0 p
theorem Tv:∀ok ys ovs K,xC ok ys ovs K->ovs=[]:=λok ys ovs K ⟨_,_,_,h,_⟩↦h
def Cv(ok:eO):WS:=(ak (iA (aj 2 (rL ok) (ag (aa 0) (ag (aa 1) af)))) pJ)
theorem Tw(ok:eO):Sem 2 3 (xC ok) (Cv ok):=by
 ext ys ovs K'-⟨dw,d,rfl,rfl,k0,kk⟩;unfold Cv;simp!;calc⟨dw,d,Y,Y,k0,λm ws ew W=>?_⟩;let⟨dl,p,hb,o⟩:=kk m ws ew W;refine⟨dl,λq hq=>?_,λz=>?_⟩
 .rw[hb] at hq;cases hq;exact o
 .rw[hb] at z;cases z
def Cw:GD:=λys ovs K=>∃(i:Nat)(dw d:D),i<3/\(∀ds,d=.lst ds->↑ds<=900)/\ys=[.p (.int i),.p dw,.p d]/\ovs=[]/\K (.p (eU dw d)) []
def Cy:WS:=(ak (aB 3 (dC .non)) (HB 3 4 (λok=>(iA (Cj 0 2 (rL ok) Ia (xC ok) (xB ok) (ag (aa 1) (ag (aa 2) af))))) (dC .non) ι))
theorem Tx:Sem 3 2 Cw Cy:=by
 ext ys ovs K'-⟨i,dw,d,hi,dl,rfl,rfl,k⟩;unfold Cy;calc aJ λN hN=>?_;simp!;subst hN;calc⟨⟨Y,(show 3<5 by decide),(show 4<5 by decide)⟩,?_⟩;simp![Cj];refine⟨i,Y,?_⟩
 let xD:bP dw=ι->d8 0 K' (.p (.lst [.str "web"])) ⟨[],[]⟩:=λhw=>by
  rw[Iz hw] at k;exact cM k
 let way:∀m ws,dw=aK m ws->fT m ws->∀p,gF ↑ws d=U p->d8 0 K' (.p (.lst [.str "way",.int p])) ⟨[],[]⟩:=λm ws ew W p hp=>by
  subst ew;rw[Cr W,hp] at k;exact cM k
 let good:∀m ws,dw=aK m ws->fT m ws->gF ↑ws d=Z->K' (.p .non) []:=λm ws ew W hp=>by
  subst ew;rw[Cr W,hp] at k;exact k
 match i,hi with
 |0,_ =>
  calc .inl ⟨Y,dw,d,Y,Y,xD,λm ws ew W=>⟨dl,way m ws ew W,λhp=>?_⟩⟩;simp!;exact cM (good m ws ew W hp)
 |1,_ =>
  cases qw:bP dw with
  |false=>exact .inr (.inr (.inl ⟨Y,dw,d,Y,Y,xD,λm ws ew W=>by rw[ew,Ci W] at qw;cases qw⟩))
  |true =>
   let⟨m,ws,ew,W⟩:=BZ qw
   cases q:gF ↑ws d with
   |some p =>
    calc .inr (.inr (.inl ⟨Y,dw,d,Y,Y,xD,λm' Tz TB W'=>⟨dl,?_⟩⟩));let e:Tz=ws:=by let:=Cq m ws;rw[<-ew,TB,Cq] at this;exact this
    subst e;exact⟨p,q,way m _ ew W p q⟩
   |none =>
    let⟨us,rfl,nd,hu⟩:=Ii q;let ul:=dl _ Y;rw[qJ] at ul;subst ew;calc .inr (.inl ⟨Y,m,ws,us,W,hu,nd,ul,Y,Y,?_⟩);simp!;exact cM (good m ws Y W q)
 |2,_ =>
  calc .inr (.inr (.inr ⟨Y,dw,d,Y,Y,xD,λm ws ew W=>⟨dl,way m ws ew W,λhp r=>?_⟩⟩));simp!;calc cM (good m ws ew W hp)
def Cz:GD:=λys ovs K=>∃(dw d:D),(∀ds,d=.lst ds->↑ds<=900)/\ys=[.p dw,.p d]/\ovs=[]/\K (.p (eU dw d)) []
def CA:WS:=(ak (aW (bz (dT (aj 1 BC (ag (aa 0) af)))) (aF (bp (ag (dC (.str "web")) af))) b4) (ak (aW (bz (dT (d1 (aa 1) (bj "list")))) (aF (bp (ag (dC (.str "way")) (ag (dC (.int 0)) af)))) b4) (ak (cF (iX (ag (aa 1) af)) (kT 2 (gM (bJ 2) (gM (bJ 3) jX))) (aW (gL (bz (dT (aj 3 qe (ag (aa 3) (ag (dC (.int 0)) (ag (d2 (dN (ag (d2 (aa 0) (dC (.int 1)) a_) af) bq) (dC (.int 1)) (oI λi j=>.int (i-j))) af)))))) (dT (d2 (aa 3) (cL (aa 1) cK (gP (aa 2))) (n_ ι)))) (aF (bp (ag (dC (.str "way")) (ag (aa 2) af)))) b4)) (aF (dC .non)))))
theorem TC:Sem 2 2 Cz CA:=by
 ext ys ovs K'-⟨dw,d,dl,rfl,rfl,k⟩;unfold CA;calc aJ λN hN=>?_;calc kY λA1 B1 hA hB=>?_;simp!;calc⟨dw,Y,Y,?_⟩;simp!
 cases qw:bP dw with
 |false =>
  rw[Iz qw] at k;simp!;subst hA;simp!;exact cM k
 |true =>
 let⟨m,ws,rfl,W⟩:=BZ qw;rw[Cr W] at k;simp!;subst hB;show N _;subst hN;calc aJ λN hN=>?_;refine kY λA1 B1 hA hB=>?_
 let no:(∀ds,d≠.lst ds)->A1 ⟨[U (.p (aK m ws)),U (.p d),Z,Z],[]⟩:=λh=>by
  let:gF ↑ws d=U 0:=by
   cases d with
   |lst ds=>exact absurd Y (h ds)
   |_=>rfl
  rw[this] at k;subst hA;simp!;exact cM k
 cases d with
 |lst ds =>
  simp![bh,aA,q1G];subst hB;show N _;subst hN;let dl:=dl ds Y;let el:↑(jm 0 ds)=↑ds:=by rw[qZ]
  calc aJ λN hN=>?_;calc ot λg' b' K2 hg hb' hK=>?_;simp!;subst hg hb' hK;refine jn (λi δ=>∃ns:-Int,ds.take i=ns.map D.int/\gF ↑ws (.lst ds)=oC ↑ws ns i (ds.drop i)/\δ=⟨[U (.p (aK m ws)),U (.p (.lst ds)),Z,Z],[]⟩) ⟨[],Y,Y,Y⟩ ?_ ?_
  .ext i d δ L hi ⟨ns,en,eb,rfl⟩ hL
   let⟨e,h1,h2⟩:=q_ hi;rw[XU] at h2;subst h2;let⟨il,ei⟩:=ph.mp h1;rw[XJ il,ei] at eb;unfold oC at eb;calc⟨trivial,?_⟩;erw[kT,gM,jX,bJ,gc,gN,EA,Ye,Xl,Y5,XR,XT,XU,q2E,and_self,true_and,Zt,YE];refine kY λA1 B1 hA hB=>?_
   let bad:gF ↑ws (.lst ds)=U (i:Int)->A1 ⟨[U (.p (aK m ws)),U (.p (.lst ds)),U (.p (.int (i:Nat))),U (.p e)],[]⟩:=λh=>by
    rw[h] at k;subst hA;simp!;exact cM k
   simp![aK,fD] at bad ⊢;refine⟨e,0,↑ws-1,Y,Y,?_⟩
   cases q:cZ e 0 ((↑ws:Int)-1) with
   |false =>
    rw[Xa (.inl q)] at eb;simp!;exact bad eb
   |true =>
    let⟨ee,e0,e1⟩:=within_int q;let et:ds.take (i+1)=ds.take i++[e]:=by rw[Zb,h1];rfl
    rw[en] at et;rw[ee] at bad et ⊢;generalize intOf e=x at ee e0 e1 eb bad et;let d0:=Ig ns;simp!;rw[Ip ⋯,en];calc⟨⋯,?_⟩;rw[Sd]
    by_cases c:x∈ns
    .rw[Xa (.inr c)] at eb
     rw[VS c];simp!;exact bad eb
    .rw[VR (λz=>z.elim (λz=>by rw[q] at z;cases z) c)] at eb
     rw[W_ c];simp!;subst hB;refine hL _ ⟨ns++[x],by rw[et,Xo];rfl,eb,Y⟩
  .ext δ ⟨ns,en,eb,rfl⟩
   rw[el,q3x] at eb;rw[eb] at k;calc⟨trivial,?_⟩;subst hN;simp!;exact cM k
 |_=>simp![bh,aA];calc no λds z=>nomatch z
abbrev B7:=LJT.aG 1
theorem TF(dw d:D):dep (eU dw d)<=1/\LJT.jA (eU dw d)=θ:=by
 let z:∀(x:R),dep (.lst [.str x])<=1/\LJT.jA (.lst [.str x])=θ:=λx=>⟨by simp[dep,aV],Y⟩;let y:∀(x:R)(i:Int),dep (.lst [.str x,.int i])<=1/\LJT.jA (.lst [.str x,.int i])=θ:=λx i=>⟨by simp[dep,aV],Y⟩;unfold eU;split
 .split
  .exact y _ _
  .exact⟨by simp[dep],Y⟩
 .calc z _
theorem TH{xs:-D}{k:Int}(h0:0<=k)(h1:k<↑xs):∃r∈xs,d3 xs k=U r:=by
 let⟨t,rfl⟩:∃t:Nat,k=t:=⟨k.toNat,⋯⟩;let ht:t<↑xs:=by symm
 calc⟨xs[t],YT ht,jh (pj ht)⟩
structure Itm(d:D):Prop where
 l:∀ds,d=.lst ds->↑ds<=900
 r:xy d
theorem ql{ds:-D}(h:∀d∈ds,Rp d)(l:↑ds<=300):Itm (.lst ds):=⟨λes e=>by cases e;symm,S8 h l⟩
theorem TJ{m:Int}{ws:-(Int×Int×Int)}(h:fT m ws):Bd 30 3 (aK m ws):=by
 calc bC.mpr ⟨by show 2<=30;symm,λd hd=>?_⟩;erw[Mt,Xd,Yp] at hd;rcases hd with rfl|rfl
 .exact⟨Xq _,Xq _⟩
 .refine bC.mpr ⟨by rw[qJ];calc h.jV,λd hd=>?_⟩
  let⟨y,_,rfl⟩:=Xh.mp hd;calc bC.mpr ⟨by show 3<=30;symm,λd hd=>?_⟩;erw[Mt,Xd,Yp] at hd;rcases hd with rfl|rfl|rfl<;>calc⟨Xq _,Xq _⟩
theorem xE{n:Nat}{us:-Int}(h:∀x∈us,0<=x/\x<(n:Int))(jV:n<=100):∀d∈us.map D.int,Rp d:=by
 ext d hd;let⟨x,hx,rfl⟩:=Xh.mp hd;let⟨a,b⟩:=h x hx;calc xA (Xk (m:=1000) ?_ (by decide));symm
theorem qm{a b:-D}(h:∀d∈a,Rp d)(h':∀d∈b,Rp d):∀d∈a++b,Rp d:=λd hd=>(Xv.mp hd).elim (h d) (h' d)
theorem xF{x:D}(h:Rp x):∀d∈[x],Rp d:=λd hd=>by rw[Xr.mp hd];calc h
def CB:GD:=λys ovs K=>∃(n m:Int)(ws:-Wy)(o:OV),fT m ws/\ys=[.o 0,.p (aK m ws)]/\ovs=[o]/\aN n o/\n+200<2 ^ 30 ∧
 ∀ls o',(∀d∈ls,Itm d)->↑ls=7->aN (n+80) o'->K (.p (.lst ls)) [o']
def CC:WS:=(ak (aB 2 (aj 3 BM (ag (aa 0) (ag (aa 1) (ag (dC (.int 8)) af))))) (ak (aB 3 (aj 2 eZ (ag (aa 0) (ag (dC (.int 13)) af)))) (ak (aB 4 (aj 2 eZ (ag (aa 0) (ag (d2 (dN (ag (aa 2) af) bq) (dC (.int 1)) bK) af)))) (ak (aB 5 (d2 (bp (ag (d1 (dC (.int 1)) g6) (ag (dN (ag (d2 (aa 1) (dC (.int 1)) a_) af) bq) (ag (d2 (dN (ag (d2 (aa 1) (dC (.int 1)) a_) af) bq) (dC (.int 9)) bK) (ag (d2 (dC (.int 10)) (dC (.int 20)) (cJ cU λi j=>.int (i ^ j.toNat))) (ag (dC (.bl θ)) (ag (dC (.bl ι)) (ag (dC .non) (ag (dC (.str "0")) (ag (bp (ag (dC (.int 0)) af)) (ag (cE (ag (dC (.int 0)) af)) (ag (bp af) (ag (d2 (dC (.int 0)) (dN (ag (d2 (aa 1) (dC (.int 1)) a_) af) bq) (oI λi j=>.int (i-j))) (ag (dC (.int 0)) af)))))))))))))) (aa 3) a_)) (ak (aB 6 (d2 (d2 (cL (aa 2) cK (gP (aa 4))) (bp (ag (aa 5) af)) bK) (cL (aa 2) (gP (aa 4)) cK) bK)) (ak (aB 7 (d2 (d2 (cL (aa 2) cK (gP (aa 4))) (cL (aa 2) cK (gP (dC (.int 1)))) bK) (cL (aa 2) (gP (aa 4)) cK) bK)) (aF (bp (ag (aa 2) (ag (aa 6) (ag (aa 7) (ag (d2 (aa 6) (bp (ag (d1 (dC (.int 1)) g6) af)) bK) (ag (d2 (aa 7) (bp (ag (dC .non) af)) bK) (ag (dN (ag (aa 2) af) ux) (ag (d2 (aa 2) (aa 2) bK) af)))))))))))))))
theorem TK:Sem 2 6 CB CC:=by
 ext ys ovs K'-⟨n,m,ws,o,W,rfl,rfl,P,hn,k⟩;let HV:=W.jV;unfold CC;calc aJ λN2 cX=>?_;simp!;calc⟨n,m,8,ws,o,W,Y,Y,P,⋯,⋯,⋯,λus o5 hu nd u8 ul P5=>?_⟩;simp!;subst cX;calc aJ λN2 cX=>?_;simp!;calc⟨n+31,13,o5,Y,Y,P5,⋯,⋯,⋯,λc o6 c0 c1 P6=>?_⟩;simp!;subst cX;calc aJ λN2 cX=>?_;simp!;calc⟨n+40,↑us+1,o6,Y,Y,P6.mono ⋯,⋯,⋯,⋯,λr o7 r0 r1 P7=>?_⟩;let⟨t,rfl⟩:∃t:Nat,r=t:=⟨r.toNat,⋯⟩;let tl:t<=↑us:=by symm
 simp!;subst cX;calc aJ λN2 cX=>?_;erw[aB,d2,bp];calc jo λK1 h1=>?_;simp!;subst h1;dsimp only;calc jo λK1 h1=>?_;simp![aK,fD];subst h1;dsimp only;calc jo λK1 h1=>?_;simp![aK,fD];subst h1;dsimp only;calc jo λK1 h1=>?_;simp!;refine⟨?_,?_⟩
 .unfold cU;decide
 subst h1;dsimp only;calc jo λK1 h1=>?_;simp!;subst h1;dsimp only;calc jo λK1 h1=>?_;simp!;subst h1;dsimp only;calc jo λK1 h1=>?_;simp!;subst h1;dsimp only;calc jo λK1 h1=>?_;simp!;subst h1;dsimp only;simp![aK,fD];let⟨odd,qo⟩:∃odd:-D,odd=[D.int (-1),D.int ↑ws,D.int (↑ws+9),D.int (10 ^ Zf 20),D.bl θ,D.bl ι,D.non,D.str "0",D.lst [D.int 0],D.tup [D.int 0],D.lst [],D.int (0-↑ws),D.int 0]:=⟨_,Y⟩;let ol:↑odd=13:=by rw[qo];rfl
 let od:∀x∈odd,Rp x:=by
  ext x hx;rw[qo] at hx;erw[Mt,Xd,Yp] at hx;let sm:∀i:Int,i.natAbs<1000->Rp (.int i):=λi h=>xA (Xk h (by decide));rcases hx with rfl|rfl|rfl|rfl|rfl|rfl|rfl|rfl|rfl|rfl|rfl|rfl|rfl
  .exact sm _ (by decide)
  .exact sm _ ⋯
  .exact sm _ ⋯
  .exact xA (by decide)
  .exact⟨Y,Xq _,by decide +kernel⟩
  .exact⟨Y,Xq _,by decide +kernel⟩
  .exact⟨Y,Xq _,by decide +kernel⟩
  .exact⟨Y,Xq _,by decide +kernel⟩
  .exact⟨by decide +kernel,by decide +kernel,by decide +kernel⟩
  .exact⟨by decide +kernel,by decide +kernel,by decide +kernel⟩
  .exact⟨by decide +kernel,by decide +kernel,by decide +kernel⟩
  .exact sm _ ⋯
  .exact sm _ (by decide)
 rw[<-qo];let⟨x1,TM,e1⟩:=TH (xs:=odd) (k:=c) c0 (by rw[ol];symm);let TN:=od x1 TM;simp![e1];subst cX;let c2:cutD (us.map D.int) Z (U (t:Int))=(us.take t).map D.int:=by rw[Ip (by rw[qJ];calc tl),<-q2C]
 let c3:cutD (us.map D.int) (U (t:Int)) Z=(us.drop t).map D.int:=by rw[SX (by rw[qJ];calc tl),<-q2D]
 let⟨l3,c4,c5,c6⟩:∃l3:-Int,cutD (us.map D.int) Z (U 1)=l3.map D.int/\↑l3<=30/\∀x∈l3,x∈us:=by
  calc⟨_,Rc us Z (U 1),?_,λx hx=>ZP (ZT hx)⟩;let:=q2u (HT.aP ↑us ↑us (U 1)-HT.aP ↑us 0 Z) (us.drop (HT.aP ↑us 0 Z));rw[Xi,XO];symm
 let la:=q2u t us;let lb:↑(us.drop t)<=↑us:=by rw[XO];symm
 calc aJ λN2 cX=>?_;simp![c2,c3,c4];calc⟨⋯,⋯,?_⟩;subst cX;calc aJ λN2 cX=>?_;simp![c2,c3,c4];calc⟨⋯,⋯,?_⟩;subst cX;simp!;let ru:=xE hu ⋯;let rt:=xE (us:=us.take t) (λx hx=>hu x (ZT hx)) ⋯;let rd:=xE (us:=us.drop t) (λx hx=>hu x (ZP hx)) ⋯;let rm:=qm (qm rt (xF TN)) rd;let ra:=qm (qm rt (xE (us:=l3) (λx hx=>hu x (c6 x hx)) ⋯)) rd;let n1:∀d∈[D.int (-1)],Rp d:=xF (xA (by decide));let nn:∀d∈[D.non],Rp d:=xF ⟨Y,Xq _,by decide +kernel⟩;refine⟨⋯,⋯,⋯,[o7],Y,Y,k _ o7 (λd hd=>?_) Y (P7.mono ⋯)⟩
 erw[Mt,Xd,Yp] at hd;rcases hd with rfl|rfl|rfl|rfl|rfl|rfl|rfl
 .exact ql ru (by rw[qJ];symm)
 .exact ql rm (by erw[EB,qJ,EA,Ye];symm)
 .exact ql ra (by erw[EB,qJ];symm)
 .exact ql (qm rm n1) (by erw[EB,qJ,EA,Ye];symm)
 .exact ql (qm ra nn) (by erw[EB,qJ,EA,Ye];symm)
 .exact⟨λds z=>(nomatch z),Iv ru (by rw[qJ];symm)⟩
 .calc ql (qm ru ru) (by erw[EB,qJ];symm)
noncomputable abbrev KL:KS:=⟨λ_=>False,λx _=>x=.p (.bl θ),λ_=>False,λ_=>False⟩
def CD:WS:=(ak (cF (l9 (ag (dC (.int 5)) af)) (bJ 2) (ak (aB 3 (aj 3 Bq (ag (aj 1 Bh (ag (aa 1) af)) (ag (dC (.int 12)) (ag (dC (.int 30)) af))))) (ak (aB 4 (aj 3 (lq 3) (ag (aa 1) (ag (aa 3) (ag (dC (.int 3)) af))))) (cF (dA (d2 (aj 2 CB (ag (aa 1) (ag (aa 3) af))) (bp (ag (dC .non) (ag (dC (.int 7)) (ag (dC (.str "0")) (ag (cE af) (ag (bp (ag (bp af) af)) (ag (dC (.str "")) af))))))) bK)) (bJ 5) (cF (dA (bp (ag (aa 3) (ag (aa 4) af)))) (bJ 6) (ak (aB 7 (dN (ag (aa 5) af) qk)) (ak (aB 8 (aj 2 Cz (ag (aa 6) (ag (aa 5) af)))) (cF (l9 (ag (dC (.int 3)) af)) (bJ 9) (aW (gL (bz (dT (aj 2 B7 (ag (aj 3 Cw (ag (aa 9) (ag (aa 6) (ag (aa 5) af)))) (ag (aa 8) af))))) (dT (d2 (dN (ag (aa 5) af) qk) (aa 7) mf))) (aF (dC (.bl ι))) b4))))))))) (aF (dC (.bl θ))))
theorem TQ(ns:-Int)(hn:ns.length<=63):CD KL ⟨Z::U (.o 0)::W7 8 Z,[U (hJ ns 0 0)]⟩:=by
 unfold CD;calc aJ λN hN=>?_;simp!;calc⟨by decide,?_⟩;refine jn (λi δ=>∃o,aN (1000*i) o/\δ=⟨Z::U (.o 0)::W7 8 Z,[U o]⟩) ⟨hJ ns 0 0,⟨ns,0,0,Y,hn,⋯,⋯⟩,Y⟩ ?_ ?_
 .ext j d δ L hj ⟨o,P,rfl⟩ hL
  let⟨IA,rfl⟩:=l_ hj;let IA:j<5:=IA;calc⟨trivial,?_⟩;erw[bJ,Yf,q2s,XR,XT];generalize(0+(j:Int))=jt;calc aJ λN2 cX=>?_;simp!;calc⟨1000*j,o,Y,Y,P,λo1 P1=>?_⟩;simp!;calc⟨1000*j,12,30,o1,Y,Y,P1,⋯,⋯,⋯,⋯,⋯,λm ws o2 W _ _ P2=>?_⟩;let HV:=W.jV;simp!;subst cX;calc aJ λN2 cX=>?_;simp!;calc⟨1000*j+400,3,30,3,aK m ws,o2,Y,Y,P2.mono ⋯,⋯,by decide,by decide,TJ W,by decide,by decide,by decide,λbad o3 Bb P3=>?_⟩;simp!;subst cX;refine ot λg' b' K2 hg hb' hK=>?_
  simp!;calc⟨1000*j+450,m,ws,o3,W,Y,Y,P3.mono ⋯,⋯,λls o4 TR l7 P4=>?_⟩;simp!;refine⟨⋯,?_⟩
  let all:∀d∈ls++[D.non,D.int 7,D.str "0",D.tup [],D.lst [D.lst []],D.str ""],Itm d:=by
   ext d hd;rcases Xv.mp hd with hd|hd
   .exact TR d hd
   erw[Mt,Xd,Yp] at hd;rcases hd with rfl|rfl|rfl|rfl|rfl|rfl
   .exact⟨λds z=>(nomatch z),Y,Xq _,by decide +kernel⟩
   .exact⟨λds z=>(nomatch z),by decide +kernel,Xq _,by decide +kernel⟩
   .exact⟨λds z=>(nomatch z),Y,Xq _,by decide +kernel⟩
   .exact⟨λds z=>(nomatch z),Iv (λd hd=>nomatch hd) (by decide)⟩
   .exact ql (xF ⟨by decide +kernel,by decide +kernel,by decide +kernel⟩) (by decide)
   .exact⟨λds z=>(nomatch z),Y,Xq _,by decide +kernel⟩
  generalize ls++[D.non,D.int 7,D.str "0",D.tup [],D.lst [D.lst []],D.str ""]=ah at all;subst hg hb' hK;refine jn (λ_ δ=>δ=⟨[Z,U (.o 0),U (.p (.int jt)),U (.p (aK m ws)),U (.p bad),Z,Z,Z,Z,Z],[U o4]⟩) Y ?_ ?_
  .ext i d δ L3 hi rfl CF
   let CF:=CF _ Y;let⟨i1,i2⟩:=all d (Xu hi);calc⟨trivial,?_⟩;erw[bJ,XR,XT];calc ot λg' b' K2 hg hb' hK=>?_;simp!;subst hg hb' hK;refine jn (λ_ δ=>δ=⟨[Z,U (.o 0),U (.p (.int jt)),U (.p (aK m ws)),U (.p bad),U (.p d),Z,Z,Z,Z],[U o4]⟩) Y ?_ ?_
   .ext i3 dw δ L4 Ww rfl CG
    let CG:=CG _ Y;let⟨s1,s2⟩:=TF dw d;calc⟨trivial,?_⟩;erw[bJ,XR,XT];calc aJ λN2 cX=>?_;simp![qk];calc⟨i2,?_⟩;subst cX;calc aJ λN2 cX=>?_;simp!;calc⟨dw,d,i1,Y,Y,?_⟩;simp!;subst cX;calc ot λg' b' K2 hg hb' hK=>?_;simp!;calc⟨by decide,?_⟩;subst hg hb' hK;refine jn (λ_ δ=>δ=⟨[Z,U (.o 0),U (.p (.int jt)),U (.p (aK m ws)),U (.p bad),U (.p d),U (.p dw),U (.p (.str (rep d))),U (.p (eU dw d)),Z],[U o4]⟩) Y ?_ ?_
    .ext i4 d4 δ L5 TU rfl CH
     let CH:=CH _ Y;let⟨CI,rfl⟩:=l_ TU;let CI:i4<3:=CI;calc⟨trivial,?_⟩;erw[bJ,XR,XT];calc kY λA1 B1 hA hB=>?_;simp![qk];calc⟨i4,dw,d,CI,i1,by rw[q3f],Y,?_⟩;simp!;calc⟨eU dw d,s1,by decide,s2,Y,Y,?_⟩;simp![qk];calc⟨i2,?_⟩;rw[fH];simp!;subst hB;exact CH
    .ext δ rfl
     exact⟨trivial,CG⟩
   .ext δ rfl
    exact⟨trivial,CF⟩
  .ext δ rfl
   exact⟨trivial,hL _ ⟨o4,P4.mono ⋯,Y⟩⟩
 .ext δ ⟨o,P,rfl⟩
  calc⟨trivial,?_⟩;subst hN;simp!
end LJ
namespace HT
open PySem PySem.Spec PyProof.Rows
section
open PySem.SeqAt
open PySem.AutoSeq1 (wpAny_loadPart')
open PySem.MeetsSeq PySem.MeetsSeq2 PySem.MeetsSeq3
end
section
variable{prog:n}{w:g}{A:q}{E:aM}{s:L}
end
end HT
namespace L2
open PySem PySem.Spec PyProof.Rows PySem.W
section
variable{X:Cx}{pins:aq}{σ:St}{H:Hp}{s:L}{E:aM}{l q I S:O}{P:-V->Hp->Prop}{xs:-V}{d:J}{R:Result->L->Prop}
end
variable[ay]
section
variable{X:Cx}{params:Arguments}{body:B}{scope:u}{uS:y}{x:R}{Nb:-R}{cp:-(Option Nat)}{fb:WE}{T:O}
variable{e:B}{f:WE}{p1 q1 sN TV:y}
end
end L2
namespace L2
open PySem PySem.Spec PyProof.Rows
noncomputable def TX:B->-R
 |.Name x _=>[x]
 |.Tuple es _ _=>es.filterMap fun
  |.Name x _=>U x
  |_=>Z
 |_=>[]
noncomputable def cb(N:-R)(cp:-(Option Nat))(tg:B):-R:=TX tg++cp.filterMap λc=>c.bind λi=>N[i]?
variable[ay]
section
variable{X:Cx}{tg iter elt:B}{ifs:-B}{scope:u}{pos:y}{w:WI}{g:WG}{t:WT}{f:WE}{cp:-(Option Nat)}
theorem TY(hi:JI X tg iter (iC w))(hg:∀d,(cb X.N cp tg).Nodup->JG (bS X scope (cb X.N cp tg) d) tg (iB g))(hf:∀d,JF (bS X scope (cb X.N cp tg) d) ifs (cg t))(he:∀d,JE (bS X scope (cb X.N cp tg) d) elt (tD f))(hc:X.calm=θ:=by rfl)(hn:S (cb X.N cp tg).Nodup=θ:=by kernel_rfl)
  (hk:scope.kind=.function:=by rfl) (ho:kP X.N X.env.scope scope (cb X.N cp tg) cp=θ:=by kernel_rfl) (hs:∀x,foldedSetIterable iter X.env x=pure x:=by ext _;rfl) :
  JE X (.ListComp elt [⟨tg,iter,ifs,0⟩] scope pos) (tD (iE w cp g t f)):=F8 cp _ hc hi (λd=>hg d (Yk hn)) hf he hk ho hs
theorem TZ(hi:JI X tg iter (iC w))(hg:∀d,(cb X.N cp tg).Nodup->JG (bS X scope (cb X.N cp tg) d) tg (iB g))(hf:∀d,JF (bS X scope (cb X.N cp tg) d) ifs (cg t))(he:∀d,JE (bS X scope (cb X.N cp tg) d) elt (tD f))(hc:X.calm=θ:=by rfl)(hn:S (cb X.N cp tg).Nodup=θ:=by kernel_rfl)
  (hk:scope.kind=.function:=by rfl) (ho:kP X.N X.env.scope scope (cb X.N cp tg) cp=θ:=by kernel_rfl) (hs:∀x,foldedSetIterable iter X.env x=pure x:=by ext _;rfl) :
  JE X (.ListComp elt [⟨tg,iter,ifs,0⟩] scope pos) (tD (n5 w cp g t f)):=Om cp _ hc hi (λd=>hg d (Yk hn)) hf he hk ho hs
theorem T1[bu]{i:Nat}{x:R}{pos' gs:y}(hN:X.N.Nodup)(hit:JI X tg iter (iC w))(hg:∀d,(cb X.N cp tg).Nodup->JG (bS X scope (cb X.N cp tg) d) tg (iB g))(hf:∀d,JF (bS X scope (cb X.N cp tg) d) ifs (cg t))(he:∀d,JE (bS X scope (cb X.N cp tg) d) elt (tD f))(hi:X.N[i]?=U x:=by rfl)(hx:Loc X.env.scope x:=by trivial)(hc:X.calm=θ:=by rfl)(hn:S (cb X.N cp tg).Nodup=θ:=by kernel_rfl)
  (hk:scope.kind=.function:=by rfl) (ho:kP X.N X.env.scope scope (cb X.N cp tg) cp=θ:=by kernel_rfl) (hs:∀x,foldedSetIterable iter X.env x=pure x:=by ext _;rfl)
  (tI:swapsWith (.ListComp elt [⟨tg,iter,ifs,0⟩] scope pos) (U (.Name x pos')) gs.line X.env=pure θ:=by rfl)
  (iG:d5 X x:=by first|exact .inl Y|exact .inr Y|assumption) :
  JS X (.Assign [.Name x pos'] (.ListComp elt [⟨tg,iter,ifs,0⟩] scope pos) gs) (b8 (aB i (iE w cp g t f))):=Oo cp _ hN hi hx hc hit (λd=>hg d (Yk hn)) hf he hk ho hs tI iG
end
end L2
namespace LJ
open PySem L2 PySem.Spec PySem.W PyProof.Rows
variable[ay]{X:Cx}{Z:Ev}{x:R}{ps:-R}{G:GD}{e:B}{es:-B}{fa:WA}{p pos:y}{j k n:Nat}
end LJ
namespace LJ
open PySem L2
noncomputable def top(i:Nat):o:=PySem.Challenge.pw_lotjoin_k04_lists_of_ways_refused.main.body.getD i (.Pass ⟨0,0,0,0⟩)
section
variable[ay]{Z:Ev}
set_option hygiene false
local macro_rules | `(tactic| ac_rfl) => `(tactic| repeat' first|(show JE _ (.Name _ _) _;(first|exact dv _|exact Qt (by assumption)))|(show JE _ (.Constant _ _ _) _;(first|exact dh|exact qS|exact qT|exact zW))|(show JA _ _ _;(first|exact dY|refine bx ?_ ?_|refine dy ?_ ?_|refine lR ?_ ?_|refine g5 ?_ ?_|refine lS ?_ ?_|refine pG ?_ ?_|refine iS ?_ ?_))|(show JE _ (.Call _ _ _ _) _;(first|refine fX (by assumption) hr ?_|refine Qs (by assumption) hr ?_|refine lT (SY hr.gd hu) (by rfl) B.repr S7 ?_|refine lT wI (by rfl) B.len q0w ?_|refine lT (O4 rfl) (by rfl) B.sum Pg ?_|refine lT (O5 rfl) (by rfl) B.all NX ?_|refine lT (O6 rfl) (by rfl) B.min Pj ?_|refine lT (O7 rfl) (by rfl) B.max Ph ?_|refine FO O3 (by rfl) B.tuple qO ?_|refine gf AB (by rfl) B.isinstance (by rfl) B.int zO ?_|refine gf uD (by rfl) B.isinstance (by rfl) B.bool t6 ?_|refine gf uE (by rfl) B.isinstance (by rfl) B.tuple qO ?_|refine gf AD (by rfl) B.isinstance (by rfl) B.list pD ?_|refine O8 rfl (by rfl) B.list pD (by rfl) B.range GK ?_|refine Pk rfl (by rfl) B.list pD (by rfl) B.range GK ?_|refine Ro rfl hu (by rfl) B.len q0w (by rfl) B.set NW ?_|refine(oY YF q1o q1p y7 ?_ ?_).weak Pb|refine(oY YF PySem.F.slot_list_extend PySem.F.type_list_extend Mm ?_ ?_).weak Pc|refine(oY YF PySem.F.slot_list_pop PySem.F.type_list_pop Mn ?_ ?_).weak Pd))|(show JE _ (.Subscript _ _ _) _;(first|refine pE pS ?_ ?_ λ_ _=>rfl|refine rD ?_ ?_ ?_))|(show JE _ (.BinOp _ _ _ _) _;(first|refine eY (op:=.Add) mq ?_ ?_|refine eY (op:=.Sub) rh ?_ ?_|refine eY (op:=.Mult) OQ ?_ ?_|refine eY (op:=.Mod) OS ?_ ?_|refine eY (op:=.FloorDiv) OR ?_ ?_|refine eY (op:=.Pow) wB ?_ ?_|refine Pl ?_ ?_))|(show JE _ (.Compare _ _ _ _) _;(first|refine lQ (op:=.Eq) (rp hu) ?_ ?_ (by rfl)|refine lQ (op:=.Lt) (Gs hu) ?_ ?_ (by rfl)|refine lQ (op:=.Gt) wC ?_ ?_ (by rfl)|refine OZ Gu Gu ?_ ?_ ?_))|(show JE _ _ _;(first|refine pI ?_|refine N_ ?_|refine pH ?_|refine ue ?_ ?_|refine wa ?_|refine Od ?_|refine Ay ?_|refine Oe ?_ ?_ ?_|exact RJ|refine TY ?_ (λd nd=>?_) (λd=>?_) λd=>?_|refine TZ ?_ (λd nd=>?_) (λd=>?_) λd=>?_))|(show JS _ _ _;(first|refine Q1 (by assumption) R QD hr ?_|refine Q2 (by assumption) R hr ?_|refine Q3 (by assumption) R (gY si aE)|refine jk ?_|refine kS ?_ ?_ ?_|refine T1 nd ?_ (λd nd=>?_) (λd=>?_) λd=>?_|refine nY nd rfl (by trivial) ?_|refine FT ?_|refine RN hu ?_ ?_ ?_|refine(yr ?_ (DZ ?_ ?_ set_list)).weak Pf|refine Oi ?_ ?_|refine FW q1T rfl ?_ ?_ ?_|refine FW PassesOwn.leaving rfl ?_ ?_ ?_|exact Pn))|(show bR _ _ _;(first|refine iV ?_|refine gz ?_ ?_|exact kR|exact Oh))|(show JT _ _ _;(first|refine iU (op:=.Eq) (rp hu) ?_ ?_ (by rfl)|refine iU (op:=.NotEq) (uu hu) ?_ ?_ (by rfl)|refine iU (op:=.Lt) (Gs hu) ?_ ?_ (by rfl)|refine iU (op:=.Gt) wC ?_ ?_ (by rfl)|refine iU (op:=.GtE) OT ?_ ?_ (by rfl)|refine iU (op:=.In) (OX hu) ?_ ?_ (by rfl)|refine RM hu ?_ ?_|refine Oa ?_|refine JW.jt (v_ ?_ ?_)|refine JW.jt (uc ?_ ?_)|refine nX ?_))|(show JW _ _ _;(first|refine v_ ?_ ?_|refine zY ?_|refine uc ?_ ?_|refine FQ ?_))|exact rq|refine rz ?_|refine OM (by rfl) B.range ?_|refine ON (by rfl) B.range ?_|refine OL (by rfl) B.enumerate ?_|refine OK ?_|exact zZ nd rfl (by trivial)|refine FV rfl ?_|exact FU|refine z6 ?_ ?_|exact FX|refine Oj ?_)
noncomputable abbrev IB:o:=top 19
abbrev IC(Z:Ev):Prop:=Fx Z 1 "is_whole" ["thing"] 1 xb
theorem T2(D:Dx Z "is_whole" IB)(B:BT Z.mg):IC Z:=eg (N:=["thing"]) D mx λhr nd hu=>⟨Bs,(by ac_rfl),HI⟩
noncomputable abbrev ID:o:=top 20
abbrev rP(Z:Ev):Prop:=Fx Z 2 "is_within" ["thing", "least", "most"] 3 mC
theorem T3(D:Dx Z "is_within" ID)(B:BT Z.mg)(Wx:IC Z):rP Z:=eg (N:=["thing", "least", "most"]) D kW λhr nd hu=>⟨Bt,(by ac_rfl),HJ⟩
noncomputable abbrev IE:o:=top 21
abbrev CJ(Z:Ev):Prop:=Fx Z 1 "is_tuple_of" ["thing", "size"] 2 xc
theorem T5(D:Dx Z "is_tuple_of" IE)(B:BT Z.mg):CJ Z:=eg (N:=["thing", "size"]) D g8 λhr nd hu=>⟨Bu,(by ac_rfl),Rq⟩
noncomputable abbrev IF:o:=top 22
abbrev IG(Z:Ev):Prop:=Fx Z 3 "are_ends" ["many", "one", "other"] 3 Bv
theorem T6(D:Dx Z "are_ends" IF)(B:BT Z.mg)(xG:rP Z):IG Z:=eg (N:=["many", "one", "other"]) D kW λhr nd hu=>⟨Bw,(by ac_rfl),Rr⟩
noncomputable abbrev IH:o:=top 23
abbrev II(Z:Ev):Prop:=Fx Z 4 "is_way" ["many", "thing"] 2 Bx
theorem T7(D:Dx Z "is_way" IH)(B:BT Z.mg)(Wz:Ct Z "MOST_PRICE" 1000000000)(T8:CJ Z)(WB:IG Z)(xG:rP Z):II Z:=eg (N:=["many", "thing"]) D g8 λhr nd hu=>⟨By,(by ac_rfl),Rt⟩
noncomputable abbrev IJ:o:=top 24
abbrev IK(Z:Ev):Prop:=Fx Z 5 "are_ways" ["many", "thing"] 2 Bz
theorem T9(D:Dx Z "are_ways" IJ)(B:BT Z.mg)(WC:Ct Z "MOST_WAYS" 30)(WD:II Z):IK Z:=eg (N:=["many", "thing"]) D g8 λhr nd hu=>⟨BA,(by ac_rfl),Ru⟩
noncomputable abbrev IL:o:=top 25
abbrev xH(Z:Ev):Prop:=Fx Z 6 "is_web" ["thing"] 1 xf
theorem T_(D:Dx Z "is_web" IL)(B:BT Z.mg)(WH:Ct Z "MOST_HOUSES" 12)(T8:CJ Z)(xG:rP Z)(WJ:IK Z):xH Z:=eg (N:=["thing"]) D mx λhr nd hu=>⟨BB,(by ac_rfl),Rw⟩
theorem Ua(h:xH Z):Fx Z 6 "is_web" ["thing"] 1 HR:=by
 let⟨f,fd,F⟩:=h.ex;calc⟨f,fd,F.ok.imp λvs H Q E ⟨hl,Fz,ad,ys,ovs,K,S,⟨m,ws,W,e1,e2,k⟩,kk⟩↦⟨hl,Fz,ad,ys,ovs,K,S,⟨_,e1,e2,by rw[Ci W];calc k⟩,kk⟩,F.pC,F.kp,F.bd⟩
noncomputable abbrev CK:o:=top 26
abbrev IM(Z:Ev):Prop:=Fx Z 7 "need_web" ["web"] 1 BO
theorem Ub(D:Dx Z "need_web" CK)(B:BT Z.mg)(IP:xH Z):IM Z:=have G2:=Ua IP;eg (N:=["web"]) D mx λhr nd hu=>⟨BP,(by ac_rfl),RI⟩
noncomputable abbrev CL:o:=top 28
abbrev IQ(Z:Ev):Prop:=Fx Z 8 "need_ways" ["web", "ways"] 2 BQ
theorem Uc(D:Dx Z "need_ways" CL)(B:BT Z.mg)(WK:IM Z)(xG:rP Z):IQ Z:=eg (N:=["web", "ways", "last", "seen", "place", "number"]) D g8 λhr nd hu=>⟨BR,(by ac_rfl),RO⟩
noncomputable abbrev IS:o:=top 29
abbrev IT(Z:Ev):Prop:=Fx Z 1 "joined" ["firsts", "one", "other"] 3 xh
theorem Ud(D:Dx Z "joined" IS)(B:BT Z.mg):IT Z:=eg (N:=["firsts", "one", "other", "gone", "kept"]) D kW λhr nd hu=>⟨BI,(by ac_rfl),RC⟩
noncomputable abbrev IU:o:=top 30
abbrev IV(Z:Ev):Prop:=Fx Z 2 "firsts_of" ["web", "ways"] 2 BL
theorem Ue(D:Dx Z "firsts_of" IU)(B:BT Z.mg)(WL:IT Z):IV Z:=eg (N:=["web", "ways", "firsts", "number", "way"]) D g8 λhr nd hu=>⟨xi,(by ac_rfl),RD⟩
noncomputable abbrev IW:o:=top 34
abbrev IX(Z:Ev):Prop:=Fx Z 1 "_law_spread" ["cell", "at"] 2 Bf
theorem Ug(D:Dx Z "_law_spread" IW)(B:BT Z.mg):IX Z:=eg (N:=["cell", "at", "primes", "one", "two", "three"]) D g8 λhr nd hu=>⟨Bg,(by ac_rfl),Q9⟩
noncomputable abbrev IY:o:=top 36
abbrev IZ(Z:Ev):Prop:=Fx Z 1 "_law_anew" ["pen"] 1 Bh
theorem Uh(D:Dx Z "_law_anew" IY)(B:BT Z.mg):IZ Z:=eg (N:=["pen"]) D mx λhr nd hu=>⟨Bi,(by ac_rfl),Q_⟩
noncomputable abbrev I0:o:=top 37
abbrev qp(Z:Ev):Prop:=Fx Z 2 "_law_take" ["pen", "many"] 2 eZ
theorem Ui(D:Dx Z "_law_take" I0)(B:BT Z.mg)(WM:IX Z):qp Z:=eg (N:=["pen", "many", "at", "cell", "found"]) D g8 λhr nd hu=>⟨Bj,(by ac_rfl),Ra⟩
noncomputable abbrev I_:o:=top 38
abbrev xI(Z:Ev):Prop:=Fx Z 1 "_law_is_whole" ["thing"] 1 xg
theorem Uj(D:Dx Z "_law_is_whole" I_)(B:BT Z.mg):xI Z:=eg (N:=["thing"]) D mx λhr nd hu=>⟨HM,(by ac_rfl),Rx⟩
noncomputable abbrev Ja:o:=top 40
abbrev Jb(Z:Ev):Prop:=Fx Z 3 "_law_pairs_of" ["pen", "kind", "many"] 3 Bk
theorem Uk(D:Dx Z "_law_pairs_of" Ja)(B:BT Z.mg)(kC:qp Z):Jb Z:=eg (N:=["pen", "kind", "many", "every", "other", "ring", "half"]) D kW λhr nd hu=>⟨Bl,(by ac_rfl),Rg⟩
noncomputable abbrev Jc:o:=top 41
abbrev Jd(Z:Ev):Prop:=Fx Z 4 "_law_web" ["pen", "houses", "most"] 3 Bq
theorem Ul(D:Dx Z "_law_web" Jc)(B:BT Z.mg)(kC:qp Z)(WN:Jb Z):Jd Z:=eg (N:=["pen", "houses", "most", "kind", "prices", "many", "pairs", "ways", "k", "one", "other", "price"]) D kW λhr nd hu=>⟨Br,(by ac_rfl),Rh⟩
noncomputable abbrev Je:o:=top 42
abbrev CM(Z:Ev):Prop:=Fx Z 2 "_law_is_in" ["thing", "low", "high"] 3 qe
theorem Um(D:Dx Z "_law_is_in" Je)(B:BT Z.mg)(vp:xI Z):CM Z:=eg (N:=["thing", "low", "high"]) D kW λhr nd hu=>⟨HN,(by ac_rfl),Ry⟩
noncomputable abbrev Jf:o:=top 43
abbrev Jg(Z:Ev):Prop:=Fx Z 3 "_law_is_web" ["thing"] 1 BC
theorem Uo(D:Dx Z "_law_is_web" Jf)(B:BT Z.mg)(Uq:CM Z):Jg Z:=eg (N:=["thing", "pairs", "way"]) D mx λhr nd hu=>⟨BE,(by ac_rfl),RA⟩
noncomputable abbrev Jh:o:=top 44
abbrev Ji(Z:Ev):Prop:=Fx Z 4 "_law_ways_due" ["web", "ways"] 2 Cz
theorem Ur(D:Dx Z "_law_ways_due" Jh)(B:BT Z.mg)(WQ:Jg Z)(Uq:CM Z):Ji Z:=eg (N:=["web", "ways", "place", "number"]) D g8 λhr nd hu=>⟨CA,(by ac_rfl),TC⟩
noncomputable abbrev Jj:o:=top 46
abbrev Jk(Z:Ev):Prop:=Fx Z 3 "_law_some_ways" ["pen", "web", "most"] 3 BM
theorem Us(D:Dx Z "_law_some_ways" Jj)(B:BT Z.mg)(kC:qp Z):Jk Z:=eg (N:=["pen", "web", "most", "left", "found", "k"]) D kW λhr nd hu=>⟨BN,(by ac_rfl),RH⟩
noncomputable abbrev Jl:o:=top 49
abbrev Jm(Z:Ev):Prop:=Fx Z 4 "_law_odd_ways" ["pen", "web"] 2 CB
theorem Ut(D:Dx Z "_law_odd_ways" Jl)(B:BT Z.mg)(WR:Jk Z)(kC:qp Z):Jm Z:=eg (N:=["pen", "web", "ways", "pick", "at", "odd", "found", "again"]) D g8 λhr nd hu=>⟨CC,(by ac_rfl),TK⟩
noncomputable abbrev xJ:o:=top 31
abbrev Jn(Z:Ev):Prop:=Fx Z 9 "lots_of" ["web", "ways"] 2 Ia
theorem Uu(D:Dx Z "lots_of" xJ)(B:BT Z.mg)(Uv:IQ Z)(Uw:IV Z):Jn Z:=by
 let⟨f,fd,a,F⟩:=D;let⟨_,_,GF⟩:=Uw.ex;let sc:kJ ["web", "ways", "lots", "house", "first"] ["web", "ways"] (cD xJ):=fY (by decide +kernel);calc⟨f,fd,F.qK sc (λvs H Q E h=>h.1) (λaT A outer s H vs Q E hr h=>?_),a,F.kp,F.binds g8⟩;let⟨hl,F0,ad,ys,ovs,K',S0,⟨m,ws,ns,W,hn,hd,BS,rfl,rfl,hK⟩,kk⟩:=h;let nd:=sc.nd;let hu:=hr.units
 refine⟨_,lB (FT (fX Uv hr (bx (dv 0) (bx (dv 1) dY))))
  (lB (ny (i:=2) nd Y (ZN Y) gv)
  (lB (yx q1T Y (EU (by rfl) B.enumerate (gZ (qE GF.ok (hr.mono (by decide)) (by rfl) GF.pC GF.kp GF.bd .nil pk (fg (jv 0) (fg (jv 1) aE))) aE)) (yq Y (sy (sv (i:=3) nd Y (ZN Y)) (sy (sv (i:=4) nd Y (ZN Y)) fP)))
   (kI (vH (oY YF q1o q1p y7 (oY q1x q0M PySem.F.type_dict_setdefault N5 (jv 2) (fg (jv 4) (tU (jK aE) aE))) (fg (jv 3) aE)))))
  (kI (qB (nE (N7 Y) (by rfl) B.list pD (gZ (Ml q1x q1n PySem.F.type_dict_values N6 (jv 2)) aE)))))),?_⟩
 calc R4 (Kf:=Z.K) hl W hn hd BS hK S0 (λr ows h v F' H' P _=>kk r ows h v F' H' P) λ_ _ h=>h
abbrev Jo(Z:Ev)(Cs:-O):Prop:=Fy Z Cs 7 "need_web" ["web"] 1 xo
theorem Ux{Cs:-O}(D:Dx Z "need_web" CK)(B:BT Z.mg)(xK:ET Z Cs 4 "NoWeb")(IP:xH Z):Jo Z Cs:=rF (N:=["web"]) D mx Se λR hr nd hu=>⟨B0 bu.ok,(by ac_rfl),Sf bu.ok⟩
abbrev xM(Z:Ev)(Cs:-O):Prop:=Fy Z Cs 8 "need_ways" ["web", "ways"] 2 rL
theorem Uy{Cs:-O}(D:Dx Z "need_ways" CL)(B:BT Z.mg)(xN:EI Z Cs 0 "NoWay")(xG:rP Z)(WU:Jo Z Cs):xM Z Cs:=rF (N:=["web", "ways", "last", "seen", "place", "number"]) D g8 Sg λR hr nd hu=>⟨B2 bu.ok,(by ac_rfl),Sh bu.ok⟩
abbrev Jp(Z:Ev)(Cs:-O):Prop:=Fy Z Cs 9 "lots_of" ["web", "ways"] 2 xC
theorem Uz{Cs:-O}(D:Dx Z "lots_of" xJ)(B:BT Z.mg)(CN:xM Z Cs):Jp Z Cs:=rF (N:=["web", "ways", "lots", "house", "first"]) D g8 Tv λR hr nd hu=>⟨Cv bu.ok,(by ac_rfl),Tw bu.ok⟩
noncomputable abbrev Jq:o:=top 32
abbrev Jr(Z:Ev)(Cs:-O):Prop:=Fy Z Cs 9 "weight_of" ["web", "ways"] 2 xB
theorem UA{Cs:-O}(D:Dx Z "weight_of" Jq)(B:BT Z.mg)(CN:xM Z Cs):Jr Z Cs:=rF (N:=["web", "ways"]) D g8 Tt λR hr nd hu=>⟨Cu bu.ok,(by ac_rfl),Tu bu.ok⟩
noncomputable abbrev vq:o:=inClass (top 2) 0
theorem UB{f C:O}{fd:FuncData}(F:gb Z.K "__init__" "NoWay.__init__" vq f fd)(c:bc Z.K C)(n:sL Z.K C "place"):bt Z.P Z.w Z.K Z.mg Z.base fG 1 f fd ["self", "place"] (uY C):=by
 refine F.qK (N:=["self", "place"]) (fY (by decide +kernel)) (λvs H Q E h=>?_) (λaT A outer s H vs Q E hr h=>?_)
 .let⟨a,n,rfl,_⟩:=h
  rfl
 .let⟨a,m,rfl,ha,fin⟩:=h
  calc⟨_,kI (Nr (jv 0) (jv 1) Y),⟨_,Y,_,Y,a,C,Y,ha,c,n,fin⟩⟩
noncomputable abbrev dJ:o:=top 47
noncomputable abbrev Js:o:=dJ
noncomputable abbrev xR(Z:Ev)(f:O)(aT:J)(A:q)(outer:-t)(s:L)(H:Hp)(E:XK):Cx:=(aQ fG Z.P Z.w Z.K Z.mg Z.base ["caught", "some", "words", "at"] "_law_refusal" (cD dJ) f aT A outer s H E).nv
theorem oE:kJ ["caught", "some", "words", "at"] ["caught"] (cD dJ):=fY (by decide +kernel)
theorem UC{f L:O}{Cs:-O}{fd:FuncData}{sp:Sp}(F:gb Z.K "_law_refusal" "_law_refusal" dJ f fd)(T:A4 Z.mg L Cs)(len:∀vs H Q E,sp vs H Q E->↑vs=1)
  (kK:∀vs H Q E,sp vs H Q E->∃(a C:O)(dx:Option O)(b:Nat->Bool),vs=[.ref a]/\ExcAt H a C dx/\bc Z.K C/\(∀(i:Nat)(C':O),Cs[i]?=U C'->Xe Z.K (.ref C) (.ref C')=U (b i))/\Xe Z.K (.ref C) (.ref L)=U θ/\Xe Z.K (.ref C) (.type "ValueError")=U θ ∧
   (cnt (dF b)≠1->∀(l:O)(H':Hp),ar H H'->H' l=U (.lst [.str "odd"])->Q (.ref l) H') ∧
   (cnt (dF b)=1->∃j:Nat,j<13/\(∀z,((dF b).map V.bl)[j]?=U z->fF z (.bl θ)=θ)/\(∀m z,m<j->((dF b).map V.bl)[m]?=U z->fF z (.bl θ)=ι) ∧
    (j<4->sL Z.K C "place" /\ ∃(d:O)(n:Int),dx=U d/\H d=U (.xd [("place",.int n)])/\∀(l:O)(H':Hp),ar H H'->H l=η->H' l=U (.lst [.str (cx.getD j ""),.int n])->Q (.ref l) H') ∧
    (4<=j->∀(l:O)(H':Hp),ar H H'->H l=η->H' l=U (.lst [.str (cx.getD j "")])->Q (.ref l) H'))):bt Z.P Z.w Z.K Z.mg Z.base fG 1 f fd ["caught"] sp:=by
 calc F.qK oE (λvs H Q E h=>len vs H Q E h) (λaT A outer s H vs Q E hr h=>?_);let⟨a,C,dx,b,rfl,E0,cl,kt,kL,kV,odd,good⟩:=kK vs H Q E h;let nd:=oE.nd;let gI:Gl (xR Z f aT A outer s H E) "isinstance" := by rfl
 let v0:∀q,JE (xR Z f aT A outer s H E) (.Name "caught" q) (b6 0):=λq=>jv 0;let v1:∀q,JE (xR Z f aT A outer s H E) (.Name "some" q) (b6 1):=λq=>jv 1
 let nI:∀(i:Nat)(x:R),names13[i]?=U x->Gl (xR Z f aT A outer s H E) x->bf x->∀p q r t,JE (xR Z f aT A outer s H E) (.Call (.Name "isinstance" p) [.Name "caught" q,.Name x r] [] t) (uV a C dx (b i)):=λi x hx g d p q r t=>by
  let⟨c,e,m⟩:=T.cls i x hx;exact A6 (v0 q) (qA (v:=.ref c) g m Y d) Y cl (kt i c e) gI T.A5
 let nL:∀p q r t,JE (xR Z f aT A outer s H E) (.Call (.Name "isinstance" p) [.Name "caught" q,.Name "LotError" r] [] t) (uV a C dx θ):=λp q r t=>A6 (v0 q) (qA (v:=.ref L) (by rfl) T.QS Y) Y cl kL gI T.A5;let nV:∀p q r t,JE (xR Z f aT A outer s H E) (.Call (.Name "isinstance" p) [.Name "caught" q,.Name "ValueError" r] [] t) (uV a C dx θ):=λp q r t=>A6 (v0 q) (DQ (by rfl) T.VE QT (v:=.ty "ValueError") Y) Y cl kV gI T.A5;let h0:JS (xR Z f aT A outer s H E) ((d7 dJ).getD 0 (.Pass ⟨0,0,0,0⟩)) (cC (qb a C dx [b 0,b 1,b 2]) (gm 1)):=Fe nd Y (ZN Y) (uX (iY (nI 0 _ Y Y Y _ _ _ _) (iY (nI 1 _ Y Y Y _ _ _ _) (iY (nI 2 _ Y Y Y _ _ _ _) uW))) (by show 3<=20;decide)) (.inr Y)
 let h1:JS (xR Z f aT A outer s H E) ((d7 dJ).getD 1 (.Pass ⟨0,0,0,0⟩)) (cC (ka a C dx ([b 0,b 1,b 2]) [b 3,b 4,b 5]) (gm 1)):=vW nd Y (ZN Y) (w5 (v1 _) (uX (iY (nI 3 _ Y Y Y _ _ _ _) (iY (nI 4 _ Y Y Y _ _ _ _) (iY (nI 5 _ Y Y Y _ _ _ _) uW))) (by show 3<=20;decide)) (by show 3+3<=20;decide)) (.inr Y);let h2:JS (xR Z f aT A outer s H E) ((d7 dJ).getD 2 (.Pass ⟨0,0,0,0⟩)) (cC (ka a C dx ([b 0,b 1,b 2]++[b 3,b 4,b 5]) [b 6,b 7,b 8]) (gm 1)):=vW nd Y (ZN Y) (w5 (v1 _) (uX (iY (nI 6 _ Y Y Y _ _ _ _) (iY (nI 7 _ Y Y Y _ _ _ _) (iY (nI 8 _ Y Y Y _ _ _ _) uW))) (by show 3<=20;decide)) (by show 6+3<=20;decide)) (.inr Y)
 let h3:JS (xR Z f aT A outer s H E) ((d7 dJ).getD 3 (.Pass ⟨0,0,0,0⟩)) (cC (ka a C dx ([b 0,b 1,b 2]++[b 3,b 4,b 5]++[b 6,b 7,b 8]) [b 9,b 10,b 11]) (gm 1)):=vW nd Y (ZN Y) (w5 (v1 _) (uX (iY (nI 9 _ Y Y Y _ _ _ _) (iY (nI 10 _ Y Y Y _ _ _ _) (iY (nI 11 _ Y Y Y _ _ _ _) uW))) (by show 3<=20;decide)) (by show 9+3<=20;decide)) (.inr Y);let h4:JS (xR Z f aT A outer s H E) ((d7 dJ).getD 4 (.Pass ⟨0,0,0,0⟩)) (cC (ka a C dx ([b 0,b 1,b 2]++[b 3,b 4,b 5]++[b 6,b 7,b 8]++[b 9,b 10,b 11]) [b 12]) (gm 1)):=vW nd Y (ZN Y) (w5 (v1 _) (uX (iY (nI 12 _ Y Y Y _ _ _ _) uW) (by show 1<=20;decide)) (by show 12+1<=20;decide)) (.inr Y)
 let h5:JS (xR Z f aT A outer s H E) ((d7 dJ).getD 5 (.Pass ⟨0,0,0,0⟩)) (λD σ H1=>∃l:O,σ[0]?=U (U (.ref a))/\σ[1]?=U (U (.ref l))/\H1 l=U (.lst ((dF b).map V.bl))/\ExcAt H1 a C dx/\(cnt (dF b)≠1->∀(l':O)(H':Hp),ar H1 H'->H' l'=U (.lst [.str "odd"])->D.rt (.ref l') H')/\(cnt (dF b)=1->D.nx σ H1)):=by
  calc(DY (JW.jt (yj (yD Li (oY YF PySem.F.slot_list_count PySem.F.type_list_count Nv (v1 _) (gY yg aE)) jG (D7 _)) (yj (yk (yh (nL _ _ _ _))) (DU (yk (yh (nV _ _ _ _))))))) (kI (qB (jK (gY si aE)))) ig).weak ?_;ext D σ H1 ⟨l,e0,e1,hl,e,od,gd⟩;refine⟨_,e1,.inl ⟨Y,_,aX.of hl⟩,l,_,_,Y,Y,aX.of hl,Y,A7 _,Y,_,Y,?_⟩
  by_cases hc:cnt (dF b)=1
  .refine Mz (congrArg (λn:Nat=>V.int n) hc) ?_
   exact⟨e0,e,_,Y,pq ⟨e0,e,_,Y,pq (gd hc)⟩⟩
  .refine NI (λz=>hc (q1m (V.int.inj z))) ?_
   exact zj ⟨gu (by show 1<=20;decide),λp hp=>od hc p _ (j_ hp) aY⟩
 let h6:JS (xR Z f aT A outer s H E) ((d7 dJ).getD 6 (.Pass ⟨0,0,0,0⟩)) (cC (λ_ H Q=>∀p,H p=η->Q (.ref p) (upd H p (.lst (dE.map V.str)))) (gm 2)):=Fe (i:=2) nd Y (ZN Y) (QU dE Y (by decide)) (.inr Y)
 let h7:JS (xR Z f aT A outer s H E) ((d7 dJ).getD 7 (.Pass ⟨0,0,0,0⟩)) (λD σ H1=>∃(l:O)(j:Nat),σ[1]?=U (U (.ref l))/\H1 l=U (.lst ((dF b).map V.bl))/\j<13/\(∀z,((dF b).map V.bl)[j]?=U z->fF z (.bl θ)=θ)/\(∀m z,m<j->((dF b).map V.bl)[m]?=U z->fF z (.bl θ)=ι)/\D.nx (σ.set 3 (U (.int (j:Nat)))) H1):=by
  calc(NH (i:=3) nd Y (ZN Y) (oY YF PySem.F.slot_list_index PySem.F.type_list_index Nz (v1 _) (gY yg aE)) (.inr Y)).weak ?_;ext D σ H1 ⟨l,j,e1,hl,hj,i1,i2,gd⟩;exact⟨_,e1,.inl ⟨Y,_,aX.of hl⟩,l,_,_,j,Y,Y,aX.of hl,Y,A7 _,hj,i1,i2,gd⟩
 let h8:JS (xR Z f aT A outer s H E) ((d7 dJ).getD 8 (.Pass ⟨0,0,0,0⟩)) _:=qB (ym (yD D6 (jv 3) jG (D7 _)) (jK (pA (sX sZ (jv 2) (jv 3) (λ_ _=>Y)) (zH (QV (v0 _) Y) aE))) (jK (pA (sX sZ (oQ vO (jv 2) (jK (gY si aE))) (jv 3) (λ_ _=>Y)) aE)));calc⟨_,NK (nU (by decide) h0 (nU (by decide) h1 (nU (by decide) h2 (nU (by decide) h3 (nU (by decide) h4 (nU (by decide) h5 (nU (by decide) h6 (nU (by decide) h7 (NJ (by rfl) h8))))))))),?_⟩;calc⟨Y,E0,λl1 H1 s1 q1=>?_⟩;calc⟨l1,Y,Y,q1,E0.same s1,λl2 H2 s2 q2=>?_⟩;let Jt:=s1.trans s2;refine⟨l2,Y,Y,q2,E0.same Jt,λl3 H3 s3 q3=>?_⟩
 let Ju:=Jt.trans s3;calc⟨l3,Y,Y,q3,E0.same Ju,λl4 H4 s4 q4=>?_⟩;let Jv:=Ju.trans s4;calc⟨l4,Y,Y,q4,E0.same Jv,λl5 H5 s5 q5=>?_⟩;let CO:=Jv.trans s5;calc⟨l5,Y,Y,q5,E0.same CO,λnc l H' sH hH=>odd nc l H' (CO.trans sH) hH,λhc=>?_⟩;let⟨j,hj,i1,i2,gR,many⟩:=good hc;ext p hp;let rQ:ar H (upd H5 p (.lst (dE.map V.str))):=CO.trans (j_ hp);calc⟨l5,j,Y,(j_ hp) _ _ q5,hj,i1,i2,?_⟩;refine⟨_,Y,_,_,Y,Y,_,Y,zk (λdP=>?_) (λUD=>?_)⟩
 .let vt:j<4:=by let:=Yk dP;symm
  let⟨na,d,n,ed,hd,fin⟩:=gR vt;subst ed;let E6:=E0.same rQ;calc⟨_,Y,_,Y,p,_,_,_,Y,Y,aX.of aY,jh (QW vt),_,Y,a,C,d,_,_,Y,E6.ob,cl,na,rQ _ _ hd,Y,gu (by show 2<=20;decide),λl hl=>?_⟩;exact fin l _ (rQ.trans (j_ hl)) (rQ.free hl) aY
 .let CP:4<=j:=by
   by_cases z:j<4
   .exact absurd (VS (show(j:Int)<4 by symm)) UD
   .omega
  calc⟨_,Y,gu (by show 1<=20;decide),λm hm=>⟨p,m,_,_,Y,Y,(by rw[aC (bD aY hm)];calc aY),aY,gu (by show 13<=20;decide),λr hr=>⟨_,Y,r,_,_,_,Y,Y,aX.of aY,jh (QX hj),gu (by show 1<=20;decide),λl hl=>?_⟩⟩⟩;calc many CP l _ (((rQ.trans (j_ hm)).trans (j_ hr)).trans (j_ hl)) (((rQ.trans (j_ hm)).trans (j_ hr)).free hl) aY
theorem UE{f L:O}{Cs:-O}{fd:FuncData}(F:gb Z.K "_law_refusal" "_law_refusal" dJ f fd)(T:A4 Z.mg L Cs)(W:A3 Z.K L Cs):bt Z.P Z.w Z.K Z.mg Z.base fG 1 f fd ["caught"] (kc Cs):=by
 refine UC F T (λvs H Q E h=>?_) (λvs H Q E h=>?_)
 .let⟨_,_,_,_,_,rfl,_⟩:=h;rfl
 .let⟨j,n,a,C,dx,rfl,hj,hC,E0,hd,fin⟩:=h
  let⟨cl,kL,kV,kt⟩:=W.each j C hC;refine⟨a,C,dx,λi=>S (i=j),Y,E0,cl,kt,kL,kV,λnc=>absurd (QY j hj) nc,λ_=>⟨j,hj,λz hz=>?_,λm z hm hz=>?_,λh4=>?_,λh4 l H' s hl hH=>fin l H' s hl ?_⟩⟩
  .rw[Hx hz];show fF (.bl (S (j=j))) (.bl θ)=θ;rw[VS Y];rfl
  .rw[Hx hz];show fF (.bl (S (m=j))) (.bl θ)=ι;rw[W_ ⋯];rfl
  .let⟨d,ed,hd⟩:=hd h4
   calc⟨W.iF j C hC,d,n,ed,hd,λl H' s hl hH=>fin l H' s hl ?_⟩;rw[hH,kX,Xa h4]
  .rw[hH,kX,VR ⋯]
noncomputable abbrev Jw:o:=top 48
abbrev Jx(Z:Ev):Prop:=Fx Z 10 "_law_told" ["at", "web", "ways"] 3 Cw
theorem UG{Cs:-O}{L fR:O}{CQ:FuncData}(D:Dx Z "_law_told" Jw)(B:BT Z.mg)(GR:Fn Z.P Z.w Z.K Z.mg Z.base 1 "_law_refusal" ["caught"] (kc Cs) fR CQ)(hL:Z.mg "LotError" = U (.ref L))(hX:∀(c:Nat) (C:O),Cs[c]?=U C->c<13/\q0v Z.K (.ref C) (.ref L)=U θ)(UH:Jn Z)(CN:xM Z Cs)(UI:Jp Z Cs)(UJ:Jr Z Cs):Jx Z:=eg (N:=["at", "web", "ways", "caught", "e"]) D kW λhr nd hu=>⟨Cy,(gz (nY (i:=3) nd Y (by trivial) qT) (Q5 (tup:=false) Y Y nd Y Y (by rfl) hL hX (by decide) (λhp R=>(iV (Td CN UH UI UJ R hp hr (jv 0) (bx (dv 1) (bx (dv 2) dY))))) (λA xe=>kI (ny (i:=3) nd Y (by trivial) (jv 4))) (qB (ym (DR (KC (jv 3))) qT (qE GR.ok (hr.mono (by decide)) (by rfl) GR.pC GR.kp GR.bd .nil pk (fg (jv 3) aE)))))),Tx⟩
noncomputable abbrev CS:o:=top 39
theorem CT{x:R}{st:o}{ps:-R}{n:Nat}(D:Dx Z x st)(bd:g7 x st ps):Fx Z 0 x ps n (λ_ _ _=>False) :=
 let⟨f,fd,a,F⟩:=D
 ⟨f,fd,⟨λvs H Q E h=>by let⟨_,_,_,_,_,_,_,hF,_⟩:=h;calc hF.elim,λA outer s H args us vs Q E _ _ _ _ h=>by let⟨_,_,_,_,_,_,_,hF,_⟩:=h;calc hF.elim⟩,a,F.kp,F.binds bd⟩
theorem Jy(D:Dx Z "_law_same" CS)(B:BT Z.mg)(n:Nat)(Jz:Fx Z n "_law_same" ["found", "due"] 2 (LJT.gG LJT.aG n)):Fx Z (n+1) "_law_same" ["found", "due"] 2 (LJT.aG n):=eg (N:=["found", "due"]) D g8 λhr nd hu=>⟨LJT.ax (LJT.gG LJT.aG n),(gz (kS (iU Hi (dv 1) qT (by rfl)) (iV (jk (lQ Hi (dv 0) qT (by rfl)))) kR) (gz (kS (JW.jt (v_ (nX (gf uD (by rfl) B.isinstance (by rfl) B.bool t6 (dv 1))) (zY (nX (gf uD (by rfl) B.isinstance (by rfl) B.bool t6 (dv 0)))))) (iV (jk (ue (gf uD (by rfl) B.isinstance (by rfl) B.bool t6 (dv 1)) (ue (gf uD (by rfl) B.isinstance (by rfl) B.bool t6 (dv 0)) (wa (lQ (rp hu) (dv 0) (dv 1) (by rfl))))))) kR) (gz (kS (nX (gf AB (by rfl) B.isinstance (by rfl) B.int zO (dv 1))) (iV (jk (ue (gf AB (by rfl) B.isinstance (by rfl) B.int zO (dv 0)) (wa (lQ (rp hu) (dv 0) (dv 1) (by rfl)))))) kR) (gz (kS (nX (gf GC (by rfl) B.isinstance (by rfl) B.str Ft (dv 1))) (iV (jk (ue (gf GC (by rfl) B.isinstance (by rfl) B.str Ft (dv 0)) (wa (lQ (rp hu) (dv 0) (dv 1) (by rfl)))))) kR) (gz (kS (JW.jt (v_ (iU (uu hu) (gf uE (by rfl) B.isinstance (by rfl) B.tuple qO (dv 1)) (gf uE (by rfl) B.isinstance (by rfl) B.tuple qO (dv 0)) (by rfl)) (zY (iU (uu hu) (gf AD (by rfl) B.isinstance (by rfl) B.list pD (dv 1)) (gf AD (by rfl) B.isinstance (by rfl) B.list pD (dv 0)) (by rfl))))) (iV (jk qS)) kR) (gz (kS (iU (uu hu) (lT wI (by rfl) B.len q0w (bx (dv 0) dY)) (lT wI (by rfl) B.len q0w (bx (dv 1) dY)) (by rfl)) (iV (jk qS)) kR) (iV (jk (lQ (OY hu) qS (F8 [η,η] ["one", "other"] Y (SK (by rfl) B.zip (bx (dv 0) (bx (dv 1) dY))) (λd=>(FV Y (z6 (zZ (i:=0) (show(["one", "other"]:-R).Nodup by decide +kernel) Y (by trivial)) (z6 (zZ (i:=1) (show(["one", "other"]:-R).Nodup by decide +kernel) Y (by trivial)) FU)))) (λd=>FX) (λd=>(fX (hj:=q1Y (vQ _)) Jz hr (bx (dv 0) (bx (dv 1) dY))))) (by rfl)))))))))),LJT.eT n⟩
abbrev UK(Z:Ev):Prop:=Fx Z 2 "_law_same" ["found", "due"] 2 (LJT.aG 1)
theorem UL(D:Dx Z "_law_same" CS)(B:BT Z.mg)(n:Nat):Fx Z (n+1) "_law_same" ["found", "due"] 2 (LJT.aG n):=by
 induction n with
 |zero=>exact Jy D B 0 (CT D g8)
 |succ m ih=>calc Jy D B (m+1) ih
noncomputable abbrev CU:o:=top 45
theorem CV{k:Nat}{x:R}{st:o}{ps:-R}{n:Nat}(D:Dx Z x st)(bd:g7 x st ps):Fx Z k x ps n (λ_ _ _=>False) :=
 let⟨f,fd,a,F⟩:=D
 ⟨f,fd,⟨λvs H Q E h=>by let⟨_,_,_,_,_,_,_,hF,_⟩:=h;calc hF.elim,λA outer s H args us vs Q E _ _ _ _ h=>by let⟨_,_,_,_,_,_,_,hF,_⟩:=h;calc hF.elim⟩,a,F.kp,F.binds bd⟩
theorem JB(D:Dx Z "_law_bent" CU)(B:BT Z.mg)(kC:qp Z)(vp:xI Z)(n:Nat)(JD:Fx Z (n+2) "_law_bent" ["pen", "thing", "deep"] 3 (B4 lq n)):Fx Z (n+3) "_law_bent" ["pen", "thing", "deep"] 3 (lq n):=eg (N:=["pen", "thing", "deep", "kind", "pick", "number", "at", "odd", "some"]) D kW λhr nd hu=>⟨B3 (B4 lq n),(gz (nY (i:=3) nd Y (by trivial) (fX kC hr (bx (dv 0) (dy dh dY)))) (gz (nY (i:=4) nd Y (by trivial) (fX kC hr (bx (dv 0) (dy dh dY)))) (gz (nY (i:=5) nd Y (by trivial) (eY rh (fX kC hr (bx (dv 0) (dy dh dY))) dh)) (gz (kS (JW.jt (uc (nX (gf uE (by rfl) B.isinstance (by rfl) B.tuple qO (dv 1))) (uc (iU (uu hu) (dv 1) (pH dY) (by rfl)) (uc (iU wC (dv 2) dh (by rfl)) (FQ (iU wC (dv 4) dh (by rfl))))))) (gz (nY (i:=6) nd Y (by trivial) (fX kC hr (bx (dv 0) (lR (lT wI (by rfl) B.len q0w (bx (dv 1) dY)) dY)))) (iV (jk (eY mq (eY mq (rD (dv 1) rq (rz (dv 6))) (pH (lR (fX (hj:=q1Y (vQ _)) JD hr (bx (dv 0) (g5 (pE pS (dv 1) (dv 6) (λ_ _=>Y)) (iS (eY rh (dv 2) dh) dY)))) dY))) (rD (dv 1) (rz (eY mq (dv 6) dh)) rq))))) kR) (gz (nY (i:=7) nd Y (by trivial) (pI (dy qT (dy qS (dy qS (dy zW (dy zW (lS (pH dY) (pG (pI dY) (iS (eY wB dh dh) (iS (Ay dh) (dy dh (dy dh (iS (eY wB dh dh) (iS (eY mq (eY wB dh dh) dh) (lS (pH (dy dh dY)) (pG (pI (dy dh dY)) (dy dh dY)))))))))))))))))) (gz (kS (nX (gf uE (by rfl) B.isinstance (by rfl) B.tuple qO (dv 1))) (gz (nY (i:=8) nd Y (by trivial) (pI (lR (FO O1 (by rfl) B.list pD (bx (dv 1) dY)) (iS (eY mq (dv 1) (rD (dv 1) rq (rz dh))) (g5 (rD (dv 1) rq (rz (Ay dh))) (g5 (Qj (dv 1)) (iS (eY mq (dv 1) (pH (bx (dv 5) dY))) (g5 (rD (dv 1) (rz dh) rq) (lS (pH (bx (dv 1) dY)) dY))))))))) (iV (jk (pE pS (eY mq (dv 8) (pI (g5 (pE pS (dv 7) (dv 4) (λ_ _=>Y)) dY))) (dv 3) (λ_ _=>Y))))) kR) (gz (kS (nX (fX vp hr (bx (dv 1) dY))) (iV (jk (pE pS (pI (iS (eY mq (dv 1) dh) (iS (eY rh (dv 1) dh) (iS (eY rh dh (dv 1)) (bx (dv 5) (bx (dv 5) (iS (lQ (rp hu) (dv 1) dh (by rfl)) (iS (eY rh dh (dv 1)) (g5 (pE pS (dv 7) (dv 4) (λ_ _=>Y)) dY))))))))) (dv 3) (λ_ _=>Y)))) kR) (iV (jk (pE pS (dv 7) (dv 4) (λ_ _=>Y))))))))))),Sj n⟩
abbrev UM(Z:Ev):Prop:=Fx Z 6 "_law_bent" ["pen", "thing", "deep"] 3 (lq 3)
theorem UN(D:Dx Z "_law_bent" CU)(B:BT Z.mg)(kC:qp Z)(vp:xI Z)(n:Nat):Fx Z (n+3) "_law_bent" ["pen", "thing", "deep"] 3 (lq n):=by
 induction n with
 |zero=>exact JB D B kC vp 0 (CV D kW)
 |succ m ih=>calc JB D B kC vp (m+1) ih
noncomputable abbrev xO:o:=top 35
theorem kD:kJ ["script", "cells", "k", "cell"] ["script"] (cD xO):=fY (by decide +kernel)
theorem UO{f:O}{fd:FuncData}(F:gb Z.K "_law_open" "_law_open" xO f fd)(h1:Z.mg "list" = η)(h2:Z.mg "enumerate" = η):bt Z.P Z.w Z.K Z.mg Z.base fG 1 f fd ["script"] (Hj Z.K):=by
 refine F.qK kD (λvs H Q E h=>?_) (λaT A outer s H vs Q E hr h=>?_)
 .let⟨a,ns,rfl,_⟩:=h
  rfl
 .let⟨a,ns,rfl,hS,hlen,fin⟩:=h
  let nd:=kD.nd
  refine⟨_,lB (ny (i:=1) nd Y (ZN Y) (nE yZ (by rfl) h1 PyProof.Rows.boot_list (gn (yO fQ (jv 0) Ei (vN jG)) aE)))
   (lB (yx q1T Y (EU (by rfl) h2 (gn (yO fQ (jv 0) (vN jG) (vN jG)) aE)) (yq Y (sy (sv (i:=2) nd Y (ZN Y)) (sy (sv (i:=3) nd Y (ZN Y)) fP)))
    (kI (yr (oQ D4 (sX sZ (jv 1) (oQ yB (jv 2) jG) (λ_ _=>Y)) (jv 3)) (DZ (jv 1) (oQ yB (jv 2) jG) set_list))))
   (kI (qB (jK (gn (jv 1) (gn jG (gn jG aE))))))),?_⟩
  calc⟨_,Y,_,Y,a,_,Y,hS,λl1 n1=>⟨l1,_,Y,.inl (aX.of aY),λc nc=>?_⟩⟩;let s1:ar H (upd (upd H l1 (.lst (cq (ns.map V.int) η (U 12)))) c (.lst (cq (ns.map V.int) η (U 12)))):=(kU n1).trans (kU nc);calc⟨_,Y,_,Y,_,Y,a,_,Y,s1.seq hS,λl2 n2=>⟨l2,Y,⟨_,aX.of aY⟩,?_⟩⟩;let UP:H c=η:=(kU n1).free nc;let UQ:=n2
  let hcc:∃ms:-Int,↑ms=min 12 ns.length/\cq (ns.map V.int) η (U 12)=ms.map V.int:=by
   calc⟨_,?_,AS ns η (U 12)⟩;rw[Xi,XO];let e1:HT.aP ns.length 0 η=0:=HT.yN _ _;let e2:HT.aP ns.length ns.length (U 12)=min 12 ns.length:=HT.nJ ns.length ns.length 12;rw[e1,e2];symm
  let AO:↑(cq (ns.map V.int) (U 12) (U 63))=ns.length-12:=by
   rw[AS,qJ,Xi,XO];let e1:HT.aP ns.length 0 (U 12)=min 12 ns.length:=HT.nJ ns.length 0 12;let e2:HT.aP ns.length ns.length (U 63)=min 63 ns.length:=HT.nJ ns.length ns.length 63;rw[e1,e2];symm
  let JH:∀i x,(cq (ns.map V.int) (U 12) (U 63))[i]?=U x->∃n:Int,x=V.int n:=λi x e=>by
   rw[AS,W5] at e
   cases q:((ns.drop (HT.aP ns.length 0 (U 12))).take (HT.aP ns.length ns.length (U 63)-HT.aP ns.length 0 (U 12)))[i]? with
   |none=>rw[q] at e;cases e
   |some n=>rw[q] at e;exact⟨n,(Xt e).symm⟩
  generalize cq (ns.map V.int) (U 12) (U 63)=rest at AO JH n2 ⊢;let⟨ms,UR,US⟩:=hcc
  refine Fc (K:=Z.K) (a:=l2) (xs:=rest) (λi σ H2=>∃(ks:-Int)(v1 v2:Option V),σ=[U (.ref a),U (.ref c),v1,v2]/\H2 c=U (.lst (ks.map V.int))/\↑ks=min 12 ns.length/\H2 l2=U (.lst rest)/\ar H H2)
   ⟨ms,η,η,Y,?_,UR,aY,?_⟩ (λi σ H2 _ ⟨_,_,_,_,_,_,q,_⟩↦aX.of q) ?_ ?_
  .rw[aC (bD aY n2),aY,US]
  .exact s1.trans (kU n2)
  .ext i x T σ H2 hi ⟨ks,v1,v2,rfl,hc,hk,qI,sm⟩ hT
   let⟨n,rfl⟩:=JH i x hi;let pO:i<↑rest:=(ph.mp hi).1;let UT:↑ks=12:=by symm
   let cT:c≠T:=bD hc hT;let ni:upd H2 T (.tup [.int i,.int n]) c=U (.lst (ks.map V.int)):=by rw[aC cT];exact hc
   let j0:0<=((i:Int))%12:=YA _ (by decide);let j1:((i:Int))%12<12:=Yc _ (by decide);let⟨m,em⟩:=Qk (ns:=ks) j0 ⋯
   let ix:iK ↑(ks.map V.int) ((i:Int)%12)=U ((i:Int)%12).toNat:=by
    unfold iK;rw[Xa j0,Xa (by rw[qJ];symm)]
   calc⟨T,_,Y,bo.of aY,Y,_,_,Y,_,_,Y,Y,?_⟩;calc⟨_,Y,_,Y,_,_,Y,Y,(show(0:Int)<12 by decide),_,_,_,_,Y,Y,aX.of ni,em,_,Y,_,_,Y,Y,_,Y,_,Y,_,_,Y,Y,(show(0:Int)<12 by decide),_,_,_,_,Y,Y,ni,ix,?_⟩;refine⟨ks.set ((i:Int)%12).toNat (m+n),_,_,Y,?_,by rw[Yn];calc hk,?_,?_⟩
   .rw[aY,List.map_set]
   .let UU:l2≠c:=by
     ext z;subst z;exact absurd UQ (by rw[aY];ext y;cases y)
    rw[aC UU,aC (bD qI hT)];exact qI
   .ext b o e
    rw[aC (bD e UP)];exact kU hT b o (sm b o e)
  .ext σ H2 ⟨ks,v1,v2,rfl,hc,hk,qI,sm⟩
   calc⟨_,Y,(by show 3<=sizeLine;decide),λp np=>?_⟩;let UW:H p=η:=sm.free np;calc fin p c _ (sm.trans (kU np)) UW ⟨aY,⟨ks,by rw[aC (bD hc np)];calc hc,⋯⟩,Int.le_refl 0⟩
noncomputable abbrev rR:o:=top 50
theorem UX{f qq:O}{fd mY:FuncData}(F:gb Z.K "law" "law" rR f fd)(B:BT Z.mg)(GO:Fn Z.P Z.w Z.K Z.mg Z.base 1 "_law_open" ["script"] (Hj Z.K) qq mY)(WV:Jd Z)(WW:IZ Z)(JD:UM Z)(WX:Jm Z)(WY:Ji Z)(Jz:UK Z)(WZ:Jx Z):bt Z.P Z.w Z.K Z.mg Z.base fG 21 f fd ["script"] (wX Z.K):=by
 let sc:kJ ["script", "pen", "turn", "web", "bad", "ways", "thing", "before", "due", "at"] ["script"] (cD rR):=fY (by decide +kernel);refine F.qK (k:=20) sc (λvs H Q E h=>?_) (λaT A outer s H vs Q E hr h=>?_)
 .let⟨a,ns,rfl,_⟩:=h
  rfl
 let⟨a,ns,rfl,hS,hlen,hT,fin⟩:=h;let nd:=sc.nd;let hu:=hr.units;let rest:bR (aQ fG Z.P Z.w Z.K Z.mg Z.base ["script", "pen", "turn", "web", "bad", "ways", "thing", "before", "due", "at"] "law" (cD rR) f aT A outer s H E).nv ((d7 rR).drop 1) (b8 CD):=(by ac_rfl);calc⟨_,lB (ny (i:=1) nd Y (by trivial) (qE GO.ok (hr.mono (by decide)) (by rfl) GO.pC GO.kp GO.bd .nil pk (fg (jv 0) aE))) rest,?_⟩;calc⟨_,Y,a,ns,Y,hS,hlen,λp c H1 sm hp N1=>?_⟩;let⟨F',ms,hm,S⟩:=Ql (a:=a) (n:=8) (ay.same hT sm) N1;calc Qm S (TQ ms hm) fin
end
end LJ
namespace LJ
open PySem L2 PySem.Spec PySem.W PyProof.Rows
theorem UY{l:OpenLaw}{q:ψ}{loose:-R}{XP:(R->Option J)->I->Prop}{YP:g->I->Prop}{d:DefRec}{K:Params->Frag}{kk:Nat}(hn:l.most=U 63)(tw:d.params.defaults=[])(hr:aZ kk callerA)
  (hY:∀(w:g)(h:I),YP w h->(K w.params).In h)
  (F:∀(w:g)(mg:R->Option J)(fa:O)(h:I),(K w.params).In h->h.Ns mainGlobals mg->mg d.name=U (.ref fa) →
   ∃fd:FuncData,(∀(s:L)(u:J),BindsTo s fd ⟨[u],[]⟩ [("script",u)])/\∀base:I,(K w.params).In base->base.Ns mainGlobals mg->(∀t∈([]:-oq),base.BuiltinsAt mg t.T)->bt l.prog w (K w.params) mg base fG kk fa fd ["script"] (@wX (mw []) (K w.params))) :
  WalkO q loose XP YP l.row.toRowW d [] (λf vs=>q4b f vs) :=
 L2.Ey (n:=63) (k:=kk) (x:="script") (CX:=λ_=>fG) (sp:=λw=>@wX (mw []) (K w.params)) hn (by decide) tw hr hY
  (λw mg fa h KX G lJ=>by
   let⟨fd,hb,hF⟩:=F w mg fa h KX G lJ
   calc⟨fd,hb,λbase k1 k2=>hF base k1 k2 λt ht=>nomatch ht⟩)
  (λ_ _ a ns hl _ hS=>by letI:ay:=mw [];calc⟨a,ns,Y,hS,hl,(λt ht=>nomatch ht),λ_=>Y⟩) λ_ _ _ _ _ z=>z
end LJ
namespace LJ
open PySem L2
noncomputable def xP:-oq:=[]
noncomputable def JJ:-(R×o×O):=[]
noncomputable def xQ(K:tu)(C:O):Bool :=
 (match PySem.W.clsIn K C with|some cd=>du cd.mro&&cd.hasDict|none=>ι) &&
 (YW K (.ref C) "__getattribute__" == U (U (.builtin "BaseException.__getattribute__"))) &&
 (YW K (.ref C) "__getattr__" == U Z) &&
 (YW K (.ref C) "__setattr__" == U (U (.builtin "object.__setattr__"))) &&
 (YW K (.ref C) "__class__" == U (U (.builtin "object.__class__"))) &&
 (q21 K (.builtin "object.__class__") "__get__" == U (U (.builtin "getset_descriptor.__get__"))) &&
 (q3O K (.builtin "object.__class__")==U θ)
theorem JK{K:tu}{C:O}(h:xQ K C=θ):bc K C:=by
 unfold xQ at h;erw[W9] at h;let⟨⟨⟨⟨⟨⟨h1,h2⟩,h3⟩,h4⟩,h5⟩,h6⟩,h7⟩:=h;calc⟨?_,Xc h2,Xc h3,Xc h4,Xc h5,Xc h6,Xc h7⟩;split at h1
 .rename_i cd e
  erw[W9] at h1;exact⟨cd,e,h1.1,h1.2⟩
 .cases h1
noncomputable def CW(K:tu)(L:O)(Cs:-O):Bool :=
 xQ K L&&(Xe K (.ref L) (.ref L)==U θ)&&(Xe K (.ref L) (.type "ValueError")==U θ) &&
 (Cs.zipIdx.all λz=>Xe K (.ref L) (.ref z.1)==U ι) &&
 (Cs.zipIdx.all λy=>xQ K y.1&&(YW K (.ref y.1) "place" == U Z)&&(Xe K (.ref y.1) (.ref L)==U θ)&&(Xe K (.ref y.1) (.type "ValueError")==U θ) &&
  Cs.zipIdx.all λz=>Xe K (.ref y.1) (.ref z.1)==U (S (z.2=y.2)))
theorem UZ{K:tu}{L:O}{Cs:-O}(hl:↑Cs=13)(h:CW K L Cs=θ):A3 K L Cs:=by
 unfold CW at h;erw[W9] at h;let⟨⟨⟨⟨h1,h2⟩,h3⟩,h4⟩,h5⟩:=h;let at_:∀{i:Nat}{C:O},Cs[i]?=U C->(C,i)∈Cs.zipIdx:=λ{i C} e=>List.mk_mem_zipIdx_iff_getElem?.mpr e;let each:∀(j:Nat)(C:O),Cs[j]?=U C->_:=λj C e=>XN.mp h5 (C,j) (at_ e);refine⟨hl,λj C e=>?_,⟨JK h1,Xc h2,Xc h3,λi C' e=>Xc (XN.mp h4 (C',i) (at_ e))⟩,λj C e=>?_⟩
 .let:=each j C e
  erw[W9] at this;let⟨⟨⟨⟨a,_⟩,c⟩,d⟩,f⟩:=this;exact⟨JK a,Xc c,Xc d,λi C' e'=>Xc (XN.mp f (C',i) (at_ e'))⟩
 .let:=each j C e
  erw[W9] at this;calc Xc this.1.1.1.2
noncomputable def nsOk(K:tu)(N:O)(name:R)(r:Option J):Bool:=match q3G N K with
 |some ⟨_,_,.dict es _,_⟩=>(es.all λe=>match e.key with|.str _ _=>θ|_=>ι)&&(nsFind es name==r)
 |_=>ι
theorem JL{K:tu}{N:O}{name:R}{r:Option J}(h:nsOk K N name r=θ):tR K N name r:=by
 unfold nsOk at h;split at h
 .rename_i oc od es ep sl e
  erw[W9] at h;exact⟨oc,od,es,ep,sl,e,h.1,Xc h.2⟩
 .cases h
theorem JM{K:tu}{L C N:O}{nm q:R}{bs:-J}{dW:Bool}{sn:-R}{sub:-J}{ab:Bool}{col:Option Bool}{dd:Option O}{k0 k1 k2 k3 k5:Option J}{jS:Option J}(T:bO K (.ref L::nO))
  (l:K.lookup C=U (excClassObj nm q C N bs (.ref L::nO) dW sn sub ab col dd k0 k1 k2 k3 k5 "ValueError.__new__")) (n:nsOk K N "__init__" jS=θ) (kp:XZ K (.ref C)=θ):nP K C jS :=
 ⟨⟨_,_,N,_,_,_,_,_,_,_,_,_,_,_,_,_,l,T,JL n⟩,kp⟩
noncomputable abbrev dp(x:R)(s:o):R×o:=(x,s)
noncomputable def JN:-(R×o):=[dp "is_whole" IB,dp "is_within" ID,dp "is_tuple_of" IE,dp "are_ends" IF,dp "is_way" IH,dp "are_ways" IJ,dp "is_web" IL,dp "need_web" CK,dp "need_ways" CL,dp "joined" IS,dp "firsts_of" IU,dp "lots_of" xJ,dp "weight_of" Jq,dp "_law_spread" IW,dp "_law_open" xO,dp "_law_anew" IY,dp "_law_take" I0,dp "_law_is_whole" I_,dp "_law_same" CS,dp "_law_pairs_of" Ja,dp "_law_web" Jc,dp "_law_is_in" Je,dp "_law_is_web" Jf,dp "_law_ways_due" Jh,dp "_law_bent" CU,dp "_law_some_ways" Jj,dp "_law_refusal" Js,dp "_law_told" Jw,dp "_law_odd_ways" Jl,dp "law" rR]
theorem U0{l:q3R}{w:g}{K:tu}{h:I}{mg:R->Option J}{fa:O}{L N0 c0 c1 c2 c3 c4 c5 c6 c7 c8 c9 ja jc jd:O}{U1 U2:R}{U3:-J}{U4:Bool}{U5:-R}{CY:-J}{U6:Bool}{CZ:Option Bool}{U7:Option O}{U8 U9 U_ Va Vb:Option J}{M0:O}{C0 C1:R}{C2:-J}{C3:Bool}{C4:-R}{vv:-J}{C5:Bool}{vw:Option Bool}{C6:Option O}{C7 C8 C9 C_ Dc:Option J}{rS:O}{Vc Vd:Option O}{AL:Array (Option J)}{Ve Vf Vg Vh JO Vi:J}{M4:O}{De Df:R}{Dg:-J}{Dh:Bool}{Di:-R}{vx:-J}{Dj:Bool}{vy:Option Bool}{Dl:Option O}{Dm Dn Dp Dq Dr:Option J}(X:K.In h)(G:h.Ns mainGlobals mg)(Vj:mg "law" = U (.ref fa))(DS:fZ K JN)(LS:g9 K JJ)(N:∀x∈AW,XA K mainGlobals x=U η)(f7:Ck K "MOST_HOUSES" 12)(hW:Ck K "MOST_WAYS" 30)(gH:Ck K "MOST_PRICE" 1000000000)(aL:XA K mainGlobals "LotError" = U (U (.ref L)))(lL:K.lookup L=U (excClassObj U1 U2 L N0 U3 (nO) U4 U5 CY U6 CZ U7 U8 U9 U_ Va Vb "ValueError.__new__"))(nL:nsOk K N0 "__init__" η=θ)(aC0:XA K mainGlobals "NoWay" = U (U (.ref c0)))(aC1:XA K mainGlobals "NoJoin" = U (U (.ref c1)))(aC2:XA K mainGlobals "NoStep" = U (U (.ref c2)))(aC3:XA K mainGlobals "NoHouse" = U (U (.ref c3)))(aC4:XA K mainGlobals "NoWeb" = U (U (.ref c4)))(aC5:XA K mainGlobals "NoPrice" = U (U (.ref c5)))(aC6:XA K mainGlobals "TooMany" = U (U (.ref c6)))(aC7:XA K mainGlobals "Closed" = U (U (.ref c7)))(aC8:XA K mainGlobals "Free" = U (U (.ref c8)))(aC9:XA K mainGlobals "Nothing" = U (U (.ref c9)))(aC10:XA K mainGlobals "NoNumber" = U (U (.ref ja)))(aC11:XA K mainGlobals "NoText" = U (U (.ref jc)))(aC12:XA K mainGlobals "NoLine" = U (U (.ref jd)))(kit:CW K L [c0,c1,c2,c3,c4,c5,c6,c7,c8,c9,ja,jc,jd]=θ)(exm:([c0,c1,c2,c3,c4,c5,c6,c7,c8,c9,ja,jc,jd].all λc=>q0v K (.ref c) (.ref L)==U θ)=θ)(zVE:XA K mainGlobals "ValueError" = U η)(aI0:YW K (.ref c0) "__init__" = U (U (.ref rS)))(lI0:K.lookup rS=U ⟨Ve,Vc,.func (YL "__init__" "NoWay.__init__" (kN vq) (d7 vq) (cD vq) .none Vf Vg Vh Vd JO Vi),AL⟩)(qI0:q0n K JO "NoWay.__init__" = θ)(kI0:XZ K (.ref rS)=θ)(iI0:q3d K (.ref rS)=θ)(lC0:K.lookup c0=U (excClassObj C0 C1 c0 M0 C2 (.ref L::nO) C3 C4 vv C5 vw C6 C7 C8 C9 C_ Dc "ValueError.__new__"))(nC0:nsOk K M0 "__init__" (U (.ref rS))=θ)(kC0:XZ K (.ref c0)=θ)(lC4:K.lookup c4=U (excClassObj De Df c4 M4 Dg (.ref L::nO) Dh Di vx Dj vy Dl Dm Dn Dp Dq Dr "ValueError.__new__"))(nC4:nsOk K M4 "__init__" η=θ)(kC4:XZ K (.ref c4)=θ)
  : ∃fd:FuncData,(∀(s:ο)(v:J),BindsTo s fd ⟨[v],[]⟩ [("script",v)])/\∀base:I,K.In base->base.Ns mainGlobals mg->(∀t∈xP,base.BuiltinsAt mg t.T)->bt l.prog w K mg base fG 21 fa fd ["script"] (@wX (mw xP) K):=by
 let⟨f,fd,a,F⟩:=DS.at (x:="law") (st:=rR) 29 Y;cases Vj.symm.trans (XB X G a)
 letI:ay:=mw xP;let B:=QA X G N;calc⟨fd,λs v=>by let⟨_,_,_,_,_,_,_,_,_,rfl,_⟩:=F.ex;calc .of_eq Y,λbase KB _ hB=>?_⟩;let D:∀(i:Nat){x:R}{st:o},JN[i]?=U (x,st)->Dx ⟨l.prog,w,K,mg,base⟩ x st:=λi _ _ e=>(DS.at i e).v X G;let M:∀(i:Nat){x:R}{st:o}{T:O}{lp:y}{q:R},JJ[i]?=U (x,st,T)->xP[i]?=U ⟨T,lp,q⟩->Hl ⟨l.prog,w,K,mg,base⟩ x st T lp q:=λi _ _ _ _ _ e e2=>(LS.at i e).v X G KB hB (by decide) (by decide) (Xu e2);let W:A3 K L [c0,c1,c2,c3,c4,c5,c6,c7,c8,c9,ja,jc,jd]:=UZ Y kit
 let T:A4 mg L [c0,c1,c2,c3,c4,c5,c6,c7,c8,c9,ja,jc,jd]:=by
  calc⟨B.isinstance,q2S X G zVE,XB X G aL,λj x hx=>?_⟩;unfold names13 at hx;rcases j with _|_|_|_|_|_|_|_|_|_|_|_|_|j<;>simp at hx<;>subst hx
  .exact⟨_,Y,XB X G aC0⟩
  .exact⟨_,Y,XB X G aC1⟩
  .exact⟨_,Y,XB X G aC2⟩
  .exact⟨_,Y,XB X G aC3⟩
  .exact⟨_,Y,XB X G aC4⟩
  .exact⟨_,Y,XB X G aC5⟩
  .exact⟨_,Y,XB X G aC6⟩
  .exact⟨_,Y,XB X G aC7⟩
  .exact⟨_,Y,XB X G aC8⟩
  .exact⟨_,Y,XB X G aC9⟩
  .exact⟨_,Y,XB X G aC10⟩
  .exact⟨_,Y,XB X G aC11⟩
  .exact⟨_,Y,XB X G aC12⟩
 let TL:bO K (.ref L::nO):=.own lL (JL nL) .base;let hX:∀(c:Nat)(C:O),([c0,c1,c2,c3,c4,c5,c6,c7,c8,c9,ja,jc,jd]:-O)[c]?=U C->c<13/\q0v K (.ref C) (.ref L)=U θ:=λc C e=>⟨(ph.mp e).1,Xc (XN.mp exm C (Xu e))⟩;let JP:=ED (st:=vq) lI0 qI0 kI0;let qr:EI ⟨l.prog,w,K,mg,base⟩ [c0,c1,c2,c3,c4,c5,c6,c7,c8,c9,ja,jc,jd] 0 "NoWay" := ⟨by decide,c0,Y,XB X G aC0,rS,_,JM TL lC0 nC0 kC0,iI0,UB JP (W.each 0 c0 Y).1 (W.iF 0 c0 Y),JP.binds (ps:=["self", "place"]) λ_ _ _ _ _ _ us hl=>by let⟨_,_,rfl⟩:=AU hl;rfl⟩;let qt:ET ⟨l.prog,w,K,mg,base⟩ [c0,c1,c2,c3,c4,c5,c6,c7,c8,c9,ja,jc,jd] 4 "NoWeb" := ⟨by decide,c4,Y,JM TL lC4 nC4 kC4,XB X G aC4⟩
 let Vk:=T2 (D 0 Y) B;let vz:=T3 (D 1 Y) B Vk;let JQ:=T5 (D 2 Y) B;let Vl:=T6 (D 3 Y) B vz;let Vm:=T7 (D 4 Y) B (gH.v X G) JQ Vl vz;let Vn:=T9 (D 5 Y) B (hW.v X G) Vm;let JR:=T_ (D 6 Y) B (f7.v X G) JQ vz Vn;let Vo:=Ux (Cs:=[c0,c1,c2,c3,c4,c5,c6,c7,c8,c9,ja,jc,jd]) (D 7 Y) B qt JR;let Vp:=Ub (D 7 Y) B JR;let Ds:=Uy (Cs:=[c0,c1,c2,c3,c4,c5,c6,c7,c8,c9,ja,jc,jd]) (D 8 Y) B qr vz Vo;let Vq:=Uc (D 8 Y) B Vp vz;let Vr:=Ud (D 9 Y) B;let Vs:=Ue (D 10 Y) B Vr;let Vt:=Uu (D 11 Y) B Vq Vs;let Vu:=Uz (Cs:=[c0,c1,c2,c3,c4,c5,c6,c7,c8,c9,ja,jc,jd]) (D 11 Y) B Ds
 let Vv:=UA (Cs:=[c0,c1,c2,c3,c4,c5,c6,c7,c8,c9,ja,jc,jd]) (D 12 Y) B Ds;let Vw:=Ug (D 13 Y) B;let Vx:=Uh (D 15 Y) B;let vA:=Ui (D 16 Y) B Vw;let JU:=Uj (D 17 Y) B;let Vy:=UL (D 18 Y) B 1;let Vz:=Uk (D 19 Y) B vA;let VA:=Ul (D 20 Y) B vA Vz;let JV:=Um (D 21 Y) B JU;let VB:=Uo (D 22 Y) B JV;let VC:=Ur (D 23 Y) B VB JV;let VD:=UN (D 24 Y) B vA JU 3;let VF:=Us (D 25 Y) B vA;let⟨fR,CQ,aR,FR⟩:=D 26 (x:="_law_refusal") (st:=Js) Y;let GR:Fn l.prog w K mg base 1 "_law_refusal" ["caught"] (kc [c0,c1,c2,c3,c4,c5,c6,c7,c8,c9,ja,jc,jd]) fR CQ:=⟨UE (Z:=⟨l.prog,w,K,mg,base⟩) FR T W,aR,FR.kp,FR.binds mx⟩
 let VG:=UG (D 27 Y) B GR (XB X G aL) hX Vt Ds Vu Vv;let VH:=Ut (D 28 Y) B VF vA;let⟨fo,W0,ao,Fo⟩:=D 14 (x:="_law_open") (st:=xO) Y;calc UX (Z:=⟨l.prog,w,K,mg,base⟩) F B ⟨UO Fo B.list B.enumerate,ao,Fo.kp,Fo.binds mx⟩ VA Vx VD VH VC Vy VG
end LJ
open PySem PySem.W PyProof.Rows
end
open LJ L2
inductive PySem.W.Fast:Prop|tw207569323263113287|tw13294512349170020979|tw944963520255725099|tw9546409344492535313|tw5492778373270160911|tw10743052856340183182|tw13970160822416735088|tw12394778688833824806|tw6673043148195575461|tw9348970245275511765|tw7756014698733615561|tw9813709828709106308|tw14086116935459006492|tw17041596775639260844|tw3429879480818755574|tw12998101629510763843|tw10888160651239615497|tw11820984065055642363|tw264496432807280057|tw9078223273895181521|tw7805855021374952716|tw14587605136943324227|tw1194829341284483304|tw17163850500485846384|tw1359390501164993152|tw8006545836425484635|tw12098868892784138314|tw15931090215571747475|tw2842486958856022799|tw14051895384200605049|tw5895832710286378607|tw12375943983869693916|tw15669122624133338142|tw12136616748067139514|tw5825585265638219553|tw2225682779178421513|tw5486285732547109752|tw11202245364386439052|tw8388581728459022865|tw14207290095983545123|tw11175229046255032808|tw17041013488584471052|tw18289724011280574046|tw7013058018931957167|tw16739942115050445803|tw15890955448723838186|tw8293789167371938358|tw4577555123149025260|tw11791106328925589265|tw3910258706843711074|tw4612387791208470474|tw15931743251802530322|tw7885835995078868623|tw4622131972293237828|tw5820182434701811841|tw13498273385174297090|tw7789131738000542991|tw8076015841663693945|tw6882597619275659669|tw3730526466642823403|tw1655011878647252239|tw11335431584886713930|tw11422911687588678836|tw7142010718334220636|tw3741400213319275360|tw18065364768425713153|tw8188552035156167624|tw1859737977856604285|tw11854419412058670478|tw15311118226628940203|tw15589107931812162906|tw2490761234945847934|tw3653882105899750846|tw17649528772813402210|tw14092402547849333151|tw11737234073504399021|tw9372489841812477094|tw15649494328607306335|tw12094503055443749872|tw6357730857355802698|tw13787540986502204599|tw513245871157069431|tw15725235606126433678|tw13065017028856941039|tw12929649246196249342|tw12608787166353134271|tw17332018198688401143|tw2982073881397711025|tw12510668356521989401|tw3069945991638078777|tw10909211193226759879|tw6559175953610582552|tw16342766099306200806|tw5225001771504805253|tw2530179107185784908|tw13513411693740729489|tw10519218283645732340|tw15743579230006910985|tw402190470724197270|tw15131795778774490306|tw6769385908144914519|tw7875717754372700974|tw14860179521157856775|tw18314726015544055931|tw13899189076204723111|tw10513304645641609174|tw11201898261488919071|tw12287220125197502637|tw7165482881358899975|tw8827683753859585059|tw9956170064789794833|tw2095285486123895347|tw5754721243545165923|tw13365419686561211919|tw3922840606657219334|tw3356884869730830022|tw499800064377399279|tw12870329010018511434|tw13557032704583586463|tw5732967450737457165|tw5230498563840432576|tw10065306898266733725|tw8497159575981399920|tw8359001210655423393|tw11080265299738886974|tw15551375948274297569|tw4037972741223136279|tw11444218083994640946|tw9830083307793042986|tw14071350728059760136|tw7814448640871590335|tw17016127766107776037|tw2537816389003033836|tw16125167363513555089|tw657803997422405375|tw229522154502904963|tw18093219941133438384|tw4705470055294425113|tw3055346927154976565|tw2375742219635505758|tw4388433656511153817|tw7377978526969794216|tw14270832405854917832|tw13262220004605210168|tw11511080456441302917|tw14984061379851019648|tw65867935288870971|tw17758248390015568394|tw6341743901147644403|tw11465159507730200012|tw3372486645874160502|tw3626532830950463786|tw4064069728039743276|tw14159951578317193137|tw7744667842061592771|tw13849327220835435991|tw9556808525485491835|tw11910885848485353726|tw7884342594668189418|tw15202771883010713758|tw7606327246957898963|tw17140015591313949611|tw3951818183281395503|tw5710439744723397975|tw10397506261821011183|tw1436080076285892422|tw13971768516413133358|tw2002138600476069680|tw14210918552515245285|tw11957792519356052850|tw15488429961030357792|tw6695808886375160767|tw14792995671301721543|tw15405828480485548266|tw11723799283545666926|tw17566129119950140067|tw1894095621112592778|tw5805773518405478528|tw909349412010211933|tw6108660055174520763|tw18000166217549825392|tw4315677283092437639|tw13023938164224024496|tw10963011619351718571|tw6363677326726080542|tw4093315755192391668|tw7981072899560231577|tw17785301699417220975|tw3196412846593697175|tw1637903444954042450|tw8887467728927856748|tw7564839965749093016|tw17731950782569389547|tw12479045534309902455|tw1479507539551484632|tw10313411031507574138|tw9642406005313306223|tw4995959217149093683|tw9995684861257524727|tw16550149742461967929|tw11373587142074928344|tw6664650067791727861|tw2048946852245760661|tw6420131938922559655|tw9909818680508379727|tw14148430403382873198|tw16401840764757210545|tw9543175759259033719|tw15978253815875370637|tw4637574739222720417|tw11300733113359083478|tw17475546269457307647|tw646630571473250322|tw17104617942753489101|tw16624173116737213696|tw4958422705350150628|tw5311222543965335315|tw13306477880827169420|tw3862002720127586125|tw17026290961232093604|tw11287980931405222736|tw713347177820800289|tw15386927294435991180|tw3090932431028221767|tw13492355485681526366|tw13133647810243992085|tw15874101784256425563|tw3800102217367515131|tw2272492762926899718|tw18108146436368293300|tw897030573669784140|tw13806871080277700092|tw16500025566093555052|tw5960209772820392922|tw7082203330650637112|tw9394667384199446238|tw6965781819621444851|tw7347857568671123755|tw6605802411216795141|tw16487131670337274813|tw944299332116791024|tw11185406702376738796|tw5088626605248635933|tw924700986406369571|tw8305824113433903995|tw16072098742194615325|tw2978356719212364467|tw2718394579354918218|tw12029499001462020272|tw5895942691876153777|tw10692995386850526998|tw12812983794828752195|tw10402072689056965469|tw10691662406687903991|tw3415459518413167349|tw342283621189510265|tw15723862008722202333|tw8081473952646707893|tw1675080108902835098|tw4491656684694180881|tw1006309255097656893|tw17218558941110853639|tw1549650891573775679|tw11416862591470548186|tw2000204094947169307|tw12199358711789214983|tw15320824432771150259|tw4515443710775126627|tw6812126384756451443|tw12789931159104889065
set_option maxRecDepth 100000 in
set_option maxHeartbeats 0 in
theorem PySem.Challenge.cw_lotjoin_k04_lists_of_ways_refused_holds : PySem.Challenge.rw_lotjoin_k04_lists_of_ways_refused.Holds := by
 w_on;o_law;k_head;(case hw=>w_witness2)
 k_fill
 refine LJ.UY (l:=PySem.Challenge.rw_lotjoin_k04_lists_of_ways_refused) (kk:=21) rfl rfl ⟨rfl,by decide,by decide,rfl⟩ (λw h Y=>PySem.W.kIn_of Y) ?F
 case F =>
  intro w mg fa h KX G lJ;refine' LJ.U0 KX G lJ ?dD ?dL ?dN ⟨_,by k_is,_,rfl⟩ ⟨_,by k_is,_,rfl⟩ ⟨_,by k_is,_,rfl⟩ ?aL ?lL ?nL ?aC0 ?aC1 ?aC2 ?aC3 ?aC4 ?aC5 ?aC6 ?aC7 ?aC8 ?aC9 ?aC10 ?aC11 ?aC12 ?kit ?exm ?zVE ?aI0 ?lI0 ?qI0 ?kI0 ?iI0 ?lC0 ?nC0 ?kC0 ?lC4 ?nC4 ?kC4
  (case dD=>repeat' first|exact LJ.fZ.nil|refine LJ.AV (by k_is) (by k_is) (by k_is) (by k_is) ?_)
  (case dL=>repeat' first|exact LJ.g9.nil|refine LJ.VI (by k_is) (by k_is) (by k_is) (by k_is) (by kernel_rfl) ?_)
  (case dN=>repeat' first|exact List.forall_mem_nil _|refine LJ.Qy (by k_is) ?_)
  (case aL=>k_is)
  (case aC0=>k_is)
  (case aC1=>k_is)
  (case aC2=>k_is)
  (case aC3=>k_is)
  (case aC4=>k_is)
  (case aC5=>k_is)
  (case aC6=>k_is)
  (case aC7=>k_is)
  (case aC8=>k_is)
  (case aC9=>k_is)
  (case aC10=>k_is)
  (case aC11=>k_is)
  (case aC12=>k_is)
  (case lL=>k_is)
  (case nL=>kernel_rfl)
  (case kit=>kernel_rfl)
  (case exm=>kernel_rfl)
  (case zVE=>k_is)
  (case aI0=>k_is)
  (case lI0=>k_is)
  (case qI0=>k_is)
  (case kI0=>k_is)
  (case iI0=>k_is)
  (case lC0=>k_is)
  (case nC0=>kernel_rfl)
  (case kC0=>k_is)
  (case lC4=>k_is)
  (case nC4=>kernel_rfl)
  (case kC4=>k_is)
