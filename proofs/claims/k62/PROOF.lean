import PyProof.Rows.All
import Wide.All
import OpenK.AllK
import Wide.FinOn
import Lean
import PyProof.Rows.SetFrom
import PyProof.TupleKey
import PyProof.SetRoads
import PySem.SetOps
import PyProof.EqAt
import PyProof.EqKinds
import PyProof.TupleCall
import KE.KDictList
import KE.KDictLaws
import PyProof.NeKinds
import PyProof.Draws
import KE.KSortTup
import KE.KLam
import PyProof.ListRange
import PyProof.TupleOfSeq
import KE.KNestM
import PyProof.MinMaxWalk
import PyProof.ReprRoads
import PyProof.CallFns
import PyProof.FitsInt
import PyProof.Conv_int_bool
import KE.KMinKey
import PySem.Challenge.RW_lotjoin_k62_two_keepers_by_turns
set_option bootstrap.genMatcherCode false
open List renaming append_nil->mL,getElem?_eq_getElem->pU,length_map->pV,getElem?_eq_some_iff->qW,size_toArray->Ef,length_cons->Eg,length_append->Eh,getElem?_append_left->Mc,getElem?_append_right->Mf,getD_eq_getElem?_getD->Mg,getElem?_map->My,replicate->Ul,mem_cons->Um,mem_iff_getElem?->Ur,mem_cons_of_mem->Us,mem_cons_self->Vc,map_cons->Ve,not_mem_nil->Vf,mem_append_right->Vg,mem_map->Vh,lookup_cons->Vi,length_take->Vn,range->Vp,map_append->Vq,getElem?_take_of_lt->Vr,mem_append->Vs,mem_singleton->Vu,map_map->Vv,mem_of_getElem?->Vw,length_singleton->VA,length_range->VG,getElem?_set_ne->VI,getElem?_set_self->VN,take_of_length_le->VO,mem_range->VP,length_set->VS,toArray->VZ,replicate_succ->V_,set_cons_zero->Wi,set_cons_succ->Wj,all_eq_true->Wk,mem_append_left->Wl,drop_eq_getElem_cons->Wu,length_drop->Ww,getElem_mem->Wx,any_eq_false->WJ,mem_map_of_mem->WQ,getElem_map->WU,pairwise_cons->WY,getElem?_eq_none->W6,mem_filter->W8,length_nil->W9,map_nil->Xc,flatten_cons->Xd,append_assoc->Xe,pairwise_map->Xf,any_cons->Xj,getElem?_range->Xk,map_congr_left->Xm,length_eq_zero_iff->Xs,lookup->Xv,nodup_cons->XA,nil_append->XB,find?_cons->XC,getElem?_toArray->XF,pairwise_iff_getElem->XR,mem_filterMap->X0,getElem?_replicate->X8,getElem?_cons_succ->X_,set_eq_take_append_cons_drop->Ya,Pairwise.nil->Yg,nodup_append->Yh,take_zero->Yi,drop_of_length_le->Yj,take_succ->Yl,length_filterMap_eq_countP->Ym,eraseIdxIfInBounds_toArray->Yn,length_replicate->Yo,nodup_range->Yp,countP_cons->Yq,getElem_inj->Yr,mem_of_mem_take->Yx,filterMap_cons->YD,filter_sublist->YF,getElem?_concat_length->YH,zip_cons_cons->YQ,drop_zero->YV,mem_or_eq_of_mem_set->YY,ext_getElem?->YZ,zip_nil_left->Y3,eq_of_mem_replicate->Y5,take_length->Ze,getElem?_cons_zero->Zf,find?_some->Zt,foldl_cons->Zu,of_mem_zip->Zy,forIn_cons->Zz,contains_iff_mem->ZD,countP_eq_length->ZE,dropLast_eq_take->ZI,mem_of_mem_drop->ZN,forIn_nil->ZR,take_succ_cons->ZY,forall_mem_nil->Z0,map_take->Z9,map_drop->Z_,find?_eq_none->q0b,zip_nil_right->q0i,filter_append->q0p,getElem?_drop->q0q,take_add_one->q0M,Sublist.refl->q0P,foldl_append->q0Q,any_eq_true->q06,zipIdx_cons->q07,map_id->q1e,filter_map->q1o,zipIdx_nil->q1q,foldl->q1z,map_set->q2A,filter->q3F,Perm->q4Y,map->q5d
open Nat renaming reduceBEq->pT,le_refl->yT,lt_of_lt_of_le->Uq,ne_of_lt->U8,le_trans->Vo,sub_self->VB,zero_add->VJ,zero_le->VT,lt_succ_of_lt->Wa,lt_irrefl->Wo,le_of_ble_eq_true->Wv,le_of_lt->WB,ne_of_gt->WR,lt_succ_self->Xn,le_add_right->Xp,le_of_lt_succ->Yb,le_succ->Yy,lt_of_le_of_lt->YL,succ_ne_self->Zd,add_sub_cancel_left->Zh,le_of_eq->Zo,le_of_succ_le->q0I,lt_of_succ_le->q0J,min_self->q0N,sub_zero->q0O,ble->q0T,succ_le_succ->q00,min_eq_left->q1r,succ_add->q2b,succ_pos->q2c,mul_comm->q2d,lt_trans->q2e,succ.inj->q2B,not_lt->q4o
open PySem renaming wpAny_bind->s_,Heap.get?_push_of_some->vB,W.Frag->Ee,wpAny_pure->Md,Heap.lt_size->Me,Heap.get?_push_size->Uo,Spec->Vj,Value.ref->Vx,W.fnOf->VE,Obj.mapSeq->VF,wpAny_holding->VH,Value.none->VM,Heap.size_push->VQ,W.kitOne->VR,Heap.SameBut.update->VU,mem_of_lookup->VV,W.findIn->V0,W.keepIn->V6,W.kia_one->V8,Builtin.SmallTypes.nextOf->V9,W.emptyDict->Wc,wpAny_field->Wd,NameKind.cell->We,Builtin.SmallTypes.ownedTupleIsFree->Wf,wpAny_loadPart'->Wg,wpAny_callSpecial?_slot->Wm,F.plainAttrs_list->Wn,NameKind.free->Wq,sizeLine_eq->Ws,Around.in1_handled->Wz,W.nsIn->WC,wpAny_seqItems->WD,wpAny_truthy_bool->WH,wpAny_newObj_type->WK,wpAny_pyIter_enum->WM,W.instObj->WN,wpAny_mono->WV,F.slot_tuple_iterator_next->WX,wpAny_setField_rec->WZ,Builtin.Slice.slicePlaces->W7,wpAny_pyIter_list->W_,Str.ofString->Xb,Builtin.Tuple.tupleExact->Xh,Builtin.List.listTooLong->Xi,Builtin.Range.rangeSize->Xq,wpAny_call_entry->Xr,boot_len->Xu,F.called_set->Xw,wpAny_Call_Name_kw->Xy,wpAny_pyIter_tuple->Xz,Value.int->XD,Heap.get?_update_self->XE,SetTable->XG,Around.under_plainId->XI,Value.bool->XJ,W.codeIn->XM,Heap.SameBut->XN,Builtin.Slice.sliceAdjust->XQ,Builtin.SmallTypes.ownedTupleHandOut->XS,SetTable.layClean.free->XT,F.args_tuple_add_2->XU,F.slot_list_append->XW,F.type_list_append->XX,codeAny_builtin->XY,wpAny_passesOwn->XZ,Value.type->X1,F.entry_tuple_add->X9,wpAny_setState_of->Yc,codeAny_mono->Yd,W.cellsFrom_some->Ye,F.slot_tuple_add->Yf,W.plainGet->Ys,wpAny_standAt->Yt,W.mg_of->Yv,SetTable.probe.go->Yw,wpAny_updateSeq_pair->Yz,F.args_tuple_iterator_next_1->YA,F.slot_zip_next->YB,PassesOwn.never->YC,W.plainGet_of->YE,F.entry_tuple_iterator_next->YG,Calls.Name_function_global->YM,W.lookIn->YN,W.callWith_K->YO,Builtin.Slice.sliceApplied->YR,Builtin.Tuple.tupleItemsOf->YS,call_meets->YT,wpAny_letOwnedTupleGo_enum->YU,W.methodObj->Y1,W.hasDictIn->Y2,wpAny_onRaise->Y9,noFill_tuple_add->Zc,Obj.putSet->Zk,SeqAt.EqAt->Zl,W.isFn->Zm,Heap.get?_update_other->Zq,Calls.callWith_builtin->Zr,wpAny_rule->Zs,wpAny_execs_nil->Zw,W.takerIn->Zx,SeqAt.EqAt.same->ZA,wpAny_isTrue_Compare1->ZF,W.methodCall_KW->ZH,F.slot_list_pop->ZJ,F.type_list_pop->ZK,Around.frames_deeper->ZQ,wpAny_letGo->ZS,Value.str->ZU,call_enumerate_list->ZX,W.codeHd_of_K->ZZ,SetTable.fill->Z2,Paired.length->Z3,rangeSize_one->Z4,seq_tuple_add->Z5,wpAny_attempt->q0a,wpAny_call->q0d,Walks.list->q0e,SeqAt.EqAt.int_str->q0f,SeqAt.EqAt.str_int->q0g,SeqAt.EqAt.int_int->q0h,call->q0k,tupleKind_room_in1->q0m,Obj.data_mapFields->q0n,SeqAt.EqAt.of_refs->q0o,wpAny_storeSet_of->q0t,Value.isInt_shape->q0u,Within->q0v,wpAny_assign_Name->q0w,W.plainOver->q0x,W.kitx_list->q0y,W.kitx_dict->q0z,Around.under->q0A,Code.isFrame->q0B,concat_meets->q0C,wpAny_sequenceKey->q0D,wpAny_typeOf->q0E,seqIndex_neg->q0F,slot_list_getitem->q0G,F.plain_list_iadd->q0R,F.args_zip_next_1->q0S,wpAny_forIn_list->q0V,wpAny_eqBool_int->q0W,wpAny_execs_cons->q0X,W.handedIn->q0Y,F.entry_list_pop->q01,F.entry_zip_next->q08,wpAny_pyIter_zip->q09,W.codeHdIn->q0_,Value.float->q1a,seqIndex_of->q1c,Shared.heap->q1d,wpAny_specialOf->q1g,W.makesIn->q1i,F.slot_int_rmul->q1k,pushCells_keeps->q1l,W.OpenLaw->q1p,SetTable.grown->q1u,wpAny_runValue->q1v,wpAny_Name->q1w,typeIs_int->q1y,fitsIndex_both->q1B,wpAny_setField->q1D,SeqAt.RcAt->q1E,wpAny_newTuple->q1H,W.CodeHd->q1J,SetTable.fits->q1M,plainId_quiet->q1N,Value.isStrOf->q1O,intBits_le_64->q1P,evalPart_none->q1S,call_list_seq->q1U,wpAny_newList->q1Y,putSet_of->q12,small_one->q13,preSum->q2l,Fin->q4Z,Sem->q41
open Option renaming map_eq_some_iff->Va,some.inj->Vm,isSome_iff_exists->Y7,getD_none->Za,isSome->Z1,isSome_some->q0l,isSome_map->q0K,getD_some->q05,map_some->q1f,none->q3b
open Array renaming length_toList->Vb,getElem?_toList->Vz,getD_eq_getD_getElem?->VX,getElem?_eq_getElem->Wt,getElem?_eq_some_iff->XH,toList_setIfInBounds->YJ,forIn_toList->YK,perm_iff_toList_perm->YW,getElem_mem_toList->Y4,toList_replicate->Zi,toList_filterMap->Zj,size_push->Zv,size_map->ZO,size_extract->q0c,size_append->q0s,Perm.refl->q1n,toList->q2g,getD->q4w
open Bool renaming false_ne_true->Vl,and_eq_true->Vy,false_eq_true->VL,not_eq_true'->Yk,not_true->Y6,false_and->ZP,and_true->Z7,not_eq_true->q04,and_false->q1A,false_bne->q1I,or_false->q1T,and_self->q1X,true_or->q2k
open Int renaming toNat_natCast->Vt,emod_lt_of_pos->VC,emod_nonneg->V7,cast_ofNat_Int->W5,eq_ofNat_of_zero_le->Xt,ofNat_zero->YX,toNat->Zg,ofNat.inj->Z6,zero_add->q0L,ofNat->q03,mul_one->q1b,natCast_add->q1s
open PyProof renaming Rows.slot_tuple_getitem->VD,Rows.callWith_type1->VY,Rows.F.plain_set_update_loop->X7,Rows.listUpdate_at->Y8,Rows.F.entry_set_update_loop->Zb,Rows.subscriptTail_builtinR->Zp,Rows.get?_update_seq->ZC,Rows.lt_int->ZV,Rows.entry_tuple_getitem->ZW,Rows.args_tuple_getitem->q0j
open False renaming elim->VW
open ForInStep renaming yield->Wh
open LawfulBEq renaming eq_of_beq->Wr
open True renaming intro->Xg
open Ne renaming symm->Xx
open Classical renaming byContradiction->XO,choose_spec->q23,choose->q40
open Sum renaming inl->Y0,inr->ZT,inl.inj->q25
open Or renaming inl->ZL,inr->ZM
open Function renaming comp->Z8
open Prod renaming fst->q3d
set_option Elab.async false
set_option linter.all false
set_option maxRecDepth 100000
abbrev bw:=PySem.Value->PySem.Shared->Prop
local macro_rules | `(tactic| trivial) => `(tactic| first|exact ZL rfl|exact ZM rfl)
abbrev U9:=@if_neg
abbrev U_:=@if_pos
abbrev Vd:=@decide_eq_false
abbrev Vk:=@decide_eq_true
abbrev Wb:=@of_decide_eq_true
abbrev WL:=@decide_eq_true_eq
abbrev Xa:=@or_false
abbrev Xl:=@beq_eq_false_iff_ne
abbrev Xo:=@if_false
abbrev Yu:=@if_true
abbrev Y_:=@not_not_intro
abbrev Zn:=@beq_iff_eq
theorem el7{α β γ ε:Type}{A B C:α→β→γ→ε→Prop}{R:Prop}(h:∃F ad δ K, A F ad δ K∧B F ad δ K∧C F ad δ K)(k:∀F ad δ K, A F ad δ K→B F ad δ K→C F ad δ K→R): R:=h.elim λF h=>h.elim λa h=>h.elim λd h=>h.elim λK h=>k F a d K h.1 h.2.1 h.2.2
theorem el5{α β:Type}{A B C:α→β→Prop}{R:Prop}(h:∃F ad, A F ad∧B F ad∧C F ad)(k:∀F ad, A F ad→B F ad→C F ad→R): R:=h.elim λF h=>h.elim λa h=>k F a h.1 h.2.1 h.2.2
theorem el3{α:Type}{A B:α→Prop}{R:Prop}(h:∃F, A F∧B F)(k:∀F, A F→B F→R): R:=h.elim λF h=>k F h.1 h.2
set_option compiler.extract_closed false
local macro_rules | `(tactic| symm) => `(tactic| first|lia|omega (config:={}))
local macro_rules | `(⋯) => `(by symm)
abbrev nr:=PySem.Value->PySem.Shared->Prop
open Option renaming some->U,some->ζ,none->Z,none->η
open Bool renaming true->θ,false->ι
open Decidable renaming decide->E,decide->μ
open PySem renaming Value->L,Value->ν,Addr->O,Addr->ξ,Shared->B,Shared->ο,Str->J,Str->π,wpAny->G,wpAny->ρ,model->S,model->ς,Expr->M,Expr->υ,Stmt->R,Stmt->χ,Program->l,Program->ψ,World->g,World->ω,Heap->I,Heap->Α,Around->q,Around->Β,Obj->Q,Obj->Γ,Scope->o,Scope->Δ,Pos->y,Pos->Ε,Env->t,Env->Ζ
theorem Y{α:Sort u}{a:α}:a=a:=rfl
section
open Lean in
def qzp(s:Syntax):Syntax:=
 let n:=λs a=>mkNode (`Lean.Parser.Tactic++s) a
 s.rewriteBottomUp λs=>if s.isIdent then n `rcasesPat.one #[s] else if s.isOfKind `Lean.Parser.Term.hole then n `rcasesPat.ignore #[mkAtom "_"] else if s.isOfKind `Lean.Parser.Term.anonymousCtor then n `rcasesPat.tuple #[mkAtom "⟨",mkNullNode (s[1].getArgs.map λx=>if x.isAtom then x else n `rcasesPatLo #[n `rcasesPatMed #[mkNullNode #[x]],mkNullNode]),mkAtom "⟩"] else s
open Lean in
local macro_rules
 |`(tactic|let $d:letDecl)=>do
  let d:=d.raw[0]
  pure (if d.isOfKind `Lean.Parser.Term.letPatDecl then mkNode `Lean.Parser.Tactic.obtain #[mkAtom "obtain",mkNullNode #[mkNode `Lean.Parser.Tactic.rcasesPatMed #[mkNullNode #[qzp d[0]]]],mkNullNode (if d[2].getNumArgs==0 then #[] else #[mkAtom ":",d[2][0][1]]),mkNullNode #[mkAtom ":=",mkNullNode #[d[4]]]] else mkNode `Lean.Parser.Tactic.tacticHave__ #[mkAtom "have",mkNode `Lean.Parser.Term.letConfig #[mkNullNode],mkNode `Lean.Parser.Term.letDecl #[d]])
open Lean in
local macro_rules
 |`(fun $bs* => $e)=>do
  if (← getRef)[1][2].getAtomVal != "↦" then Macro.throwUnsupported
  let p:=bs.map λs=>⟨mkNode `Lean.Parser.Tactic.rintroPat.one #[qzp s]⟩
  `(by rintro $p*;exact $e)
local macro_rules |`(tactic|calc $e:term)=>`(tactic|refine $e)
local macro_rules |`(tactic|ext $p*)=>`(tactic|rintro $p*)
local macro_rules |`(↑$x)=>`(($x).length)
local macro_rules |`(⇑$x)=>`(($x).heap.objs.size)
local macro_rules |`($x⁻¹)=>`(by simpa using $x)
open Lean in
local macro_rules
 |`(-$x)=>if x.raw.getKind==`Lean.Parser.Term.typeAscription||x.raw.isOfKind `num||(x.raw.isOfKind `Lean.Parser.Term.paren&&!x.raw[1].isOfKind `Lean.Parser.Term.app&&!x.raw[1].isOfKind `«term-_»&&!x.raw[1].isOfKind `«term_×_»&&!x.raw[1].isOfKind `Lean.Parser.Term.arrow) then Macro.throwUnsupported else `(List $x)
open Lean in
local macro_rules
 |`(tactic|erw[$ls,*] $[$l:location]?)=>do
  let a←ls.getElems.mapM fun r=>do
   let t:Term:=⟨r.raw[1]⟩
   if r.raw[0].getNumArgs==0 then `(Parser.Tactic.simpLemma|$t:term) else `(Parser.Tactic.simpLemma|←$t:term)
  `(tactic|simp only[$a,*] $[$l]?)
namespace LJS
open PySem PySem.SetTable
noncomputable def nx(m i:Nat):Nat:=(i*5+1)%(m+1)
noncomputable def l_(m:Nat):Nat->Nat->Nat
 |0,i=>i
 |n+1,i=>l_ m n (nx m i)
theorem vc(m:Nat):∀a b i,l_ m (a+b) i=l_ m b (l_ m a i)
 |0,b,i=>by rw[VJ];rfl
 |a+1,b,i=>by rw[q2b];calc vc m a b (nx m i)
noncomputable def xA(m:Nat):Nat->Nat->-Nat
 |0,_=>[]
 |n+1,i=>i::xA m n (nx m i)
theorem C2(m:Nat):∀{n i e:Nat},e∈xA m n i->∃k,k<n/\l_ m k i=e
 |0,_,_,h=>nomatch h
 |n+1,i,e,h=>by
  rcases Um.mp h with rfl|h
  .exact⟨0,q2c _,Y⟩
  .let⟨k,hk,e⟩:=C2 m h
   calc⟨k+1,Nat.succ_lt_succ hk,e⟩
def Mk(m:Nat):Prop:=m=7\/m=31\/m=127
noncomputable def r6(m:Nat):Bool:=(Vp (m+1)).all λe=>(xA m (m+1) 0).contains e
theorem C3(h:Mk m):r6 m=θ/\l_ m (m+1) 0=0:=by
 rcases h with rfl|rfl|rfl<;>calc⟨by decide +kernel,by decide +kernel⟩
theorem oj(h:Mk m)(he:e<=m):∃k,k<=m/\l_ m k 0=e:=by
 let:=Wk.mp (C3 h).1 e (VP.mpr (Nat.lt_succ_of_le he));let⟨k,hk,q⟩:=C2 m (ZD.mp this);calc⟨k,Yb hk,q⟩
theorem IQ(h:Mk m)(hi:i<=m)(he:e<=m):∃n,n<=m/\l_ m n i=e:=by
 let⟨a,ha,rfl⟩:=oj h hi;let⟨b,hb,rfl⟩:=oj h he
 by_cases Ua:a<=b
 .refine⟨b-a,⋯,?_⟩
  rw[<-vc];congr 1;symm
 .refine⟨m+1-a+b,⋯,?_⟩
  rw[<-vc,show a+(m+1-a+b)=(m+1)+b by symm,vc,(C3 h).2]
noncomputable def lp(m:Nat):Nat->Nat->Nat->Nat×Nat
 |0,i,p=>(i,p)
 |n+1,i,p=>lp m n (leap m i p).1 (leap m i p).2
theorem xB(m:Nat):∀a b i p,lp m (a+b) i p=lp m b (lp m a i p).1 (lp m a i p).2
 |0,b,i,p=>by rw[VJ];rfl
 |a+1,b,i,p=>by rw[q2b];calc xB m a b _ _
theorem C4(m:Nat):∀n i,lp m n i 0=(l_ m n i,0)
 |0,i=>Y
 |n+1,i=>by
  show lp m n (leap m i 0).1 (leap m i 0).2=_;let e:leap m i 0=(nx m i,0):=by unfold leap nx;simp
  rw[e];calc C4 m n _
theorem IS(m i p:Nat):(leap m i p).1<=m:=Yb (Nat.mod_lt _ (q2c _))
theorem C5(m:Nat):∀n i p,(lp m n i p).2=p / 32 ^ n
 |0,i,p=>by simp[lp]
 |n+1,i,p=>by
  show(lp m n (leap m i p).1 (leap m i p).2).2=_;rw[C5 m n];show p / 32 / 32 ^ n=_;rw[Nat.div_div_eq_div_mul,Nat.pow_succ,q2d]
theorem reach(h:Mk m)(hp:p<2 ^ 64)(he:e<=m):∃n,n<=13+m/\(lp m n i p).1=e:=by
 let z:(lp m 13 i p).2=0:=by
  rw[C5];exact Nat.div_eq_of_lt (q2e hp (by decide))
 let q:(lp m 13 i p).1<=m:=by
  rw[xB m 12 1];exact IS _ _ _
 let⟨n,hn,en⟩:=IQ h q he;calc⟨13+n,⋯,?_⟩;rw[xB,z,C4];calc en
theorem C6(j:Nat):has #[] j=ι:=by unfold has;simp
theorem xC{t:SetTable}(hd:t.dummies = #[])(j:Nat):t.slot j=.empty\/∃i,t.slot j=.live i/\i<t.place.size/\j∈t.place.toList:=by
 unfold slot;rw[hd,C6];dsimp only
 by_cases c:(t.place[below t.place j]?==U j)=θ
 .right
  rw[U_ c];let e:=Wr c;let⟨hl,ev⟩:=XH.mp e;exact⟨_,Y,hl,by rw[<-ev];calc Y4 hl⟩
 .left
  rw[U9 c];rfl
theorem IT{t:SetTable}(hd:t.dummies = #[])(hj:j∉t.place.toList):t.slot j=.empty:=by
 rcases xC hd j with h|⟨_,_,_,h⟩
 .exact h
 .calc absurd h hj
theorem C7:∀{l l':-Nat},l.Nodup->(∀x∈l,x∈l')->↑l<=↑l'
 |[],_,_,_=>VT _
 |a::l,l',hn,hs=>by
  let ha:a∈l':=hs a (Vc ..);let me:=XA.mp hn;let ih:=C7 (l:=l) (l':=l'.erase a) me.2 λx hx=>(List.mem_erase_of_ne (λz=>me.1 (by rw[<-z];calc hx))).mpr (hs x (Us _ hx));rw[List.length_erase_of_mem ha] at ih;let:=List.length_pos_of_mem ha;rw[Eg];symm
theorem vd{l:-Nat}(h:↑l<=m):∃e,e<=m/\e∉l:=by
 calc XO λno=>?_;let all:∀e,e∈Vp (m+1)->e∈l:=λe he=>XO λz=>no ⟨e,Yb (VP.mp he),z⟩;let:↑(Vp (m+1))<=↑l:=C7 Yp all;rw[VG] at this;symm
noncomputable def stateOf(t:SetTable)(i p:Nat):Probe:=⟨i,runEnd t.mask i-i,i,p,Z⟩
theorem IU(m i:Nat):runEnd m i-i<=9:=by unfold runEnd;split<;>symm
section
variable{t:SetTable}{f:Nat->Int}{h:Int}
theorem xD(F:Nat)(p:Probe):Yw t f h (F+1) p=(match t.slot p.j with
  |.empty=>U (.empty p.j p.dummy)
  |.dummy=>Yw t f h F (t.advance {p with dummy:=U p.j})
  |.live i=>if f i==h then U (.candidate p.j i (t.advance p)) else Yw t f h F (t.advance p)):=rfl
theorem C8(hd:t.dummies = #[])(hf:∀i,i<t.place.size->f i≠h):∀(k F:Nat)(p:Probe),p.more=k->p.dummy=Z →
  (∃j,Yw t f h (F+k+1) p=U (.empty j Z))\/Yw t f h (F+k+1) p=Yw t f h F (stateOf t (leap t.mask p.i p.perturb).1 (leap t.mask p.i p.perturb).2)
 |0,F,p,hm,r9=>by
  show(∃j,Yw t f h (F+1) p=_)\/Yw t f h (F+1) p=_;rw[xD];rcases xC hd p.j with e|⟨i,e,hi,_⟩
  .left;rw[e];exact⟨p.j,by rw[r9]⟩
  .right
   rw[e];show(if(f i==h)=θ then _ else _)=_;rw[U9 (by ext z;calc hf i hi (Wr z))];unfold advance;rw[hm,U9 ⋯,r9];rfl
 |k+1,F,p,hm,r9=>by
  let ih:=C8 hd hf k F {p with j:=p.j+1,more:=p.more-1} (by show p.more-1=k;symm) r9;rw[show F+(k+1)+1=(F+k+1)+1 by symm,xD];rcases xC hd p.j with e|⟨i,e,hi,_⟩
  .left;rw[e];exact⟨p.j,by rw[r9]⟩
  .rw[e]
   show(∃j,(if(f i==h)=θ then _ else _)=_)\/(if(f i==h)=θ then _ else _)=_;rw[U9 (by ext z;calc hf i hi (Wr z))];let ea:t.advance p={p with j:=p.j+1,more:=p.more-1}:=by unfold advance;rw[U_ ⋯]
   rw[ea];calc ih
theorem C9(hd:t.dummies = #[])(hf:∀i,i<t.place.size->f i≠h):∀(n F i p:Nat),10*(n+1)<=F->t.slot (lp t.mask n i p).1=.empty->∃j,Yw t f h F (stateOf t i p)=U (.empty j Z)
 |0,F,i,p,hF,hs=>by
  let⟨G,rfl⟩:∃G,F=G+1:=⟨F-1,⋯⟩;rw[xD];let e:t.slot (stateOf t i p).j=.empty:=hs;rw[e];exact⟨i,Y⟩
 |n+1,F,i,p,hF,hs=>by
  let hr:=IU t.mask i;let⟨G,hG⟩:∃G,F=G+(runEnd t.mask i-i)+1:=⟨F-(runEnd t.mask i-i)-1,⋯⟩;let:=C8 (f:=f) (h:=h) hd hf (runEnd t.mask i-i) G (stateOf t i p) Y Y;rw[<-hG] at this;rcases this with h1|h1
  .exact h1
  .rw[h1]
   calc C9 hd hf n G _ _ ⋯ hs
theorem C_(h:Int):bits h<2 ^ 64:=by
 unfold bits;let:=VC h (show(0:Int)<2 ^ 64 by decide);let:=V7 h (show(2 ^ 64:Int)≠0 by decide);symm
theorem IV(hd:t.dummies = #[])(hm:Mk t.mask)(hz:t.place.size<=t.mask)(hf:∀i,i<t.place.size->f i≠h):∃j,t.probe f h (t.probeStart h)=U (.empty j Z):=by
 let⟨e,he,ne⟩:=vd (l:=t.place.toList) (m:=t.mask) (by rw[Vb];calc hz);let⟨n,hn,en⟩:=reach hm (i:=bits h%(t.mask+1)) (C_ h) he;calc C9 hd hf n _ _ _ (by unfold turns;symm) (by rw[en];calc IT hd ne)
end
section
variable{m:Nat}{owner:Array (Option Nat)}
theorem Dd(F i p:Nat):XT m owner (F+1) i p=(match(Vp (runEnd m i+1-i)).find? λk=>(owner.getD (i+k) (U 0)).isNone with
   |some k=>U (i+k)
   |none=>XT m owner F (leap m i p).1 (leap m i p).2):=rfl
theorem De:∀(n F i p:Nat),n+1<=F->(owner.getD (lp m n i p).1 (U 0)).isNone=θ->∃j,XT m owner F i p=U j/\(owner.getD j (U 0)).isNone=θ
 |0,F,i,p,hF,hs=>by
  let⟨G,rfl⟩:∃G,F=G+1:=⟨F-1,⋯⟩;rw[Dd]
  cases hc:(Vp (runEnd m i+1-i)).find? λk=>(owner.getD (i+k) (U 0)).isNone with
  |some k =>
   let:=Zt hc;exact⟨i+k,Y,this⟩
  |none =>
   let:=q0b.mp hc 0 (VP.mpr (by unfold runEnd;split<;>symm));exact absurd hs this
 |n+1,F,i,p,hF,hs=>by
  let⟨G,rfl⟩:∃G,F=G+1:=⟨F-1,⋯⟩;rw[Dd]
  cases hc:(Vp (runEnd m i+1-i)).find? λk=>(owner.getD (i+k) (U 0)).isNone with
  |some k =>
   let:=Zt hc;exact⟨i+k,Y,this⟩
  |none=>calc De n G _ _ ⋯ hs
end
structure Ow(m:Nat)(owner:Array (Option Nat))(k:Nat):Prop where
 size:owner.size=m+1
 cnt:owner.toList.countP Z1=k
 lt:∀x,U x∈owner.toList->x<k
theorem Df:∀{l:-(Option Nat)}{j k:Nat},l[j]?=U Z->(l.set j (U k)).countP Z1=l.countP Z1+1
 |[],j,k,h=>by simp at h
 |x::l,0,k,h=>by
  simp at h;subst h;rw[Wi,Yq,Yq];rfl
 |x::l,j+1,k,h=>by
  simp at h;rw[Wj,Yq,Yq,Df h];symm
theorem getD_none{owner:Array (Option Nat)}(h:(owner.getD j (U 0)).isNone=θ):owner.toList[j]?=U Z:=by
 rw[VX] at h;rw[Vz]
 cases e:owner[j]? with
 |none=>rw[e] at h;cases h
 |some x =>
  rw[e] at h
  cases x with
  |none=>rfl
  |some y=>cases h
theorem IW{owner:Array (Option Nat)}(O:Ow m owner k)(hk:k<=m):∃e,e<=m/\(owner.getD e (U 0)).isNone=θ:=by
 refine XO λno=>?_
 let all:∀x∈owner.toList,x.isSome=θ:=by
  ext x hx;let⟨e,he⟩:=Ur.mp hx
  cases x with
  |some y=>rfl
  |none =>
   let hl:=(qW.mp he).1;rw[Vb,O.size] at hl;calc absurd ⟨e,Yb hl,?_⟩ no;rw[VX,<-Vz,he];rfl
 let:=ZE.mpr all;rw[O.cnt,Vb,O.size] at this;symm
theorem IX{owner:Array (Option Nat)}(hm:Mk m)(O:Ow m owner k)(hk:k<=m)(h:Int):∃j,XT m owner (turns m) (bits h%(m+1)) (bits h)=U j/\Ow m (owner.setIfInBounds j (U k)) (k+1):=by
 let⟨e,he,hn⟩:=IW O hk;let⟨n,me,en⟩:=reach hm (i:=bits h%(m+1)) (C_ h) he;let⟨j,ej,hj⟩:=De (m:=m) (owner:=owner) n (turns m) (bits h%(m+1)) (bits h) (by unfold turns;symm) (by rw[en];calc hn);refine⟨j,ej,by rw[Array.size_setIfInBounds];calc O.size,?_,λx hx=>?_⟩
 .rw[YJ,Df (getD_none hj),O.cnt]
 .rw[YJ] at hx
  rcases YY hx with h|h
  .exact Wa (O.lt x h)
  .cases h;calc Xn _
theorem Dg(hm:Mk m):∀(hs:-Int)(owner:Array (Option Nat))(k:Nat),Ow m owner k->k+↑hs<=m+1 →
  ∃kF,(hs.foldl (init:=U (owner,k)) λacc h=>do
   let(owner,k) <- acc
   let j <- XT m owner (turns m) (bits h%(m+1)) (bits h)
   pure (owner.setIfInBounds j (U k),k+1))=U (kF,k+↑hs)/\Ow m kF (k+↑hs)
 |[],owner,k,O,_=>⟨owner,Y,O⟩
 |h::hs,owner,k,O,hl=>by
  rw[Eg] at hl ⊢;let⟨j,ej,O'⟩:=IX hm O ⋯ h;let⟨o2,e2,O2⟩:=Dg hm hs _ (k+1) O' ⋯;calc⟨o2,?_,by rw[show k+(↑hs+1)=k+1+↑hs by symm];calc O2⟩;rw[Zu,show k+(↑hs+1)=k+1+↑hs by symm,<-e2];congr 1;show(do let j <- XT m owner (turns m) (bits h%(m+1)) (bits h);pure (owner.setIfInBounds j (U k),k+1))=_;rw[ej];rfl
theorem IY(m:Nat):Ow m (Array.replicate (m+1) Z) 0:=by
 refine⟨by simp,?_,λx hx=>?_⟩
 .rw[Zi]
  exact List.countP_eq_zero.mpr λx hx=>by rw[Y5 hx];decide
 .rw[Zi] at hx
  cases Y5 hx
theorem IZ(hm:Mk m)(hs:Array Int)(hz:hs.size<=m+1):∃owner,layClean m hs=U owner/\Ow m owner hs.size:=by
 let⟨o,e,O⟩:=Dg hm hs.toList _ 0 (IY m) (by rw[Vb];symm);rw[VJ,Vb] at O;calc⟨o,?_,O⟩;unfold layClean;rw[<-Array.foldl_toList,e];rfl
noncomputable def qN(m:Nat)(owner:Array (Option Nat)):-(Nat×Nat):=(Vp (m+1)).filterMap λj=>(owner.getD j Z).map (j,·)
theorem Dh(O:Ow m owner k):↑(qN m owner)=k:=by
 unfold qN;rw[Ym,<-O.cnt]
 let e:owner.toList=(Vp (m+1)).map λj=>owner.getD j Z:=by
  calc YZ λi=>?_;rw[Vz,My]
  by_cases hi:i<m+1
  .rw[Xk hi,q1f,Wt (by rw[O.size];calc hi),VX,Wt (by rw[O.size];calc hi)];rfl
  .rw[Array.getElem?_eq_none (by rw[O.size];symm),W6 (by rw[VG];symm)];rfl
 rw[e,List.countP_map];calc List.countP_congr λj _=>?_;simp
theorem I0(O:Ow m owner k)(hz:z∈qN m owner):z.2<k:=by
 unfold qN at hz;let⟨j,hj,e⟩:=X0.mp hz;let⟨x,ex,rfl⟩:=Va.mp e;calc O.lt x ?_;rw[VX] at ex
 cases q:owner[j]? with
 |none=>rw[q] at ex;cases ex
 |some y =>
  rw[q] at ex;cases(show y=U x from ex)
  calc Ur.mpr ⟨j,by rw[Vz];calc q⟩
theorem I_(hm:Mk m)(t:SetTable)(hs:Array Int)(wanted:Nat)(hw:sizeAbove wanted-1=m)(hz:hs.size<=m+1):
  ∃t' order,t.relaid hs wanted=U (t',order)/\t'.mask=m/\t'.dummies = #[]/\t'.place.size=hs.size/\t'.led=t.led/\t'.plain=t.plain/\order.size=hs.size/\∀k∈order.toList,k<hs.size:=by
 let⟨owner,e,O⟩:=IZ hm hs hz;refine⟨{mask:=m,place:=((qN m owner).map (·.1)).toArray,dummies := #[],finger:=t.finger,led:=t.led,moves:=t.movedTo m,plain:=t.plain},((qN m owner).map (·.2)).toArray,?_,Y,Y,?_,Y,Y,?_,λk hk=>?_⟩
 .unfold relaid laid
  rw[hw,e];rfl
 .rw[Ef,pV,Dh O]
 .rw[Ef,pV,Dh O]
 .let⟨z,hz,rfl⟩:=Vh.mp hk
  calc I0 O hz
theorem Ja{α:Type}{es:Array α}{order:Array Nat}(h:∀k∈order.toList,k<es.size):(order.filterMap (es[·]?)).size=order.size/\∀e∈(order.filterMap (es[·]?)).toList,e∈es.toList:=by
 constructor
 .rw[<-Vb,Zj,Ym,ZE.mpr λk hk=>?_,Vb]
  rw[Wt (h k hk)];rfl
 .ext e he
  rw[Zj] at he;let⟨k,_,q⟩:=X0.mp he;calc Ur.mpr ⟨k,by rw[Vz];calc q⟩
theorem Jb(t:SetTable)(hd:t.dummies = #[])(j:Nat):(t.put j).1.dummies = #[]/\(t.put j).1.mask=t.mask/\(t.put j).1.place.size=t.place.size+1/\(t.put j).1.led=t.led/\(t.put j).1.plain=t.plain/\(t.put j).1.moves=t.moves/\(t.put j).1.finger=t.finger:=by
 unfold put;dsimp only;rw[hd,C6];calc⟨Y,Y,?_,Y,Y,Y,Y⟩;unfold insertAt;erw[q0s,Zv,q0c];symm
theorem Jc{α:Type}{xs:Array α}{p:Nat}{x e:α}(h:e∈(insertAt xs p x).toList):e=x\/e∈xs.toList:=by
 unfold insertAt at h;erw[Array.toList_append,Array.toList_push,Vs,Vu,Array.toList_extract] at h;erw[List.extract_eq_take_drop] at h;rcases h with(h|h)|h
 .right;exact ZN (Yx h)
 .exact .inl h
 .right;calc ZN (Yx h)
theorem Jd{α:Type}(xs:Array α)(p:Nat)(x:α):(insertAt xs p x).size=xs.size+1:=by
 unfold insertAt;erw[q0s,Zv,q0c];symm
end LJS
namespace LJS
open PySem PySem.SetTable PyProof.Rows
structure gc(t:SetTable)(es:Array (Int×L))(hs:-Int):Prop where
 xE:t.dummies = #[]
 r_:Mk t.mask
 sd:t.place.size=es.size
 num:es.size=↑hs
 jC:t.tooFull=ι
 ins:∀e∈es.toList,e.1∈hs
def fK(h:I)(S:O)(hs:-Int):Prop:=∃o es ep t,h.get? S=U o/\o.ExactSet/\o.data=.set es ep t/\gc t es hs
section
variable{t:SetTable}{es:Array (Int×L)}{hs:-Int}
theorem gc.fill(T:gc t es hs):t.fill=es.size:=by
 unfold Z2;rw[T.sd,T.xE];rfl
theorem gc.lt(T:gc t es hs):es.size*5<t.mask*3:=by
 let:=T.jC;unfold tooFull at this;rw[T.fill] at this;let:=of_decide_eq_false this;symm
theorem gc.fits(T:gc t es hs):t.fits es.size=θ:=by
 let:=T.lt;unfold q1M;rw[T.fill,T.sd];simp;symm
theorem gc.xF(T:gc t es hs):t.gaveWay=ι:=by
 unfold SetTable.gaveWay;rcases T.r_ with h|h|h<;>rw[h]<;>rfl
end
theorem Je:sizeAbove (grown 5)-1=31:=by decide +kernel
theorem Jf:sizeAbove (grown 19)-1=127:=by decide +kernel
section
variable{prog:l}{w:g}{A:q}{E:bw}{s:B}
theorem Jg{S:O}{x:L}{h:Int}{hs:-Int}{o:Γ}{es:Array (Int×L)}{ep:Nat}{t:SetTable}{Q:SetFound->B->Prop}(ho:s.heap.get? S=U o)(hd:o.data=.set es ep t)(T:gc t es hs)(hn:h∉hs)
  (k:∀j,Q (.free j ι) s):G (ς prog w) A (setSearch S x h θ) Q E s:=by
 show G _ _ (setSearchFrom S x h θ (99999+1) Z) _ _ _;calc s_ (Yc ho hd T.fits ?_);dsimp only;rw[T.xF];let hz:t.place.size<=t.mask:=by let:=T.lt;rw[T.sd];symm
 let⟨j,ej⟩:=IV (t:=t) (f:=λi=>(es[i]?.map (·.1)).getD 0) (h:=h) T.xE T.r_ hz (λi hi z=>by
  rw[T.sd] at hi;rw[Wt hi] at z
  calc hn (by rw[<-show es[i].1=h from z];calc T.ins _ (Y4 hi)))
 erw[Za];generalize hP:t.probe _ h (t.probeStart h)=P;let eP:P=U (.empty j Z):=hP.symm.trans ej;rw[eP];calc Md (k j)
theorem Jh{S:O}{x:L}{h:Int}{hs:-Int}{Q:Bool->B->Prop}(hx:x.scannable=ι)(hS:fK s.heap S hs)(hn:h∉hs)(hl:↑hs<60)
  (hv:∀Q':Bool->B->Prop,(∀b,Q' b s)->G (ς prog w) A (hashByValue 8 x) Q' E s)
  (k:∀h',XN S s.heap h'->fK h' S (hs++[h])->Q θ {s with heap:=h'}):G (ς prog w) A (setAddHashed S x h) Q E s:=by
 let⟨o,es,ep,t,ho,hex,hd,T⟩:=hS;calc VH ?_;calc s_ (Yc ho hd T.fits ?_);let hb:byScan x es=ι:=by unfold byScan;rw[hx];rfl
 dsimp only;rw[hb];calc s_ (Jg ho hd T hn λj=>?_);calc s_ (Yc ho hd T.fits ?_);let⟨p1,p2,p3,p4,p5,p6,p7⟩:=Jb t T.xE j
 let fin:∀b:Bool,G (ς prog w) A (do
   storeSet S (SetTable.insertAt es (t.put j).2 (h,x)) (if b=θ then(t.put j).1 else{(t.put j).1 with plain:=false})
   if(!ι&&(if b=θ then(t.put j).1 else{(t.put j).1 with plain:=false}:SetTable).tooFull)=θ then do
       setRelay S (q1u (es.size+1))
       pure θ
    else pure θ) Q E s:=by
  ext b;generalize mf:(if b=θ then(t.put j).1 else{(t.put j).1 with plain:=false}:SetTable)=t2;let q1:t2.dummies = #[]:=by rw[<-mf];cases b<;>exact p1
  let q2:t2.mask=t.mask:=by rw[<-mf];cases b<;>exact p2
  let q3:t2.place.size=es.size+1:=by rw[<-mf,<-T.sd];cases b<;>exact p3
  let om:=Jd es (t.put j).2 (h,x)
  let pq:∀e∈(insertAt es (t.put j).2 (h,x)).toList,e.1∈hs++[h]:=λe he=>by
   rcases Jc he with rfl|he
   .exact Vg _ (Vu.mpr Y)
   .exact Wl _ (T.ins e he)
  generalize insertAt es (t.put j).2 (h,x)=iO at om pq;let Ub:es.size<60:=by rw[T.num];exact hl
  refine s_ (q0t ho hd ?_ (by rw[om,Ws];symm))
  let oq:(s.heap.update S (Zk iO t2)).get? S=U {o with data:=.set iO (ep+1) t2}:=by
   let:=XE (Zk iO t2) ho (by rw[q12 iO t2 hd];rfl);rw[q12 iO t2 hd] at this;exact this
  let fl:t2.fill=es.size+1:=by unfold Z2;rw[q1,q3];rfl
  let lt:=T.lt
  let sf:t2.fits iO.size=θ:=by
   unfold q1M;rw[fl,q3,om,q2];simp;rcases T.r_ with e|e|e<;>rw[e] at lt ⊢ <;> symm
  by_cases tf:t2.tooFull=θ
  .rw[U_ (by rw[tf];rfl)]
   let Di:t.mask*3<=(es.size+1)*5:=by
    unfold tooFull at tf;let:=Wb tf;symm
   let⟨m,hm,hw,hsz⟩:∃m,Mk m/\sizeAbove (grown (es.size+1))-1=m/\(es.size+1)*5<m*3:=by
    rcases T.r_ with e|e|e
    .rw[e] at lt Di
     let:es.size+1=5:=by symm
     rw[this];exact⟨31,.inr (.inl Y),Je,⋯⟩
    .rw[e] at lt Di
     let:es.size+1=19:=by symm
     rw[this];exact⟨127,.inr (.inr Y),Jf,⋯⟩
    symm
   calc s_ ?_;calc s_ (Yc oq Y sf ?_);dsimp only
   let Ji:¬ SetTable.sizeAbove (q1u (es.size+1))>sizeLine:=by
    rw[Ws];rcases hm with e|e|e<;>symm
   rw[U9 Ji];let⟨t3,order,er,r1,r2,r3,_,_,r4,r5⟩:=I_ hm t2 (iO.map (·.1)) (grown (es.size+1)) hw (by rw[ZO,om];symm);rw[er];rw[ZO,om] at r3 r4;rw[ZO] at r5;let⟨o1,o2⟩:=Ja (es:=iO) (order:=order) r5;refine s_ ?_
   show G _ _ (do
    if(order.filterMap (iO[·]?)).size != iO.size then
     unsupported "internal:set-table-lost-an-element"
    pure (order.filterMap (iO[·]?),t3)) _ _ _
   rw[U9 (by rw[o1,r4,om];simp)];calc Md ?_;refine q0t oq Y ?_ (by rw[o1,r4,Ws];symm)
   let iF:((s.heap.update S (Zk iO t2)).update S (Zk (order.filterMap (iO[·]?)) t3)).get? S=U {o with data:=.set (order.filterMap (iO[·]?)) (ep+1+1) t3}:=by
    let:=XE (Zk (order.filterMap (iO[·]?)) t3) oq (by rw[q12 _ t3 Y];rfl);exact this
   refine Md (k _ ?_ ⟨_,_,_,_,iF,hex,Y,r2,by rw[r1];calc hm,by rw[r3,o1,r4],by rw[o1,r4,T.num,Eh];rfl,?_,λe he=>pq e (o2 e he)⟩)
   .exact (VU ..).trans (VU ..)
   .unfold tooFull Z2
    rw[r2,r3,r1];simp;symm
  .let Dj:t2.tooFull=ι:=by cases q:t2.tooFull<;>simp_all
   rw[U9 (by rw[Dj];decide)];refine Md (k _ (VU ..) ⟨_,_,_,_,oq,hex,Y,q1,by rw[q2];calc T.r_,by rw[q3,om],by rw[om,T.num,Eh];rfl,Dj,pq⟩)
 by_cases hp:(t.put j).1.plain=θ
 .rw[U_ hp]
  calc s_ (hv _ λb=>?_);exact fin b
 .rw[U9 hp]
  calc fin θ
end
end LJS
namespace LJS
open PySem PySem.SetTable
end LJS
namespace LJS
open PySem PySem.SetTable PyProof.Rows
section
variable{t:SetTable}{es:Array (Int×L)}{led:Bool}{ks:-Int}
end
section
variable{prog:l}{w:g}{A:q}{E:bw}{s:B}
theorem Jj{ks:-Int}:∀{vs:-L},ItemsAre (intKind prog w) ks vs->∀v∈vs,∃i t,v=.int i t:=by
 induction ks with
 |nil=>ext vs h v hv;cases h;cases hv
 |cons k ks ih =>
  ext vs h v hv
  cases h with
  |cons h1 h2 =>
   rcases Um.mp hv with rfl|hv
   .let⟨t,e⟩:=q0u (k:=k) (v:=v) (by first|exact h1|simpa[intKind] using h1)
    exact⟨_,_,e⟩
   .calc ih h2 v hv
theorem Jk{ks:-Int}{a:O}{Q:Bool->B->Prop}(hk:IsTupleKey (intKind prog w) s.heap ks a)(h:∀b,Q b s):G (S prog w) A (hashByValue 8 (.ref a)) Q E s:=by
 let hT:=hk.typeIs;let⟨o,au,n,ho,_,hd,hi⟩:=hk;show G _ _ (hashByValue (7+1) (.ref a)) _ _ _;unfold hashByValue;calc s_ (q1g hT F.slot_tuple_hash.lookup ?_);show G _ _ (seqItems? (.ref a) >>= _) _ _ s;calc s_ (WD ho hd ?_);calc s_ ?_;show G _ _ (forIn au _ _) _ _ s;rw[<-YK];refine q0V _ (λrest _ s'=>s'=s/\∀v∈rest,∃i t,v=XD i t) _ ?_ ?_ _ _ ⟨Y,Jj hi⟩
 .ext v rest r s' ⟨rfl,mi⟩
  let⟨i,t,rfl⟩:=mi v Vc;let e:hashByValue 7 (.int i t)=pure θ:=by unfold hashByValue;rfl
  rw[e];calc s_ (Md ?_);erw[Y6,VL,Xo];exact Md ⟨Y,λu hu=>mi u (Us _ hu)⟩
 .ext ⟨r1,r2⟩ s' ⟨rfl,_⟩
  cases r1 with
  |none=>exact Md (h _)
  |some b=>calc Md (h _)
theorem xG{h h':I}{ks:-Int}{a:O}(x:IsTupleKey (intKind prog w) h ks a)(k:∀o,h.get? a=U o->h'.get? a=U o):IsTupleKey (intKind prog w) h' ks a:=by
 let⟨o,au,n,ho,r⟩:=x;calc⟨o,au,n,k o ho,r⟩
noncomputable abbrev hT(prog:l)(w:g)(ks:-Int):Int:=tupleKeyHash (intKind prog w) ks
theorem xH{h h':I}{S:O}{hs:-Int}(x:fK h S hs)(k:∀o,h.get? S=U o->h'.get? S=U o):fK h' S hs:=by
 let⟨o,es,ep,t,ho,r⟩:=x;calc⟨o,es,ep,t,k o ho,r⟩
end
section
variable{prog:l}{w:g}{A:q}{R:Result->B->Prop}{I S:O}{fp wr:-O}{G:Array GenState->Array GenState->Prop}{n:Nat}{P:Nat->L->Prop}{St:Nat->B->Prop}
theorem Jl(W:WalksS prog w A.in1 I fp wr G n P St)(out:S∉fp)(ad:Nat->O)(ks:Nat->-Int)(pz:∀i v,P i v->v=.ref (ad i))(apart:∀i,i<n->ad i∉S::wr)(room:A.in1.units<cLine)
  (unlike:∀i j,i<n->j<i->hT prog w (ks j)≠hT prog w (ks i)) (fq:n<=30) :
  ∀(left i:Nat)(s:B),i+left=n->St i s->(∀j,j<n->IsTupleKey (intKind prog w) s.heap (ks j) (ad j))->fK s.heap S ((Vp i).map λj=>hT prog w (ks j)) →
   (∀s',Moved (S::wr) G s s'->fK s'.heap S ((Vp n).map λj=>hT prog w (ks j))->R (.ok (.ret .none)) s') →
   codeAny (ς prog w) A (.builtin "set.update.loop" ⟨[.ref S,.ref I],[]⟩) R s:=by
 let sg:S∉wr:=λz=>out (W.sub _ z);let more:∀b,b∈wr->b∈S::wr:=λb hb=>Us _ hb;ext left
 induction left with
 |zero =>
  ext i s hi st tk se fin;obtain rfl:i=n:=by symm
  calc XY Zb ?_;rw[XI X7 _];show ρ _ A.in1 (pyNext (.ref I) >>= _) _ _ s;calc s_ (W.done s _ _ st λs' mv=>?_);show ρ _ A.in1 (ret VM) _ _ s';exact Md (fin s' (mv.mono more) (xH se λo e=>mv.heap S o sg e))
 |succ left ih =>
  ext i s hi st tk se fin;let fG:i<n:=by symm
  calc XY Zb ?_;rw[XI X7 _];show ρ _ A.in1 (pyNext (.ref I) >>= _) _ _ s;calc s_ (W.item i s _ _ fG st λv s1 hP lN mv=>?_);obtain rfl:=pz i v hP;let ot:∀j,j<n->IsTupleKey (intKind prog w) s1.heap (ks j) (ad j):=λj hj=>xG (tk j hj) λo e=>mv.heap _ o (λz=>apart j hj (more _ z)) e;show ρ _ A.in1 (holding [Vx (ad i)] (setAdd S (.ref (ad i))) >>= _) _ _ s1;calc s_ (VH ?_);unfold setAdd;calc VH (s_ (wpAny_pyHash_tuple room (ot i fG) ?_));refine Jh (s:={s1 with toks:=s1.toks+(↑(ks i)+1)}) (hs:=(Vp i).map λj=>hT prog w (ks j)) Y (xH se λo e=>mv.heap S o sg e) (λz=>?_) (by rw[pV,VG];symm) (λQ' q=>Jk (ot i fG) q) λh2 sb Jm=>?_
  .let⟨j,hj,e⟩:=Vh.mp z
   exact unlike i j fG (VP.mp hj) e
  .let nS:∀b,b∈fp->b≠S:=λb hb z=>out (by rw[<-z];calc hb)
   refine Md ⟨q1N X7 _,ih (i+1) _ ⋯ (W.frame _ s1 _ _ lN (Xp _ _) λb hb o e=>by rw[sb.2 b (nS b hb)];calc e) (λj hj=>xG (ot j hj) λo e=>?_) (by rw[List.range_succ,Vq];calc Jm) λs3 Jn Jo=>?_⟩
   .rw[sb.2 _ (λz=>apart j hj (by rw[z];calc Vc))];exact e
   .refine fin s3 (Moved.trans W.gtrans ((mv.mono more).then_heap (Xp _ _) λb o hb e=>?_) Jn) Jo
    rw[sb.2 b (λz=>hb (by rw[z];calc Vc))];calc e
end
noncomputable abbrev gJ(led:Bool):Q:={cls:=.type "set",dict:=none,data:=.set #[] 0 (.fresh 0 0 led)}
theorem Jp{h:I}{S:O}{led:Bool}(e:h.get? S=U (gJ led)):fK h S [] :=
 ⟨_,#[],0,_,e,⟨Y,Y,Y⟩,Y,Y,.inl Y,Y,Y,by cases led<;>decide,λ_ h=>nomatch h⟩
section
variable{prog:l}{w:g}{A:q}{E:bw}{s:B}
set_option maxHeartbeats 3200000 in
theorem Jq {l:O} {items:Array L} {Q:bw} (ad:Nat->O) (ks:Nat->-Int) (hh:A.handled=Z) (room:A.units+8<cLine) (Jr:s.heap.IsList l items) (pz:∀(i:Nat)(v:L),items[i]?=U v->v=.ref (ad i))
  (tk:∀i,i<items.size->IsTupleKey (intKind prog w) s.heap (ks i) (ad i)) (unlike:∀i j,i<items.size->j<i->hT prog w (ks j)≠hT prog w (ks i)) (fq:items.size<=30)
  (fin:∀(h':I)(tk:Nat),fK h' ⇑s ((Vp items.size).map λj=>hT prog w (ks j))->(∀b o,b<⇑s->s.heap.get? b=U o->h'.get? b=U o)->Q (.ref ⇑s) {s with heap:=h',toks:=tk}) :
  G (ς prog w) A (call (.type "set") [.ref l]) Q E s:=by
 let⟨c,tl,Js⟩:=Xw.mro;let m1:=Xw.made;let m2:=Xw.sub;let m3:=Xw.notType;let m4:=Xw.canCreate;let m5:=F.typeCall_set_1 (.ref l);calc q0d (codeAny_of_tree ?_);show G _ _ (callAny (.type "set") _) _ _ _;calc Md ⟨Code.quiet_builtin _ (by decide +kernel),XY F.entry_type_call ?_⟩;rw[Around.under_plain (weight_type_call_type "set" [.ref l] []) Y]
 repeat(any_goals (first|assumption|wp_step))
 refine Yd (code_set_new_1 (.ref l) (E:=E) (Q₁:=λr s1=>∃led:Bool,r=.ref ⇑s/\s1={s with heap:=s.heap.push (gJ led)}) λled=>⟨led,Y,Y⟩) λr s1 hr=>?_
 cases r with
 |error e=>exact hr
 |ok fl =>
  cases fl with
  |ret obj =>
   let⟨led,rfl,rfl⟩:=hr;let gS:(s.heap.push (gJ led)).get? ⇑s=U (gJ led):=Uo _ Y;let tS:Shared.TypeIs {s with heap:=s.heap.push (gJ led)} (.ref ⇑s) "set" := ⟨_,gS,Y⟩;let m6:=Xw.init.lookup;let m7:=Xw.init.bind (.ref ⇑s)
   repeat(any_goals (first|assumption|wp_step))
   refine Yd (codeAny_call_builtin (R:=wants (λr s2=>r=.none/\∃h' tk,s2={s with heap:=h',toks:=tk}/\fK h' ⇑s ((Vp items.size).map λj=>hT prog w (ks j)) ∧
     ∀b o,b<⇑s->s.heap.get? b=U o->h'.get? b=U o) E) Xw.init.plain F.entry_set_init (check_set_init_1 tS ?_)) λr2 s2 si=>?_
   .let⟨ol,gl,cl,nl,dl⟩:=Jr
    let⟨c0,d0,Uc,Jt⟩:=ol;simp only at cl dl;subst cl;subst dl;let Ju:(s.heap.push (gJ led)).get? l=U {cls:=.type "list",dict:=d0,data:=.seq items nl,slots:=Jt}:=vB _ gl;let x1:=F.sub_list_set;let x2:=F.sub_list_frozenset;let x3:(X1 "list" == X1 "dict")=ι:=by decide
    let sk:(s.heap.push (gJ led)).IsList l items:=⟨_,Ju,Y,nl,Y⟩;let ll:l<⇑s:=Me gl;unfold Builtin.«set.__init__» noKeywords Builtin.Frozenset.updateFrom;generalize Jv:pyIter=PI
    wp_walk
    subst Jv;calc W_ sk (s_ (q1v ?_));let h3:A.in1.in1.in1.handled=Z:=by simp[hh]
    let ez:(s.heap.push (gJ led)).objs.size=⇑s+1:=VQ ..;let nI:l≠(s.heap.push (gJ led)).objs.size:=by rw[ez];exact U8 (Wa ll)
    let lt:∀i,i<items.size->ad i<⇑s:=λi hi=>by
     let⟨o,_,_,e,_⟩:=tk i hi;exact Me e
    refine Jl ((q0e h3 _ l nI items).toS) (S:=s.heap.objs.size) ?out ad ks (λi v hv=>pz i v hv) ?apart ?room unlike fq items.size 0 _ (VJ _)
     ⟨⟨_,Uo _ Y,Y,Y⟩,sk.push _⟩ ?tk ?fresh ?fin
    case out =>
     erw[Um,Vf,Xa,not_or,ez];exact⟨U8 (Xn _),WR ll⟩
    case apart =>
     ext i hi;let:=lt i hi;erw[Um,Vf,Xa,not_or,ez];exact⟨U8 this,U8 (Wa this)⟩
    case room =>
     show A.units+1+1+1<cLine;exact YL (Nat.add_le_add_left (by decide:3<=8) _) room
    case tk =>
     ext j hj;exact xG (tk j hj) λo e=>vB _ (vB _ e)
    case fresh =>
     exact Jp (led:=led) (vB _ gS)
    case fin =>
     ext s' mv se;let⟨h',g',d',Dl,xI⟩:=s';obtain rfl:g'=s.gens:=mv.gens;obtain rfl:d'=s.drawn:=mv.drawn;obtain rfl:xI=s.os:=mv.os;show G _ _ _ _ _ _;calc Md ?_;show G _ _ (ret VM) _ _ _;calc Md ⟨Y,h',Dl,Y,se,λb o hb e=>?_⟩;calc mv.heap b o ?_ (vB _ (vB _ e));erw[Um,Vf,Xa,not_or,ez];exact⟨U8 hb,U8 (Wa hb)⟩
   .cases r2 with
    |error e=>exact si
    |ok Jw =>
     cases Jw with
     |ret r =>
      let⟨rfl,h',Dl,rfl,se,kp⟩:=si
      repeat(any_goals (first|assumption|wp_step))
      exact fin _ _ se kp
     |next=>exact si
     |brk=>exact si
     |cont=>exact si
  |next=>exact hr
  |brk=>exact hr
  |cont=>calc hr
end
section
variable{prog:l}{w:g}{A:q}{I S:O}{o:Q}{es:Array (Int×L)}{ep:Nat}{t:SetTable}{ks:-Int}
end
section
variable{prog:l}{w:g}{A:q}{S:O}{o:Q}{es:Array (Int×L)}{ep:Nat}{t:SetTable}{ks:-Int}
end
end LJS
namespace L2
open PySem PySem.Spec PyProof.Rows
abbrev Key:=Sum Int J
noncomputable def qO:Key->L->Bool
 |.inl k,v=>Value.isInt k v
 |.inr x,v=>q1O x v
noncomputable def xJ(w:g):Key->Int
 |.inl k=>hashInt k
 |.inr x=>hashStr w x
theorem ml:∀{k:Key}{v:L},qO k v=θ->(∃i t,k=Y0 i/\v=XD i t)\/(∃x t,k=ZT x/\v=ZU x t)
 |.inl i,v,h=>by
  let⟨t,e⟩:=q0u (k:=i) (v:=v) h;exact .inl ⟨i,t,Y,e⟩
 |.inr x,v,h=>by
  let⟨t,e⟩:=Value.isStrOf_shape (x:=x) (v:=v) h;calc .inr ⟨x,t,Y,e⟩
theorem Jx(i:Int)(t:Tok):qO (.inl i) (.int i t)=θ:=by simp[qO,Value.isInt]
theorem Jy(x:J)(t:Tok):qO (.inr x) (.str x t)=θ:=by simp[qO,q1O]
theorem Jz(a b:Int):E ((Y0 a:Key)=Y0 b)=(a==b):=by
 by_cases e:a=b
 .subst e;simp
 .let h:¬ (Y0 a:Key)=Y0 b:=λq=>e (q25 q)
  rw[Vd h];calc(Xl.mpr e).symm
theorem JB(a b:J):E ((ZT a:Key)=ZT b)=E (a=b):=by
 by_cases e:a=b
 .subst e;simp
 .let h:¬ (ZT a:Key)=ZT b:=λq=>e (Sum.inr.inj q)
  rw[Vd h,Vd e]
theorem JD(a:Int)(b:J):E ((Y0 a:Key)=ZT b)=ι:=Vd (λq=>nomatch q)
theorem JH(a:J)(b:Int):E ((ZT a:Key)=Y0 b)=ι:=Vd (λq=>nomatch q)
noncomputable def jD(prog:l)(w:g):PySem.KeyKind prog w Key where
 is:=qO
 hash:=xJ w
 inj:=λv a b ha hb=>by
  rcases ml ha with⟨i,t,rfl,rfl⟩|⟨x,t,rfl,rfl⟩
  .rcases ml hb with⟨j,u,rfl,e⟩|⟨y,u,rfl,e⟩
   .injection e with e1 _;rw[e1]
   .exact nomatch e
  .rcases ml hb with⟨j,u,rfl,e⟩|⟨y,u,rfl,e⟩
   .exact nomatch e
   .injection e with e1 _;rw[e1]
 byValue:=λk v h=>by
  rcases ml h with⟨i,t,rfl,rfl⟩|⟨x,t,rfl,rfl⟩<;>rfl
 pyHash:=λhv h=>by
  rcases ml hv with⟨i,t,rfl,rfl⟩|⟨x,t,rfl,rfl⟩
  .exact wpAny_pyHash_int h
  .exact wpAny_pyHash_str h
 eqBool:=λhu hv h=>by
  rcases ml hu with⟨i,t,rfl,rfl⟩|⟨x,t,rfl,rfl⟩
  .rcases ml hv with⟨j,u,rfl,rfl⟩|⟨y,u,rfl,rfl⟩
   .rw[Jz] at h;exact q0W h
   .rw[JD] at h;exact q0f i t y u _ _ _ _ h
  .rcases ml hv with⟨j,u,rfl,rfl⟩|⟨y,u,rfl,rfl⟩
   .rw[JH] at h;exact q0g x t j u _ _ _ _ h
   .rw[JB] at h;exact wpAny_eqBool_str h
 «strs» := λk x t v h=>by
  rcases ml h with⟨i,u,rfl,e⟩|⟨y,u,rfl,e⟩
  .exact nomatch e
  .injection e with e1 _
   subst e1;cases v<;>rfl
theorem JJ(prog:l)(w:g)(i:Int)(t:Tok):(jD prog w).is (.inl i) (.int i t)=θ:=Jx i t
theorem JK(prog:l)(w:g)(x:J)(t:Tok):(jD prog w).is (.inr x) (.str x t)=θ:=Jy x t
inductive V where
 |non|bl (b:Bool)|int (i:Int)|str (x:J)|byt (b:Array UInt8)|flt (b:UInt64)|ref (a:O)|ty (n:String)
 deriving DecidableEq
def RelV:V->L->Prop
 |.non,u=>u=VM
 |.bl b,u=>u=XJ b
 |.int i,u=>∃t,u=XD i t
 |.str x,u=>∃t,u=ZU x t
 |.byt b,u=>∃t,u=Value.bytes b t
 |.flt b,u=>∃t,u=q1a b t
 |.ref a,u=>u=Vx a
 |.ty n,u=>u=X1 n
abbrev Vals:-V->-L->Prop:=Paired RelV
theorem Vals.length{xs:-V}{us:-L}(r:Vals xs us):↑xs=↑us:=Z3 r
theorem Vals.get:∀{xs:-V}{us:-L}{i:Nat}{x:V},Vals xs us->xs[i]?=U x->∃u,us[i]?=U u/\RelV x u
 |_,_,_,_,.nil,e=>by simp at e
 |_,_,0,_,.cons r _,e=>by simp at e;subst e;exact⟨_,Y,r⟩
 |_,_,i+1,x,.cons _ t,e=>by
  let⟨u,h1,h2⟩:=Vals.get (i:=i) (x:=x) t e⁻¹;calc⟨u,by simpa using h1,h2⟩
theorem Vals.set{x:V}{u:L}(r:RelV x u):∀{xs:-V}{us:-L}(i:Nat),Vals xs us->Vals (xs.set i x) (us.set i u)
 |_,_,_,.nil=>.nil
 |_,_,0,.cons _ t=>.cons r t
 |_,_,i+1,.cons q t=>.cons q (Vals.set r i t)
theorem Vals.append:∀{xs ys:-V}{us ws:-L},Vals xs us->Vals ys ws->Vals (xs++ys) (us++ws)
 |_,_,_,_,.nil,s=>s
 |_,_,_,_,.cons r t,s=>.cons r (Vals.append t s)
theorem Vals.take:∀{xs:-V}{us:-L}(n:Nat),Vals xs us->Vals (xs.take n) (us.take n)
 |_,_,0,_=>.nil
 |_,_,_+1,.nil=>.nil
 |_,_,n+1,.cons r t=>.cons r (Vals.take n t)
theorem Vals.drop:∀{xs:-V}{us:-L}(n:Nat),Vals xs us->Vals (xs.drop n) (us.drop n)
 |_,_,0,r=>r
 |_,_,_+1,.nil=>.nil
 |_,_,n+1,.cons _ t=>Vals.drop n t
def d_:Option V->Option L->Prop
 |some v,some u=>RelV v u
 |none,none=>True
 |_,_=>False
def KV{κ:Type}:-(κ×V)->-(κ×L)->Prop:=Paired λ(p:κ×V) (q:κ×Value)=>p.1=q.1/\RelV p.2 q.2
noncomputable def kV:Key->V
 |.inl i=>.int i
 |.inr x=>.str x
inductive HO where
 |lst (xs:-V)
 |tup (xs:-V)
 |dK (kvs:-(Key×V))|dT (kvs:-(-Key×V))
 |set (S:Int->Bool) (n:Nat)
 |ins (C dx:O) (fs:-(J×V))
 |own (x:O)
 |xd (fs:-(J×V))
 |met (f x:O)
 |rng (lo hi:Int)
 |frz (o:Q) (u:HO)
 |tbl (ps:Array L)
 |ext (φ:I->Prop)
abbrev Hp:=O->Option HO
noncomputable def upd(H:Hp)(a:O)(o:HO):Hp:=λb=>if b=a then U o else H b
theorem b7{H:Hp}{a:O}{o:HO}:upd H a o a=U o:=by unfold upd;rw[U_ Y]
theorem bf{H:Hp}{a b:O}{o:HO}(h:b≠a):upd H a o b=H b:=by unfold upd;rw[U9 h]
theorem JL{H:Hp}{a b:O}{o u:HO}(h:H a=U o)(h':H b=U u)(d:o≠u):a≠b:=by
 ext e;subst e;rw[h] at h';calc d (Vm h')
theorem dF{H:Hp}{a b:O}{o:HO}(h:H a=U o)(h':H b=Z):a≠b:=by
 ext e;subst e;rw[h] at h';cases h'
section
variable(P:l)(w:g)
def aZ(H:Hp)(h:I)(a:O):HO->Prop
 |.lst xs=>↑xs<=sizeLine/\∃(au:-L)(n:Nat),Vals xs au/\h.get? a=U {cls:=.type "list",data:=.seq au.toArray n}
 |.tup xs=>↑xs<=sizeLine/\∃au:-L,Vals xs au/\IsTup h a au.toArray
 |.dK kvs=>↑kvs<=sizeLine/\(a==sysModules)=ι/\∃vs,KV kvs vs/\h.DictOf (jD P w) a vs
 |.dT kvs=>↑kvs<=sizeLine/\(a==sysModules)=ι/\∃xs:-(-Key×O×L),
   Paired (λ(p:-Key×V) (q:-Key×Addr×Value)=>p.1=q.1/\H q.2.1=U (.tup (p.1.map kV))/\RelV p.2 q.2.2) kvs xs ∧
   ∃o es ep,h.get? a=U o/\o.ExactDict/\o.data=.dict es ep/\es.toList=xs.map (entryOfKey (tupleKind (jD P w)))/\(xs.map (·.1)).Nodup
 |.set S n=>h.SetOf (intKind P w) a S n
 |.ins C dx fs=>H dx=U (.own a)/\fs.length<=1000/\dx≠a/\h.get? a=U (WN C dx) ∧
   ∃mA,h.Ns1 dx mA/\(∀f,d_ (fs.lookup f) (mA f))/\q0v mA (fs.map (·.1))
 |.own _=>∃o,h.get? a=U o
 |.xd fs=>∃mA,h.Ns1 a mA/\∀f,d_ (fs.lookup f) (mA f)
 |.rng lo hi=>∃t u v,h.get? a=U {cls:=.type "range",data:=.fields #[.int lo t,.int hi u,.int 1 v]}
 |.frz o u=>h.get? a=U o/\aZ H h a u
 |.tbl ps=>h.get? a=U {cls:=.none,data:=.fields ps}
 |.met f x=>h.get? a=U (Y1 (.ref f) (.ref x))
 |.ext φ=>φ h/\(∃o,h.get? a=U o)/\∀h1 h2:I,φ h1->(∀o,h1.get? a=U o->h2.get? a=U o)->φ h2
def d7(H:Hp)(h:I):Prop:=∀a o,H a=U o->aZ P w H h a o
end
section
variable{P:l}{w:g}{H H':Hp}{h h':I}{a:O}{o:HO}
theorem aZ.lt(x:aZ P w H h a o):a<h.objs.size:=by
 cases o with
 |lst xs=>let⟨_,_,_,_,e⟩:=x;exact Me e
 |tup xs=>let⟨_,_,_,p⟩:=x;exact p.lt
 |dK kvs=>let⟨_,_,_,_,o,_,_,e,_⟩:=x;exact Me e
 |dT kvs=>let⟨_,_,_,_,o,_,_,e,_⟩:=x;exact Me e
 |set S n=>let⟨o,_,_,_,e,_⟩:=x;exact Me e
 |ins C dx fs=>let⟨_,_,_,e,_⟩:=x;exact Me e
 |own y=>let⟨_,e⟩:=x;exact Me e
 |xd fs=>let⟨_,⟨_,_,_,e,_⟩,_⟩:=x;exact Me e
 |rng lo hi=>let⟨_,_,_,e⟩:=x;exact Me e
 |frz ob u=>let⟨e,_⟩:=x;exact Me e
 |tbl ps=>exact Me (show h.get? a=U _ from x)
 |met f y=>exact Me (show h.get? a=U _ from x)
 |ext φ=>let⟨_,⟨_,e⟩,_⟩:=x;calc Me e
theorem Paired.pA{α β:Type}{F G:α->β->Prop}:∀{l₁:-α}{l₂:-β},Paired F l₁ l₂->(∀a b,F a b->G a b)->Paired G l₁ l₂
 |_,_,.nil,_=>.nil
 |_,_,.cons r t,f=>.cons (f _ _ r) (Paired.pA t f)
theorem aZ.gK(x:aZ P w H h a o)(k:∀b u,(b=a\/H b=U (.own a))->h.get? b=U u->h'.get? b=U u)
  (ho:∀b,H b=U (.own a)->H' b=U (.own a)) (ht:∀b xs,H b=U (.tup xs)->H' b=U (.tup xs)):aZ P w H' h' a o:=by
 induction o with
 |lst xs=>let⟨z,au,n,r,e⟩:=x;exact⟨z,au,n,r,k _ _ (.inl Y) e⟩
 |tup xs=>let⟨z,au,r,ob,e,c⟩:=x;exact⟨z,au,r,ob,k _ _ (.inl Y) e,c⟩
 |dK kvs=>let⟨z,y,vs,r,ob,es,ep,e,c⟩:=x;exact⟨z,y,vs,r,ob,es,ep,k _ _ (.inl Y) e,c⟩
 |dT kvs =>
  let⟨z,y,xs,r,ob,es,ep,e,c⟩:=x;exact⟨z,y,xs,Paired.pA r λp q z=>⟨z.1,ht _ _ z.2.1,z.2.2⟩,ob,es,ep,k _ _ (.inl Y) e,c⟩
 |set S n=>let⟨ob,es,ep,t,e,c⟩:=x;exact⟨ob,es,ep,t,k _ _ (.inl Y) e,c⟩
 |ins C dx fs =>
  let⟨d,z,ne,e,mA,⟨od,es,ep,e2,c⟩,r⟩:=x;exact⟨ho _ d,z,ne,k _ _ (.inl Y) e,mA,⟨od,es,ep,k _ _ (.inr d) e2,c⟩,r⟩
 |own y=>let⟨ob,e⟩:=x;exact⟨ob,k _ _ (.inl Y) e⟩
 |xd fs=>let⟨mA,⟨od,es,ep,e,c⟩,r⟩:=x;exact⟨mA,⟨od,es,ep,k _ _ (.inl Y) e,c⟩,r⟩
 |rng lo hi=>let⟨t,u,v,e⟩:=x;exact⟨t,u,v,k _ _ (.inl Y) e⟩
 |frz ob u ih=>let⟨e,q⟩:=x;exact⟨k _ _ (.inl Y) e,ih q⟩
 |tbl ps =>
  let e:h.get? a=U {cls:=.none,data:=.fields ps}:=x;show h'.get? a=U {cls:=.none,data:=.fields ps};exact k a _ (.inl Y) e
 |met f y =>
  let e:h.get? a=U (Y1 (.ref f) (.ref y)):=x;show h'.get? a=U (Y1 (.ref f) (.ref y));exact k a _ (.inl Y) e
 |ext φ=>let⟨p,⟨o,e⟩,st⟩:=x;calc⟨st _ _ p λo q=>k _ _ (.inl Y) q,⟨o,k _ _ (.inl Y) e⟩,st⟩
theorem d7.lt(x:d7 P w H h)(e:H a=U o):a<h.objs.size:=(x a o e).lt
theorem d7.fresh(x:d7 P w H h)(e:h.objs.size<=a):H a=Z:=by
 cases q:H a with
 |none=>rfl
 |some u=>calc absurd (Uq (x.lt q) e) (Wo _)
theorem d7.kept(x:d7 P w H h)(k:∀b u,h.get? b=U u->h'.get? b=U u):d7 P w H h':=λa o e =>
 (x a o e).gK (λb u _ q=>k b u q) (λ_ q=>q) λ_ _ q=>q
theorem d7.laid(x:d7 P w H h)(k:∀b u,h.get? b=U u->h'.get? b=U u)(hp:h.objs.size<=a)(new:aZ P w (upd H a o) h' a o):d7 P w (upd H a o) h':=λb u e=>by
 let hn:=x.fresh hp
 by_cases hb:b=a
 .subst hb;rw[b7] at e;cases e;exact new
 .rw[bf hb] at e
  calc(x b u e).gK (λc v _ q=>k c v q) (λc q=>by rw[bf (dF q hn)];calc q) λc xs q=>by rw[bf (dF q hn)];calc q
end
def Rd(H:Hp)(a:O)(u:HO):Prop:=H a=U u\/∃o,H a=U (.frz o u)
theorem Rd.ok{P:l}{w:g}{H:Hp}{h:I}{a:O}{u:HO}(r:Rd H a u)(x:d7 P w H h):aZ P w H h a u:=by
 rcases r with r|⟨o,r⟩
 .exact x a u r
 .let⟨_,q⟩:=x a _ r
  calc q
def so:Option HO->Prop
 |some (.lst _)=>True
 |some (.dK _)=>True
 |some (.dT _)=>True
 |some (.set _ _)=>True
 |some (.ins _ _ _)=>True
 |some (.ext _)=>True
 |_=>False
section
variable{P:l}{w:g}{H:Hp}{h h':I}{x e:O}{o':HO}
theorem d7.write(ok:d7 P w H h)(mu:so (H x))(he:e=x\/H e=U (.own x))(k:∀b u,b≠e->h.get? b=U u->h'.get? b=U u)(lO:∃u,h'.get? e=U u)
  (new:aZ P w (upd H x o') h' x o'):d7 P w (upd H x o') h':=λb u q=>by
 let su:∀c y,H c=U (.own y)->c≠x:=λc y r z=>by subst z;rw[r] at mu;exact mu
 let xK:∀c xs,H c=U (.tup xs)->c≠x:=λc xs r z=>by subst z;rw[r] at mu;exact mu
 by_cases hb:b=x
 .subst hb;rw[b7] at q;cases q;exact new
 .rw[bf hb] at q
  by_cases pB:b=e
  .let q':H b=U (.own x):=by
    rcases he with z|z
    .exact absurd (pB.trans z) hb
    .rw[pB];exact z
   rw[q] at q';cases q';let⟨v,hv⟩:=lO;exact⟨v,by rw[pB];calc hv⟩
  .refine (ok b u q).gK (λc v hc r=>k c v ?_ r) (λc r=>by rw[bf (su c b r)];calc r) λc xs r=>by rw[bf (xK c xs r)];exact r
   rcases hc with rfl|hc
   .exact pB
   .ext rfl
    rcases he with z|z
    .exact su c b hc z
    .rw[hc] at z;cases z;calc hb Y
end
structure Un(fs ex:-O)(H H':Hp)(h h':I):Prop where
 keep:∀b o,h.get? b=U o->H b=Z->b∉fs->b∉ex->h'.get? b=U o
 slot:∀b o,h.get? b=U o->H b=Z->b∈fs->b∉ex->∃sl,h'.get? b=U {o with slots:=sl}
 free:∀b o,h.get? b=U o->H b=Z->b∉ex->H' b=Z
 there:∀b o,h.get? b=U o->b∉ex->∃o',h'.get? b=U o'
 eQ:∀b xs,H b=U (.tup xs)->H' b=U (.tup xs)
 gf:∀b o u,H b=U (.frz o u)->H' b=U (.frz o u)
 gg:∀b ps,H b=U (.tbl ps)->∃more,H' b=U (.tbl (ps++more))
 fL:∀b xs o,H b=U (.tup xs)->h.get? b=U o->b∉ex->h'.get? b=U o
section
variable{fs JM ex Ud:-O}{H H1 H2:Hp}{h h1 h2 h':I}{a x e:O}{o:HO}
theorem Un.any(u:Un fs ex H H1 h h1){b:O}{ob:Q}(q:h.get? b=U ob)(n:H b=Z)(hx:b∉ex):∃sl,h1.get? b=U {ob with slots:=sl}:=by
 by_cases hb:b∈fs
 .exact u.slot b ob q n hb hx
 .calc⟨ob.slots,u.keep b ob q n hb hx⟩
theorem Un.kept(k:∀b u,h.get? b=U u->h'.get? b=U u):Un fs ex H H h h' :=
 ⟨λb ob q _ _ _=>k b ob q,λb ob q _ _ _=>⟨ob.slots,k b ob q⟩,λ_ _ _ n _=>n,λb ob q _=>⟨ob,k b ob q⟩,λ_ _ q=>q,λ_ _ _ q=>q,λ_ ps q=>⟨#[],by rw[q];simp⟩,λb _ u _ q _=>k b u q⟩
theorem Un.refl:Un fs ex H H h h:=Un.kept λ_ _ q=>q
theorem Un.laid(k:∀b u,h.get? b=U u->h'.get? b=U u)(hp:h.objs.size<=a)(hn:H a=Z):Un fs ex H (upd H a o) h h' where
 keep:=λb u q _ _ _=>k b u q
 slot:=λb u q _ _ _=>⟨u.slots,k b u q⟩
 free:=λb u q n _=>by rw[bf (U8 (Uq (Me q) hp))];exact n
 there:=λb u q _=>⟨u,k b u q⟩
 eQ:=λb xs q=>by rw[bf (dF q hn)];exact q
 gf:=λb u xs q=>by rw[bf (dF q hn)];exact q
 gg:=λb ps q=>⟨#[],by rw[bf (dF q hn),q];simp⟩
 fL:=λb _ u _ q _=>k b u q
theorem Un.write(mu:so (H x))(he:e=x\/H e=U (.own x))(k:∀b u,b≠e->h.get? b=U u->h'.get? b=U u)(lO:∃u,h'.get? e=U u):Un fs ex H (upd H x o) h h':=by
 let hx:∀b,H b=Z->b≠x:=λb n z=>by subst z;rw[n] at mu;exact mu
 let hb:∀b,H b=Z->b≠e:=λb n z=>by
  subst z;rcases he with r|r
  .exact hx b n r
  .rw[n] at r;cases r
 let hm:∀b u,H b=U u->¬ so (U u)->b≠x:=λb u q nm z=>by subst z;rw[q] at mu;exact nm mu
 refine⟨λb u q n _ _=>k b u (hb b n) q,λb u q n _ _=>⟨u.slots,k b u (hb b n) q⟩,λb u q n _=>by rw[bf (hx b n)];calc n,λb u q _=>?_,
  λb xs q=>by rw[bf (hm b _ q λz=>z)];calc q,λb u xs q=>by rw[bf (hm b _ q λz=>z)];calc q,λb ps q=>⟨#[],by rw[bf (hm b _ q λz=>z),q];simp⟩,λb xs u q e _=>k b u (λz=>by
   subst z;rcases he with r|r
   .exact hm b _ q (λz=>z) r
   .rw[q] at r;cases r) e⟩
 by_cases pB:b=e
 .subst pB;exact lO
 .calc⟨u,k b u pB q⟩
end
noncomputable def ve(h:I)(H:Hp):-O:=(Vp h.objs.size).filter λa=>(H a).isSome
noncomputable def gh(h:I)(H:Hp):I:=PySem.W.hideAll h (ve h H)
theorem JN(h:I)(H:Hp):(gh h H).objs.size=h.objs.size:=PySem.W.hideAll_size _ _
theorem JO{h:I}{H:Hp}{b:O}{o:Q}(e:h.get? b=U o)(n:H b=Z):(gh h H).get? b=U o :=
 PySem.W.hideAll_get _ e λhm=>by
  let q:(H b).isSome=θ:=(W8.mp hm).2;rw[n] at q;simp at q
theorem Dp{h:I}{H:Hp}{b:O}{o:Q}(e:(gh h H).get? b=U o):h.get? b=U o/\H b=Z:=by
 let e':h.get? b=U o:=PySem.W.of_hideAll (ve h H) e;refine⟨e',?_⟩
 cases q:H b with
 |none=>rfl
 |some x =>
  let hm:b∈ve h H:=W8.mpr ⟨VP.mpr (Me e'),by simp[q]⟩;let z:(gh h H).get? b=Z:=PySem.W.hideAll_none (ve h H) hm;rw[z] at e;cases e
structure Mod(K:Ee)(mg:J->Option L)(base:I):Prop where
 jE:K.In base
 glob:base.Ns mainGlobals mg
 blt:∃mb,base.Ns builtinsNs mb/\∀x:J,x≠"__name__" -> mb x=bootBuiltins x
 nolimit:base.NoLimit
structure Cx where
 prog:l
 w:g
 K:Ee
 mg:J->Option L
 base:I
 A:q
 N:-J
 s₀:B
 H₀:Hp
 env:t
 outer:-t
 stack:-t
 ex:-O
 fn:J->Bool
 calm:Bool
 pn:-(O×Q)
 xe:L->B->Prop
noncomputable def j_(l:-t):-O:=l.filterMap (·.frame)
noncomputable abbrev Cx.fs(X:Cx):-O:=j_ X.outer
def sv(sc:o)(x:J):Prop:=sc.names.lookup x=U .local\/sc.names.lookup x=U .cell\/sc.names.lookup x=U .free
def Loc(sc:o)(x:J):Prop:=sc.names.lookup x=U .local\/sc.names.lookup x=U .cell
abbrev b8(x:J):Prop:=(x==("__debug__" : J))=ι
abbrev ft(X:Cx)(x:J):Prop:=X.fn x=θ\/X.env.scope.names.lookup x=U .local
abbrev cF(X:Cx)(e:M)(es:-M):Prop:=starEach (e::es) X.env=(ι,eval e X.env)::starEach es X.env
abbrev cR(X:Cx)(p:y)(es:-M):Prop:=(backTo p (starEach es X.env)).any (·.1)=ι
abbrev aM:=-(O×Q)
def Look(env:t)(h:I)(m:J->Option L)(x:J)(u:L):Prop :=
 (env.kindOf x=U .local/\m x=U u)\/((env.kindOf x=U .cell\/env.kindOf x=U .free)/\∃c,env.cells.lookup x=U c/\h.IsCell c (U u))
structure Cx.Ok(X:Cx):Prop where
 mod:Mod X.K X.mg X.base
 kind:X.env.scope.kind=.function
 glob:X.env.globals=mainGlobals
 blt:X.env.builtins=builtinsNs
 above:⇑X.s₀<=X.env.locals
 inj:∀x y c,X.env.cells.lookup x=U c->X.env.cells.lookup y=U c->x=y
 has:∀x,(X.env.kindOf x=U .cell\/X.env.kindOf x=U .free)->∃c,X.env.cells.lookup x=U c
 qP:∀x c,X.fn x=θ->X.env.cells.lookup x=U c->⇑X.s₀<=c
 hd:X.calm=θ->X.A.handled=Z
 frames:X.A.frames=U X.stack
 vf:X.stack=X.outer\/(X.stack=X.env::X.outer/\X.env.frame=U X.env.locals)
 Dq:∀b∈X.ex,b≠X.env.locals/\∀x c,X.env.cells.lookup x=U c->c≠b
 bs:∀b o,X.base.get? b=U o->X.s₀.heap.get? b=U o/\(X.H₀ b=Z\/∃xs,X.H₀ b=U (.tup xs))
 mq:X.base.objs.size<=⇑X.s₀
 jF:∀b o,X.base.get? b=U o->b∉X.ex
 mw:∀b∈X.ex,b∉X.fs
 eR:X.s₀.heap.FunFrames X.base X.outer
 ou:∀b∈X.fs,X.H₀ b=Z
structure Inv(X:Cx)(pins:aM)(σ:-(Option V))(H:Hp)(s:B):Prop where
 ok:X.Ok
 os:s.os=X.s₀.os
 bare:AllBare s.gens
 base:Un X.fs X.ex X.H₀ H X.s₀.heap s.heap
 loc:∃m,s.heap.Ns X.env.locals m/\∀(i:Nat)(x:J)(v:V),X.N[i]?=U x->σ[i]?=U (U v)->sv X.env.scope x->∃u,RelV v u/\Look X.env s.heap m x u
 cell:∀x c,X.env.cells.lookup x=U c->∃v,s.heap.IsCell c v
 free:H X.env.locals=Z
 de:∀x c,X.env.cells.lookup x=U c->H c=Z
 pin:∀p∈X.pn++pins,s.heap.get? p.1=U p.2/\H p.1=Z/\p.1≠X.env.locals/\p.1∉X.fs/\∀v,p.2.data≠.cell v
 ba:d7 X.prog X.w H s.heap
 len:↑σ=↑X.N
section
variable{X:Cx}{pins:aM}{σ:-(Option V)}{H H':Hp}{s:B}{h':I}
theorem Cx.Ok.xM(ok:X.Ok){b:O}{o:Q}(e:X.base.get? b=U o):b∉X.fs:=λhb=>by
 let:=(ok.eR.mem hb).1;rw[e] at this;cases this
theorem Inv.bs(I:Inv X pins σ H s):∀b o,X.base.get? b=U o->s.heap.get? b=U o/\(H b=Z\/∃xs,H b=U (.tup xs)):=λb o e=>by
 obtain⟨e1,e2|⟨xs,e2⟩⟩:=I.ok.bs b o e
 .exact⟨I.base.keep b o e1 e2 (I.ok.xM e) (I.ok.jF b o e),.inl (I.base.free b o e1 e2 (I.ok.jF b o e))⟩
 .calc⟨I.base.fL b xs o e2 e1 (I.ok.jF b o e),.inr ⟨xs,I.base.eQ b xs e2⟩⟩
theorem Inv.bk(I:Inv X pins σ H s):∀b o,X.base.get? b=U o->s.heap.get? b=U o:=λb o e=>(I.bs b o e).1
theorem Inv.mod(I:Inv X pins σ H s):Mod X.K X.mg X.base:=I.ok.mod
theorem Inv.fu(I:Inv X pins σ H s):X.K.In s.heap:=I.ok.mod.jE.keeps I.bk
theorem Inv.nolimit(I:Inv X pins σ H s):s.heap.NoLimit:=I.ok.mod.nolimit.keeps I.bk
theorem Inv.lt(I:Inv X pins σ H s):X.env.locals<⇑s:=let⟨_,hn,_⟩:=I.loc;hn.lt
theorem Inv.sz(I:Inv X pins σ H s):⇑X.s₀<=⇑s:=Vo I.ok.above (WB I.lt)
theorem Inv.xN(I:Inv X pins σ H s){a:O}(h:⇑s<=a):a∉X.fs:=λhb=>by
 let⟨_,o,ho,_⟩:=I.ok.eR.mem hb;calc absurd (Uq (Me ho) (Vo I.sz h)) (Wo _)
theorem Inv.pC(I:Inv X pins σ H s):∀x c,X.env.cells.lookup x=U c->c≠X.env.locals:=λx c e z=>by
 let⟨v,o,ho,hd⟩:=I.cell x c e;let⟨m,⟨o',es,ep,dS,pD,_⟩,_⟩:=I.loc;rw[z,dS] at ho;cases ho;rw[pD] at hd;cases hd
theorem Inv.eR(I:Inv X pins σ H s):s.heap.FunFrames X.base X.outer:=by
 let all:∀(l:-t),(∀b∈j_ l,b∈X.fs)->X.s₀.heap.FunFrames X.base l->s.heap.FunFrames X.base l:=by
  ext l
  induction l with
  |nil=>ext _ _;trivial
  |cons env r ih =>
   ext hs hl;let⟨hk,⟨L,o,hf,hn,ho,hd⟩,hr⟩:=hl;let hL:L∈X.fs:=hs L (by unfold j_;rw[YD,hf];calc Vc);let⟨sl,e⟩:=I.base.slot L o ho (I.ok.ou L hL) hL λz=>I.ok.mw L z hL;exact⟨hk,⟨L,_,hf,hn,e,hd⟩,ih (λb hb=>hs b (by unfold j_;rw[YD,hf];calc Us _ hb)) hr⟩
 calc all X.outer (λ_ hb=>hb) I.ok.eR
theorem Inv.stack(I:Inv X pins σ H s):s.heap.FunFrames X.base X.stack:=by
 rcases I.ok.vf with e|⟨e,hf⟩
 .rw[e];exact I.eR
 .rw[e]
  let⟨m,hn,_⟩:=I.loc;calc .cons (by rw[I.ok.kind];decide) hf hn ?_ I.eR;calc Heap.get?_none_of_le (Vo I.ok.mq I.ok.above)
theorem Inv.gL(I:Inv X pins σ H s):∀b∈j_ X.stack,b∈X.env.locals::X.fs:=λb hb=>by
 rcases I.ok.vf with e|⟨e,hf⟩
 .rw[e] at hb;exact Us _ hb
 .rw[e] at hb
  unfold j_ at hb;rw[YD,hf] at hb;calc hb
theorem Inv.je(I:Inv X pins σ H s):∀b∈j_ X.stack,H b=Z:=λb hb=>by
 rcases Um.mp (I.gL b hb) with e|hb
 .rw[e];exact I.free
 .let⟨_,o,ho,_⟩:=I.ok.eR.mem hb
  calc I.base.free b o ho (I.ok.ou b hb) λz=>I.ok.mw b z hb
theorem Inv.step{g':Array GenState}{t':Nat}{d':Drawn}{ch:-O}(I:Inv X pins σ H s)
  (lP:∀b∈ch,(b∈X.ex\/⇑X.s₀<=b)/\b≠X.env.locals/\(∀x c,X.env.cells.lookup x=U c->c≠b)/\∀p∈X.pn++pins,p.1≠b)
  (keep:∀b o,b≠X.env.locals->b∉X.fs->b∉ch->s.heap.get? b=U o->H b=Z->h'.get? b=U o)
  (slot:∀b o,b≠X.env.locals->b∈X.fs->b∉ch->s.heap.get? b=U o->H b=Z->∃sl,h'.get? b=U {o with slots:=sl}) (free:∀b o,b∉ch->s.heap.get? b=U o->H b=Z->H' b=Z)
  (there:∀b o,b∉ch->s.heap.get? b=U o->∃o',h'.get? b=U o')
  (eQ:∀b xs,H b=U (.tup xs)->H' b=U (.tup xs)) (gf:∀b o u,H b=U (.frz o u)->H' b=U (.frz o u)) (gg:∀b ps,H b=U (.tbl ps)->∃more,H' b=U (.tbl (ps++more)))
  (fL:∀b xs o,H b=U (.tup xs)->s.heap.get? b=U o->b∉ch->h'.get? b=U o)
  (ns:∀m,s.heap.Ns X.env.locals m->h'.Ns X.env.locals m) (ba:d7 X.prog X.w H' h') (hg:AllBare g') :
  Inv X pins σ H' {s with heap:=h',gens:=g',drawn:=d',toks:=t'}:=by
 let Dr:∀b o,X.s₀.heap.get? b=U o->b≠X.env.locals:=λb o e=>U8 (Uq (Me e) I.ok.above)
 let sx:∀b o,X.s₀.heap.get? b=U o->b∉X.ex->b∉ch:=λb o e hx hb=>by
  rcases(lP b hb).1 with z|z
  .exact hx z
  .exact absurd (Uq (Me e) z) (Wo _)
 let cellK:∀x c,X.env.cells.lookup x=U c->∀v,s.heap.IsCell c v->h'.IsCell c v:=λx c e v ⟨o,ho,hd⟩↦by
  let kG:c∉ch:=λz=>(lP c z).2.2.1 x c e Y
  by_cases hc:c∈X.fs
  .let⟨sl,q⟩:=slot c o (I.pC x c e) hc kG ho (I.de x c e)
   exact⟨_,q,hd⟩
  .exact⟨o,keep c o (I.pC x c e) hc kG ho (I.de x c e),hd⟩
 refine⟨I.ok,I.os,hg,⟨λb o e n hb hx=>?_,λb o e n hb hx=>?_,λb o e n hx=>?_,λb o e hx=>?_,λb xs e=>eQ b xs (I.base.eQ b xs e),λb o xs e=>gf b o xs (I.base.gf b o xs e),λb ps e=>?_,λb xs o e1 e2 hx=>fL b xs o (I.base.eQ b xs e1) (I.base.fL b xs o e1 e2 hx) (sx b o e2 hx)⟩,?_,λx c e=>?_,?_,λx c e=>?_,λp hp=>?_,ba,I.len⟩
 .exact keep b o (Dr b o e) hb (sx b o e hx) (I.base.keep b o e n hb hx) (I.base.free b o e n hx)
 .let⟨sl,e1⟩:=I.base.slot b o e n hb hx
  let⟨Ds,e2⟩:=slot b _ (Dr b o e) hb (sx b o e hx) e1 (I.base.free b o e n hx);exact⟨Ds,e2⟩
 .let⟨o',e1⟩:=I.base.there b o e hx
  exact free b o' (sx b o e hx) e1 (I.base.free b o e n hx)
 .let⟨o',e1⟩:=I.base.there b o e hx
  exact there b o' (sx b o e hx) e1
 .let⟨m1,e1⟩:=I.base.gg b ps e
  let⟨m2,e2⟩:=gg b _ e1;exact⟨m1++m2,by rw[e2,Array.append_assoc]⟩
 .let⟨m,hn,hl⟩:=I.loc
  calc⟨m,ns m hn,λi x v e1 e2 e3=>?_⟩;let⟨u,r,l⟩:=hl i x v e1 e2 e3;calc⟨u,r,?_⟩;rcases l with l|⟨k,c,e,z⟩
  .exact .inl l
  .exact .inr ⟨k,c,e,cellK x c e _ z⟩
 .let⟨v,z⟩:=I.cell x c e
  exact⟨v,cellK x c e v z⟩
 .let⟨m,⟨o,_,_,ho,_⟩,_⟩:=I.loc
  exact free _ o (λz=>(lP _ z).2.1 Y) ho I.free
 .let⟨v,o,ho,hd⟩:=I.cell x c e
  exact free c o (λz=>(lP c z).2.2.1 x c e Y) ho (I.de x c e)
 .let⟨e,n,ne,nf,d⟩:=I.pin p hp
  let kG:p.1∉ch:=λz=>(lP p.1 z).2.2.2 p hp Y;calc⟨keep p.1 p.2 ne nf kG e n,free p.1 p.2 kG e n,ne,nf,d⟩
theorem Inv.un{t':Nat}(I:Inv X pins σ H s)(u:Un X.fs [] H H' s.heap h')(ba:d7 X.prog X.w H' h'):Inv X pins σ H' {s with heap:=h',toks:=t'}:=by
 let⟨m,⟨o,es,ep,ho,r⟩,_⟩:=id I.loc;let⟨sl,hL⟩:=u.any ho I.free (by simp)
 exact I.step (g':=s.gens) (d':=s.drawn) (ch:=[]) (λ_ z=>nomatch z) (λb o _ hb _ e n=>u.keep b o e n hb (by simp)) (λb o _ hb _ e n=>u.slot b o e n hb (by simp)) (λb o _ e n=>u.free b o e n (by simp)) (λb o _ e=>u.there b o e (by simp)) u.eQ u.gf u.gg (λb xs o q e _=>u.fL b xs o q e (by simp)) (λm' hm=>by
  let⟨o',xO,xP,dS,r'⟩:=hm;rw[ho] at dS;cases dS
  calc⟨_,xO,xP,hL,r'⟩) ba I.bare
theorem Inv.call{g':Array GenState}{t':Nat}{d':Drawn}{ch:-O}(I:Inv X pins σ H s)(u:Un (j_ X.stack) ch H H' s.heap h')(ba:d7 X.prog X.w H' h')(hg:AllBare g')
  (lP:∀b∈ch,(b∈X.ex\/⇑X.s₀<=b)/\b≠X.env.locals/\(∀x c,X.env.cells.lookup x=U c->c≠b)/\∀p∈X.pn++pins,p.1≠b) :
  Inv X pins σ H' {s with heap:=h',gens:=g',drawn:=d',toks:=t'}:=by
 let⟨m,⟨o,es,ep,ho,r⟩,_⟩:=id I.loc;let⟨sl,hL⟩:=u.any ho I.free λz=>(lP _ z).2.1 Y
 exact I.step (ch:=ch) lP (λb o hL hb hc e n=>u.keep b o e n (λz=>(Um.mp (I.gL b z)).elim hL hb) hc) (λb o _ _ hc e n=>u.any e n hc) (λb o hc e n=>u.free b o e n hc) (λb o hc e=>u.there b o e hc) u.eQ u.gf u.gg (λb xs o q e hc=>u.fL b xs o q e hc) (λm' hm=>by
  let⟨o',xO,xP,dS,r'⟩:=hm;rw[ho] at dS;cases dS
  calc⟨_,xO,xP,hL,r'⟩) ba hg
theorem Inv.turned{t':Nat}{it:O}(I:Inv X pins σ H s)(k:∀b o,b≠it->s.heap.get? b=U o->h'.get? b=U o)(hn:H it=Z)(hL:it≠X.env.locals)
  (h1:it∈X.ex\/⇑X.s₀<=it) (h2:∀x c,X.env.cells.lookup x=U c->c≠it) (h3:∀p∈X.pn++pins,p.1≠it):Inv X pins σ H {s with heap:=h',toks:=t'}:=by
 let Dt:∀b u,H b=U u->b≠it:=λb u e z=>by rw[z,hn] at e;cases e
 refine I.step (g':=s.gens) (d':=s.drawn) (ch:=[it]) (λb hb=>?_) (λb o _ _ hc e _=>k b o (λz=>hc (by simp[z])) e) (λb o _ _ hc e _=>⟨o.slots,k b o (λz=>hc (by simp[z])) e⟩) (λ_ _ _ _ n=>n)
  (λb o hc e=>⟨o,k b o (λz=>hc (by simp[z])) e⟩) (λ_ _ e=>e) (λ_ _ _ e=>e) (λb ps e=>⟨#[],by rw[e];simp⟩) (λb _ o _ e hc=>k b o (λz=>hc (by simp[z])) e) (λm hm=>?_) (λb u e=>?_) I.bare
 .let e:b=it:=by simpa using hb
  subst e;exact⟨h1,hL,h2,h3⟩
 .let⟨o,es,ep,ho,r⟩:=hm
  exact⟨o,es,ep,k _ o (Xx hL) ho,r⟩
 .refine (I.ba b u e).gK (λc v hc q=>k c v ?_ q) (λ_ q=>q) λ_ _ q=>q
  rcases hc with z|z
  .rw[z];exact Dt b u e
  .calc Dt c _ z
theorem Inv.tok(I:Inv X pins σ H s)(t:Nat):Inv X pins σ H {s with toks:=t}:=I.un (h':=s.heap) (t':=t) Un.refl I.ba
theorem Inv.kept{t':Nat}(I:Inv X pins σ H s)(k:∀b u,s.heap.get? b=U u->h'.get? b=U u):Inv X pins σ H {s with heap:=h',toks:=t'}:=I.un (Un.kept k) (I.ba.kept k)
theorem Inv.laid{a:O}{o:HO}{t':Nat}(I:Inv X pins σ H s)(k:∀b u,s.heap.get? b=U u->h'.get? b=U u)(hp:⇑s<=a)(new:aZ X.prog X.w (upd H a o) h' a o):
  Inv X pins σ (upd H a o) {s with heap:=h',toks:=t'}:=I.un (Un.laid k hp (I.ba.fresh hp)) (I.ba.laid k hp new)
theorem Inv.write{x e:O}{o:HO}{t':Nat}(I:Inv X pins σ H s)(mu:so (H x))(he:e=x\/H e=U (.own x))(k:∀b u,b≠e->s.heap.get? b=U u->h'.get? b=U u)(lO:∃u,h'.get? e=U u)
  (new:aZ X.prog X.w (upd H x o) h' x o):Inv X pins σ (upd H x o) {s with heap:=h',toks:=t'}:=I.un (Un.write mu he k lO) (I.ba.write mu he k lO new)
theorem Inv.fH{df:aM}(I:Inv X pins σ H s)(h:∀p∈df,s.heap.get? p.1=U p.2/\H p.1=Z/\p.1≠X.env.locals/\p.1∉X.fs/\∀v,p.2.data≠.cell v):Inv X df σ H s :=
 ⟨I.ok,I.os,I.bare,I.base,I.loc,I.cell,I.free,I.de,λp hp=>(Vs.mp hp).elim (λz=>I.pin p (Wl _ z)) (h p),I.ba,I.len⟩
theorem Du{N:-J}(hN:N.Nodup){i j:Nat}{x:J}(a:N[i]?=U x)(b:N[j]?=U x):i=j:=by
 let⟨h1,e1⟩:=qW.mp a;let⟨h2,e2⟩:=qW.mp b;calc(Yr hN).mp (e1.trans e2.symm)
theorem Dv{M:Model}{A:Β}{E:bw}{i:Nat}{x:J}{v:V}{u:L}{Q:Unit->B->Prop}(I:Inv X pins σ H s)(hN:X.N.Nodup)(hi:X.N[i]?=U x)(hx:Loc X.env.scope x)(r:RelV v u)
  (h:∀s',Inv X pins (σ.set i (U v)) H s'->(∃a,XN a s.heap s'.heap/\(a=X.env.locals\/X.env.cells.lookup x=U a))->Q () s') (hf:ft X x:=by first|exact .inl Y|exact .inr Y|assumption):G M A (storeName X.env x u) Q E s:=by
 let⟨m,hn,hl⟩:=id I.loc;let xQ:(X.env.scope.kind==.class||(X.env.scope.kind==.module&&X.env.locals != X.env.globals))=ι:=by rw[I.ok.kind];rfl
 let Dw:i<↑σ:=by rw[I.len];exact(qW.mp hi).1
 let pC:=I.pC
 let tracked:∀{a:O}{h':Α},(∃o,s.heap.get? a=U o/\H a=Z)->XN a s.heap h'->d7 X.prog X.w H h':=λ{a h'} ha hs b ob e=>by
  let⟨_,_,oy⟩:=ha;calc(I.ba b ob e).gK (λc w' hc q=>(hs.2 c ?_).trans q) (λ_ q=>q) λ_ _ q=>q;ext rfl;rcases hc with rfl|hc
  .rw[oy] at e;cases e
  .rw[oy] at hc;cases hc
 rcases hx with hk|hk
 .refine wpAny_storeName_local hk hn (λh' me hs=>?_) xQ
  let⟨oL,_,_,vg,_⟩:=id hn;refine h _ ⟨I.ok,I.os,I.bare,⟨λb o e n hb hx=>?_,λb o e n hb hx=>?_,I.base.free,λb o e hx=>?_,I.base.eQ,I.base.gf,I.base.gg,λb xs o e1 e hx=>(hs.2 b (U8 (Uq (Me e) I.ok.above))).trans (I.base.fL b xs o e1 e hx)⟩,⟨_,me,λj y v' e1 e2 e3=>?_⟩,λy c e=>?_,I.free,I.de,λp hp=>?_,tracked ⟨oL,vg,I.free⟩ hs,by simpa using I.len⟩ ⟨_,hs,.inl Y⟩
  .exact (hs.2 b (U8 (Uq (Me e) I.ok.above))).trans (I.base.keep b o e n hb hx)
  .let⟨sl,e1⟩:=I.base.slot b o e n hb hx
   exact⟨sl,(hs.2 b (U8 (Uq (Me e) I.ok.above))).trans e1⟩
  .let⟨o',e1⟩:=I.base.there b o e hx
   exact⟨o',(hs.2 b (U8 (Uq (Me e) I.ok.above))).trans e1⟩
  .by_cases hj:j=i
   .subst hj
    rw[hi] at e1;cases e1;rw[VN Dw] at e2;cases e2
    exact⟨u,r,.inl ⟨hk,by simp⟩⟩
   .rw[VI (Xx hj)] at e2
    let⟨u',r',q⟩:=hl j y v' e1 e2 e3;calc⟨u',r',?_⟩;rcases q with⟨k,e⟩|⟨k,c,e,z⟩
    .refine .inl ⟨k,?_⟩
     let:y≠x:=λe=>hj (Du hN e1 (e▸hi));simp[this,e]
    .exact .inr ⟨k,c,e,z.sameBut hs (pC y c e)⟩
  .let⟨w',z⟩:=I.cell y c e
   exact⟨w',z.sameBut hs (pC y c e)⟩
  .let⟨e,n,ne,nf,d⟩:=I.pin p hp
   exact⟨(hs.2 p.1 ne).trans e,n,ne,nf,d⟩
 .let iG:X.fn x=θ:=by
   rcases hf with z|z
   .exact z
   .rw[z] at hk;cases hk
  let⟨c,hc⟩:=I.ok.has x (.inl hk);let⟨w',z⟩:=I.cell x c hc;calc wpAny_storeName_cell I.ok.kind hk hc z (λh' ka hs=>?_);let⟨oc,Dy,xR⟩:=id z;refine h {s with heap:=h'} ⟨I.ok,I.os,I.bare,⟨λb o e n hb hx=>?_,λb o e n hb hx=>?_,I.base.free,λb o e hx=>?_,I.base.eQ,I.base.gf,I.base.gg,λb xs o e1 e hx=>(hs.2 b (U8 (Uq (Me e) (I.ok.qP x c iG hc)))).trans (I.base.fL b xs o e1 e hx)⟩,⟨m,hn.sameBut hs (Xx (pC x c hc)),λj y v' e1 e2 e3=>?_⟩,λy c' e=>?_,I.free,I.de,λp hp=>?_,tracked ⟨oc,Dy,I.de x c hc⟩ hs,by simpa using I.len⟩ ⟨c,hs,.inr hc⟩
  .exact (hs.2 b (U8 (Uq (Me e) (I.ok.qP x c iG hc)))).trans (I.base.keep b o e n hb hx)
  .let⟨sl,e1⟩:=I.base.slot b o e n hb hx
   exact⟨sl,(hs.2 b (U8 (Uq (Me e) (I.ok.qP x c iG hc)))).trans e1⟩
  .let⟨o',e1⟩:=I.base.there b o e hx
   exact⟨o',(hs.2 b (U8 (Uq (Me e) (I.ok.qP x c iG hc)))).trans e1⟩
  .by_cases hj:j=i
   .subst hj
    rw[hi] at e1;cases e1;rw[VN Dw] at e2;cases e2
    exact⟨u,r,.inr ⟨.inl hk,c,hc,ka⟩⟩
   .rw[VI (Xx hj)] at e2
    let⟨u',r',q⟩:=hl j y v' e1 e2 e3;calc⟨u',r',?_⟩;rcases q with q|⟨k,c',e,z'⟩
    .exact .inl q
    .refine .inr ⟨k,c',e,z'.sameBut hs ?_⟩
     ext rfl;exact hj (Du hN e1 (I.ok.inj _ _ _ e hc▸hi))
  .by_cases hcc:c'=c
   .subst hcc;exact⟨_,ka⟩
   .let⟨w2,z2⟩:=I.cell y c' e
    exact⟨w2,z2.sameBut hs hcc⟩
  .let⟨e,n,ne,nf,d⟩:=I.pin p hp
   calc⟨(hs.2 p.1 ?_).trans e,n,ne,nf,d⟩;ext q;rw[q,Dy] at e;let q':oc=p.2:=Vm e;calc d w' (by rw[<-q'];calc xR)
theorem Dz{M:Model}{A:q}{E:bw}{i:Nat}{x:J}{v:V}{u:L}{Q:Unit->B->Prop}(I:Inv X pins σ H s)(hN:X.N.Nodup)(hi:X.N[i]?=U x)(hx:Loc X.env.scope x)(r:RelV v u)
  (h:∀s',Inv X pins (σ.set i (U v)) H s'->Q () s') (hf:ft X x:=by first|exact .inl Y|exact .inr Y|assumption):G M A (storeName X.env x u) Q E s :=
 Dv I hN hi hx r (λs' I' _=>h s' I') hf
theorem Inv.sy{s':B}{ch:-O}(I:Inv X pins σ H s)(ho:s'.os=s.os)(u:Un (j_ X.stack) ch H H' s.heap s'.heap)(ba:d7 X.prog X.w H' s'.heap)(hg:AllBare s'.gens)
  (lP:∀b∈ch,(b∈X.ex\/⇑X.s₀<=b)/\b≠X.env.locals/\(∀x c,X.env.cells.lookup x=U c->c≠b)/\∀p∈X.pn++pins,p.1≠b):Inv X pins σ H' s':=by
 let⟨h',g',d',t',o'⟩:=s';let e:o'=s.os:=ho;subst e;calc I.call (g':=g') (t':=t') (d':=d') u ba hg lP
end
abbrev XK:=L->Option O->Hp->Prop
abbrev St:=-(Option V)
abbrev VK:=V->Hp->Prop
abbrev TE:=St->Hp->VK->Prop
abbrev TT:=St->Hp->(Bool->Hp->Prop)->Prop
abbrev TA:=St->Hp->(-V->Hp->Prop)->Prop
structure Ends where
 nx:St->Hp->Prop
 rt:VK
 bk:St->Hp->Prop:=λ_ _=>False
 ct:St->Hp->Prop:=λ_ _=>False
abbrev TS:=Ends->St->Hp->Prop
inductive EP (X:Cx) (pins:aM) (σ:St) (Q:VK) (u:L) (s':B):Prop
 |mk (v:V) (H':Hp) (I:Inv X pins σ H' s') (r:RelV v u) (q:Q v H')
def TP(X:Cx)(pins:aM)(σ:St)(Q:Bool->Hp->Prop)(b:Bool)(s':B):Prop:=∃H',Inv X pins σ H' s'/\Q b H'
inductive AP (X:Cx) (pins:aM) (σ:St) (Q:-V->Hp->Prop) (us:-L) (s':B):Prop
 |mk (vs:-V) (H':Hp) (I:Inv X pins σ H' s') (r:Vals vs us) (q:Q vs H')
def SP(X:Cx)(pins:aM)(D:Ends)(f:Flow)(s':B):Prop :=
 match f with
 |.next=>∃σ' H',Inv X pins σ' H' s'/\D.nx σ' H'
 |.brk=>∃σ' H',Inv X pins σ' H' s'/\D.bk σ' H'
 |.cont=>∃σ' H',Inv X pins σ' H' s'/\D.ct σ' H'
 |.ret u=>∃v σ' H',Inv X pins σ' H' s'/\RelV v u/\D.rt v H'
structure JE(X:Cx)(e:M)(t:TE):Prop where
 out:∀(pins:aM)(s:B)(σ:St)(H:Hp)(Q:VK),Inv X pins σ H s->t σ H Q->G (S X.prog X.w) X.A (eval e X.env) (EP X pins σ Q) X.xe s
instance {X:Cx} {e:M} {t:TE}:CoeFun (JE X e t) (λ_=>∀(pins:aM)(s:B)(σ:St)(H:Hp)(Q:VK),Inv X pins σ H s->t σ H Q->G (S X.prog X.w) X.A (eval e X.env) (EP X pins σ Q) X.xe s):=⟨JE.out⟩
structure JT(X:Cx)(e:M)(t:TT):Prop where
 out:∀(pins:aM)(s:B)(σ:St)(H:Hp)(Q:Bool->Hp->Prop),Inv X pins σ H s->t σ H Q->G (S X.prog X.w) X.A (isTrue e X.env (eval e X.env)) (TP X pins σ Q) X.xe s
instance {X:Cx} {e:M} {t:TT}:CoeFun (JT X e t) (λ_=>∀(pins:aM)(s:B)(σ:St)(H:Hp)(Q:Bool->Hp->Prop),Inv X pins σ H s->t σ H Q->G (S X.prog X.w) X.A (isTrue e X.env (eval e X.env)) (TP X pins σ Q) X.xe s):=⟨JT.out⟩
structure JW(X:Cx)(e:M)(t:TT):Prop where
 out:∀(whole:Sem L)(pins:aM)(s:B)(σ:St)(H:Hp)(Q:Bool->Hp->Prop),Inv X pins σ H s->t σ H Q->G (S X.prog X.w) X.A (isTrue e X.env whole) (TP X pins σ Q) X.xe s
instance {X:Cx} {e:M} {t:TT}:CoeFun (JW X e t) (λ_=>∀(whole:Sem L)(pins:aM)(s:B)(σ:St)(H:Hp)(Q:Bool->Hp->Prop),Inv X pins σ H s->t σ H Q->G (S X.prog X.w) X.A (isTrue e X.env whole) (TP X pins σ Q) X.xe s):=⟨JW.out⟩
theorem JW.jt{X:Cx}{e:M}{t:TT}(h:JW X e t):JT X e t:=⟨h.out _⟩
structure JA(X:Cx)(es:-M)(t:TA):Prop where
 out:∀(pos:y)(pins:aM)(s:B)(σ:St)(H:Hp)(Q:-V->Hp->Prop),Inv X pins σ H s->t σ H Q->G (S X.prog X.w) X.A (spliced (backTo pos (starEach es X.env))) (AP X pins σ Q) X.xe s
instance {X:Cx} {es:-M} {t:TA}:CoeFun (JA X es t) (λ_=>∀(pos:y)(pins:aM)(s:B)(σ:St)(H:Hp)(Q:-V->Hp->Prop),Inv X pins σ H s->t σ H Q->G (S X.prog X.w) X.A (spliced (backTo pos (starEach es X.env))) (AP X pins σ Q) X.xe s):=⟨JA.out⟩
structure JS(X:Cx)(st:R)(t:TS):Prop where
 out:∀(pins:aM)(s:B)(σ:St)(H:Hp)(D:Ends),Inv X pins σ H s->t D σ H->G (S X.prog X.w) X.A (exec st X.env) (SP X pins D) X.xe s
instance {X:Cx} {st:R} {t:TS}:CoeFun (JS X st t) (λ_=>∀(pins:aM)(s:B)(σ:St)(H:Hp)(D:Ends),Inv X pins σ H s->t D σ H->G (S X.prog X.w) X.A (exec st X.env) (SP X pins D) X.xe s):=⟨JS.out⟩
structure dU(X:Cx)(st:-R)(t:TS):Prop where
 out:∀(pins:aM)(s:B)(σ:St)(H:Hp)(D:Ends),Inv X pins σ H s->t D σ H->G (S X.prog X.w) X.A (execs st X.env) (SP X pins D) X.xe s
instance {X:Cx} {st:-R} {t:TS}:CoeFun (dU X st t) (λ_=>∀(pins:aM)(s:B)(σ:St)(H:Hp)(D:Ends),Inv X pins σ H s->t D σ H->G (S X.prog X.w) X.A (execs st X.env) (SP X pins D) X.xe s):=⟨dU.out⟩
theorem bE{α:Type}{t:Sem α}{Q Q':α->B->Prop}{M:Model}{A:q}{E:bw}{s:B}(h:G M A t Q E s)(hQ:∀a s,Q a s->Q' a s):G M A t Q' E s:=WV h hQ λ_ _ x=>x
section
variable{X:Cx}
def sA(i:Nat):TE:=fun σ H Q=>∃v,σ[i]?=U (U v)/\Q v H
def tC(v:V):TE:=λ_ H Q=>Q v H
theorem DA{i:Nat}{x:J}{pos:y}(hN:X.N[i]?=U x)(hv:sv X.env.scope x)(hd:b8 x:=by decide)(gi:(x==("__classdict__" : J))=ι:=by decide):JE X (.Name x pos) (sA i):=by
 calc⟨?_⟩;ext pins s σ H Q I h;let⟨v,e,h⟩:=h;let⟨m,hn,hl⟩:=I.loc;let⟨u,r,l⟩:=hl i x v hN e hv;let fin:EP X pins σ Q u s:=⟨v,H,I,r,h⟩;rcases l with⟨hk,hm⟩|⟨hk,c,hc,oz⟩
 .exact q1w (wpAny_loadName_local I.ok.kind hk hn hm fin) hd
 .rcases hk with hk|hk
  .exact q1w (wpAny_loadName_cell I.ok.kind hk hc oz fin) hd
  .calc q1w (wpAny_loadName_free I.ok.kind hk hc oz fin gi) hd
theorem oA{i j pos}:JE X (.Constant (.int i) j pos) (tC (.int i)):=⟨λ_ _ _ H _ I h=>wpAny_Constant_int ⟨.int i,H,I.tok _,⟨_,Y⟩,h⟩⟩
theorem JP{b j pos}:JE X (.Constant (.bool b) j pos) (tC (.bl b)):=⟨λ_ _ _ H _ I h=>Constant_bool ⟨.bl b,H,I,Y,h⟩⟩
theorem JQ{j pos}:JE X (.Constant .none j pos) (tC .non):=⟨λ_ _ _ H _ I h=>Constant_none ⟨.non,H,I,Y,h⟩⟩
theorem JR{x j pos}:JE X (.Constant (.str x) j pos) (tC (.str x)):=⟨λ_ _ _ H _ I h=>Calls.Constant_str ⟨.str x,H,I.tok _,⟨_,Y⟩,h⟩
⟩
def Gl(X:Cx)(x:J):Prop:=X.env.kindOf x=U .globalImplicit
theorem xS{E:bw}{pins:aM}{s:B}{σ:St}{H:Hp}{x:J}{u:L}{pos:y}{Q:bw}(I:Inv X pins σ H s)(hg:Gl X x)(hm:X.mg x=U u)(h:Q u s)
  (hd:b8 x:=by decide):G (S X.prog X.w) X.A (eval (.Name x pos) X.env) Q E s :=
 YM I.ok.kind hg (Calls.loadGlobal_global (by rw[I.ok.glob];calc I.mod.glob.keeps I.bk) hm h) hd
theorem mx{E:bw}{pins:aM}{s:B}{σ:St}{H:Hp}{x:J}{u:L}{pos:y}{Q:bw}(I:Inv X pins σ H s)(hg:Gl X x)(hm:X.mg x=Z)(hv:bootBuiltins x=U u)(h:Q u s)
  (hn:x≠"__name__" := by decide) (hd:b8 x:=by decide):G (S X.prog X.w) X.A (eval (.Name x pos) X.env) Q E s:=by
 let⟨mb,h1,h2⟩:=I.mod.blt;calc YM I.ok.kind hg (Calls.loadGlobal_builtin (by rw[I.ok.glob];calc I.mod.glob.keeps I.bk) hm (by rw[I.ok.blt];calc h1.keeps I.bk) ((h2 x hn).trans hv) h) hd
theorem JU{x:J}{v:V}{u:L}{pos:y}(hg:Gl X x)(hm:X.mg x=U u)(r:RelV v u)(hd:b8 x:=by decide):JE X (.Name x pos) (tC v):=⟨λ_ _ _ H _ I h=>xS I hg hm ⟨v,H,I,r,h⟩ hd⟩
theorem JV{x:J}{v:V}{u:L}{pos:y}(hg:Gl X x)(hm:X.mg x=Z)(hv:bootBuiltins x=U u)(r:RelV v u)(hn:x≠"__name__" := by decide)(hd:b8 x:=by decide):JE X (.Name x pos) (tC v):=⟨λ_ _ _ H _ I h=>mx I hg hm hv ⟨v,H,I,r,h⟩ hn hd
⟩
variable{a b:M}{ta tb:TE}{pos:y}
structure JC(X:Cx)(op:CmpOp)(a b:M)(t:TE):Prop where
 out:∀(pins:aM)(s:B)(σ:St)(H:Hp)(Q:VK),Inv X pins σ H s->t σ H Q →
  G (S X.prog X.w) X.A (eval a X.env) (λv s₁=>G (S X.prog X.w) X.A (eval b X.env) (λu s₂=>G (S X.prog X.w) X.A (compareOp op v u) (EP X pins σ Q) X.xe s₂) X.xe s₁) X.xe s
instance {X:Cx} {op:CmpOp} {a b:M} {t:TE}:CoeFun (JC X op a b t) (λ_=>∀(pins:aM)(s:B)(σ:St)(H:Hp)(Q:VK),Inv X pins σ H s->t σ H Q->G (S X.prog X.w) X.A (eval a X.env) (λv s₁=>G (S X.prog X.w) X.A (eval b X.env) (λu s₂=>G (S X.prog X.w) X.A (compareOp op v u) (EP X pins σ Q) X.xe s₂) X.xe s₁) X.xe s):=⟨JC.out⟩
def tB(t:TE):TT:=fun σ H Q=>t σ H λx H1=>∃c,x=.bl c/\Q c H1
theorem JX{op:CmpOp}{t:TE}(h:JC X op a b t)(h1:behindInMarks op b=ι:=by first|exact Ue _ (by decide) (by decide)|rfl):JT X (.Compare a [op] [b] pos) (tB t):=by
 calc⟨?_⟩;ext pins s σ H Q I hw;calc ZF (bE (h pins s σ H _ I hw) λv s1 h1=>bE h1 λu s2 h2=>bE h2 λc s3 ⟨x,H1,I1,r1,q1⟩=>?_) h1;let⟨d,rfl,q⟩:=q1;cases r1
 calc WH ⟨H1,I1,q⟩
theorem JY{e:M}{t:TE}(h:JE X e t)(he:∀whole,isTrue e X.env whole=(do let v <- whole;standAt e.pos;holding [v] (truthy v)):=by ext _;rfl):JT X e (tB t):=by
 calc⟨?_⟩;ext pins s σ H Q I hw;calc isTrue_plain (bE (h pins s σ H _ I hw) λv s1 ⟨x,H1,I1,r1,q1⟩=>?_) (he _);let⟨d,rfl,q⟩:=q1;cases r1
 calc WH ⟨H1,I1,q⟩
variable{tA vh:TT}{rest:-M}
def sC(t u:TT):TT:=fun σ H Q=>t σ H λc H1=>if c=θ then u σ H1 Q else Q ι H1
def DB(t u:TT):TT:=fun σ H Q=>t σ H λc H1=>if c=θ then Q θ H1 else u σ H1 Q
def xT(t:TT):TT:=fun σ H Q=>t σ H λc H1=>Q (!c) H1
theorem JZ(ha:JT X a tA):JW X (.BoolOp .And [a] pos) tA:=by
 calc⟨?_⟩;ext wh pins s σ H Q I h;refine isTrue_and (bE (ha pins s σ H Q I h) λc s1 e=>?_)
 cases c with
 |true=>exact isTrue_and_nil e
 |false=>calc e
theorem J0(ha:JT X a tA):JW X (.BoolOp .Or [a] pos) tA:=by
 calc⟨?_⟩;ext wh pins s σ H Q I h;refine isTrue_or (bE (ha pins s σ H Q I h) λc s1 e=>?_)
 cases c with
 |false=>exact isTrue_or_nil e
 |true=>calc e
theorem J5(ha:JT X a tA)(hb:JW X (.BoolOp .And (b::rest) pos) vh):JW X (.BoolOp .And (a::b::rest) pos) (sC tA vh):=by
 calc⟨?_⟩;ext wh pins s σ H Q I h;refine isTrue_and (bE (ha pins s σ H _ I h) λc s1 h0_=>el3 h0_ λH1 I1 q1=>?_)
 cases c with
 |true=>exact hb wh pins s1 σ H1 Q I1 q1
 |false=>calc⟨H1,I1,q1⟩
theorem J6(ha:JT X a tA)(hb:JW X (.BoolOp .Or (b::rest) pos) vh):JW X (.BoolOp .Or (a::b::rest) pos) (DB tA vh):=by
 calc⟨?_⟩;ext wh pins s σ H Q I h;refine isTrue_or (bE (ha pins s σ H _ I h) λc s1 h0_=>el3 h0_ λH1 I1 q1=>?_)
 cases c with
 |true=>exact⟨H1,I1,q1⟩
 |false=>calc hb wh pins s1 σ H1 Q I1 q1
theorem J7(ha:JT X a tA):JT X (.UnaryOp .Not a pos) (xT tA):=by
 calc⟨?_⟩;ext pins s σ H Q I h;calc isTrue_not (ha pins s σ H (λc H1=>Q (!c) H1) I h)
def J8(ta tb:TE):TE:=fun σ H Q=>ta σ H λx H1=>∃c,x=.bl c/\if c=θ then tb σ H1 Q else Q (.bl ι) H1
def J9(ta:TE):TE:=fun σ H Q=>ta σ H λx H1=>∃c,x=.bl c/\Q (.bl (!c)) H1
theorem J_{op}{t:TE}(h:JE X a t):JE X (.BoolOp op [a] pos) t:=⟨λpins s σ H Q I hw=>BoolOp_one (h pins s σ H Q I hw)⟩
theorem Ka(ha:JE X a ta)(hb:JE X (.BoolOp .And (b::rest) pos) tb):JE X (.BoolOp .And (a::b::rest) pos) (J8 ta tb):=by
 calc⟨?_⟩;ext pins s σ H Q I h;calc BoolOp_and (bE (ha pins s σ H _ I h) λv s1 ⟨x,H1,I1,r1,q1⟩=>?_);let⟨c,rfl,q1⟩:=q1;cases r1
 refine WH ?_
 cases c with
 |true=>exact hb pins s1 σ H1 Q I1 q1
 |false=>calc⟨.bl ι,H1,I1,Y,q1⟩
theorem Kb(ha:JE X a ta):JE X (.UnaryOp .Not a pos) (J9 ta):=by
 calc⟨?_⟩;ext pins s σ H Q I h;calc UnaryOp_ (bE (ha pins s σ H _ I h) λv s1 ⟨x,H1,I1,r1,q1⟩=>?_);let⟨c,rfl,q1⟩:=q1;cases r1
 calc not_of (WH ⟨.bl (!c),H1,I1,Y,q1⟩)
def Kc(t:TT)(ta tb:TE):TE:=fun σ H Q=>t σ H λc H1=>if c=θ then ta σ H1 Q else tb σ H1 Q
theorem Kd{c:M}(hc:JT X c tA)(ha:JE X a ta)(hb:JE X b tb):JE X (.IfExp c a b pos) (Kc tA ta tb):=by
 calc⟨?_⟩;ext pins s σ H Q I h;refine wpAny_IfExp (bE (hc pins s σ H _ I h) λd s1 h0_=>el3 h0_ λH1 I1 q1=>?_)
 cases d with
 |true=>exact ha pins s1 σ H1 Q I1 q1
 |false=>calc hb pins s1 σ H1 Q I1 q1
end
def bP(K:Ee)(H:Hp)(a:O)(xs:-V):Prop :=
 Rd H a (.lst xs) ∨
  ∃(o:Q)(au:Array L)(n:Nat),K.lookup a=U o/\o.cls=.type "list" /\ o.dict=Z/\o.data=.seq au n/\au.size<=sizeLine/\Vals xs au.toList
def b9(K:Ee)(H:Hp)(a:O)(xs:-V):Prop :=
 Rd H a (.tup xs) ∨
  ∃(o:Q)(au:Array L)(n:Nat),K.lookup a=U o/\o.cls=.type "tuple" /\ o.data=.seq au n/\au.size<=sizeLine/\Vals xs au.toList
noncomputable def xU:L->Option V
 |.none=>U .non
 |.bool b=>U (.bl b)
 |.int i _=>U (.int i)
 |.str x _=>U (.str x)
 |.bytes b _=>U (.byt b)
 |.float b _=>U (.flt b)
 |.ref a=>U (.ref a)
 |.type n=>U (.ty n)
 |_=>Z
theorem RelV.abs{x:V}{u:L}(r:RelV x u):xU u=U x:=by
 cases x with
 |non=>cases r;rfl
 |bl _=>cases r;rfl
 |int _=>let⟨t,rfl⟩:=r;rfl
 |str _=>let⟨t,rfl⟩:=r;rfl
 |byt _=>let⟨t,rfl⟩:=r;rfl
 |flt _=>let⟨t,rfl⟩:=r;rfl
 |ref _=>cases r;rfl
 |ty _=>cases r;rfl
theorem RelV.inj{x y:V}{u:L}(r:RelV x u)(q:RelV y u):x=y:=Vm (r.abs.symm.trans q.abs)
theorem Vals.inj:∀{xs ys:-V}{us:-L},Vals xs us->Vals ys us->xs=ys
 |_,_,_,.nil,.nil=>Y
 |_,_,_,.cons r t,.cons r' t'=>by rw[r.inj r',Vals.inj t t']
section
variable{X:Cx}{pins:aM}{σ:St}{H:Hp}{s:B}{a:O}{xs ys:-V}
theorem bP.of{K:Ee}(h:H a=U (.lst xs)):bP K H a xs:=.inl (.inl h)
theorem b9.of{K:Ee}(h:H a=U (.tup xs)):b9 K H a xs:=.inl (.inl h)
theorem Inv.list(I:Inv X pins σ H s)(h:bP X.K H a xs):∃au:-L,Vals xs au/\PlainL s.heap a au.toArray/\↑xs<=sizeLine:=by
 rcases h with h|⟨o,au,n,hk,hc,hd,hs,hz,r⟩
 .let⟨z,au,n,r,e⟩:=h.ok I.ba
  exact⟨au,r,⟨_,n,e,Y,Y,Y⟩,z⟩
 .refine⟨au.toList,r,⟨o,n,I.fu a o hk,hc,hd,by simpa using hs⟩,?_⟩
  let e:=↑r;erw[Vb] at e;symm
theorem Inv.tuple(I:Inv X pins σ H s)(h:b9 X.K H a xs):∃au:-L,Vals xs au/\IsTup s.heap a au.toArray/\↑xs<=sizeLine:=by
 rcases h with h|⟨o,au,n,hk,hc,hs,hz,r⟩
 .let⟨z,au,r,p⟩:=h.ok I.ba
  exact⟨au,r,p,z⟩
 .refine⟨au.toList,r,⟨o,I.fu a o hk,hc,n,by simpa using hs⟩,?_⟩
  let e:=↑r;erw[Vb] at e;symm
theorem Inv.fM(I:Inv X pins σ H s)(h:bP X.K H a xs)(h':bP X.K H a ys):xs=ys:=by
 let⟨au,r,⟨o,n,e,_,_,d⟩,_⟩:=I.list h;let⟨its',r',⟨o',n',e',_,_,d'⟩,_⟩:=I.list h';rw[e] at e';cases e';rw[d] at d';injection d' with d1 _;let:au=its':=by simpa using congrArg q2g d1
 subst this;calc r.inj r'
theorem Inv.eS(I:Inv X pins σ H s)(h:b9 X.K H a xs)(h':b9 X.K H a ys):xs=ys:=by
 let⟨au,r,⟨o,e,_,n,d⟩,_⟩:=I.tuple h;let⟨its',r',⟨o',e',_,n',d'⟩,_⟩:=I.tuple h';rw[e] at e';cases e';rw[d] at d';injection d' with d1 _;let:au=its':=by simpa using congrArg q2g d1
 subst this;calc r.inj r'
end
noncomputable abbrev Cx.gj(X:Cx)(E:bw):Cx:={X with xe:=E}
noncomputable abbrev Cx.kc(X:Cx):Cx:=X.gj λ_ _=>False
theorem Cx.Ok.gj{X:Cx}(ok:X.Ok)(E:bw):(X.gj E).Ok :=
 ⟨ok.mod,ok.kind,ok.glob,ok.blt,ok.above,ok.inj,ok.has,ok.qP,ok.hd,ok.frames,ok.vf,ok.Dq,ok.bs,ok.mq,ok.jF,ok.mw,ok.eR,ok.ou⟩
theorem Cx.Ok.dy{X:Cx}{E:bw}(ok:(X.gj E).Ok):X.Ok :=
 ⟨ok.mod,ok.kind,ok.glob,ok.blt,ok.above,ok.inj,ok.has,ok.qP,ok.hd,ok.frames,ok.vf,ok.Dq,ok.bs,ok.mq,ok.jF,ok.mw,ok.eR,ok.ou⟩
section
variable{X:Cx}{pins:aM}{σ:St}{H:Hp}{s:B}{E:bw}
theorem Inv.gj(I:Inv X pins σ H s)(E:bw):Inv (X.gj E) pins σ H s:=⟨I.ok.gj E,I.os,I.bare,I.base,I.loc,I.cell,I.free,I.de,I.pin,I.ba,I.len⟩
theorem Inv.dy(I:Inv (X.gj E) pins σ H s):Inv X pins σ H s:=⟨I.ok.dy,I.os,I.bare,I.base,I.loc,I.cell,I.free,I.de,I.pin,I.ba,I.len⟩
theorem SP.dy{D:Ends}{f:Flow}{s':B}(h:SP (X.gj E) pins D f s'):SP X pins D f s':=by
 cases f with
 |next=>let⟨σ',H',I,q⟩:=h;exact⟨σ',H',I.dy,q⟩
 |brk=>let⟨σ',H',I,q⟩:=h;exact⟨σ',H',I.dy,q⟩
 |cont=>let⟨σ',H',I,q⟩:=h;exact⟨σ',H',I.dy,q⟩
 |ret u=>let⟨v,σ',H',I,r,q⟩:=h;calc⟨v,σ',H',I.dy,r,q⟩
theorem dU.kc{st:-R}{t:TS}(h:dU X.kc st t):dU X st t:=⟨λpins s σ H D I hw =>
 WV (h pins s σ H D (I.gj _) hw) (λ_ _ q=>q.dy) λ_ _ z=>VW z⟩
end
section
variable{X:Cx}{st:R}{rest:-R}{t u:TS}{e:M}{te:TE}{pos:y}
def Ke:TS:=λD σ H=>D.nx σ H
def xV(t u:TS):TS:=λD σ H=>t {D with nx:=u D} σ H
theorem my:dU X [] Ke:=⟨λ_ _ σ H _ I h=>Zw ⟨σ,H,I,h⟩⟩
theorem vi(h1:JS X st t)(h2:dU X rest u):dU X (st::rest) (xV t u):=by
 calc⟨?_⟩;ext pins s σ H D I h;refine q0X (bE (h1 pins s σ H {D with nx:=u D} I h) λf s1 q=>?_)
 cases f with
 |next =>
  let⟨σ',H',I',q⟩:=q;exact h2 pins s1 σ' H' D I' q
 |ret v=>exact q
 |brk=>exact q
 |cont=>calc q
theorem xW(h1:JS X st t):dU X [st] t:=by
 calc⟨?_⟩;ext pins s σ H D I h;refine q0X (bE (h1 pins s σ H D I h) λf s1 q=>?_)
 cases f with
 |next=>exact Zw q
 |ret v=>exact q
 |brk=>exact q
 |cont=>calc q
theorem Inv.quiet{pins:aM}{σ:St}{H:Hp}{s:B}(I:Inv X pins σ H s):interactive X.env=ι:=by simp[interactive,I.ok.kind]
def Kf(te:TE):TS:=λD σ H=>te σ H λ_ H1=>D.nx σ H1
theorem Kg(he:JE X e te)(hs:swapsWith e Z pos.line X.env=pure ι:=by rfl):JS X (.Expr e pos) (Kf te):=by
 calc⟨?_⟩;ext pins s σ H D I h;calc wpAny_Expr_any (bE (he pins s σ H _ I h) λv s1 ⟨x,H1,I1,r1,q1⟩↦⟨σ,H1,I1,q1⟩) I.quiet hs
def xX(te:TE):TS:=λD σ H=>te σ H D.rt
theorem DC(he:JE X e te):JS X (.Return (U e) pos) (xX te):=by
 calc⟨?_⟩;ext pins s σ H D I h;calc wpAny_Return_some (bE (he pins s σ H _ I h) λv s1 ⟨x,H1,I1,r1,q1⟩↦⟨x,σ,H1,I1,r1,q1⟩)
def xY(c:TT)(t u:TS):TS:=λD σ H=>c σ H λb H1=>if b=θ then t D σ H1 else u D σ H1
theorem Kh{c:M}{a b:-R}{tc:TT}(hc:JT X c tc)(ha:dU X a t)(hb:dU X b u):JS X (.If c a b pos) (xY tc t u):=by
 calc⟨?_⟩;ext pins s σ H D I h;refine wpAny_If (bE (hc pins s σ H _ I h) λd s1 h0_=>el3 h0_ λH1 I1 q1=>?_)
 cases d with
 |true=>exact ha pins s1 σ H1 D I1 q1
 |false=>calc hb pins s1 σ H1 D I1 q1
end
abbrev TG:=V->St->Hp->(St->Hp->Prop)->Prop
abbrev ke:=-V->St->Hp->(St->Hp->Prop)->Prop
structure JG(X:Cx)(target:M)(t:TG):Prop where
 out:∀(pins:aM)(s:B)(σ:St)(H:Hp)(v:V)(u:L)(Q:St->Hp->Prop),Inv X pins σ H s->RelV v u->t v σ H Q →
  G (S X.prog X.w) X.A (assign target X.env u) (λ_ s'=>∃σ' H',Inv X pins σ' H' s'/\Q σ' H') X.xe s
instance {X:Cx} {target:M} {t:TG}:CoeFun (JG X target t) (λ_=>∀(pins:aM)(s:B)(σ:St)(H:Hp)(v:V)(u:L)(Q:St->Hp->Prop),Inv X pins σ H s->RelV v u->t v σ H Q->G (S X.prog X.w) X.A (assign target X.env u) (λ_ s'=>∃σ' H',Inv X pins σ' H' s'/\Q σ' H') X.xe s):=⟨JG.out⟩
structure jf(X:Cx)(ts:-M)(t:ke):Prop where
 out:∀(pins:aM)(s:B)(σ:St)(H:Hp)(vs:-V)(us:-L)(Q:St->Hp->Prop),Inv X pins σ H s->Vals vs us->t vs σ H Q →
  G (S X.prog X.w) X.A (assignInOrder ((assignEach ts X.env).map (·.2)) us) (λ_ s'=>∃σ' H',Inv X pins σ' H' s'/\Q σ' H') X.xe s
instance {X:Cx} {ts:-M} {t:ke}:CoeFun (jf X ts t) (λ_=>∀(pins:aM)(s:B)(σ:St)(H:Hp)(vs:-V)(us:-L)(Q:St->Hp->Prop),Inv X pins σ H s->Vals vs us->t vs σ H Q->G (S X.prog X.w) X.A (assignInOrder ((assignEach ts X.env).map (·.2)) us) (λ_ s'=>∃σ' H',Inv X pins σ' H' s'/\Q σ' H') X.xe s):=⟨jf.out⟩
abbrev pE:=V->V->V->Hp->(Hp->Prop)->Prop
def sD(X:Cx)(t:pE):Prop :=
 ∀(pins:aM)(s:B)(σ:St)(H:Hp)(o i v:V)(ov iv u:L)(Q:Hp->Prop),Inv X pins σ H s->RelV o ov->RelV i iv->RelV v u->t o i v H Q →
  G (S X.prog X.w) X.A (setItem ov iv u) (λ_ s'=>∃H',Inv X pins σ H' s'/\Q H') X.xe s
section
variable{X:Cx}{pos:y}
def vj(i:Nat):TG:=λv σ H Q=>Q (σ.set i (U v)) H
theorem xZ{i:Nat}{x:J}(hN:X.N.Nodup)(hi:X.N[i]?=U x)(hx:Loc X.env.scope x)(hf:ft X x:=by first|exact .inl Y|exact .inr Y|assumption):JG X (.Name x pos) (vj i):=by
 calc⟨?_⟩;ext pins s σ H v u Q I r h;calc q0w (Dz I hN hi hx r (λs' I'=>⟨_,H,I',h⟩) hf)
def x5:ke:=λvs σ H Q=>vs=[]/\Q σ H
def Ki(t:TG)(u:ke):ke:=λvs σ H Q=>∃v r,vs=v::r/\t v σ H fun σ' H'=>u r σ' H' Q
theorem jg:jf X [] x5:=by
 calc⟨?_⟩;ext pins s σ H vs us Q I r h;let⟨e,h⟩:=h;subst e;cases r
 calc assignInOrder_nil ⟨σ,H,I,h⟩
theorem x6{e:M}{es:-M}{t:TG}{u:ke}(h1:JG X e t)(h2:jf X es u)
  (hs:(assignEach (e::es) X.env).map (·.2)=assign e X.env::(assignEach es X.env).map (·.2):=by rfl):jf X (e::es) (Ki t u):=by
 calc⟨?_⟩;ext pins s σ H vs us Q I r h;let⟨v,vr,e1,h⟩:=h;subst e1
 cases r with
 |cons r rr =>
  rw[hs];calc assignInOrder_cons (bE (h1 pins s σ H _ _ _ I r h) λ_ s1 ⟨σ1,H1,I1,q1⟩=>?_);calc h2 pins s1 σ1 H1 _ _ Q I1 rr q1
def x8(K:Ee)(n:Nat)(t:ke):TG:=λv σ H Q=>∃a xs,v=.ref a/\b9 K H a xs/\↑xs=n/\t xs σ H Q
theorem DD{es:-M}{k:Nat}{t:ke}{n:Nat}(hc:X.calm=θ)(h:jf X es t)
  (hn:↑(assignEach es X.env)=n:=by rfl) (iP:(assignEach es X.env).findIdx? (·.1)=Z:=by rfl):JG X (.Tuple es k pos) (x8 X.K n t):=by
 calc⟨?_⟩;ext pins s σ H v u Q I r hw;let⟨a,xs,e1,hq,hl,hw⟩:=hw;subst e1;cases r
 let⟨au,rv,ht,hz⟩:=I.tuple hq;calc assign_Tuple_tuple (I.ok.hd hc) ht (by simp[hn,<-hl,rv.length]) iP λh' hx=>?_;let I1:Inv X pins σ H {s with heap:=h'}:=I.kept (t':=s.toks) λb o e=>hx b o (U8 (Me e)) e;calc h pins _ σ H xs _ Q I1 rv⁻¹ hw
def sE(to ti:TE)(t:pE):TG:=λv σ H Q=>to σ H λo H1=>ti σ H1 λi H2=>t o i v H2 λH3=>Q σ H3
theorem mz{o i:M}{to ti:TE}{t:pE}(ho:JE X o to)(hi:JE X i ti)(hs:sD X t)
  (ha:∀v,assign (.Subscript o i pos) X.env v=(do
   let ov <- holding [v] (eval o X.env)
   let iv <- holding [v,ov] (eval i X.env)
   standAt pos
   holding [v,ov,iv] (setItem ov iv v)
   release [v,ov,iv] []):=by ext _;rfl):JG X (.Subscript o i pos) (sE to ti t):=by
 calc⟨?_⟩;ext pins s σ H v u Q I r h;rw[ha];calc s_ (VH (bE (ho pins s σ H _ I h) λov s1 ⟨x,H1,I1,r1,q1⟩=>?_));calc s_ (VH (bE (hi pins s1 σ H1 _ I1 q1) λiv s2 ⟨y,H2,I2,r2,q2⟩=>?_));calc s_ (Yt (s_ (VH (bE (hs pins s2 σ H2 x y v ov iv u _ I2 r1 r2 r q2) λ_ s3 h0_=>el3 h0_ λH3 I3 q3=>?_))));calc wpAny_release ⟨σ,H3,I3,q3⟩
def kH(te:TE)(g:TG):TS:=λD σ H=>te σ H λx H1=>g x σ H1 D.nx
theorem mB{tg e:M}{te:TE}{g:TG}(he:JE X e te)(hg:JG X tg g)(hs:swapsWithSole [tg] e pos.line X.env=pure ι:=by rfl)(hw:swappedStores [tg] e X.env=pure Z:=by rfl)
  (h1:(assignEach [tg] X.env).map (·.2)=[assign tg X.env]:=by rfl):JS X (.Assign [tg] e pos) (kH te g):=by
 calc⟨?_⟩;ext pins s σ H D I h;calc wpAny_Assign_stores (bE (he pins s σ H _ I h) λv s1 ⟨x,H1,I1,r1,q1⟩=>?_) hs hw;rw[h1];calc bE (hg pins s1 σ H1 x v _ I1 r1 q1) λ_ s2 q=>q
theorem x9{i:Nat}{x:J}{e:M}{te:TE}{pos':Ε}(hN:X.N.Nodup)(hi:X.N[i]?=U x)(hx:Loc X.env.scope x)(he:JE X e te)(hs:swapsWith e (U (.Name x pos')) pos.line X.env=pure ι:=by rfl)(hf:ft X x:=by first|exact .inl Y|exact .inr Y|assumption):
  JS X (.Assign [.Name x pos'] e pos) (kH te (vj i)):=by
 calc⟨?_⟩;ext pins s σ H D I h;calc wpAny_Assign_Name (bE (he pins s σ H _ I h) λv s1 ⟨y,H1,I1,r1,q1⟩=>?_) hs;calc Dz I1 hN hi hx r1 (λs2 I2=>⟨_,H1,I2,q1⟩) hf
end
structure It where
 go:Nat->Hp->Prop
 pF:Nat->Hp->V->Hp->Prop
 stop:Nat->Hp->Prop
def bS(X:Cx)(pins:aM)(H:Hp)(b:O):Prop :=
 H b=Z/\b≠X.env.locals/\b∉X.fs/\(b∈X.ex\/⇑X.s₀<=b)/\(∀x c,X.env.cells.lookup x=U c->c≠b)/\∀p∈X.pn++pins,p.1≠b
theorem Inv.h_{X:Cx}{pins:aM}{σ:St}{H H':Hp}{s:B}{b:O}(I:Inv X pins σ H s)(hb:⇑s<=b)(hn:H' b=Z):bS X pins H' b:=by
 refine⟨hn,WR (Uq I.lt hb),I.xN hb,.inr (Vo I.sz hb),λx c e z=>?_,λp hp z=>?_⟩
 .let⟨v,q⟩:=I.cell x c e
  exact absurd (Uq q.lt (by rw[z];calc hb)) (Wo _)
 .calc absurd (Uq (Me (I.pin p hp).1) (by rw[z];calc hb)) (Wo _)
structure Turn(P:l)(w:g)(K:Ee)(tg:M)(J:It)(fp:-O)(it:O)(tn:Nat->I->Prop):Prop where
 mem:it∈fp
 obj:∀i h,tn i h->∀b∈fp,∃o,h.get? b=U o/\∀v,o.data≠.cell v
 keep:∀i h h',tn i h->(∀b∈fp,∀o,h.get? b=U o->h'.get? b=U o)->tn i h'
 item:∀(X:Cx),X.prog=P->X.w=w->X.K=K->X.calm=θ->∀(i:Nat)(pins:aM)(s:B)(σ:St)(H:Hp)(E:bw),Inv X pins σ H s->(∀b∈fp,bS X pins H b)->tn i s.heap->J.go i H →
  G (S P w) X.A (pyNext (.ref it)) (λr s1=>∃u,r=U u ∧
   G (S P w) X.A (letOwnedTupleGo tg (.ref it) u) (λ_ s2=>∃x H',Inv X pins σ H' s2/\RelV x u/\J.pF i H x H'/\tn (i+1) s2.heap/\∀b∈fp,H' b=Z) E s1) E s
 done:∀(X:Cx),X.prog=P->X.w=w->X.K=K->X.calm=θ->∀(i:Nat)(pins:aM)(s:B)(σ:St)(H:Hp)(E:bw),Inv X pins σ H s->(∀b∈fp,bS X pins H b)->tn i s.heap->J.stop i H →
  G (S P w) X.A (pyNext (.ref it)) (λr s1=>r=Z/\Inv X pins σ H s1) E s
 self:∀(A:q)(i:Nat)(s:B)(Q:bw)(E:bw),tn i s.heap->Q (.ref it) s->G (S P w) A (pyIter (.ref it)) Q E s
abbrev TI:=St->Hp->(It->Hp->Prop)->Prop
def x_(X:Cx)(pins:aM)(σ:St)(tg:M)(R:It->Hp->Prop)(ya:L)(s2:B):Prop :=
 ∃(it:O)(fp:-O)(tn:Nat->I->Prop)(J:It)(H':Hp),ya=.ref it/\Inv X pins σ H' s2/\Turn X.prog X.w X.K tg J fp it tn/\tn 0 s2.heap/\(∀b∈fp,bS X pins H' b)/\R J H'
structure JI(X:Cx)(tg iter:M)(wi:TI):Prop where
 out:∀(pins:aM)(s:B)(σ:St)(H:Hp)(R:It->Hp->Prop),Inv X pins σ H s->wi σ H R →
  G (S X.prog X.w) X.A (eval iter X.env) (λv s1=>G (S X.prog X.w) X.A (pyIter v) (x_ X pins σ tg R) X.xe s1) X.xe s
instance {X:Cx} {tg iter:M} {wi:TI}:CoeFun (JI X tg iter wi) (λ_=>∀(pins:aM)(s:B)(σ:St)(H:Hp)(R:It->Hp->Prop),Inv X pins σ H s->wi σ H R->G (S X.prog X.w) X.A (eval iter X.env) (λv s1=>G (S X.prog X.w) X.A (pyIter v) (x_ X pins σ tg R) X.xe s1) X.xe s):=⟨JI.out⟩
theorem yb {M:Model} {A:q} {E:bw} {s:B} {tg:υ} {it:O} {u:L} {o:Γ} {n:String} {vs:Array L} {Q:Unit->B->Prop} (ho:s.heap.get? it=U o) (hc:o.cls = .type n) (hd:o.data = .fields vs)
  (hn:["enumerate", "zip", "dict_itemiterator", "dict_reverseitemiterator", "odict_iterator", "itertools.zip_longest", "itertools.pairwise"].contains n=ι) (hQ:Q () s):G M A (letOwnedTupleGo tg (.ref it) u) Q E s:=by
 unfold letOwnedTupleGo
 cases tg<;>first
  | exact Md hQ
  | (cases u<;>first
    | exact Md hQ
    | (refine s_ (wpAny_load ho ?_)
       rw[hc,hd];show G M A (if (["enumerate", "zip", "dict_itemiterator", "dict_reverseitemiterator", "odict_iterator", "itertools.zip_longest", "itertools.pairwise"].contains n && vs[0]? == U (rawInt _))=θ then _ else _) Q E s;rw[U9 (by ext h;rw[hn,ZP] at h;cases h)]
       calc Md hQ))
noncomputable def DE(K:Ee)(a:O):It :=
 ⟨λi H=>∃xs x,bP K H a xs/\xs[i]?=U x,λi H x H'=>H'=H/\∀xs,bP K H a xs->xs[i]?=U x,λi H=>∃xs,bP K H a xs/\↑xs<=i⟩
noncomputable def DF(K:Ee)(a:O):It :=
 ⟨λi H=>∃xs x,b9 K H a xs/\xs[i]?=U x,λi H x H'=>H'=H/\∀xs,b9 K H a xs->xs[i]?=U x,λi H=>∃xs,b9 K H a xs/\↑xs<=i⟩
noncomputable def sF(lo:Int)(n:Nat):It:=⟨λi _=>i<n,λi H x H'=>H'=H/\x=.int (lo+i),λi _=>n<=i⟩
theorem Kj{P:l}{w:g}{K:Ee}{tg:M}(a it:O):Turn P w K tg (DE K a) [it] it (λi h=>h.IsListIter it a i) where
 mem:=by simp
 obj:=λi h st b hb=>by
  let e:b=it:=by simpa using hb
  subst e;let⟨o,e,c,d⟩:=st;exact⟨o,e,λv z=>by rw[d] at z;cases z⟩
 keep:=λi h h' st k=>st.at λo e=>k it (by simp) o e
 item:=by
  ext X hP hw hK hc i pins s σ H E I hf st hg;subst hP hw hK;let⟨xs,x,hq,hx⟩:=hg;let⟨au,rv,p,hz⟩:=I.list hq;let⟨u,hu,ru⟩:=rv.get hx;let⟨f0,f1,f2,f3,f4,f5⟩:=hf it (by simp);calc wpAny_pyNext_list_item st p.isList (x:=u) hu⁻¹ λh' f9 sb=>?_;let I1:Inv X pins σ H {s with heap:=h'}:=I.turned (t':=s.toks) (λb o hb e=>(sb.2 b hb).trans e) f0 f1 f3 f4 f5;let⟨o,e,c,d⟩:=id f9;exact⟨u,Y,yb (s:={s with heap:=h'}) e c d (by decide) ⟨x,H,I1,ru,⟨Y,λys hy=>by rw[I.fM hy hq];calc hx⟩,f9,λb hb=>(hf b hb).1⟩⟩
 done:=by
  ext X hP hw hK hc i pins s σ H E I hf st hg;subst hP hw hK;let⟨xs,hq,hx⟩:=hg;let⟨au,rv,p,hz⟩:=I.list hq;let⟨f0,f1,f2,f3,f4,f5⟩:=hf it (by simp);let hl:=↑rv;exact wpAny_pyNext_list_end (I.ok.hd hc) st p.isList (by simp;symm) λh' eb=>⟨Y,I.turned (t':=s.toks) (λb o hb e=>eb b o hb e) f0 f1 f3 f4 f5⟩
 self:=λ_ _ _ _ _ st h=>wpAny_pyIter_listiter st h
theorem Kk{P:l}{w:g}{K:Ee}{tg:M}(a it:O):Turn P w K tg (DF K a) [it] it (λi h=>h.IsTupleIter it a i) where
 mem:=by simp
 obj:=λi h st b hb=>by
  let e:b=it:=by simpa using hb
  subst e;let⟨o,e,c,d⟩:=st;exact⟨o,e,λv z=>by rw[d] at z;cases z⟩
 keep:=λi h h' st k=>st.at λo e=>k it (by simp) o e
 item:=by
  ext X hP hw hK hc i pins s σ H E I hf st hg;subst hP hw hK;let⟨xs,x,hq,hx⟩:=hg;let⟨au,rv,p,hz⟩:=I.tuple hq;let⟨u,hu,ru⟩:=rv.get hx;let⟨f0,f1,f2,f3,f4,f5⟩:=hf it (by simp);calc wpAny_pyNext_tuple_item st (show s.heap.IsTuple a au.toArray from p) (x:=u) hu⁻¹ λh' f9 sb=>?_;let I1:Inv X pins σ H {s with heap:=h'}:=I.turned (t':=s.toks) (λb o hb e=>(sb.2 b hb).trans e) f0 f1 f3 f4 f5;let⟨o,e,c,d⟩:=id f9;exact⟨u,Y,yb (s:={s with heap:=h'}) e c d (by decide) ⟨x,H,I1,ru,⟨Y,λys hy=>by rw[I.eS hy hq];calc hx⟩,f9,λb hb=>(hf b hb).1⟩⟩
 done:=by
  ext X hP hw hK hc i pins s σ H E I hf st hg;subst hP hw hK;let⟨xs,hq,hx⟩:=hg;let⟨au,rv,p,hz⟩:=I.tuple hq;let⟨f0,f1,f2,f3,f4,f5⟩:=hf it (by simp);let hl:=↑rv;exact wpAny_pyNext_tuple_end (I.ok.hd hc) st (show s.heap.IsTuple a au.toArray from p) (by simp;symm) λh' eb=>⟨Y,I.turned (t':=s.toks) (λb o hb e=>eb b o hb e) f0 f1 f3 f4 f5⟩
 self:=λ_ _ _ _ _ st h=>wpAny_pyIter_tupleiter st h
theorem Kl{P:l}{w:g}{K:Ee}{tg:M}(it:O)(lo:Int)(n:Nat):Turn P w K tg (sF lo n) [it] it (λi h=>IsRangeIter h it (lo+(i:Nat)*1) ((n:Int)-(i:Nat)) 1) where
 mem:=by simp
 obj:=λi h st b hb=>by
  let e:b=it:=by simpa using hb
  subst e
  exact⟨_,st,λv z=>by
   let z':Data.fields _=Data.cell v:=z
   cases z'⟩
 keep:=λi h h' st k=>k it (by simp) _ st
 item:=by
  ext X hP hw hK hc i pins s σ H E I hf st hg;subst hP hw hK;let⟨f0,f1,f2,f3,f4,f5⟩:=hf it (by simp);let W:=Walks.range (prog:=X.prog) (w:=X.w) (I.ok.hd hc) it lo 1 n;calc W.item i s _ _ hg st λv h' tk hv f9 kk=>?_;let⟨t,rfl⟩:=hv;let I1:Inv X pins σ H {s with heap:=h',toks:=tk}:=I.turned (λb o hb e=>kk b o hb⁻¹ e) f0 f1 f3 f4 f5;calc⟨_,Y,yb (s:={s with heap:=h',toks:=tk}) (n:="range_iterator") f9 Y Y (by decide) ⟨.int (lo+i),H,I1,⟨t,?_⟩,⟨Y,Y⟩,f9,λb hb=>(hf b hb).1⟩⟩;rw[q1b]
 done:=by
  ext X hP hw hK hc i pins s σ H E I hf st hg;subst hP hw hK;let⟨f0,f1,f2,f3,f4,f5⟩:=hf it (by simp);exact wpAny_pyNext_range_end (I.ok.hd hc) st (by let:n<=i:=hg;symm) λh' eb=>⟨Y,I.turned (t':=s.toks) (λb o hb e=>eb b o hb e) f0 f1 f3 f4 f5⟩
 self:=λ_ _ _ _ _ st h=>wpAny_pyIter_rangeiter st h
section
variable{X:Cx}{tg:M}
theorem DG{pins:aM}{σ:St}{H:Hp}{s:B}{R:It->Hp->Prop}{E:bw}{lo hi:Int}{t u v:Tok}{tk:Nat}(I:Inv X pins σ H s)(h1 : -(2 ^ 62)<=lo)(h2:lo<2 ^ 62)(h3 : -(2 ^ 62)<=hi)(h4:hi<2 ^ 62)
  (q:R (sF lo (hi-lo).toNat) H):G (S X.prog X.w) X.A (pyIter (.ref ⇑s)) (x_ X pins σ tg R) E {s with heap:=s.heap.push {cls:=.type "range",data:=.fields #[.int lo t,.int hi u,.int 1 v]},toks:=tk}:=by
 calc wpAny_pyIter_range (IsRange.new ..) (q13 h1 h2 h3 h4) ?_;let I1:Inv X pins σ H {s with heap:=s.heap.push {cls:=.type "range",data:=.fields #[.int lo t,.int hi u,.int 1 v]},toks:=tk}:=I.kept λb o e=>vB _ e
 refine⟨(s.heap.push {cls:=.type "range",data:=.fields #[.int lo t,.int hi u,.int 1 v]}).objs.size,[(s.heap.push {cls:=.type "range",data:=.fields #[.int lo t,.int hi u,.int 1 v]}).objs.size],_,_,H,Y,
  I1.kept (t':=tk) λb o e=>vB _ e,Kl _ lo (hi-lo).toNat,?_,λb hb=>?_,q⟩
 .let e1:lo+((0:Nat):Int)*1=lo:=by simp
  let e2:(((hi-lo).toNat:Nat):Int)-((0:Nat):Int)=Xq lo hi 1:=by rw[Z4];split<;>symm
  show IsRangeIter _ _ (lo+((0:Nat):Int)*1) ((((hi-lo).toNat:Nat):Int)-((0:Nat):Int)) 1;rw[e1,e2];exact Uo _ Y
 .let e:b=(s.heap.push {cls:=.type "range",data:=.fields #[.int lo t,.int hi u,.int 1 v]}).objs.size:=by simpa using hb
  subst e;calc I1.h_ (yT _) (I1.ba.fresh (yT _))
def Km(ta:TA):TI:=fun σ H R=>ta σ H λvs H1=>∃j:Int,vs=[.int j] /\ -(2 ^ 62)<=j/\j<2 ^ 62/\R (sF 0 j.toNat) H1
def Kn(ta:TA):TI:=fun σ H R=>ta σ H λvs H1=>∃i j:Int,vs=[.int i,.int j]/\(-(2 ^ 62)<=i/\i<2 ^ 62 /\ -(2 ^ 62)<=j/\j<2 ^ 62)/\R (sF i (j-i).toNat) H1
theorem Ko{a:M}{ta:TA}{p pos:y}(hg:Gl X "range")(hm:X.mg "range" = Z)(ha:JA X [a] ta)(hs:starEach [a] X.env=[(ι,eval a X.env)]:=by rfl):JI X tg (.Call (.Name "range" p) [a] [] pos) (Km ta):=by
 calc⟨?_⟩;ext pins s σ H R I h;calc Call_ (mx I hg hm boot_range (VY (bE (ha pos pins s σ H _ I h) λus s1 ⟨vs,H1,I1,r1,q1⟩=>?_) hs Y));let⟨j,e,q1,q2,q⟩:=q1;subst e
 cases r1 with
 |cons r rr =>
  cases rr
  let⟨t,rfl⟩:=r;calc call_range_1 (DG I1 ⋯ ⋯ q1 q2 q⁻¹)
theorem Kq{a b:M}{ta:TA}{p pos:y}(hg:Gl X "range")(hm:X.mg "range" = Z)(ha:JA X [a,b] ta)(hs:starEach [a,b] X.env=[(ι,eval a X.env),(ι,eval b X.env)]:=by rfl)(ee:starEach [b] X.env=[(ι,eval b X.env)]:=by rfl):
  JI X tg (.Call (.Name "range" p) [a,b] [] pos) (Kn ta):=by
 calc⟨?_⟩;ext pins s σ H R I h;calc Call_ (mx I hg hm boot_range (VY (bE (ha pos pins s σ H _ I h) λus s1 ⟨vs,H1,I1,r1,q1⟩=>?_) (by rw[hs,ee]) (by rw[ee];rfl)));let⟨i,j,e,⟨q1,q2,q3,q4⟩,q⟩:=q1;subst e
 cases r1 with
 |cons r rr =>
  cases rr with
  |cons r' rr =>
   cases rr
   let⟨t,rfl⟩:=r;let⟨t',rfl⟩:=r';calc call_range_2 (DG I1 q1 q2 q3 q4 q)
def yc(wi:TI)(g:TG)(tb:TS):TS:=λD σ H=>wi σ H λJ H1=>∃W:Nat->Nat->St->Hp->Prop,(∃m,W 0 m σ H1)/\∀i m σ H,W i m σ H →
 (J.stop i H/\D.nx σ H)\/(J.go i H/\∃N:St->Hp->Prop,(∀σ' H',N σ' H'->∃m',m'<m/\W (i+1) m' σ' H')/\∀x H',J.pF i H x H'->g x σ H' fun σ2 H2=>tb {D with nx:=N,ct:=N,bk:=D.nx} σ2 H2)
noncomputable def sG(fp:-O)(h:I):-(O×Q):=fp.filterMap λb=>(h.get? b).map λo=>(b,o)
theorem vk{fp:-O}{h:I}{b:O}{o:Q}(hb:b∈fp)(e:h.get? b=U o):(b,o)∈sG fp h:=X0.mpr ⟨b,hb,by rw[e];rfl⟩
theorem Kr{fp:-O}{h:I}{p:O×Q}(hp:p∈sG fp h):p.1∈fp/\h.get? p.1=U p.2:=by
 let⟨b,hb,e⟩:=X0.mp hp
 cases q:h.get? b with
 |none=>rw[q] at e;cases e
 |some o =>
  rw[q] at e;let e':(b,o)=p:=Vm e;subst e';calc⟨hb,q⟩
theorem Inv.pinned{pins:aM}{σ:St}{H:Hp}{s:B}{fp:-O}(I:Inv X pins σ H s)(hf:∀b∈fp,bS X pins H b)(ho:∀b∈fp,∃o,s.heap.get? b=U o/\∀v,o.data≠.cell v):Inv X (pins++sG fp s.heap) σ H s :=
 I.fH λp hp=>(Vs.mp hp).elim (λz=>I.pin p (Vg _ z)) λz=>by
  let⟨hb,e⟩:=Kr z;let⟨f0,f1,f2,_⟩:=hf p.1 hb;let⟨o,e',d⟩:=ho p.1 hb;rw[e] at e';cases e';calc⟨e,f0,f1,f2,d⟩
theorem Inv.eg{pins pl:aM}{σ:St}{H:Hp}{s:B}(I:Inv X (pins++pl) σ H s):Inv X pins σ H s:=I.fH λp hp=>I.pin p (Vg _ (Wl _ hp))
theorem DH{iter:M}{body:-R}{wi:TI}{g:TG}{tb:TS}{pos:y}(hp:PassesOwn (S X.prog X.w) X.A X.env X.xe)(hc:X.calm=θ)(hi:JI X tg iter wi)(hg:JG X tg g)(hb:dU X body tb)
  (hs:∀x,foldedSetIterable iter X.env x=pure x:=by ext _;rfl):JS X (.For tg iter body [] pos) (yc wi g tb):=by
 calc⟨?_⟩;ext pins s σ H D I h;calc wpAny_For (bE (hi pins s σ H _ I h) λv s1 h1=>bE h1 λya s2 h2=>?_) hs;let⟨it,fp,tn,J,H2,e,I2,T,kI,f2,W,⟨m0,w0⟩,turn⟩:=h2;subst e;let iQ:∀{H':Hp},(∀b∈fp,H' b=Z)->∀b∈fp,bS X pins H' b:=λhn b hb=>⟨hn b hb,(f2 b hb).2⟩;calc codeAny_forLoop_any (λn s'=>∃i σ' H',Inv X pins σ' H' s'/\tn i s'.heap/\(∀b∈fp,H' b=Z)/\W i n σ' H') ?_ m0 ⟨0,σ,H2,I2,kI,λb hb=>(f2 b hb).1,w0⟩;ext n s3 ⟨i,σ3,H3,I3,oB,sH,w3⟩;rcases turn i n σ3 H3 w3 with⟨stop,qn⟩|⟨go,N,hN,step⟩
 .refine XZ hp (bE (T.done X Y Y Y hc i pins s3 σ3 H3 X.xe I3 (iQ sH) oB stop) λr s4 ⟨hr,I4⟩=>?_)
  subst hr;exact Zw ⟨σ3,H3,I4,qn⟩
 .refine XZ hp (bE (T.item X Y Y Y hc i pins s3 σ3 H3 X.xe I3 (iQ sH) oB go) λr s4 ⟨u,hr,h4⟩=>?_)
  subst hr;calc XZ hp (bE h4 λ_ s5 ⟨x,H5,I5,r5,y5,pG,yd⟩=>?_);let ye:=I5.pinned (iQ yd) (T.obj _ _ pG);calc XZ hp (bE (hg _ s5 σ3 H5 x u _ ye r5 (step x H5 y5)) λ_ s6 ⟨σ6,H6,I6,q6⟩=>?_);refine XZ hp (bE (hb _ s6 σ6 H6 _ I6 q6) λf s7 q7=>?_)
  let again:∀{σ7:St}{H7:Hp},Inv X (pins++sG fp s5.heap) σ7 H7 s7->N σ7 H7->∃m,m<n/\∃i σ' H',Inv X pins σ' H' s7/\tn i s7.heap/\(∀b∈fp,H' b=Z)/\W i m σ' H':=λ{σ7 H7} I7 n7=>by
   let⟨m',hm,w7⟩:=hN σ7 H7 n7;calc⟨m',hm,i+1,σ7,H7,I7.eg,T.keep _ _ _ pG λb hb o e=>(I7.pin (b,o) (Vg _ (Vg _ (vk hb e)))).1,λb hb=>?_,w7⟩;let⟨o,e,d⟩:=T.obj _ _ pG b hb;exact(I7.pin (b,o) (Vg _ (Vg _ (vk hb e)))).2.1
  cases f with
  |next=>let⟨σ7,H7,I7,n7⟩:=q7;exact again I7 n7
  |cont=>let⟨σ7,H7,I7,n7⟩:=q7;exact again I7 n7
  |brk=>let⟨σ7,H7,I7,q7⟩:=q7;exact⟨σ7,H7,I7.eg,q7⟩
  |ret v=>let⟨x7,σ7,H7,I7,r7,q7⟩:=q7;calc⟨x7,σ7,H7,I7.eg,r7,q7⟩
end
abbrev R2:=V->V->Hp->VK->Prop
def d8(X:Cx)(f:L->L->Sem L)(r:R2):Prop :=
 ∀(pins:aM)(s:B)(σ:St)(H:Hp)(x y:V)(v u:L)(Q:VK),Inv X pins σ H s->RelV x v->RelV y u->r x y H Q →
  G (S X.prog X.w) X.A (f v u) (EP X pins σ Q) X.xe s
def yf(X:Cx)(f:L->Sem L)(r:V->Hp->VK->Prop):Prop :=
 ∀(pins:aM)(s:B)(σ:St)(H:Hp)(x:V)(v:L)(Q:VK),Inv X pins σ H s->RelV x v->r x H Q →
  G (S X.prog X.w) X.A (f v) (EP X pins σ Q) X.xe s
def hU(X:Cx)(f:L)(r:-V->Hp->VK->Prop):Prop :=
 ∀(pins:aM)(s:B)(σ:St)(H:Hp)(xs:-V)(us:-L)(Q:VK),Inv X pins σ H s->Vals xs us->r xs H Q →
  G (S X.prog X.w) X.A (call f us) (EP X pins σ Q) X.xe s
def sI(r:R2)(ta tb:TE):TE:=fun σ H Q=>ta σ H λx H1=>tb σ H1 λy H2=>r x y H2 Q
def Ks(r:V->Hp->VK->Prop)(ta:TE):TE:=fun σ H Q=>ta σ H λx H1=>r x H1 Q
def rI(C:Int->Int->Prop)(g:Int->Int->V):R2:=λx y H Q=>∃i j,x=.int i/\y=.int j/\C i j/\Q (g i j) H
def mC(g:Int->Int->V):R2:=λx y H Q=>∃i j,x=.int i/\y=.int j/\Q (g i j) H
def rU(g:Int->V):V->Hp->VK->Prop:=λx H Q=>∃i,x=.int i/\Q (g i) H
section
variable{X:Cx}{a b c:M}{ta tb tc:TE}{pos:y}
theorem pH(ha:JE X a ta)(hb:JE X b tb){pins:aM}{s:B}{σ:St}{H:Hp}{R:V->V->Hp->Prop}(I:Inv X pins σ H s)
  (h:ta σ H λx H1=>tb σ H1 λy H2=>R x y H2) {Q:bw} {f:L->L->Sem L}
  (hf:∀v u s2 x y H2,Inv X pins σ H2 s2->RelV x v->RelV y u->R x y H2->G (S X.prog X.w) X.A (f v u) Q X.xe s2) :
  G (S X.prog X.w) X.A (eval a X.env) (λv s₁=>G (S X.prog X.w) X.A (eval b X.env) (λu s₂=>G (S X.prog X.w) X.A (f v u) Q X.xe s₂) X.xe s₁) X.xe s:=by
 calc bE (ha pins s σ H _ I h) λv s1 ⟨x,H1,I1,r1,q1⟩=>?_;calc bE (hb pins s1 σ H1 _ I1 q1) λu s2 ⟨y,H2,I2,r2,q2⟩=>?_;calc hf v u s2 x y H2 I2 r1 r2 q2
theorem sJ{op:Operator}{r:R2}(ho:d8 X (binaryOp op) r)(ha:JE X a ta)(hb:JE X b tb):JE X (.BinOp a op b pos) (sI r ta tb):=by
 calc⟨?_⟩;ext pins s σ H Q I h;calc wpAny_BinOp (pH ha hb I h λv u s2 x y H2 I2 rx ry q=>ho pins s2 σ H2 x y v u Q I2 rx ry q)
theorem Kt{op:UnaryOp}{r:V->Hp->VK->Prop}(ho:yf X (unaryOp op) r)(ha:JE X a ta):JE X (.UnaryOp op a pos) (Ks r ta):=by
 calc⟨?_⟩;ext pins s σ H Q I h;calc UnaryOp_ (bE (ha pins s σ H _ I h) λv s1 ⟨x,H1,I1,r1,q1⟩↦ho pins s1 σ H1 x v Q I1 r1 q1)
theorem vm{f:L->L->Sem L}{C:Int->Int->Prop}{g:Int->Int->Int}
  (rule:∀(i j:Int)(t u:Tok)(s:B)(Q:bw)(E:bw),C i j->Q (.int (g i j) s.toks) {s with toks:=s.toks+1}->G (S X.prog X.w) X.A (f (.int i t) (.int j u)) Q E s) :
  d8 X f (rI C λi j=>.int (g i j)):=by
 ext pins s σ H x y v u Q I rx ry h;let⟨i,j,rfl,rfl,hc,q⟩:=h;let⟨t,rfl⟩:=rx;let⟨t',rfl⟩:=ry;calc rule i j t t' s _ _ hc ⟨.int (g i j),H,I.tok _,⟨_,Y⟩,q⟩
theorem sL{f:L->L->Sem L}{g:Int->Int->Int}
  (rule:∀(i j:Int)(t u:Tok)(s:B)(Q:bw)(E:bw),Q (.int (g i j) s.toks) {s with toks:=s.toks+1}->G (S X.prog X.w) X.A (f (.int i t) (.int j u)) Q E s) :
  d8 X f (mC λi j=>.int (g i j)):=by
 ext pins s σ H x y v u Q I rx ry h;let⟨i,j,rfl,rfl,q⟩:=h;let⟨t,rfl⟩:=rx;let⟨t',rfl⟩:=ry;calc rule i j t t' s _ _ ⟨.int (g i j),H,I.tok _,⟨_,Y⟩,q⟩
theorem mD{f:L->L->Sem L}{g:Int->Int->Bool}
  (rule:∀(i j:Int)(t u:Tok)(s:B)(Q:bw)(E:bw),Q (.bool (g i j)) s->G (S X.prog X.w) X.A (f (.int i t) (.int j u)) Q E s) :
  d8 X f (mC λi j=>.bl (g i j)):=by
 ext pins s σ H x y v u Q I rx ry h;let⟨i,j,rfl,rfl,q⟩:=h;let⟨t,rfl⟩:=rx;let⟨t',rfl⟩:=ry;calc rule i j t t' s _ _ ⟨.bl (g i j),H,I,Y,q⟩
def et(i j:Int):Prop:=0<=j/\j<=1000000/\i.natAbs<2 ^ 64
def mE(i j:Int):Prop:=(-(2 ^ 64)<i/\i<2 ^ 64)\/(-(2 ^ 64)<j/\j<2 ^ 64)
theorem mE.ok{i j:Int}(h:mE i j):IntMulOk i j:=by
 rcases h with⟨h1,h2⟩|⟨h1,h2⟩
 .exact .of_left (q1P h1 h2)
 .calc .of_right (q1P h1 h2)
theorem DI:d8 X (binaryOp .Add) (mC λi j=>.int (i+j)):=sL λ_ _ _ _ _ _ _ q=>add_int q
theorem Ku:d8 X (binaryOp .Sub) (mC λi j=>.int (i-j)):=sL λ_ _ _ _ _ _ _ q=>sub_int q
theorem Kv:d8 X (binaryOp .Mult) (rI mE λi j=>.int (i*j)):=vm λ_ _ _ _ _ _ _ hc q=>mul_int q hc.ok
theorem yg:d8 X (binaryOp .Mod) (rI (λ_ j=>0<j) λi j=>.int (i%j)):=vm λi j _ _ _ _ _ hc q=>by
 let h1:(0:Int)<j:=hc;calc mod_int' ⋯ (by rw[Int.fmod_eq_emod_of_nonneg i ⋯];calc q)
theorem Kw:d8 X (binaryOp .Pow) (rI et λi j=>.int (i ^ j.toNat)):=vm λ_ _ _ _ _ _ _ hc q=>pow_int_small hc.1 hc.2.1 hc.2.2 q
theorem Ky{f:L->Sem L}{g:Int->Int}
  (rule:∀(i:Int)(t:Tok)(s:B)(Q:bw)(E:bw),Q (.int (g i) s.toks) {s with toks:=s.toks+1}->G (S X.prog X.w) X.A (f (.int i t)) Q E s) :
  yf X f (rU λi=>.int (g i)):=by
 ext pins s σ H x v Q I rx h;let⟨i,rfl,q⟩:=h;let⟨t,rfl⟩:=rx;calc rule i t s _ _ ⟨.int (g i),H,I.tok _,⟨_,Y⟩,q⟩
theorem Kz:yf X (unaryOp .USub) (rU λi=>.int (-(i:Int))):=Ky λ_ _ _ _ _ q=>neg_int q
theorem DJ{pins:aM}{σ:St}{H:Hp}{s:B}{Q:VK}{k k':Bool}(I:Inv X pins σ H s)(q:Q (.bl k) H)(e:k=k'):EP X pins σ Q (.bool k') s:=by
 subst e;calc⟨.bl k,H,I,Y,q⟩
theorem KC:d8 X (compareOp .Lt) (mC λi j=>.bl (E (i<j))):=mD λ_ _ _ _ _ _ _ q=>lt_int q
theorem KD:d8 X (compareOp .LtE) (mC λi j=>.bl (E (i<=j))):=mD λ_ _ _ _ _ _ _ q=>le_int q
theorem KG:d8 X (compareOp .Gt) (mC λi j=>.bl (E (j<i))):=mD λ_ _ _ _ _ _ _ q=>gt_int q
theorem KH:d8 X (compareOp .GtE) (mC λi j=>.bl (E (j<=i))):=mD λ_ _ _ _ _ _ _ q=>ge_int q
theorem KI:d8 X (compareOp .Is) (λx y H Q=>y=.non/\Q (.bl (E (x=.non))) H):=by
 ext pins s σ H x y v u Q I rx ry h;let⟨rfl,q⟩:=h;cases ry
 refine is_none_gen (DJ I q ?_)
 cases x<;>first
  |(cases rx;rfl)
  |(let⟨t,rfl⟩:=rx;rfl)
theorem KJ:d8 X (compareOp .IsNot) (λx y H Q=>y=.non/\Q (.bl (!E (x=.non))) H):=by
 ext pins s σ H x y v u Q I rx ry h;let⟨rfl,q⟩:=h;cases ry
 refine isnot_none_gen (DJ I q ?_)
 cases x<;>first
  |(cases rx;rfl)
  |(let⟨t,rfl⟩:=rx;rfl)
theorem yh(b:M){op:CmpOp}(h:op≠.In:=by decide)(h2:op≠.NotIn:=by decide):behindInMarks op b=ι:=by
 let e1:(op==CmpOp.In)=ι:=by cases op<;>first|rfl|exact absurd Y h
 let e2:(op==CmpOp.NotIn)=ι:=by cases op<;>first|rfl|exact absurd Y h2
 cases b<;>simp[behindInMarks,e1,e2]
theorem KN{op:CmpOp}{r:R2}(ho:d8 X (compareOp op) r)(ha:JE X a ta)(hb:JE X b tb)(hm:behindInMarks op b=ι):JE X (.Compare a [op] [b] pos) (sI r ta tb):=by
 calc⟨?_⟩;ext pins s σ H Q I h;calc wpAny_Compare1 (pH ha hb I h λv u s2 x y H2 I2 rx ry q=>ho pins s2 σ H2 x y v u Q I2 rx ry q) hm
def KO(t:TE):TT:=fun σ H Q=>t σ H λx H'=>∃k,x=.bl k/\Q k H'
theorem KP{op:CmpOp}{r:R2}(ho:d8 X (compareOp op) r)(ha:JE X a ta)(hb:JE X b tb)(hm:behindInMarks op b=ι):JT X (.Compare a [op] [b] pos) (KO (sI r ta tb)):=by
 calc⟨?_⟩;ext pins s σ H Q I h
 refine ZF (bE (ha pins s σ H _ I h) λv s1 ⟨x,H1,I1,r1,q1⟩=>bE (hb pins s1 σ H1 _ I1 q1) λu s2 ⟨y,H2,I2,r2,q2⟩ =>
  bE (ho pins s2 σ H2 x y v u _ I2 r1 r2 q2) λc s3 ⟨z,H3,I3,r3,k,e,q3⟩=>?_) hm
 subst e;cases r3
 calc WH ⟨H3,I3,q3⟩
def KQ(r r':R2)(ta tb tc:TE):TE:=fun σ H Q=>ta σ H λx H1=>tb σ H1 λy H2=>r x y H2 λz H3=>∃k,z=.bl k ∧
 (if k=θ then tc σ H3 λw' H4=>r' y w' H4 Q else Q (.bl ι) H3)
theorem KR{op pI:CmpOp}{r r':R2}(ho:d8 X (compareOp op) r)(dS:d8 X (compareOp pI) r')(ha:JE X a ta)(hb:JE X b tb)(hc:JE X c tc)
  (hm:lastMarks [op,pI] [b,c]=ι:=by with_unfolding_all rfl):JE X (.Compare a [op,pI] [b,c] pos) (KQ r r' ta tb tc):=by
 calc⟨?_⟩;ext pins s σ H Q I h
 refine Compare_chain (bE (ha pins s σ H _ I h) λv s1 ⟨x,H1,I1,r1,q1⟩=>chain_link (bE (hb pins s1 σ H1 _ I1 q1) λu s2 ⟨y,H2,I2,r2,q2⟩ =>
  bE (ho pins s2 σ H2 x y v u _ I2 r1 r2 q2) λd s3 ⟨z,H3,I3,r3,k,e,q3⟩=>?_)) hm
 subst e;cases r3
 refine WH ?_
 cases k with
 |false=>exact ite_ff ⟨.bl ι,H3,I3,Y,q3⟩
 |true=>calc ite_tt (chain_last (bE (hc pins s3 σ H3 _ I3 q3) λw' s4 ⟨z',H4,I4,r4,q4⟩↦dS pins s4 σ H4 y z' u w' Q I4 r2 r4 q4))
theorem qQ:(sizeLine:Nat)<2 ^ 63:=by rw[Ws];decide
theorem KU:d8 X (binaryOp .Add) (λx y H Q=>∃i j,x=.str i/\y=.str j/\↑i+↑j<=sizeLine/\Q (.str (i++j)) H):=by
 ext pins s σ H x y v u Q I rx ry h;let⟨i,j,rfl,rfl,hz,q⟩:=h;let⟨t,rfl⟩:=rx;let⟨t',rfl⟩:=ry;calc add_str (λt' tk=>⟨.str (i++j),H,I.tok _,⟨_,Y⟩,q⟩) hz
theorem vals1{x:V}{us:-L}(r:Vals [x] us):∃u,us=[u]/\RelV x u:=by
 cases r with
 |cons r1 r2=>cases r2;calc⟨_,Y,r1⟩
theorem vals2{x y:V}{us:-L}(r:Vals [x,y] us):∃u w',us=[u,w']/\RelV x u/\RelV y w':=by
 cases r with
 |cons r1 r2 =>
  cases r2 with
  |cons r3 r4=>cases r4;calc⟨_,_,Y,r1,r3⟩
theorem KW(hc:X.calm=θ):hU X (.builtin "max") (λxs H Q=>∃i j,xs=[.int i,.int j]/\Q (.int (if j>i then j else i)) H):=by
 ext pins s σ H xs us Q I r h;let⟨i,j,rfl,q⟩:=h;let⟨u,w',rfl,⟨t,rfl⟩,⟨t',rfl⟩⟩:=vals2 r;refine max_two_ints (I.ok.hd hc) λh' tk k=>⟨_,H,I.kept k,?_,q⟩
 by_cases hj:j>i
 .rw[U_ hj,U_ hj];exact⟨_,Y⟩
 .rw[U9 hj,U9 hj];calc⟨_,Y⟩
theorem KY(hc:X.calm=θ):hU X (.builtin "min") (λxs H Q=>∃i j,xs=[.int i,.int j]/\Q (.int (if j<i then j else i)) H):=by
 ext pins s σ H xs us Q I r h;let⟨i,j,rfl,q⟩:=h;let⟨u,w',rfl,⟨t,rfl⟩,⟨t',rfl⟩⟩:=vals2 r;refine min_two_ints (I.ok.hd hc) λh' tk k=>⟨_,H,I.kept k,?_,q⟩
 by_cases hj:j<i
 .rw[U_ hj,U_ hj];exact⟨_,Y⟩
 .rw[U9 hj,U9 hj];calc⟨_,Y⟩
end
structure iR(h:I)(x dx C:O)(mA:J->Option L):Prop where
 obj:h.get? x=U (WN C dx)
 ns:h.Ns1 dx mA
 ne:dx≠x
theorem KZ{h:I}{dx:O}{mA:J->Option L}(n:h.Ns1 dx mA):∃od,h.get? dx=U od/\∀name,YN name od=U (mA name):=by
 let⟨o,es,ep,ho,hd,hk,_,hm⟩:=n;calc⟨o,ho,λname=>?_⟩;let e:=hm name;unfold nsFind findBy at e;rw[<-Array.find?_toList] at e;unfold YN;rw[hd];dsimp only;split
 .rename_i y q
  rw[q] at e;exact congrArg U e
 .rename_i q
  rw[q] at e
  let a:es.toList.any (·.refKey)=ι:=by
   rw[WJ];ext y hy;let⟨z,t,yi⟩:=hk y (Array.mem_toList_iff.mp hy);simp[DictEntry.refKey,yi]
  let a':¬ es.toList.any (·.refKey)=θ:=by rw[a];exact Vl
  rw[U9 a'];calc congrArg U e
theorem iR.look{h:Α}{x dx C:O}{mA:J->Option L}(I:iR h x dx C mA):∃od,PySem.W.InstAt h x (WN C dx) C (U od)/\∀name,YN name od=U (mA name) :=
 let⟨od,ho,hl⟩:=KZ I.ns
 ⟨od,⟨I.obj,Y,Y,ho⟩,hl⟩
section
variable{prog:l}{w:g}{A:q}{E:bw}{s:B}{K:Ee}{x dx C f:O}{mA:J->Option L}{name:J}{v:L}
theorem K6{expr:Bool}{Q:bw}(X:K.In s.heap)(I:iR s.heap x dx C mA)(hg:Ys K C name=θ)(hh:Y2 K C=θ)
  (ha:V0 K (.ref C) name=U Z) (hv:mA name=U v) (vn:q0Y v=θ) (h:Q v {s with toks:=s.toks+1}) :
  G (S prog w) A (getAttr (.ref x) name expr) Q E s:=by
 let⟨od,J,hl⟩:=I.look;calc PySem.W.get_value X J (YE hg).1 (PySem.W.findObj_own hh ha Y (by rw[hl,hv])) vn h
theorem K7{pl:Sem Bool}{Q:L×-L->B->Prop}(X:K.In s.heap)(I:iR s.heap x dx C mA)(hg:Ys K C name=θ)
  (hf:V0 K (.ref C) name=U (U (.ref f))) (ht:Zm K (.ref f)=θ) (hv:mA name=Z) (h:Q (.ref f,[.ref x]) s) :
  G (S prog w) A (getMethod (.ref x) name pl) Q E s:=by
 let⟨od,J,hl⟩:=I.look;calc PySem.W.method_fn X J (YE hg).1 (YE hg).2 hf (Zn.mp ht) (by show(YN name od).map (·.isSome)=U ι;rw[hl,hv];rfl) h
theorem K8{ns:-π}{Q:Unit->B->Prop}(X:K.In s.heap)(I:iR s.heap x dx C mA)
  (hs:V0 K (.ref C) "__setattr__" = U (U (.builtin "object.__setattr__"))) (hp:q0x K C=θ) (ht:Zx K C name=U Z) (hh:Y2 K C=θ)
  (hw:q0v mA ns) (hsz:↑ns<=sizeLine)
  (h:∀h',iR h' x dx C (λy=>if y=name then U v else mA y)->XN dx s.heap h'->Q () {s with heap:=h',toks:=s.toks+2}) :
  G (S prog w) A (setAttr (.ref x) name v) Q E s:=by
 let⟨od,J,hl⟩:=I.look;calc PySem.W.set_plain X J hs (PySem.W.osa_open (s:={s with toks:=s.toks+1}) (r:=none) X J hp ht λb=>?_);let⟨cd,hc,pD⟩:=PySem.W.any_some hh;let hx:s.heap.get? x=U ⟨.ref C,U dx,.plain,#[]⟩:=I.obj;calc s_ (Md (s_ (s_ (wpAny_loadPart hx (s_ (PySem.W.Looks.here (s:={s with toks:=s.toks+1}) (PySem.W.looks_clsIn X hc) ?_))))));rw[pD];calc Md (a:=U dx) (s_ (Md (s_ ?_)));calc wpAny_nsSet1 (s:={s with toks:=s.toks+1}) I.ns λh' qR ee=>?_;let⟨oD,Ug,Uh,K9,K_,La⟩:=qR.count (PySem.Within.cons name v hw);refine s_ (wpAny_lookBehind K9 (by rw[K_];calc pastItsLine_dict (Vo La (by rw[Eg];symm))) ?_)
 calc Md (h _ ⟨(ee.2 _ (Xx I.ne)).trans I.obj,qR,I.ne⟩ ee)
theorem Lb{R:Result->B->Prop}{vs:-L}{kw:-(J×L)}(X:K.In s.heap)(hm:q1i K C=θ)
  (hi:V0 K (.ref C) "__init__" = U (U (.ref f))) (hf:PySem.W.typeIn K (.ref f)=U (.type "function"))
  (h:codeAny (S prog w) (A.under (.builtin "type.__call__" ⟨.ref C::vs,kw⟩)) (.call (.ref f) ⟨.ref (⇑s+1)::vs,kw⟩) (PySem.W.InitBack (⇑s+1) R)
   {s with heap:=(s.heap.push Wc).push (WN C ⇑s)}) :
  codeAny (S prog w) A (.call (.ref C) ⟨vs,kw⟩) R s:=by
 let⟨hh,g,d,t,os⟩:=s;calc PySem.W.make_core (PySem.W.makes_of X hm) (PySem.W.looks_findIn X hi) (λself=>PySem.W.bind_fn X self hf) (.inl Y) h
end
noncomputable def cX(f:J)(v:V):-(J×V)->-(J×V)
 |[]=>[(f,v)]
 |(g,x)::r=>if g=f then(g,v)::r else(g,x)::cX f v r
theorem DK(f g:J)(v:V):∀fs:-(J×V),(cX f v fs).lookup g=if g=f then U v else fs.lookup g
 |[]=>by
  show Xv g [(f,v)]=_
  by_cases h:g=f
  .let hb:(g==f)=θ:=Zn.mpr h
   erw[Xv,hb,U_ h]
  .let hb:(g==f)=ι:=Xl.mpr h
   erw[Xv,hb,U9 h]
 |(k,x)::r=>by
  let ih:=DK f g v r;rw[show cX f v ((k,x)::r)=(if k=f then(k,v)::r else(k,x)::cX f v r) from Y]
  by_cases hk:k=f
  .rw[U_ hk]
   by_cases h:g=k
   .let hb:(g==k)=θ:=Zn.mpr h
    erw[Xv,hb,U_ (h.trans hk)]
   .let hb:(g==k)=ι:=Xl.mpr h
    erw[Xv,hb,U9 (λe:g=f=>h (e.trans hk.symm))]
  .rw[U9 hk]
   by_cases h:g=k
   .let hb:(g==k)=θ:=Zn.mpr h
    erw[Xv,hb,U9 (λe:g=f=>hk (h.symm.trans e))]
   .let hb:(g==k)=ι:=Xl.mpr h
    erw[Xv,hb];calc ih
theorem yj(f:J)(v:V):∀fs:-(J×V),f∈(cX f v fs).map (·.1)/\∀g,g∈fs.map (·.1)->g∈(cX f v fs).map (·.1)
 |[]=>⟨by simp[cX],λg h=>by simp at h⟩
 |(k,x)::r=>by
  let⟨i1,i2⟩:=yj f v r;rw[show cX f v ((k,x)::r)=(if k=f then(k,v)::r else(k,x)::cX f v r) from Y]
  by_cases hk:k=f
  .rw[U_ hk]
   subst hk;exact⟨by simp,λg h=>by simpa using h⟩
  .rw[U9 hk]
   refine⟨?_,λg h=>?_⟩
   .rw[Ve]
    exact Us _ i1
   .rw[Ve] at h ⊢
    rcases Um.mp h with e|e
    .exact Um.mpr (.inl e)
    .calc Us _ (i2 g e)
theorem DL(f:J)(v:V):∀fs:-(J×V),↑(cX f v fs)<=fs.length+1
 |[]=>by simp[cX]
 |(k,x)::r=>by
  let ih:=DL f v r;rw[show cX f v ((k,x)::r)=(if k=f then(k,v)::r else(k,x)::cX f v r) from Y]
  by_cases hk:k=f
  .rw[U_ hk,Eg,Eg];symm
  .rw[U9 hk,Eg,Eg];symm
theorem d_.some_of{v:V}{o:Option L}(r:d_ (U v) o):∃u,o=U u/\RelV v u:=by
 cases o with
 |none=>exact(show False from r).elim
 |some u=>calc⟨u,Y,r⟩
theorem d_.none_of{o:Option L}(r:d_ Z o):o=Z:=by
 cases o with
 |none=>rfl
 |some u=>calc(show False from r).elim
theorem Lc{v:V}{u:L}(r:RelV v u):q0Y u=θ:=by
 cases v with
 |non=>cases(show u=VM from r);rfl
 |bl b=>cases(show u=XJ b from r);rfl
 |int i=>let⟨t,e⟩:=(show ∃t,u=XD i t from r);cases e;rfl
 |str x=>let⟨t,e⟩:=(show ∃t,u=ZU x t from r);cases e;rfl
 |byt b=>let⟨t,e⟩:=(show ∃t,u=Value.bytes b t from r);cases e;rfl
 |flt b=>let⟨t,e⟩:=(show ∃t,u=q1a b t from r);cases e;rfl
 |ref a=>cases(show u=Vx a from r);rfl
 |ty n=>cases(show u=X1 n from r);rfl
section
variable{P:l}{w:g}{H H':Hp}{h h':I}{a C dx:O}{fs JM:-(J×V)}
theorem vo(ba:d7 P w H h)(e:H a=U (.ins C dx fs)):∃mA,iR h a dx C mA/\(∀f,d_ (fs.lookup f) (mA f))/\q0v mA (fs.map (·.1))/\fs.length<=1000/\H dx=U (.own a):=by
 let⟨d,z,ne,ob,mA,n,r,q⟩:=(show aZ P w H h a (.ins C dx fs) from ba a _ e);calc⟨mA,⟨ob,n,ne⟩,r,q,z,d⟩
end
structure ib(K:Ee)(C:O):Prop where
 pg:Ys K C Str.empty=θ
 hd:Y2 K C=θ
 po:q0x K C=θ
 sa:V0 K (.ref C) "__setattr__" = U (U (.builtin "object.__setattr__"))
theorem ib.get{K:Ee}{C:O}(c:ib K C)(f:J):Ys K C f=θ:=c.pg
def cK(K:Ee)(C:O)(f:J):Prop:=V0 K (.ref C) f=U Z
theorem cK.sM{K:Ee}{C:O}{f:J}(n:cK K C f):Zx K C f=U Z:=by
 unfold Zx;rw[show V0 K (.ref C) f=U Z from n];rfl
structure Meth(K:Ee)(C:O)(m:J)(f:O):Prop where
 at_:V0 K (.ref C) m=U (U (.ref f))
 fn:Zm K (.ref f)=θ
 kp:V6 K (.ref f)=θ
section
variable{X:Cx}{pins:aM}{σ:St}{H:Hp}{s:B}{a C dx:O}{fs:-(J×V)}{f:J}{v:V}{A:q}{E:bw}
theorem Ld{b:Bool}{Q:bw}(I:Inv X pins σ H s)(e:H a=U (.ins C dx fs))(c:ib X.K C)(n:cK X.K C f)(l:fs.lookup f=U v)
  (h:∀u s',Inv X pins σ H s'->RelV v u->Q u s'):G (S X.prog X.w) A (getAttr (.ref a) f b) Q E s:=by
 let⟨mA,O,r,_,_,_⟩:=vo I.ba e;let⟨u,hu,ru⟩:=d_.some_of (v:=v) (o:=mA f) (by rw[<-l];calc r f);calc K6 I.fu O (c.get f) c.hd n hu (Lc ru) (h u _ (I.tok _) ru)
theorem DM{m:J}{g:ξ}{pl:Sem Bool}{Q:L×-L->B->Prop}(I:Inv X pins σ H s)(e:H a=U (.ins C dx fs))(c:ib X.K C)(k:Meth X.K C m g)(l:fs.lookup m=Z)
  (h:Q (.ref g,[.ref a]) s):G (S X.prog X.w) A (getMethod (.ref a) m pl) Q E s:=by
 let⟨mA,O,r,_,_,_⟩:=vo I.ba e;let hn:mA m=Z:=d_.none_of (by rw[<-l];calc r m);calc K7 I.fu O (c.get m) k.at_ k.fn hn h
theorem Le{y:V}{u:L}{Q:Unit->B->Prop}(I:Inv X pins σ H s)(e:H a=U (.ins C dx fs))(c:ib X.K C)(n:cK X.K C f)(hl:fs.length<1000)(ry:RelV y u)
  (h:∀s',Inv X pins σ (upd H a (.ins C dx (cX f y fs))) s'->Q () s'):G (S X.prog X.w) A (setAttr (.ref a) f u) Q E s:=by
 let⟨mA,O,r,wi,_,ho⟩:=vo I.ba e;let hz:↑(fs.map (·.1))<=sizeLine:=by rw[pV,Ws];symm
 calc K8 I.fu O c.sa c.po n.sM c.hd wi hz λh' O' sb=>h _ ?_;let hd:∃o,h'.get? dx=U o:=let⟨o,_,_,e',_⟩:=O'.ns;⟨o,e'⟩;calc I.write (x:=a) (e:=dx) (by rw[e];calc Xg) (.inr ho) (λb q hb z=>(sb.2 b hb).trans z) hd ?_;refine⟨by rw[bf O.ne];calc ho,?_,O.ne,O'.obj,_,O'.ns,λg=>?_,λg hg=>?_⟩
 .let:=DL f y fs;symm
 .show d_ ((cX f y fs).lookup g) (if g=f then U u else mA g)
  rw[DK]
  by_cases q:g=f
  .rw[U_ q,U_ q];exact ry
  .rw[U9 q,U9 q];exact r g
 .by_cases q:g=f
  .rw[q];exact(yj f y fs).1
  .refine (yj f y fs).2 g (wi g λz=>hg ?_)
   show(if g=f then U u else mA g)=Z;rw[U9 q];calc z
theorem Inv.made(I:Inv X pins σ H s):Inv X pins σ (upd (upd H ⇑s (.own (⇑s+1))) (⇑s+1) (.ins C ⇑s []))
  {s with heap:=(s.heap.push Wc).push (WN C ⇑s)}:=by
 let e1:(s.heap.push Wc).get? ⇑s=U Wc:=Uo s.heap Y
 let e2:((s.heap.push Wc).push (WN C ⇑s)).get? (⇑s+1)=U (WN C ⇑s):=by
  let:=Uo (s.heap.push Wc) (o:=WN C ⇑s) Y
  rwa [VQ] at this
 let e3:(s.heap.push Wc).Ns ⇑s (λ_=>Z):=⟨Wc,#[],_,e1,Y,(λe he=>absurd he (by simp)),λ_=>Y⟩;let I1:=I.laid (a:=s.heap.objs.size) (o:=.own (⇑s+1)) (h':=s.heap.push Wc) (t':=s.toks) (λb u q=>vB _ q) (yT _) ⟨_,e1⟩;calc I1.laid (a:=⇑s+1) (o:=.ins C ⇑s []) (t':=s.toks) (λb u q=>vB _ q) (Zo (VQ _ _)) ?_;let ne:⇑s≠⇑s+1:=U8 (Xn _);calc⟨by rw[bf ne,b7],VT _,ne,e2,λ_=>Z,(Heap.Ns1.of_empty e3).at λo q=>vB _ q,λ_=>Xg,λy hy=>absurd Y hy⟩
theorem Lf{prog:l}{w:g}{env:t}{e:M}{f:J}{pos:y}{s:B}{Q:bw}(hb:attributeBase e f env (eval e env)=eval e env)
  (h:G (S prog w) A (eval e env) (λo s₁=>G (S prog w) A (getAttr o f θ) Q E s₁) E s):G (S prog w) A (eval (.Attribute e f pos) env) Q E s :=
 Attribute_any_ h (by rw[arm_eval_Attribute,hb])
end
def yk(K:Ee)(ta:TE)(f:J):TE:=fun σ H Q=>ta σ H λx H1=>∃a C dx fs v,x=.ref a/\H1 a=U (.ins C dx fs)/\ib K C/\cK K C f/\fs.lookup f=U v/\Q v H1
def ym(K:Ee)(ta tv:TE)(f:J):TS:=λD σ H=>tv σ H λy H1=>ta σ H1 λx H2=>∃a C dx fs,x=.ref a/\H2 a=U (.ins C dx fs)/\ib K C/\cK K C f/\fs.length<1000 ∧
 D.nx σ (upd H2 a (.ins C dx (cX f y fs)))
section
variable{X:Cx}{o e value:M}{f:J}{pos pos' yn:y}{ta tv:TE}
theorem Lg(he:JE X e ta)(hb:attributeBase e f X.env (eval e X.env)=eval e X.env):JE X (.Attribute e f pos) (yk X.K ta f):=by
 calc⟨?_⟩;ext pins s σ H Q I h;calc Lf hb (bE (he pins s σ H _ I h) λu s1 ⟨x,H1,I1,rx,a,C,dx,fs,v,ex,ea,c,n,l,q⟩=>?_);subst ex;obtain rfl:u=Vx a:=rx;calc Ld I1 ea c n l λu' s2 I2 ru=>⟨v,H1,I2,ru,q⟩
theorem Lh(ha:JE X o ta)(hv:JE X value tv)(hs:swapsWith value (U (.Attribute o f pos')) pos.line X.env=pure ι):JS X (.Assign [.Attribute o f pos'] value pos) (ym X.K ta tv f):=by
 calc⟨?_⟩;ext pins s σ H D I h;calc plainObj_wpAny_Assign_Attribute (bE (hv pins s σ H _ I h) λu s1 ⟨y,H1,I1,ry,q⟩=>bE (ha pins s1 σ H1 _ I1 q) λov s2 ⟨x,H2,I2,rx,a,C,dx,fs,ex,ea,c,n,l,q2⟩=>?_) hs;subst ex;obtain rfl:ov=Vx a:=rx;calc Le I2 ea c n l ry λs3 I3=>⟨σ,_,I3,q2⟩
end
section
variable{X:Cx}{pins:aM}{σ:St}{H:Hp}{s:B}{A:q}{E:bw}{Q:bw}{c:L}{b:Bool}
inductive eu (K:Ee) (H:Hp):V->L->Prop where
 |non:eu K H .non (.type "NoneType")
 |bl (x:Bool):eu K H (.bl x) (.type "bool")
 |int (i:Int):eu K H (.int i) (.type "int")
 |str (x:J):eu K H (.str x) (.type "str")
 |flt (x:UInt64):eu K H (.flt x) (.type "float")
 |lst {a:O} {xs:-V} (e:H a=U (.lst xs)):eu K H (.ref a) (.type "list")
 |frz {a:O} {o:Γ} {xs:-V} (e:H a=U (.frz o (.lst xs))):eu K H (.ref a) (.type "list")
 |tup {a:O} {xs:-V} (e:H a=U (.tup xs)):eu K H (.ref a) (.type "tuple")
 |dK {a:O} {kvs:-(Key×V)} (e:H a=U (.dK kvs)):eu K H (.ref a) (.type "dict")
 |dT {a:O} {kvs:-(-Key×V)} (e:H a=U (.dT kvs)):eu K H (.ref a) (.type "dict")
 |ins {a C dx:O} {fs:-(J×V)} (e:H a=U (.ins C dx fs)) (cl:ib K C) (ha:V0 K (.ref C) "__class__" = U (U (.builtin "object.__class__")))
   (hn:PySem.W.specialIn K (.builtin "object.__class__") "__get__" = U (U (.builtin "getset_descriptor.__get__"))) (DN:PySem.W.takesIn K (.builtin "object.__class__")=U θ)
   (hm:PySem.W.mroIn K C (.type "object")=U θ):eu K H (.ref a) (.ref C)
theorem Li{x:V}{u t:L}(I:Inv X pins σ H s)(rx:RelV x u)(ty:eu X.K H x t)(e:VR X.K t c=U b)(h:∀tk,Q (.bool b) {s with toks:=tk}):
  G (S X.prog X.w) A (call (.builtin "isinstance") [u,c]) Q E s:=by
 cases ty with
 |non=>cases(show u=VM from rx);exact V8 PySem.W.kitx_none I.fu Xg e (λz=>nomatch z) h
 |bl y=>cases(show u=XJ y from rx);exact V8 PySem.W.kitx_bool I.fu Xg e (λz=>nomatch z) h
 |int i=>let⟨t,q⟩:=(show ∃t,u=XD i t from rx);cases q;exact V8 PySem.W.kitx_int I.fu Xg e (λz=>nomatch z) h
 |str y=>let⟨t,q⟩:=(show ∃t,u=ZU y t from rx);cases q;exact V8 PySem.W.kitx_str I.fu Xg e (λz=>nomatch z) h
 |flt y=>let⟨t,q⟩:=(show ∃t,u=q1a y t from rx);cases q;exact V8 PySem.W.kitx_float I.fu Xg e (λz=>nomatch z) h
 | @lst a xs ea =>
  cases(show u=Vx a from rx)
  let⟨_,_,n,_,h1⟩:=(show aZ X.prog X.w H s.heap a (.lst xs) from I.ba a _ ea);exact V8 q0y I.fu ⟨_,h1,Y⟩ e (λz=>nomatch z) h
 | @frz a ob xs ea =>
  cases(show u=Vx a from rx)
  let⟨_,_,_,n,_,h1⟩:=(show aZ X.prog X.w H s.heap a (.frz ob (.lst xs)) from I.ba a _ ea);exact V8 q0y I.fu ⟨_,h1,Y⟩ e (λz=>nomatch z) h
 | @tup a xs ea =>
  cases(show u=Vx a from rx)
  let⟨_,_,_,p⟩:=(show aZ X.prog X.w H s.heap a (.tup xs) from I.ba a _ ea);let⟨o,h1,h2,_⟩:=p;exact V8 PySem.W.kitx_tuple I.fu ⟨o,h1,h2⟩ e (λz=>nomatch z) h
 | @dK a kvs ea =>
  cases(show u=Vx a from rx)
  let⟨_,_,vs,_,p⟩:=(show aZ X.prog X.w H s.heap a (.dK kvs) from I.ba a _ ea);let⟨o,es,ep,h1,h2,_⟩:=p;exact V8 q0z I.fu ⟨o,h1,h2.1⟩ e (λz=>nomatch z) h
 | @dT a kvs ea =>
  cases(show u=Vx a from rx)
  let⟨_,_,xs,_,o,es,ep,h1,h2,_⟩:=(show aZ X.prog X.w H s.heap a (.dT kvs) from I.ba a _ ea);exact V8 q0z I.fu ⟨o,h1,h2.1⟩ e (λz=>nomatch z) h
 | @ins a C dx fs ea cl ha hn DN hm =>
  cases(show u=Vx a from rx)
  let⟨mA,O,_⟩:=vo I.ba ea;let⟨od,J,_⟩:=O.look;calc V8 (PySem.W.kitx_own (cl.get _) cl.hd ha hn DN hm) I.fu J e (λz=>nomatch z) h
end
structure bc(k:Nat)(A:q):Prop where
 hd:A.handled=Z
 dp:A.depth+3*k+5<recursionLimit
 un:A.units+16*k+200<cLine
 gd:A.guards=U []
theorem bc.mono{j k:Nat}{A:q}(r:bc k A)(h:j<=k):bc j A:=⟨r.hd,by let:=r.dp;symm,by let:=r.un;symm,r.gd⟩
theorem bc.deeper{k:Nat}{A:q}(r:bc (k+1) A)(env:t):bc k (A.deeper env) :=
 ⟨r.hd,by let:=r.dp;show A.depth+1+3*k+5<_;symm,by let:=r.un;show A.units+3+16*k+200<_;symm,r.gd⟩
theorem bc.in1{k:Nat}{A:q}(r:bc (k+1) A):bc k A.in1 :=
 ⟨r.hd,by let:=r.dp;show A.depth+3*k+5<_;symm,by let:=r.un;show A.units+1+16*k+200<_;symm,r.gd⟩
theorem Lj{A:q}{C:O}{us:-L}{kw:-(J×L)}:(A.under (.builtin "type.__call__" ⟨.ref C::us,kw⟩)).depth=A.depth+1:=by
 first|rfl|simp[q0A,Code.weight,Code.isCreation,Code.isGuard,Code.isCaller,Code.frames,q0B,guardIds]
theorem Lk{A:q}{C:O}{us:-L}{kw:-(J×L)}:(A.under (.builtin "type.__call__" ⟨.ref C::us,kw⟩)).units=A.units+1:=by
 first|rfl|simp[q0A,Code.cUnits,Code.frames,q0B]
theorem bc.make{k:Nat}{A:q}(r:bc (k+1) A)(C:O)(us:-L)(kw:-(J×L)):bc k (A.under (.builtin "type.__call__" ⟨.ref C::us,kw⟩)) :=
 ⟨r.hd,by let:=r.dp;rw[Lj];symm,by let:=r.un;rw[Lk];symm,r.gd⟩
theorem bc.depth{k:Nat}{A:q}(r:bc k A):A.depth<recursionLimit:=by let:=r.dp;symm
theorem bc.units{k:Nat}{A:q}(r:bc k A):A.units+64<cLine:=by let:=r.un;symm
def sN:TA:=λ_ H Q=>Q [] H
def oC(ta:TE)(tr:TA):TA:=fun σ H Q=>ta σ H λx H1=>tr σ H1 λxs H2=>Q (x::xs) H2
section
variable{X:Cx}{e:M}{es:-M}{te:TE}{t:TA}{pos:y}
theorem cY:JA X [] sN:=⟨λ_ _ _ _ H Q I h=>Calls.spliced_nil ⟨[],H,I,.nil,h⟩⟩
theorem jG(ha:JE X e te)(hr:JA X es t)(hs:cF X e es:=by rfl):JA X (e::es) (oC te t):=by
 calc⟨?_⟩;ext pos pins s σ H Q I h;rw[hs];show G _ _ (spliced ((ι,eval e X.env)::backTo pos (starEach es X.env))) _ _ s;calc Calls.spliced_cons (bE (ha pins s σ H _ I h) λu s1 ⟨x,H1,I1,r1,q1⟩=>?_);calc bE (hr pos pins s1 σ H1 _ I1 q1) λus s2 ⟨xs,H2,I2,r2,q2⟩↦⟨x::xs,H2,I2,.cons r1 r2,q2⟩
def yo(t:TA):TE:=fun σ H Q=>t σ H λxs H1=>↑xs<=sizeLine/\∀p,H1 p=Z->Q (.ref p) (upd H1 p (.tup xs))
def yq(t:TA):TE:=fun σ H Q=>t σ H λxs H1=>↑xs<=sizeLine/\∀p,H1 p=Z->Q (.ref p) (upd H1 p (.lst xs))
theorem Ll{x1}(h:JA X es t):JE X (.Tuple es x1 pos) (yo t):=by
 calc⟨?_⟩;ext pins s σ H Q I hq;calc wpAny_Tuple_spliced (bE (h pos pins s σ H _ I hq) λus s1 ⟨xs,H1,I1,r,z,q⟩=>⟨by rw[<-↑r];calc z,?_⟩);let hf:H1 ⇑s1=Z:=I1.ba.fresh (yT _);calc⟨.ref ⇑s1,upd H1 ⇑s1 (.tup xs),I1.laid (t':=s1.toks) (λb u e=>vB _ e) (yT _) ?_,Y,q _ hf⟩;calc⟨z,us,r,⟨_,Uo _ Y,Y,_,Y⟩⟩
theorem vp(h:JA X es t):JE X (.List es pos) (yq t):=by
 calc⟨?_⟩;ext pins s σ H Q I hq;calc wpAny_List_spliced (bE (h pos pins s σ H _ I hq) λus s1 ⟨xs,H1,I1,r,z,q⟩=>⟨by rw[<-↑r];calc z,?_⟩);let hf:H1 ⇑s1=Z:=I1.ba.fresh (yT _);calc⟨.ref ⇑s1,upd H1 ⇑s1 (.lst xs),I1.laid (t':=s1.toks) (λb u e=>vB _ e) (yT _) ?_,Y,q _ hf⟩;calc⟨z,us,0,r,Uo _ Y⟩
end
abbrev Sp:=-V->Hp->VK->XK->Prop
abbrev kg:=-t->Hp->B->XK->L->B->Prop
structure iS(P:l)(w:g)(K:Ee)(mg:J->Option L)(base:I)(A:q)(outer:-t)(s:B)(H:Hp):Prop where
 frames:A.frames=U outer
 mod:Mod K mg base
 bs:∀b o,base.get? b=U o->s.heap.get? b=U o/\(H b=Z\/∃xs,H b=U (.tup xs))
 mq:base.objs.size<=⇑s
 eR:s.heap.FunFrames base outer
 ou:∀b∈j_ outer,H b=Z
 ba:d7 P w H s.heap
 bare:AllBare s.gens
def CE(outer:-t)(P:l)(w:g)(H:Hp)(s:B)(Q:VK)(u:L)(s':B):Prop :=
 ∃v H',s'.os=s.os/\AllBare s'.gens/\Un (j_ outer) [] H H' s.heap s'.heap/\d7 P w H' s'.heap/\RelV v u/\Q v H'
def CR(CX:kg)(outer:-t)(P:l)(w:g)(H:Hp)(s:B)(Q:VK)(E:XK)(r:Result)(s':B):Prop :=
 match r with
 |.ok (.ret u)=>CE outer P w H s Q u s'
 |.ok _=>False
 |.error e=>CX outer H s E e s'
structure bY(P:l)(w:g)(K:Ee)(mg:J->Option L)(base:I)(CX:kg)(k:Nat)(f:O)(fd:FuncData)(ps:-J)(sp:Sp):Prop where
 len:∀vs H Q E,sp vs H Q E->↑vs=↑ps
 run:∀(A:q)(outer:-t)(s:B)(H:Hp)(args:Args)(us:-L)(vs:-V)(Q:VK)(E:XK),bc k A->iS P w K mg base A outer s H->BindsTo s fd args (ps.zip us)->Vals vs us->sp vs H Q E →
  codeAny (S P w) A (.call (.ref f) args) (CR CX outer P w H s Q E) s
theorem iS.make{P:l}{w:g}{K:Ee}{mg:J->Option L}{base:I}{A:q}{outer:-t}{s:B}{H:Hp}(e:iS P w K mg base A outer s H)(C:O)(us:-L)(kw:-(J×L)):
  iS P w K mg base (A.under (.builtin "type.__call__" ⟨.ref C::us,kw⟩)) outer s H:=⟨by first|exact e.frames|(simpa[q0A,Code.envs,q0B,pushEnvs] using e.frames),e.mod,e.bs,e.mq,e.eR,e.ou,e.ba,e.bare⟩
section
variable{X:Cx}{pins:aM}{σ:St}{H:Hp}{s s':B}
theorem Inv.pJ(I:Inv X pins σ H s):iS X.prog X.w X.K X.mg X.base X.A X.stack s H :=
 ⟨I.ok.frames,I.ok.mod,I.bs,Vo I.ok.mq I.sz,I.stack,I.je,I.ba,I.bare⟩
theorem Inv.after{Q:VK}{u:L}(I:Inv X pins σ H s)(h:CE X.stack X.prog X.w H s Q u s'):EP X pins σ Q u s':=by
 let⟨v,H',os,bare,un,ba,r,q⟩:=h;let⟨hh,g,d,t,xI⟩:=s';obtain rfl:xI=s.os:=os;calc⟨v,H',I.call (h':=hh) (g':=g) (d':=d) (t':=t) (ch:=[]) un ba bare (λb z=>absurd z (by simp)),r,q⟩
end
def yr(sp:Sp)(gm:-V)(E:XK)(t:TA):TE:=fun σ H Q=>t σ H λvs H1=>sp (vs++gm) H1 Q E
def yt(C:O)(m:J)(sp:Sp)(gm:-V)(E:XK)(ta:TE)(t:TA):TE:=fun σ H Q=>ta σ H λx H1=>∃a dx fs,x=.ref a/\H1 a=U (.ins C dx fs)/\fs.lookup m=Z ∧
 t σ H1 λvs H2=>sp (x::(vs++gm)) H2 Q E
def Lm(C:O)(sp:Sp)(gm:-V)(E:XK)(t:TA):TE:=fun σ H Q=>t σ H λvs H1=>∀x dx,H1 x=Z->H1 dx=Z->dx≠x →
 sp (.ref x::(vs++gm)) (upd (upd H1 dx (.own x)) x (.ins C dx [])) (λv H2=>v=.non/\Q (.ref x) H2) E
def Binds(K:Ee)(fd:FuncData)(ps:-J)(ds:-L):Prop :=
 ∀(s:B)(us:-L),K.In s.heap->↑(us++ds)=↑ps->BindsTo s fd ⟨us,[]⟩ (ps.zip (us++ds))
theorem Binds.all{K:Ee}{fd:FuncData}{ps:-J}(h:∀us:-L,↑us=↑ps->bindArgs fd ⟨us,[]⟩=pure (ps.zip us)):Binds K fd ps []:=λs us _ hl=>by
 rw[mL] at hl ⊢;calc .of_eq (h us hl)
def pK(CX:kg)(X:Cx)(E:XK):Prop:=∀(pins:aM)(σ:St)(H:Hp)(s:B)(e:L)(s':B),Inv X pins σ H s->CX X.stack H s E e s'->X.xe e s'
section
variable{X:Cx}{CX:kg}{k:Nat}{f C:O}{fd:FuncData}{ps:-J}{sp:Sp}{gm:-V}{ds:-L}{E:XK}{x m:J}{p pos apos:y}{e o:M}{es:-M}{ta:TE}{t:TA}
theorem yu{pins:aM}{σ:St}{H:Hp}{s:B}{Q:VK}{us:-L}{vs:-V}(F:bY X.prog X.w X.K X.mg X.base CX k f fd ps sp)(hr:bc k X.A)(hb:Binds X.K fd ps ds)(hd:Vals gm ds)(hx:pK CX X E)
  (I:Inv X pins σ H s) (r:Vals vs us) (h:sp (vs++gm) H Q E):G (S X.prog X.w) X.A (call (.ref f) us) (EP X pins σ Q) X.xe s:=by
 let r2:Vals (vs++gm) (us++ds):=r.append hd;let hl:↑(us++ds)=↑ps:=by rw[<-↑r2];exact F.len _ _ _ _ h
 refine q0d (Yd (F.run X.A X.stack s H ⟨us,[]⟩ (us++ds) (vs++gm) Q E hr I.pJ (hb s us I.fu hl) r2 h) λr s' hq=>?_)
 cases r with
 |error e=>exact hx pins σ H s e s' I hq
 |ok fl =>
  cases fl with
  |ret u=>exact I.after hq
  |next=>exact VW hq
  |brk=>exact VW hq
  |cont=>calc VW hq
theorem vq(F:bY X.prog X.w X.K X.mg X.base CX k f fd ps sp)(hr:bc k X.A)(hg:Gl X x)(hm:X.mg x=U (.ref f))(hk:V6 X.K (.ref f)=θ)(hb:Binds X.K fd ps ds)(hd:Vals gm ds)(hx:pK CX X E)
  (ha:JA X (e::es) t) (dX:b8 x:=by decide) (he:cF X e es:=by rfl) (dg:cR X pos es:=by rfl) :
  JE X (.Call (.Name x p) (e::es) [] pos) (yr sp gm E t):=by
 calc⟨?_⟩;ext pins s σ H Q I h;calc Xy (xS I hg hm ?_ dX);calc YO (h₀:=X.base) I.ok.mod.jE hk (bE (ha pos pins s σ H _ I h) λus s1 ⟨vs,H1,I1,r,q⟩=>⟨I1.fu,?_⟩) he dg;calc yu F hr hb hd hx I1 r q
theorem Ln {pl:Sem Bool} (he:JE X o ta) (c:ib X.K C) (hm:Meth X.K C m f) (F:bY X.prog X.w X.K X.mg X.base CX k f fd ps sp) (hr:bc k X.A) (hb:Binds X.K fd ps ds) (hd:Vals gm ds) (hx:pK CX X E) (ha:JA X (e :: es) t)
  (iP:cF X e es:=by rfl) (dg:cR X pos es:=by rfl)
  (ht:eval (.Call (.Attribute o m apos) (e :: es) [] pos) X.env=(do
   let ov <- eval o X.env
   standAt apos.atName
   let (f,first) <- holding [ov] (getMethod ov m pl)
   callWith pos f first (backTo pos (starEach (e :: es) X.env)) (backToKw pos (keywordEach [] X.env))):=by rfl) :
  JE X (.Call (.Attribute o m apos) (e :: es) [] pos) (yt C m sp gm E ta t):=by
 calc⟨?_⟩;ext pins s σ H Q I h;calc ZH (pl:=pl) (bE (he pins s σ H _ I h) λu s1 ⟨x,H1,I1,rx,a,dx,fs,ex,ea,l,q⟩ => ?_) ht;subst ex;obtain rfl:u=Vx a:=rx;calc DM I1 ea c hm l ?_;calc YO (first:=[.ref a]) (h₀ := X.base) I.ok.mod.jE hm.kp (bE (ha pos pins s1 σ H1 _ I1 q) λus s2 ⟨vs,H2,I2,r,q2⟩=>⟨I2.fu,?_⟩) iP dg;calc yu (us := .ref a :: us) (vs := .ref a :: vs) F hr hb hd hx I2 (.cons Y r) q2
theorem Lo {pl:Sem Bool} (he:JE X o ta) (c:ib X.K C) (hm:Meth X.K C m f) (F:bY X.prog X.w X.K X.mg X.base CX k f fd ps sp) (hr:bc k X.A) (hb:Binds X.K fd ps ds) (hd:Vals gm ds) (hx:pK CX X E)
  (ht:eval (.Call (.Attribute o m apos) [] [] pos) X.env=(do
   let ov <- eval o X.env
   standAt apos.atName
   let (f,first) <- holding [ov] (getMethod ov m pl)
   callWith pos f first (backTo pos (starEach [] X.env)) (backToKw pos (keywordEach [] X.env))):=by rfl) :
  JE X (.Call (.Attribute o m apos) [] [] pos) (yt C m sp gm E ta sN):=by
 calc⟨?_⟩;ext pins s σ H Q I h;calc ZH (pl:=pl) (bE (he pins s σ H _ I h) λu s1 ⟨x,H1,I1,rx,a,dx,fs,ex,ea,l,q⟩ => ?_) ht;subst ex;obtain rfl:u=Vx a:=rx;calc DM I1 ea c hm l ?_;calc PySem.W.callWith_K0 (first:=[.ref a]) I1.fu hm.kp (yu (us:=[.ref a]) (vs:=[.ref a]) F hr hb hd hx I1 (.cons Y .nil) q)
structure Mk(K:Ee)(C f:O):Prop where
 makes:q1i K C=θ
 init:V0 K (.ref C) "__init__" = U (U (.ref f))
 fn:Zm K (.ref f)=θ
 kp:V6 K (.ref C)=θ
theorem Lp{pins:aM}{σ:St}{H:Hp}{s:B}{Q:VK}{us:-L}{vs:-V}(M:Mk X.K C f)(F:bY X.prog X.w X.K X.mg X.base CX k f fd ps sp)(hr:bc (k+1) X.A)(hb:Binds X.K fd ps ds)(hd:Vals gm ds)
  (hx:pK CX X E) (I:Inv X pins σ H s) (r:Vals vs us)
  (h:∀x dx,H x=Z->H dx=Z->dx≠x->sp (.ref x::(vs++gm)) (upd (upd H dx (.own x)) x (.ins C dx [])) (λv H2=>v=.non/\Q (.ref x) H2) E) :
  G (S X.prog X.w) X.A (call (.ref C) us) (EP X pins σ Q) X.xe s:=by
 let hq:=h (⇑s+1) ⇑s (I.ba.fresh (Yy _)) (I.ba.fresh (yT _)) (U8 (Xn _));let I2:=Inv.made (C:=C) I;let r2:Vals (V.ref (⇑s+1)::(vs++gm)) (Vx (⇑s+1)::(us++ds)):=.cons Y (r.append hd)
 let hl:↑(Vx (⇑s+1)::us++ds)=↑ps:=by
  let e:=↑r2;rw[F.len _ _ _ _ hq] at e;exact e.symm
 refine q0d (Lb (f:=f) I.fu M.makes M.init (Zn.mp M.fn) (Yd (F.run _ X.stack _ _ ⟨Vx (⇑s+1)::us,[]⟩ (Vx (⇑s+1)::(us++ds)) _ _ E (hr.make C us [])
  (I2.pJ.make C us []) (hb _ (Vx (⇑s+1)::us) I2.fu hl) r2 hq) λr s' oE=>?_))
 cases r with
 |error e=>exact hx pins σ _ _ e s' I2 oE
 |ok fl =>
  cases fl with
  |ret u =>
   let⟨v,H',I3,rv,ev,q3⟩:=I2.after oE;subst ev;exact⟨rv,⟨V.ref (⇑s+1),H',I3,Y,q3⟩⟩
  |next=>exact VW oE
  |brk=>exact VW oE
  |cont=>calc VW oE
theorem Lq(M:Mk X.K C f)(F:bY X.prog X.w X.K X.mg X.base CX k f fd ps sp)(hr:bc (k+1) X.A)(hg:Gl X x)(hm:X.mg x=U (.ref C))(hb:Binds X.K fd ps ds)(hd:Vals gm ds)(hx:pK CX X E)
  (ha:JA X (e::es) t) (dX:b8 x:=by decide) (he:cF X e es:=by rfl) (dg:cR X pos es:=by rfl) :
  JE X (.Call (.Name x p) (e::es) [] pos) (Lm C sp gm E t):=by
 calc⟨?_⟩;ext pins s σ H Q I h;calc Xy (xS I hg hm ?_ dX);calc YO (h₀:=X.base) I.ok.mod.jE M.kp (bE (ha pos pins s σ H _ I h) λus s1 ⟨vs,H1,I1,r,q⟩=>⟨I1.fu,?_⟩) he dg;calc Lp M F hr hb hd hx I1 r q
end
section
variable{X:Cx}{CX:kg}{k:Nat}{f C:O}{fd:FuncData}{ps ks:-J}{sp:Sp}{E:XK}{x m:J}{p pos apos iT:y}{e o:M}{es:-M}{Ui:-Keyword}{te ta:TE}{t tk:TA}{nm:Option J}
variable{g:-L->-L->-L}{gV:-V->-V->-V}
end
structure mF(N P:-J)(sc:o):Prop where
 kind:sc.kind=.function
 co:sc.isCoroutine=ι
 gen:sc.isGenerator=ι
 nd:N.Nodup
 pre:N.take ↑P=P
 par:∀x∈P,sc.names.lookup x=U .local\/sc.names.lookup x=U .cell
 pL:∀y∈sc.names,y.2≠.free
theorem DO{kindOf:J->Option NameKind}{x:J}:∀{binds:-(J×L)}{m:J->Option L},(∀v,(x,v)∉binds)->bindL kindOf binds m x=m x
 |[],_,_=>Y
 |(n,v)::r,m,h=>by
  unfold bindL;rw[DO λw hw=>h w (Us _ hw)];split
  .let:x≠n:=by ext rfl;exact h v Vc
   simp[this]
  .rfl
theorem DP{kindOf:J->Option NameKind}{x:J}:∀{binds:-(J×L)}{m:J->Option L},(∀v,(x,v)∉binds)->bindC kindOf binds m x=m x
 |[],_,_=>Y
 |(n,v)::r,m,h=>by
  unfold bindC;rw[DP λw hw=>h w (Us _ hw)];split
  .rfl
  .let:x≠n:=by ext rfl;exact h v Vc
   simp[this]
theorem DQ{kindOf:J->Option NameKind}{x:J}{v:L}:∀{P:-J}{vs:-L}{i:Nat}{m:J->Option L},P.Nodup->P[i]?=U x->vs[i]?=U v->kindOf x=U .local →
  bindL kindOf (P.zip vs) m x=U v
 |[],_,_,_,_,h,_,_=>by simp at h
 |_::_,[],_,_,_,_,h,_=>by simp at h
 |p::P,w::vs,0,m,nd,h1,h2,hk=>by
  simp at h1 h2;subst h1;subst h2;show bindL kindOf ((p,w)::P.zip vs) m p=_;unfold bindL;rw[DO λv hv=>(XA.mp nd).1 (Zy hv).1,U_ hk];simp
 |p::P,w::vs,i+1,m,nd,h1,h2,hk=>by
  show bindL kindOf ((p,w)::P.zip vs) m x=_;unfold bindL;calc DQ (i:=i) (XA.mp nd).2 h1⁻¹ h2⁻¹ hk
theorem DR{kindOf:J->Option NameKind}{x:J}{v:L}:∀{P:-J}{vs:-L}{i:Nat}{m:J->Option L},P.Nodup->P[i]?=U x->vs[i]?=U v->kindOf x≠U .local →
  bindC kindOf (P.zip vs) m x=U v
 |[],_,_,_,_,h,_,_=>by simp at h
 |_::_,[],_,_,_,_,h,_=>by simp at h
 |p::P,w::vs,0,m,nd,h1,h2,hk=>by
  simp at h1 h2;subst h1;subst h2;show bindC kindOf ((p,w)::P.zip vs) m p=_;unfold bindC;rw[DP λv hv=>(XA.mp nd).1 (Zy hv).1,U9 hk];simp
 |p::P,w::vs,i+1,m,nd,h1,h2,hk=>by
  show bindC kindOf ((p,w)::P.zip vs) m x=_;unfold bindC;calc DR (i:=i) (XA.mp nd).2 h1⁻¹ h2⁻¹ hk
noncomputable def start(N:-J)(vs:-V):St:=vs.map U++Ul (↑N-↑vs) Z
noncomputable def eT(CX:kg)(P:l)(w:g)(K:Ee)(mg:J->Option L)(base:I)(N:-J)(qual:J)(scope:o)(f:O)(cd:L)(A:q)(outer:-t)(s:B)(H:Hp)(E:XK):Cx where
 prog:=P
 w:=w
 K:=K
 mg:=mg
 base:=base
 A:=A.deeper (envOfC qual scope ⇑s f cd)
 N:=N
 s₀:=s
 H₀:=H
 env:=envOfC qual scope ⇑s f cd
 outer:=outer
 stack:=envOfC qual scope ⇑s f cd::outer
 ex:=[]
 calm:=true
 fn:=λ_=>θ
 pn:=[]
 xe:=λe s'=>G (S P w) (A.deeper (envOfC qual scope ⇑s f cd)) (leaving (envOfC qual scope ⇑s f cd) e) (λ_ iU=>CX outer H s E e iU) (λe' iU=>CX outer H s E e' iU) s'
theorem DT{sc:o}{n:Nat}{x:J}(h:sc.names.lookup x=U .cell):∃c,(cellsFrom n sc.names []).lookup x=U c:=by
 let q:=Ye sc.names n [] (.inl h);calc Y7.mp q
theorem Lr{CX:kg}{P:l}{w:g}{K:Ee}{mg:J->Option L}{base:I}{N ps:-J}{qual:J}{scope:o}{f:O}{cd:L}{A:Β}{outer:-t}{s s1:B}{H:Hp}{E:XK}{us:-L}{vs:-V}
  (S:mF N ps scope) (hd:A.handled=Z) (e0:iS P w K mg base A outer s H) (hl:↑vs=↑ps) (r:Vals vs us)
  (x:InCallC s ⇑s (bindL (envOfC qual scope ⇑s f cd).kindOf (ps.zip us) λ_=>Z) (cellsFrom (⇑s+1) scope.names []) (bindC (envOfC qual scope ⇑s f cd).kindOf (ps.zip us) λ_=>Z) s1) :
  Inv (eT CX P w K mg base N qual scope f cd A outer s H E) [] (start N vs) H s1:=by
 let dg:↑ps<=↑N:=by let:=congrArg List.length S.pre;rw[Vn] at this;symm
 let⟨h1,tk,rfl,hk⟩:=x.done;let mG:∀b:O,b∉(eT CX P w K mg base N qual scope f cd A outer s H E).ex:=λb z=>absurd (show b∈([]:-O) from z) (by simp)
 refine⟨⟨e0.mod,S.kind,Y,Y,yT _,λy z c h1 h2=>?_,λy hy=>?_,λy c _ h=>?_,λ_=>hd,ZQ e0.frames,.inr ⟨Y,Y⟩,λb z=>absurd z (mG b),e0.bs,e0.mq,λb _ _=>mG b,λb z=>absurd z (mG b),e0.eR,e0.ou⟩,
  Y,e0.bare,Un.kept hk,⟨_,x.toInCall.ns,λi y v h1 h2 h3=>?_⟩,λy c h=>⟨_,x.cell y c h⟩,e0.ba.fresh (yT _),λy c h=>?_,λp hp=>absurd (show p∈([]:aM) from hp) (by simp),e0.ba.kept hk,?_⟩
 .exact name_of_addr x.apart (VV h1) (VV h2)
 .let hy:scope.names.lookup y=U .cell\/scope.names.lookup y=U .free:=hy
  rcases hy with hy|hy
  .exact DT hy
  .exact absurd Y (S.pL _ (VV hy))
 .exact WB (x.above y c (VV h))
 .let hi:i<↑vs:=by
   unfold start at h2
   by_cases hi:i<↑vs
   .exact hi
   .rw[Mf hi⁻¹] at h2
    rw[X8] at h2;split at h2<;>cases h2
  let ha:vs[i]?=U v:=by
   unfold start at h2;rw[Mc hi⁻¹,My] at h2
   cases e:vs[i]? with
   |none=>rw[e] at h2;cases h2
   |some a=>rw[e] at h2;cases h2;rfl
  let⟨u,hu,rv⟩:=r.get ha
  let hp:ps[i]?=U y:=by
   rw[<-S.pre,Vr ⋯];exact h1
  let DU:ps.Nodup:=by rw[<-S.pre];exact S.nd.sublist (List.take_sublist _ _)
  calc⟨u,rv,?_⟩;rcases S.par y (Vw hp) with k|k
  .exact .inl ⟨k,DQ DU hp hu k⟩
  .let⟨c,e⟩:=DT (n:=⇑s+1) k
   calc .inr ⟨.inl k,c,e,?_⟩;let q:=x.cell y c e;rw[DR DU hp hu (by show scope.names.lookup y≠_;rw[k];decide)] at q;exact q
 .exact e0.ba.fresh (WB (x.above y c (VV h)))
 .unfold start
  show _=↑N;rw[Eh,pV,Yo];symm
theorem DW{CX:kg}{P:l}{w:g}{K:Ee}{mg:π->Option L}{base:Α}{k:Nat}{f:O}{name qual:π}{params:Arguments}{body:-R}{scope:Δ}{dV kV doc pm bq ct oc:L}{an od:Option O}
  {mH:Array (Option L)} {N ps:-π} {sp:Sp} (lk:K.lookup f=U ⟨oc,od,.func (VE name qual params body scope dV kV doc pm an bq ct),mH⟩) (gi:XM K bq qual=θ) (S:mF N ps scope)
  (len:∀vs H Q E,sp vs H Q E->↑vs=↑ps)
  (eA:∀(A:Β)(outer:-Ζ)(s:B)(H:Hp)(vs:-V)(Q:VK)(E:XK),bc k (A.deeper (envOfC qual scope ⇑s f bq))->sp vs H Q E →
   ∃t,dU (eT CX P w K mg base N qual scope f bq A outer s H E) body t/\t {nx:=λ_ H'=>Q .non H',rt:=Q} (start N vs) H) :
  bY P w K mg base CX (k+1) f (VE name qual params body scope dV kV doc pm an bq ct) ps sp:=by
 calc⟨len,λA outer s H args us vs Q E hr e0 hb r oF=>?_⟩;let hl:=len _ _ _ _ oF;let KX:K.In s.heap:=e0.mod.jE.keeps λb o e=>(e0.bs b o e).1;let lim:s.heap.NoLimit:=e0.mod.nolimit.keeps λb o e=>(e0.bs b o e).1
 let sO:∀y∈ps.zip us,scope.names.lookup y.1=U .local\/(scope.names.lookup y.1=U .cell/\((cellsFrom (⇑s+1) scope.names []).lookup y.1).isSome=θ):=λ⟨n,v⟩ hy↦by
  rcases S.par n (Zy hy).1 with q|q
  .exact .inl q
  .exact .inr ⟨q,Ye _ _ _ (.inl q)⟩
 calc codeAny_call_function hr.depth (KX _ _ lk) Y S.co S.gen Y (PySem.W.codeRec_of KX gi) (hb _ _ _ _ ?_);calc wpAny_newFunctionEnv_cells S.kind sO λenv he s1 x=>?_;subst he;calc⟨lim.keeps x.toInCall.keep,codeAny_func ?_⟩;let⟨t,ht,hq⟩:=eA A outer s H vs Q E (hr.deeper _) oF;let I:Inv (eT CX P w K mg base N qual scope f bq A outer s H E) [] (start N vs) H s1:=Lr S hr.hd e0 hl r x;refine WV (ht [] s1 (start N vs) H _ I hq) (λfl s' hs=>?_) λe s' hs=>hs
 let fin:∀{σ':St}{H':Hp}{v:V}{u:L},Inv (eT CX P w K mg base N qual scope f bq A outer s H E) [] σ' H' s'->RelV v u->Q v H'->CE outer P w H s Q u s' :=
  λ{σ' H' v u} J rv q=>⟨v,H',J.os,J.bare,J.base,J.ba,rv,q⟩
 cases fl with
 |ret u =>
  let⟨v,σ',H',J,rv,q⟩:=hs;exact fin J rv q
 |next =>
  let⟨σ',H',J,q⟩:=hs;exact fin (v:=V.non) (u:=VM) J Y q
 |brk =>
  let⟨_,_,_,q⟩:=hs;exact VW q
 |cont =>
  let⟨_,_,_,q⟩:=hs;calc VW q
section
variable{X:Cx}{x:J}{p pos:y}{e:M}{es:-M}{t:TA}{id T:String}{r:-V->Hp->VK->Prop}
def vt(r:-V->Hp->VK->Prop)(t:TA):TE:=fun σ H Q=>t σ H λvs H1=>r vs H1 Q
theorem vv(hc:hU X (.builtin id) r)(hg:Gl X x)(hm:X.mg x=Z)(hv:bootBuiltins x=U (.builtin id))(ha:JA X (e::es) t)(hn:x≠"__name__" := by decide)(dX:b8 x:=by decide)
  (he:cF X e es:=by rfl) (dg:cR X pos es:=by rfl):JE X (.Call (.Name x p) (e::es) [] pos) (vt r t):=by
 calc⟨?_⟩;ext pins s σ H Q I h;calc Xy (mx I hg hm hv ?_ hn dX);calc PyProof.Rows.callWith_builtin1 (bE (ha pos pins s σ H _ I h) λus s1 ⟨vs,H1,I1,r1,q1⟩↦hc pins s1 σ H1 vs us Q I1 r1 q1) he dg
theorem pM(hc:hU X (.type T) r)(hg:Gl X x)(hm:X.mg x=Z)(hv:bootBuiltins x=U (.type T))(ha:JA X (e::es) t)(hn:x≠"__name__" := by decide)(dX:b8 x:=by decide)
  (he:cF X e es:=by rfl) (dg:cR X pos es:=by rfl):JE X (.Call (.Name x p) (e::es) [] pos) (vt r t):=by
 calc⟨?_⟩;ext pins s σ H Q I h;calc Xy (mx I hg hm hv ?_ hn dX);calc VY (bE (ha pos pins s σ H _ I h) λus s1 ⟨vs,H1,I1,r1,q1⟩↦hc pins s1 σ H1 vs us Q I1 r1 q1) he dg
end
end L2
namespace HT
open PySem PyProof.Rows
noncomputable def lexLt:-Int->-Int->Bool
 |[],[]=>ι
 |[],_::_=>θ
 |_::_,[]=>ι
 |x::xs,y::ys=>if x=y then lexLt xs ys else E (x<y)
theorem qS(x y:Int)(xs ys:-Int):lexLt (x::xs) (y::ys)=if x=y then lexLt xs ys else E (x<y):=rfl
theorem Ls:lexLt [] []=ι:=rfl
theorem Lu(y:Int)(ys:-Int):lexLt [] (y::ys)=θ:=rfl
theorem Lw(x:Int)(xs:-Int):lexLt (x::xs) []=ι:=rfl
theorem Lx(A:q)(s:B)(a:Int)(t:Tok)(c:Int)(u:Tok):∃e,Zl A s (.int a t) (.int c u) e/\(e=θ↔a=c) :=
 ⟨(a==c),q0h a t c u,by simp⟩
theorem Ly(A:q)(s:B)(a:Int)(t:Tok)(c:Int)(u:Tok)(prog:l)(w:g)(E:bw)(Q:bw)(h:Q (.bool (μ (a<c))) s):
  G (S prog w) A (richCompare .Lt (.int a t) (.int c u)) Q E s :=
 (ZV h:G (S prog w) A (compareOp .Lt (.int a t) (.int c u)) Q E s)
section
open PySem.SeqAt
open PySem.AutoSeq1 (wpAny_loadPart')
open PySem.MeetsSeq PySem.MeetsSeq2 PySem.MeetsSeq3
theorem Lz(l b:O)(items cL:Array L)(n n2:Nat)(dd oG:Option O)(sl oH:Array (Option L))(ns ms:-Int)(hi:IntsAre items.toList ns)(hj:IntsAre cL.toList ms):
  Meets (Builtin.«tuple.__lt__» ⟨[.ref l,.ref b],[]⟩)
   (λ_ R s=>s.heap.get? l=U {cls:=.type "tuple",dict:=dd,data:=.seq items n,slots:=sl}/\s.heap.get? b=U {cls:=.type "tuple",dict:=oG,data:=.seq cL n2,slots:=oH} ∧
    R (.ok (.ret (.bool (lexLt ns ms)))) s) :=
 .of_wp λprog w A R s h=>by
  let⟨hp,g,d,tk,os⟩:=s;let⟨hl,hb,h⟩:=h;let f2:=AutoSeq1.sub_tuple_tuple;let z1:items.size=↑ns:=by rw[<-↑hi];simp
  let z2:cL.size=↑ms:=by rw[<-↑hj];simp
  wp_walk using Wg hl,Wg hb,q0V _ (λrest b s'=>b.1=Z/\s'=⟨hp,g,d,tk,os⟩/\∃(vs ws:-L)(bU qT:-Int),rest=vs.zip ws ∧
   IntsAre vs bU/\IntsAre ws qT/\↑bU+cL.size=↑qT+items.size/\R (.ok (.ret (.bool (lexLt bU qT)))) ⟨hp,g,d,tk,os⟩) _
  case turn =>
   ext⟨y,x⟩ rest b s' ⟨hb',rfl,vs,ws,bU,qT,hz,yw,vw,hlen,hR⟩
   cases yw with
   |nil=>rw[Y3] at hz;cases hz
   |cons a t yx =>
    cases vw with
    |nil=>rw[q0i] at hz;cases hz
    |cons c u yy =>
     rw[YQ] at hz;injection hz with LA sP;injection LA with hy hx;subst hy hx;rw[qS] at hR;erw[Eg] at hlen;let⟨e,he,sQ⟩:=Lx A.in1 ⟨hp,g,d,tk,os⟩ a t c u;refine s_ (he prog w _ _ ?_)
     cases e with
     |true =>
      rw[U_ (sQ.mp Y)] at hR
      wp_walk
      exact⟨Y,Y,_,_,_,_,sP,yx,yy,⋯,hR⟩
     |false =>
      rw[U9 (λq=>absurd (sQ.mpr q) Vl)] at hR;let LB:=Ly A.in1 ⟨hp,g,d,tk,os⟩ a t c u prog w
      wp_walk using LB
      exact⟨_,Y,by simpa using hR⟩
  case fin =>
   ext⟨b1,b2⟩ s' ⟨hb',rfl,vs,ws,bU,qT,hz,yw,vw,hlen,hR⟩;simp only at hb';subst hb'
   let hv:lexLt bU qT=E (items.size<cL.size):=by
    cases yw with
    |nil =>
     cases vw with
     |nil =>
      erw[W9] at hlen;rw[Ls];exact(Vd ⋯).symm
     |cons c u hw =>
      erw[W9,Eg] at hlen;rw[Lu];exact(Vk ⋯).symm
    |cons a t hv =>
     cases vw with
     |nil =>
      erw[W9,Eg] at hlen;rw[Lw];exact(Vd ⋯).symm
     |cons c u hw =>
      rw[YQ] at hz;cases hz
   rw[hv] at hR
   wp_walk
   exact⟨_,Y,by simpa[Builtin.Tuple.tupleCompareSizes] using hR⟩
  case h =>
   calc⟨Y,Y,items.toList,cL.toList,ns,ms,Y,hi,hj,⋯,h⟩
end
section
variable{prog:l}{w:g}{A:q}{E:bw}{s:B}
theorem LC{l b:O}{items cL:Array L}{ns ms:-Int}{Q:bw}(hl:IsTup s.heap l items)(hb:IsTup s.heap b cL)(hi:IntsAre items.toList ns)(hj:IntsAre cL.toList ms)
  (hu:A.units<cLine) (h:Q (.bool (lexLt ns ms)) s):G (S prog w) A (compareOp .Lt (.ref l) (.ref b)) Q E s:=by
 let⟨⟨cls,dd,data,sl⟩,ho,hc,n,hd⟩:=id hl;let⟨⟨sR,oG,data2,oH⟩,iF,kh,n2,hd2⟩:=id hb;simp only at hc hd kh hd2;subst hc hd kh hd2
 exact richCompare_meets_room (op:=.Lt) ⟨_,ho,Y⟩ ⟨_,iF,Y⟩ PySem.F.slot_tuple_lt PySem.F.entry_tuple_lt (PySem.F.args_tuple_lt_2 _ _) (Lz l b items cL n n2 dd oG sl oH ns ms hi hj)
  ⟨ho,iF,show XJ (lexLt ns ms)≠Value.notImplemented/\Q (.bool (lexLt ns ms)) s from⟨(λx=>nomatch x),h⟩⟩ hu
theorem LF{t b:O}{vs ws:-L}{Q:bw}(ht:IsTup s.heap t vs.toArray)(hb:IsTup s.heap b ws.toArray)(hv:vs≠[])
  (h1:ws=[]->Q (.ref t) s) (h2:ws≠[]->Q (.ref ⇑s) {s with heap:=s.heap.push {cls:=.type "tuple",data:=.seq (vs++ws).toArray}})
  (hsz:↑vs+↑ws<=sizeLine):G (S prog w) A (binaryOp .Add (.ref t) (.ref b)) Q E s:=by
 let⟨⟨cls,dd,data,sl⟩,ho,hc,n,hd⟩:=id ht;let⟨⟨sR,oG,data2,oH⟩,iF,kh,n2,hd2⟩:=id hb;simp only at hc hd kh hd2;subst hc hd kh hd2;let e:vs.toArray++ws.toArray=(vs++ws).toArray:=by simp
 by_cases hw:ws=[]
 .exact q0C ⟨_,ho,Y⟩ ⟨_,iF,Y⟩ Zc Z5 Yf X9 (XU _ _)
   (tuple_addW1 t b vs.toArray ws.toArray n n2 dd oG sl oH hv⁻¹ (by simp[hw])) ⟨ho,iF,h1 hw⟩
 .refine q0C ⟨_,ho,Y⟩ ⟨_,iF,Y⟩ Zc Z5 Yf X9 (XU _ _)
   (tuple_addW2 t b vs.toArray ws.toArray n n2 dd oG sl oH hv⁻¹ hw⁻¹ (by rw[Ef,Ef];calc hsz)) ⟨ho,iF,?_⟩
  rw[e];calc h2 hw
noncomputable def bI(n d:Nat):Option Int->Nat
 |none=>d
 |some v=>if v<0 then(v+(n:Int)).toNat else min v.toNat n
theorem yz(n d:Nat):bI n d Z=d:=rfl
theorem sS(n d k:Nat):bI n d (U (k:Int))=min k n:=by
 show(if(k:Int)<0 then((k:Int)+(n:Int)).toNat else min (k:Int).toNat n)=min k n;rw[U9 ⋯,Vt]
theorem LG(n d:Nat)(hd:d<=n)(o:Option Int):bI n d o<=n:=by
 cases o with
 |none=>exact hd
 |some v =>
  show(if v<0 then(v+(n:Int)).toNat else min v.toNat n)<=n
  by_cases hv:v<0
  .rw[U_ hv];symm
  .rw[U9 hv];calc Nat.min_le_right _ _
theorem DX(v:Int)(n d:Nat):(if v<0 then max (v+(n:Int)) 0 else min v (n:Int))=((bI n d (U v):Nat):Int):=by
 show(if v<0 then max (v+(n:Int)) 0 else min v (n:Int))=(((if v<0 then(v+(n:Int)).toNat else min v.toNat n):Nat):Int)
 by_cases hv:v<0
 .erw[U_ hv];symm
 .erw[U9 hv];symm
theorem LH(lo hi:Option Int)(n:Nat):XQ lo hi 1 (n:Int)=(((bI n 0 lo:Nat):Int),((bI n n hi:Nat):Int)):=by
 let h1:¬ ((1:Int)<0):=by symm
 unfold XQ;erw[h1,Xo];refine Prod.ext ?_ ?_
 .cases lo with
  |none=>rfl
  |some v=>exact DX v n 0
 .cases hi with
  |none=>rfl
  |some v=>calc DX v n n
theorem LI(i j:Nat):W7 (i:Int) (j:Int) 1=j-i:=by
 unfold W7;let h1:(1:Int)>0:=by symm
 erw[h1,Yu,Int.ediv_one];split<;>symm
theorem DY{v:L}{o:Option Int}{Q:Option Int->B->Prop}(p:IsPart v o)(h:Q o s):G (S prog w) A (Builtin.Slice.slicePartIndex v) Q E s:=by
 cases p with
 |none=>exact slicePart_none h
 |int i t=>calc slicePart_int h
theorem DZ{sl:O}{vl vu:L}{lo hi:Option Int}{n:Nat}{Q:Int×Int×Nat->B->Prop}(hs:s.heap.IsSliceOf sl vl vu .none)(pl:IsPart vl lo)(pu:IsPart vu hi)
  (h:Q (((bI n 0 lo:Nat):Int),1,bI n n hi-bI n 0 lo) s):G (S prog w) A (YR (.ref sl) (pure (n:Int))) Q E s:=by
 let⟨os,pN,qU,sT⟩:=id hs;unfold YR Builtin.Slice.sliceFields;calc s_ (s_ (Wd pN sT (x:=vl) Y (s_ (Wd pN sT (x:=vu) Y (s_ (Wd pN sT (x:=.none) Y (Md ?_)))))));calc s_ (slicePart_none ?_);show G _ _ (if((1:Int)==0)=θ then _ else _) _ _ s;rw[U9 (by decide)];refine s_ (DY pl (s_ (DY pu (s_ (Md ?_)))))
 show G _ _ (match XQ lo hi 1 (n:Int) with|(lo,hi)=>pure (lo,(1:Int),W7 lo hi 1)) _ _ s;rw[LH lo hi n];show G _ _ (pure (((bI n 0 lo:Nat):Int),(1:Int),W7 ((bI n 0 lo:Nat):Int) ((bI n n hi:Nat):Int) 1)) _ _ s;rw[LI];calc Md h
theorem LL(xs:Array L)(i k:Nat):((Vp k).filterMap λ(m:Nat)=>xs[((i:Int)+(m:Int)*1).toNat]?).toArray=((xs.toList.drop i).take k).toArray:=by
 let e:(λ(m:Nat)=>xs[((i:Int)+(m:Int)*1).toNat]?)=λm=>xs[i+m]?:=by
  funext m;let:((i:Int)+(m:Int)*1).toNat=i+m:=by symm
  rw[this]
 rw[e];let:=pick_run xs i k;rw[List.filterMap_map] at this;let e2:((λx=>xs[x]?)∘λx=>i+x)=λm=>xs[i+m]?:=Y;rw[e2] at this;rw[this]
theorem LM{t sl:O}{items:Array L}{vl vu:L}{lo hi:Option Int}{Q:bw}(ht:IsTup s.heap t items)(hs:s.heap.IsSliceOf sl vl vu .none)(pl:IsPart vl lo)(pu:IsPart vu hi)
  (hw:¬ (bI items.size 0 lo=0/\bI items.size items.size hi=items.size))
  (h:Q (.ref ⇑s) {s with heap:=s.heap.push {cls:=.type "tuple",data:=.seq ((items.toList.drop (bI items.size 0 lo)).take (bI items.size items.size hi-bI items.size 0 lo)).toArray}})
  (hsz:items.size<=sizeLine):G (S prog w) A (getItem (.ref t) (.ref sl)) Q E s:=by
 let jh:sizeOk (.seq ((items.toList.drop (bI items.size 0 lo)).take (bI items.size items.size hi-bI items.size 0 lo)).toArray):=by
  show((items.toList.drop (bI items.size 0 lo)).take (bI items.size items.size hi-bI items.size 0 lo)).toArray.size<=sizeLine;rw[Ef,Vn,Ww,Vb];symm
 let hj:bI items.size items.size hi<=items.size:=LG _ _ (yT _) hi;let⟨os,pN,qU,sT⟩:=id hs;let yA:s.TypeIs (.ref sl) "slice" := ⟨os,pN,qU⟩;unfold getItem
 try with_reducible refine VH ?_
 first|refine s_ (Md ?_)|skip
 refine s_ (q0D ht.typeIs (by decide) ?_)
 refine s_ (Wm (name:=Xb "__getitem__") ht.typeIs VD
  (Xr VD ht.typeIs ZW ?_ (q0j _ _)))
 show G _ _ (YS (.ref t) >>= _) _ _ s;calc s_ (tupleItemsOf_ ht ?_);calc s_ (q0E yA ?_);rw[U_ (by decide)];refine s_ (DZ hs pl pu ?_)
 let LN:¬ ((((bI items.size 0 lo:Nat):Int)==0&&(1:Int)==1&&(bI items.size items.size hi-bI items.size 0 lo)==items.size)=θ):=by
  ext q;rw[Vy,Vy] at q;let q1:((bI items.size 0 lo:Nat):Int)=0:=Wr q.1.1;let q2:bI items.size items.size hi-bI items.size 0 lo=items.size:=Wr q.2;exact hw ⟨⋯,⋯⟩
 show G _ _ (if(((bI items.size 0 lo:Nat):Int)==0&&(1:Int)==1&&(bI items.size items.size hi-bI items.size 0 lo)==items.size)=θ then _ else _) _ _ s;rw[U9 LN,LL]
 first
  |exact s_ (m:=Xh _) (WK (Md ⟨_,Y,Md h⟩) jh)
  |exact s_ (m:=Xh _) (WK (s_ (Md (Md ⟨_,Y,Md h⟩))) jh)
  |exact s_ (s_ (m:=Xh _) (WK (Md (Md ⟨_,Y,Md h⟩)) jh))
  |calc s_ (s_ (m:=Xh _) (WK (Md ⟨_,Y,Md h⟩) jh))
end
end HT
namespace L2
open PySem PySem.Spec PyProof.Rows
abbrev TO:=St->Hp->(Option Int->Hp->Prop)->Prop
def PO(X:Cx)(e:Option M)(t:TO):Prop :=
 ∀(pins:aM)(s:B)(σ:St)(H:Hp)(Q:Option Int->Hp->Prop),Inv X pins σ H s->t σ H Q →
  G (S X.prog X.w) X.A (evalPart e X.env) (λu s'=>∃o H',Inv X pins σ H' s'/\IsPart u o/\Q o H') X.xe s
def LO:TO:=λ_ H Q=>Q Z H
def LP(t:TE):TO:=fun σ H Q=>t σ H λx H1=>∃i,x=.int i/\Q (U i) H1
theorem intsAre_of{ns:-Int}:∀{us:-L},Vals (ns.map V.int) us->IntsAre us ns:=by
 induction ns with
 |nil=>ext us r;rw[Xc] at r;cases r;exact .nil
 |cons n ns ih =>
  ext us r;rw[Ve] at r
  cases r with
  |cons r1 r2 =>
   let⟨t,e⟩:=r1;subst e;calc .cons n t (ih r2)
section
variable{X:Cx}{e:M}{te:TE}{lo hi:Option M}{tl th:TO}{pos p2:y}
theorem D0:PO X Z LO:=by
 ext pins s σ H Q I h;rw[q1S];calc Md ⟨Z,H,I,.none,h⟩
theorem vx(h:JE X e te):PO X (U e) (LP te):=by
 ext pins s σ H Q I hw;rw[evalPart_some];calc bE (h pins s σ H _ I hw) λu s1 ⟨x,H1,I1,r1,q1⟩=>?_;let⟨i,rfl,q⟩:=q1;let⟨t,rfl⟩:=r1;calc⟨U i,H1,I1,.int i t,q⟩
def oJ(X:Cx)(r:V->Option Int->Option Int->Hp->VK->Prop):Prop :=
 ∀(pins:aM)(s:B)(σ:St)(H:Hp)(x:V)(v vl vu:L)(lo hi:Option Int)(sl:O)(Q:VK),Inv X pins σ H s->RelV x v->s.heap.IsSliceOf sl vl vu .none->IsPart vl lo->IsPart vu hi->r x lo hi H Q →
  ∃T id,typeLookup (.type T) "__getitem__" = pure (U (.builtin id))/\s.TypeIs v T/\G (S X.prog X.w) X.A (getItem v (.ref sl)) (EP X pins σ Q) X.xe s
theorem oJ.or{r r':V->Option Int->Option Int->Hp->VK->Prop}(h:oJ X r)(h':oJ X r'):oJ X (λx lo hi H Q=>r x lo hi H Q\/r' x lo hi H Q):=by
 ext pins s σ H x v vl vu lo hi sl Q I rx hs pl pu q;rcases q with q|q
 .exact h pins s σ H x v vl vu lo hi sl Q I rx hs pl pu q
 .calc h' pins s σ H x v vl vu lo hi sl Q I rx hs pl pu q
def LQ(r:V->Option Int->Option Int->Hp->VK->Prop)(te:TE)(tl th:TO):TE:=fun σ H Q=>te σ H λx H1=>tl σ H1 λl H2=>th σ H2 λu H3=>r x l u H3 Q
theorem yB{r:V->Option Int->Option Int->Hp->VK->Prop}(hr:oJ X r)(he:JE X e te)(hl:PO X lo tl)(hu:PO X hi th):JE X (.Subscript e (.Slice lo hi Z p2) pos) (LQ r te tl th):=by
 calc⟨?_⟩;ext pins s σ H Q I h;calc Subscript_ (bE (he pins s σ H _ I h) λv s1 ⟨x,H1,I1,r1,q1⟩=>?_);calc wpAny_Slice (bE (hl pins s1 σ H1 _ I1 q1) λvl s2 ⟨l,H2,I2,pl,q2⟩=>bE (hu pins s2 σ H2 _ I2 q2) λvu s3 ⟨u,H3,I3,pu,q3⟩=>?_);rw[q1S];calc Md ?_;let I4:Inv X pins σ H3 {s3 with heap:=s3.heap.push {cls:=.type "slice",data:=.fields #[vl,vu,.none]}}:=I3.kept (t':=s3.toks) λb ob q=>vB _ q;let⟨T,id,hT,ht,hg⟩:=hr pins {s3 with heap:=s3.heap.push {cls:=.type "slice",data:=.fields #[vl,vu,.none]}} σ H3 x v vl vu l u ⇑s3 Q I4 r1 (Heap.IsSliceOf.new ..) pl pu q3
 show G (S X.prog X.w) X.A (subscriptTail e (.Slice lo hi Z p2) v (.ref ⇑s3)) (EP X pins σ Q) X.xe {s3 with heap:=s3.heap.push {cls:=.type "slice",data:=.fields #[vl,vu,.none]}};calc tail_any (ops:=[.ref ⇑s3,v]) ht hT hg (by with_unfolding_all rfl)
noncomputable def dz(xs:-V)(lo hi:Option Int):-V:=(xs.drop (HT.bI ↑xs 0 lo)).take (HT.bI ↑xs ↑xs hi-HT.bI ↑xs 0 lo)
theorem D1(xs:-V)(lo hi:Option Int):↑(dz xs lo hi)<=↑xs:=by
 unfold dz;rw[Vn,Ww];symm
def yC(K:Ee):V->Option Int->Option Int->Hp->VK->Prop:=λx lo hi H Q=>∃a xs,x=.ref a/\b9 K H a xs ∧
 ¬ (HT.bI ↑xs 0 lo=0/\HT.bI ↑xs ↑xs hi=↑xs)/\∀p,H p=Z->Q (.ref p) (upd H p (.tup (dz xs lo hi)))
theorem LR:oJ X (yC X.K):=by
 ext pins s σ H x v vl vu lo hi sl Q I rx hs pl pu h;let⟨a,xs,rfl,hx,hw,q⟩:=h;cases rx
 let⟨au,r,ht,hz⟩:=I.tuple hx;let hlen:au.toArray.size=↑xs:=by rw[Ef];exact r.length.symm
 calc⟨"tuple",_,VD.lookup,ht.typeIs,?_⟩;calc HT.LM ht hs pl pu (by rw[hlen];calc hw) ?_ (by rw[hlen];calc hz);rw[hlen];calc⟨.ref ⇑s,_,I.laid (t':=s.toks) (o:=.tup (dz xs lo hi)) (λb ob q=>vB _ q) (yT _) ?_,Y,q _ (I.ba.fresh (yT _))⟩;calc⟨Vo (D1 xs lo hi) hz,_,(r.drop (HT.bI ↑xs 0 lo)).take (HT.bI ↑xs ↑xs hi-HT.bI ↑xs 0 lo),IsTup.new _ _⟩
def yD(K:Ee):R2:=λx y H Q=>∃a b ns ms,x=.ref a/\y=.ref b/\b9 K H a (ns.map V.int)/\b9 K H b (ms.map V.int)/\Q (.bl (HT.lexLt ns ms)) H
theorem LU(hu:X.A.units<cLine):d8 X (compareOp .Lt) (yD X.K):=by
 ext pins s σ H x y v u Q I rx ry h;let⟨a,b,ns,ms,rfl,rfl,ha,hb,q⟩:=h;cases rx
 cases ry
 let⟨au,r1,p1,_⟩:=I.tuple ha;let⟨bH,r2,p2,_⟩:=I.tuple hb;let i1:IntsAre au.toArray.toList ns:=intsAre_of r1;let i2:IntsAre bH.toArray.toList ms:=intsAre_of r2;calc HT.LC p1 p2 i1 i2 hu ⟨.bl (HT.lexLt ns ms),H,I,Y,q⟩
def LV(K:Ee):R2:=λx y H Q=>∃a b xs ys,x=.ref a/\y=.ref b/\b9 K H a xs/\b9 K H b ys/\xs≠[]/\↑xs+↑ys<=sizeLine ∧
 (ys=[]->Q (.ref a) H)/\(ys≠[]->∀p,H p=Z->Q (.ref p) (upd H p (.tup (xs++ys))))
theorem Vals.fI{xs:-V}{us:-L}(r:Vals xs us):us=[]↔xs=[]:=by
 cases r with
 |nil=>simp
 |cons _ _=>simp
theorem LW:d8 X (binaryOp .Add) (LV X.K):=by
 ext pins s σ H x y v u Q I rx ry h;let⟨a,b,xs,ys,rfl,rfl,ha,hb,hx,hz,q1,q2⟩:=h;cases rx
 cases ry
 let⟨au,r1,p1,_⟩:=I.tuple ha;let⟨bH,r2,p2,_⟩:=I.tuple hb;calc HT.LF p1 p2 (λz=>hx (r1.fI.mp z)) (λz=>⟨.ref a,H,I,Y,q1 (r2.fI.mp z)⟩) (λz=>?_) (by rw[<-↑r1,<-↑r2];calc hz);calc⟨.ref ⇑s,_,I.laid (t':=s.toks) (o:=.tup (xs++ys)) (λb ob q=>vB _ q) (yT _) ?_,Y,q2 (λw=>z (r2.fI.mpr w)) _ (I.ba.fresh (yT _))⟩;calc⟨by rw[Eh];calc hz,_,r1.append r2,IsTup.new _ _⟩
end
noncomputable def eK(n:Nat)(i:Int):Option Nat:=if 0<=i then(if i<n then U i.toNat else Z) else if -(n:Int)<=i then U (i+n).toNat else Z
noncomputable def dY{α:Type}(xs:-α)(i:Int):Option α:=(eK ↑xs i).bind λj=>xs[j]?
theorem D2{n:Nat}{i:Int}{j:Nat}(h:eK n i=U j):seqIndex? i n=U j/\j<n /\ -(n:Int)<=i/\i<n:=by
 unfold eK at h
 by_cases h0:0<=i
 .rw[U_ h0] at h
  by_cases h1:i<n
  .rw[U_ h1] at h
   let e:i.toNat=j:=Vm h;exact⟨by rw[q1c h0 h1,e],⋯,⋯,h1⟩
  .rw[U9 h1] at h;cases h
 .rw[U9 h0] at h
  by_cases h1 : -(n:Int)<=i
  .rw[U_ h1] at h
   let e:(i+n).toNat=j:=Vm h;exact⟨by rw[q0F ⋯ h1,e],⋯,h1,⋯⟩
  .rw[U9 h1] at h;cases h
theorem yE{α:Type}{xs:-α}{i:Int}{v:α}(h:dY xs i=U v):∃j,seqIndex? i ↑xs=U j/\xs[j]?=U v/\j<↑xs /\ -(↑xs:Int)<=i/\i<↑xs:=by
 unfold dY at h
 cases e:eK ↑xs i with
 |none=>rw[e] at h;cases h
 |some j =>
  rw[e] at h;let⟨h1,h2,h3,h4⟩:=D2 e;calc⟨j,h1,h,h2,h3,h4⟩
theorem ji{α:Type}{xs:-α}{j:Nat}{v:α}(h:xs[j]?=U v):dY xs (j:Int)=U v:=by
 let hj:j<↑xs:=(qW.mp h).1
 let e:eK ↑xs (j:Int)=U j:=by
  unfold eK;rw[U_ ⋯,U_ ⋯];simp
 unfold dY;rw[e];calc h
def yF(b:M):Prop:=∀o i,subscripted b ι o i=operate [o,i] (getItem o i)
def lQ(X:Cx)(r:R2):Prop :=
 ∀(value slice:M)(pins:aM)(s:B)(σ:St)(H:Hp)(x y:V)(v u:L)(Q:VK),Inv X pins σ H s->RelV x v->RelV y u->r x y H Q →
  subscripted slice ι v u=operate [v,u] (getItem v u)->G (S X.prog X.w) X.A (subscriptTail value slice v u) (EP X pins σ Q) X.xe s
def yG(X:Cx)(id:String)(r:V->-V->Hp->VK->Prop):Prop :=
 ∀(pins:aM)(s:B)(σ:St)(H:Hp)(x:V)(xs:-V)(v:L)(us:-L)(Q:VK),Inv X pins σ H s->RelV x v->Vals xs us->r x xs H Q →
  G (S X.prog X.w) X.A (call (.builtin id) (v::us)) (EP X pins σ Q) X.xe s
section
variable{X:Cx}{a b:M}{ta tb:TE}{pos:y}
theorem lQ.or{r r':R2}(h:lQ X r)(h':lQ X r'):lQ X (λx y H Q=>r x y H Q\/r' x y H Q):=by
 ext value slice pins s σ H x y v u Q I rx ry q hs;rcases q with q|q
 .exact h value slice pins s σ H x y v u Q I rx ry q hs
 .calc h' value slice pins s σ H x y v u Q I rx ry q hs
theorem yH{r:R2}(hr:lQ X r)(ha:JE X a ta)(hb:JE X b tb)(hs:yF b):JE X (.Subscript a b pos) (sI r ta tb):=by
 calc⟨?_⟩;ext pins s σ H Q I h;calc Subscript_ (pH ha hb I h λv u s2 x y H2 I2 rx ry q=>hr a b pins s2 σ H2 x y v u Q I2 rx ry q (hs _ _))
def sU(K:Ee):R2:=λx y H Q=>∃p xs i v,x=.ref p/\y=.int i/\bP K H p xs/\dY xs i=U v/\Q v H
def sV(K:Ee):R2:=λx y H Q=>∃p xs i v,x=.ref p/\y=.int i/\b9 K H p xs/\dY xs i=U v/\Q v H
def sW:R2:=λx y H Q=>∃z i c,x=.str z/\y=.int i/\↑z<=sizeLine/\dY z.cps.toList i=U c/\Q (.str ⟨#[c]⟩) H
theorem gM:lQ X (sU X.K):=by
 ext value slice pins s σ H x y v u Q I rx ry h hs;let⟨p,xs,i,z,rfl,rfl,hq,he,q⟩:=h;cases rx
 let⟨t,rfl⟩:=ry;let⟨au,r,pl,hz⟩:=I.list hq;let⟨j,h1,h2,h3,h4,h5⟩:=yE he;let⟨w,ew,sX⟩:=r.get h2;let hl:=↑r;let hn:=qQ;let fin:EP X pins σ Q w s:=⟨z,H,I,sX,q⟩
 by_cases h0:0<=i
 .let hj:i.toNat=j:=by
   rw[q1c h0 h5] at h1;exact Vm h1
  exact item_listR pl.isList h0 ⋯ (by rw[hj];simpa using ew) fin hs
 .let hj:(i+(au.toArray.size:Int)).toNat=j:=by
   rw[q0F ⋯ h4] at h1;rw[Ef,<-hl];exact Vm h1
  exact Zp (x:=w) pl.isList.typeIs q0G.lookup
   (wpAny_getItem_list_neg (Q:=λr s'=>r=w/\EP X pins σ Q r s') pl.isList ⋯ (by rw[Ef]<;>symm) ⋯ (by rw[hj];simpa using ew) ⟨Y,fin⟩) hs
theorem kJ:lQ X (sV X.K):=by
 ext value slice pins s σ H x y v u Q I rx ry h hs;let⟨p,xs,i,z,rfl,rfl,hq,he,q⟩:=h;cases rx
 let⟨t,rfl⟩:=ry;let⟨au,r,pl,hz⟩:=I.tuple hq;let⟨j,h1,h2,h3,h4,h5⟩:=yE he;let⟨w,ew,sX⟩:=r.get h2;let hl:=↑r;let hn:=qQ;let fin:EP X pins σ Q w s:=⟨z,H,I,sX,q⟩
 exact Zp (x:=w) pl.typeIs slot_tuple_getitem.lookup
  (getItem_tuple (j:=j) (Q:=λr s'=>r=w/\EP X pins σ Q r s') pl ⋯ ⋯ (by rw[Ef,<-hl];calc h1) ew⁻¹ ⟨Y,fin⟩) hs
theorem D3:lQ X sW:=by
 ext value slice pins s σ H x y v u Q I rx ry h hs;let⟨z,i,c,rfl,rfl,hz,he,q⟩:=h;let⟨t,rfl⟩:=rx;let⟨t',rfl⟩:=ry;let⟨j,h1,h2,h3,h4,h5⟩:=yE he;let hl:↑z.cps.toList=↑z:=by simp[Str.length]
 rw[hl] at h1 h4 h5;let hn:=qQ
 exact tail_any (typeIs_str s z t) slot_str_getitem.lookup (getItem_str (c:=c) (by
  let e1:E (i < -(2 ^ 63:Int))=ι:=Vd ⋯;let e2:E (i ≥ 2 ^ 63)=ι:=Vd ⋯
  rw[e1,e2,q1T]) (by rw[h1];simpa using h2) ⟨.str ⟨#[c]⟩,H,I.tok _,⟨_,Y⟩,q⟩) hs
def LX(K:Ee):R2:=λx y H Q=>sU K x y H Q\/sV K x y H Q\/sW x y H Q
theorem LY:lQ X (LX X.K):=gM.or (kJ.or D3)
theorem LZ(au:-L)(n j:Nat)(u:L):VF (·.setIfInBounds j u) {cls:=.type "list",data:=.seq au.toArray n}={cls:=.type "list",data:=.seq (au.set j u).toArray n}:=by
 simp[VF]
theorem Inv.lst{pins:aM}{σ:St}{H:Hp}{s:B}{p:O}{xs:-V}(I:Inv X pins σ H s)(h:H p=U (.lst xs)):
  ∃(au:-L)(n:Nat),Vals xs au/\s.heap.get? p=U {cls:=.type "list",data:=.seq au.toArray n}/\↑xs<=sizeLine:=by
 let⟨z,au,n,r,e⟩:=I.ba p _ h;calc⟨au,n,r,e,z⟩
theorem Inv.pP{pins:aM}{σ:St}{H:Hp}{s:B}{p:O}{xs ys:-V}{au its':-L}{n n':Nat}{f:Q->Q}(I:Inv X pins σ H s)(h:H p=U (.lst xs))
  (ho:s.heap.get? p=U {cls:=.type "list",data:=.seq au.toArray n}) (hf:f {cls:=.type "list",data:=.seq au.toArray n}={cls:=.type "list",data:=.seq its'.toArray n'}) (r:Vals ys its') (hz:↑ys<=sizeLine) (t:Nat) :
  Inv X pins σ (upd H p (.lst ys)) {s with heap:=s.heap.update p f,toks:=t}:=by
 let e:(s.heap.update p f).get? p=U {cls:=.type "list",data:=.seq its'.toArray n'}:=by
  rw[XE f ho (by rw[hf]<;>rfl),hf]
 calc I.write (x:=p) (e:=p) (by rw[h];trivial) (.inl Y) (λb u hb q=>(Zq _ _ (Xx hb)).trans q) ⟨_,e⟩ ?_;calc⟨hz,its',n',r,e⟩
def D4:V->V->V->Hp->(Hp->Prop)->Prop:=λo i v H Q=>∃p xs k j,o=.ref p/\i=.int k/\H p=U (.lst xs)/\eK ↑xs k=U j/\Q (upd H p (.lst (xs.set j v)))
theorem set_list:sD X D4:=by
 ext pins s σ H o i v ov iv u Q I ro ri rv h;let⟨p,xs,k,j,rfl,rfl,hp,hj,q⟩:=h;cases ro
 let⟨t,rfl⟩:=ri;let⟨au,n,r,ho,hz⟩:=I.lst hp;let⟨h1,h2,h3,h4⟩:=D2 hj;let hl:=↑r;let hn:=qQ
 let I':Inv X pins σ (upd H p (.lst (xs.set j v))) {s with heap:=s.heap.update p (VF (·.setIfInBounds j u))} :=
  I.pP hp ho (LZ au n j u) (r.set rv j) (by rw[VS];calc hz) s.toks
 by_cases h0:0<=k
 .let hk:k.toNat=j:=by
   rw[q1c h0 h4] at h1;exact Vm h1
  exact PySem.W.ki_setAt ho h0 ⋯ (by rw[Ef,<-hl];calc h4) (by rw[hk];calc⟨_,I',q⟩)
 .let hk:(k+(au.toArray.size:Int)).toNat=j:=by
   rw[q0F ⋯ h3] at h1;rw[Ef,<-hl];exact Vm h1
  calc PySem.W.ki_setBack ho ⋯ (by rw[Ef,<-hl];calc h3) ⋯ (by rw[hk];calc⟨_,I',q⟩)
theorem L0(lo hi:Option Int)(n:Nat):(sliceBounds lo hi Z n).1=((HT.bI n 0 lo:Nat):Int)/\(sliceBounds lo hi Z n).2.1=((HT.bI n n hi:Nat):Int)/\(sliceBounds lo hi Z n).2.2=1:=by
 refine⟨?_,?_,Y⟩
 .cases lo with
  |none=>simp[sliceBounds,HT.bI]
  |some i =>
   erw[sliceBounds,HT.bI,Za,show(1:Int)>0 by decide,Yu]
   by_cases h:i<0
   .erw[h,Yu]<;>symm
   .erw[h,Xo]<;>symm
 .cases hi with
  |none=>simp[sliceBounds,HT.bI]
  |some i =>
   erw[sliceBounds,HT.bI,Za,show(1:Int)>0 by decide,Yu]
   by_cases h:i<0
   .erw[h,Yu]<;>symm
   .erw[h,Xo]<;>symm
theorem L1(au:-L)(lo hi:Option Int):slicePick au.toArray lo hi Z=((au.drop (HT.bI ↑au 0 lo)).take (HT.bI ↑au ↑au hi-HT.bI ↑au 0 lo)).toArray:=by
 let⟨h1,h2,h3⟩:=L0 lo hi au.toArray.size;unfold slicePick;rw[h1,h2,h3];erw[sliceRange_one,pick_run,Ef]<;>rfl
def yI(K:Ee):V->Option Int->Option Int->Hp->VK->Prop:=λx lo hi H Q=>∃a xs,x=.ref a/\bP K H a xs/\∀p,H p=Z->Q (.ref p) (upd H p (.lst (dz xs lo hi)))
theorem gN:oJ X (yI X.K):=by
 ext pins s σ H x v vl vu lo hi sl Q I rx hs pl pu h;let⟨a,xs,rfl,hx,q⟩:=h;cases rx
 let⟨au,r,ht,hz⟩:=I.list hx;let hlen:=↑r;calc⟨"list",_,q0G.lookup,ht.isList.typeIs,?_⟩;calc wpAny_getItem_list_slice ht.isList hs pl pu .none (by simp) ?_ (by rw[Ef]<;>symm);rw[L1,<-hlen];calc⟨.ref ⇑s,_,I.laid (t':=s.toks) (o:=.lst (dz xs lo hi)) (λb ob q=>vB _ q) (yT _) ?_,Y,q _ (I.ba.fresh (yT _))⟩;calc⟨Vo (D1 xs lo hi) hz,_,0,(r.drop (HT.bI ↑xs 0 lo)).take (HT.bI ↑xs ↑xs hi-HT.bI ↑xs 0 lo),Uo _ Y⟩
theorem D5:hU X (.builtin "len") (λxs H Q=>∃p ys,xs=[.ref p]/\(bP X.K H p ys\/b9 X.K H p ys)/\Q (.int ↑ys) H):=by
 ext pins s σ H xs us Q I r h;let⟨p,ys,rfl,hq,q⟩:=h;let⟨u,rfl,rx⟩:=vals1 r;cases rx
 let hn:=qQ;rcases hq with hq|hq
 .let⟨au,r',pl,hz⟩:=I.list hq
  let hlen:=↑r';exact Calls.call_len_list pl.isList (by erw[Ef]<;>symm) ⟨.int ↑ys,H,I.tok _,⟨s.toks+1,by rw[Ef,hlen]⟩,q⟩
 .let⟨au,r',pl,hz⟩:=I.tuple hq
  let hlen:=↑r';calc len_tuple pl (by erw[Ef]<;>symm) ⟨.int ↑ys,H,I.tok _,⟨s.toks+1,by rw[Ef,hlen]⟩,q⟩
theorem L3:hU X (.builtin "len") (λxs H Q=>∃z,xs=[.str z]/\↑z<=sizeLine/\Q (.int ↑z) H):=by
 ext pins s σ H xs us Q I r h;let⟨z,rfl,hz,q⟩:=h;let⟨u,rfl,t,rfl⟩:=vals1 r;let hn:=qQ;calc len_str ⋯ ⟨.int ↑z,H,I.tok _,⟨_,Y⟩,q⟩
theorem yJ:hU X (.type "list") (λxs H Q=>∃p ys,xs=[.ref p]/\(bP X.K H p ys\/b9 X.K H p ys)/\∀l,H l=Z->Q (.ref l) (upd H l (.lst ys))):=by
 ext pins s σ H xs us Q I r h;let⟨p,ys,rfl,hq,q⟩:=h;let⟨u,rfl,rx⟩:=vals1 r;cases rx
 let fin:∀(au:-L),Vals ys au->↑ys<=sizeLine->∀(h':Α)(c':Nat),(∀b o',s.heap.get? b=U o'->h'.get? b=U o') →
   h'.get? ⇑s=U {cls:=.type "list",dict:=none,data:=.seq au.toArray c',slots := #[]}->EP X pins σ Q (.ref ⇑s) {s with heap:=h'}:=λau r' hz h' c' kp e =>
  ⟨.ref ⇑s,_,I.laid (t':=s.toks) kp (yT _) (show aZ X.prog X.w _ h' _ (.lst ys) from⟨hz,au,c',r',e⟩),Y,q _ (I.ba.fresh (yT _))⟩
 rcases hq with hq|hq
 .let⟨au,r',pl,hz⟩:=I.list hq
  let hlen:=↑r';let⟨o,ho,hc,n,hd⟩:=pl.isList;exact q1U p (.inl Y) ho hc hd (λh' c' kp e=>fin au r' hz h' c' kp e) (by erw[Ef]<;>symm)
 .let⟨au,r',pl,hz⟩:=I.tuple hq
  let hlen:=↑r';let⟨o,ho,hc,n,hd⟩:=pl;calc q1U p (.inr Y) ho hc hd (λh' c' kp e=>fin au r' hz h' c' kp e) (by erw[Ef]<;>symm)
theorem D6:hU X (.type "tuple") (λxs H Q=>∃p ys,xs=[.ref p]/\((bP X.K H p ys/\∀l,H l=Z->Q (.ref l) (upd H l (.tup ys)))\/(b9 X.K H p ys/\Q (.ref p) H))):=by
 ext pins s σ H xs us Q I r h;let⟨p,ys,rfl,h⟩:=h;let⟨u,rfl,rx⟩:=vals1 r;cases rx
 rcases h with⟨hq,q⟩|⟨hq,q⟩
 .let⟨au,r',pl,hz⟩:=I.list hq
  let hlen:=↑r';calc call_tuple_list pl.isList (λh' kp=>?_) (by erw[Ef]<;>symm);let I1:Inv X pins σ H {s with heap:=h'}:=I.kept (t':=s.toks) kp
  let I2:Inv X pins σ (upd H h'.objs.size (.tup ys)) {s with heap:=h'.push {cls:=.type "tuple",data:=.seq au.toArray}} :=
   I1.laid (t':=s.toks) (λb o e=>vB _ e) (yT _) (show aZ X.prog X.w _ _ _ (.tup ys) from⟨hz,au,r',IsTup.new _ _⟩)
  exact⟨.ref h'.objs.size,_,I2,Y,q _ (I1.ba.fresh (yT _))⟩
 .let⟨au,r',pl,hz⟩:=I.tuple hq
  calc call_tuple_same pl ⟨.ref p,H,I,Y,q⟩
def yK(K:Ee)(T:String)(x:V)(H:Hp):Prop:=match x with
 |.str _=>T="str"
 |.int _=>T="int"
 |.ref p=>(T="list" /\ ∃xs,bP K H p xs)\/(T="tuple" /\ ∃o,K.lookup p=U o/\o.cls=.type "tuple" /\ o.dict=Z) ∨
   (T="dict" /\ ((∃kvs,H p=U (.dK kvs))\/∃kvs,H p=U (.dT kvs)))\/(T="set" /\ ∃S n,H p=U (.set S n))
 |_=>False
theorem D7{pins:aM}{σ:St}{H:Hp}{s:B}{T:String}{x:V}{v:L}(I:Inv X pins σ H s)(r:RelV x v)(ty:yK X.K T x H):
  s.TypeIs v T/\∀a,v=.ref a->∃ob,s.heap.get? a=U ob/\ob.dict=Z:=by
 cases x with
 |str z =>
  let⟨t,rfl⟩:=r;cases(show T="str" from ty)
  exact⟨typeIs_str s z t,λ_ e=>nomatch e⟩
 |int i =>
  let⟨t,rfl⟩:=r;cases(show T="int" from ty)
  exact⟨q1y s i t,λ_ e=>nomatch e⟩
 |ref p =>
  cases r
  rcases ty with⟨rfl,xs,hq⟩|⟨rfl,o,hk,hc,hd⟩|⟨rfl,hk⟩|⟨rfl,S,n,hk⟩
  .let⟨au,_,pl,_⟩:=I.list hq
   calc⟨pl.isList.typeIs,λa e=>?_⟩;cases e
   let⟨o,n,e,c,hd,_⟩:=pl;exact⟨o,e,hd⟩
  .refine⟨⟨o,I.fu p o hk,hc⟩,λa e=>?_⟩
   cases e
   exact⟨o,I.fu _ o hk,hd⟩
  .let z:∃o,s.heap.get? p=U o/\o.ExactDict:=by
    rcases hk with⟨kvs,hk⟩|⟨kvs,hk⟩
    .let⟨_,_,_,_,o,_,_,e,ex,_⟩:=I.ba p _ hk
     exact⟨o,e,ex⟩
    .let⟨_,_,_,_,o,_,_,e,ex,_⟩:=I.ba p _ hk
     exact⟨o,e,ex⟩
   let⟨o,e,ex⟩:=z;calc⟨⟨o,e,ex.1⟩,λa e2=>?_⟩;cases e2
   exact⟨o,e,ex.2.1⟩
  .let⟨o,_,_,_,e,ex,_⟩:=I.ba p _ hk
   calc⟨⟨o,e,ex.1⟩,λa e2=>?_⟩;cases e2
   exact⟨o,e,ex.2.1⟩
 |_=>calc VW ty
def sY(K:Ee)(T:String)(r:V->-V->Hp->VK->Prop)(to:TE):TE:=fun σ H Q=>to σ H λx H1=>yK K T x H1/\r x [] H1 Q
def vy(K:Ee)(T:String)(r:V->-V->Hp->VK->Prop)(to:TE)(t:TA):TE:=fun σ H Q=>to σ H λx H1=>yK K T x H1/\t σ H1 λxs H2=>r x xs H2 Q
variable{o e:M}{es:-M}{to:TE}{t:TA}{name:J}{apos gq:y}{T id:String}{r:V->-V->Hp->VK->Prop}
theorem L4(pa:PlainAttrs T)(slot:Slot T name id)(yL:typeOf (.builtin id)=pure (.type "method_descriptor"))(hm:yG X id r)(ho:JE X o to)
  (kK:attributeBase o name X.env (eval o X.env)=eval o X.env:=by rfl) (kL:(apos.endLine==gq.line)=θ:=by rfl):JE X (.Call (.Attribute o name apos) [] [] gq) (sY X.K T r to):=by
 calc⟨?_⟩;ext pins s σ H Q I h;calc wpAny_Call_method0_late kK kL (bE (ho pins s σ H _ I h) λv s1 ⟨x,H1,I1,r1,ty,q1⟩=>?_);let⟨h1,h2⟩:=D7 I1 r1 ty;calc⟨T,id,pa,slot,yL,h1,h2,Zr Y (PySem.evalArgs_none (hm pins s1 σ H1 x [] v [] Q I1 r1 .nil q1))⟩
theorem sZ(pa:PlainAttrs T)(slot:Slot T name id)(yL:typeOf (.builtin id)=pure (.type "method_descriptor"))(hm:yG X id r)(ho:JE X o to)(ha:JA X (e::es) t)
  (kK:attributeBase o name X.env (eval o X.env)=eval o X.env:=by rfl)
  (yM:((backTo gq (starEach (e::es) X.env)).all (λx => !x.1)&&(backToKw gq (keywordEach [] X.env)).all (λx=>x.1.isSome)
   && E (↑(e::es)+↑([]:-Keyword)+(if([]:-Keyword).isEmpty then 0 else 1)<30))=θ:=by rfl)
  (kL:(apos.endLine==gq.line)=θ:=by rfl) (hs:cF X e es:=by rfl) (pQ:cR X gq es:=by rfl) :
  JE X (.Call (.Attribute o name apos) (e::es) [] gq) (vy X.K T r to t):=by
 calc⟨?_⟩;ext pins s σ H Q I h;calc wpAny_Call_method_late kK yM kL Y (bE (ho pins s σ H _ I h) λv s1 ⟨x,H1,I1,r1,ty,q1⟩=>?_);let⟨h1,h2⟩:=D7 I1 r1 ty;calc⟨T,id,pa,slot,yL,h1,h2,?_⟩;let hA:=ha gq pins s1 σ H1 _ I1 q1;rw[hs] at hA ⊢;calc Zr (by show(ι||(backTo gq (starEach es X.env)).any (·.1))=ι;rw[pQ]<;>rfl) (Calls.evalArgs_plain ?_);calc bE hA λus s2 ⟨vs,H2,I2,r2,q2⟩↦hm pins s2 σ H2 x vs v us Q I2 r1 r2 q2
end
def vz(X:Cx)(id:String)(r:V->-V->Hp->VK->Prop):Prop :=
 ∀(pins:aM)(s:B)(σ:St)(H:Hp)(x:V)(xs:-V)(v:L)(us:-L)(Q:VK),Inv X pins σ H s->RelV x v->Vals xs us->r x xs H Q →
  G (S X.prog X.w) X.A (call (.builtin id) (v::us)) (EP X pins σ Q) X.xe s
theorem Vals.one:∀{x:V}{us:-L},Vals [x] us->∃u,us=[u]/\RelV x u:=by
 ext x us h
 cases h with
 |cons r h=>cases h;calc⟨_,Y,r⟩
theorem Vals.two:∀{x y:V}{us:-L},Vals [x,y] us->∃u v,us=[u,v]/\RelV x u/\RelV y v:=by
 ext x y us h
 cases h with
 |cons r h =>
  let⟨v,rfl,q⟩:=Vals.one h;calc⟨_,_,Y,r,q⟩
theorem Vals.zero:∀{us:-L},Vals [] us->us=[]
 |_,.nil=>Y
theorem Vals.dropLast{xs:-V}{us:-L}(h:Vals xs us):Vals xs.dropLast us.dropLast:=by
 induction h with
 |nil=>exact .nil
 |cons r t ih =>
  cases t with
  |nil=>exact .nil
  |cons q t'=>calc .cons r ih
theorem Vals.eraseIdx:∀{xs:-V}{us:-L}(i:Nat),Vals xs us->Vals (xs.eraseIdx i) (us.eraseIdx i)
 |_,_,_,.nil=>.nil
 |_,_,0,.cons _ t=>t
 |_,_,i+1,.cons r t=>.cons r (Vals.eraseIdx i t)
theorem Vals.rep{xs:-V}{us:-L}(h:Vals xs us):∀k:Nat,Vals (Ul k xs).flatten (Ul k us).flatten
 |0=>.nil
 |k+1=>by
  rw[V_,V_,Xd,Xd];calc Vals.append h (Vals.rep h k)
theorem L5{α:Type}(l:-α):l.eraseIdx (↑l-1)=l.dropLast:=by
 induction l with
 |nil=>rfl
 |cons a r ih =>
  cases r with
  |nil=>rfl
  |cons b r =>
   let e:↑(a::b::r)-1=(↑(b::r)-1)+1:=by
    let h1:↑(a::b::r)=↑r+2:=Y;let h2:↑(b::r)=↑r+1:=Y;symm
   rw[e,List.eraseIdx_cons_succ,ih]
   all_goals rfl
theorem D8{α:Type}:∀(l:-α)(i:Nat),↑(l.eraseIdx i)<=↑l
 |[],_=>yT _
 |_::_,0=>Yy _
 |_::r,i+1=>q00 (D8 r i)
theorem foldl_rep(au:-L):∀(k:Nat)(acc:-L),
  q1z (λx1 x2=>x1++x2) acc.toArray (Ul k au.toArray)=(acc++(Ul k au).flatten).toArray
 |0,acc=>by simp
 |k+1,acc=>by
  let e:acc.toArray++au.toArray=(acc++au).toArray:=by simp
  let e2:(acc++au)++(Ul k au).flatten=acc++(Ul (k+1) au).flatten:=by
   rw[V_,Xd,Xe]
  rw[<-e2,<-foldl_rep au k (acc++au),<-e,V_,Zu]
section
variable{X:Cx}{pins:aM}{σ:St}{H:Hp}{s:B}{l b:O}{xs ys zs:-V}
theorem Inv.mI{au its':-L}{n:Nat}{f:Array L->Array L}{t':Nat}(I:Inv X pins σ H s)(hH:H l=U (.lst xs))
  (e:s.heap.get? l=U {cls:=.type "list",data:=.seq au.toArray n}) (hf:f au.toArray=its'.toArray) (hv:Vals ys its') (hz:↑ys<=sizeLine) :
  Inv X pins σ (upd H l (.lst ys)) {s with heap:=s.heap.update l (VF f),toks:=t'}:=by
 let q:=PySem.IsL.update e f;rw[hf] at q;calc I.write (x:=l) (e:=l) (by rw[hH];calc trivial) (.inl Y) (λb' u hb hu=>(Zq s.heap (VF f) (Xx hb)).trans hu) ⟨_,q⟩ ?_;calc⟨hz,its',_,hv,q⟩
theorem Inv.b_{au:-L}{t':Nat}(I:Inv X pins σ H s)(hv:Vals ys au)(hz:↑ys<=sizeLine):
  Inv X pins σ (upd H ⇑s (.lst ys)) {s with heap:=s.heap.push {cls:=.type "list",data:=.seq au.toArray},toks:=t'} :=
 I.laid (λ_ _ q=>vB _ q) (yT _) ⟨hz,au,0,hv,Uo _ Y⟩
theorem Inv.fresh(I:Inv X pins σ H s):H ⇑s=Z:=I.ba.fresh (yT _)
theorem Inv.ic(I:Inv X pins σ H s)(hH:H l=U (.lst xs)):↑xs<=sizeLine/\∃(au:-L)(n:Nat),Vals xs au/\↑xs=↑au/\s.heap.get? l=U {cls:=.type "list",data:=.seq au.toArray n}:=by
 let⟨z,au,n,r,e⟩:=I.ba l _ hH;calc⟨z,au,n,r,↑r,e⟩
theorem D9{n:Nat}(h:n<=sizeLine):Xi n=ι:=by
 unfold Xi;calc Vd ⋯
end
section
variable{X:Cx}
def D_:V->-V->Hp->VK->Prop:=λx vs H Q=>∃l xs y,x=.ref l/\vs=[y]/\H l=U (.lst xs)/\↑xs<sizeLine/\Q .non (upd H l (.lst (xs++[y])))
theorem vA:vz X "list.append" D_:=by
 ext pins s σ H x vs v us Q I rx rv h;let⟨l,xs,y,rfl,rfl,hH,hz,q⟩:=h;cases rx
 let⟨u,rfl,ru⟩:=rv.one;let⟨z,au,n,r,hl,e⟩:=I.ic hH;calc YT F.slot_list_append ⟨_,e,Y⟩ F.entry_list_append (F.args_list_append_2 _ _) (PySem.list_append l au.toArray n u (by rw[Ef];symm)) ⟨e,?_⟩;calc⟨.non,_,I.mI (its':=au++[u]) hH e (by simp) (r.append (.cons ru .nil)) ?_,Y,q⟩;rw[Eh,VA];symm
def Ea:V->-V->Hp->VK->Prop:=λx vs H Q=>∃l b xs zs,x=.ref l/\vs=[.ref b]/\H l=U (.lst xs)/\H b=U (.lst zs)/\↑xs+↑zs<=sizeLine/\Q .non (upd H l (.lst (xs++zs)))
theorem L6:vz X "list.extend" Ea:=by
 ext pins s σ H x vs v us Q I rx rv h;let⟨l,b,xs,zs,rfl,rfl,hH,hB,hz,q⟩:=h;cases rx
 let⟨u,rfl,ru⟩:=rv.one;cases ru
 let⟨z,au,n,r,hl,e⟩:=I.ic hH;let⟨z2,bH,n2,r2,qV,e2⟩:=I.ic hB;let hsz:au.toArray.size+bH.toArray.size<=sizeLine:=by rw[Ef,Ef];symm
 let kM:¬ (!au.toArray.isEmpty&&Xi (au.toArray.size+bH.toArray.size))=θ:=by
  rw[D9 hsz,q1A];exact Vl
 refine YT F.slot_list_extend ⟨_,e,Y⟩ F.entry_list_extend (F.args_list_extend_2 _ _)
  (AutoSeq1.list_extend_list_list_0 l au.toArray n b bH.toArray n2 kM (by rw[Ef];symm) ⋯) ⟨e,e2,?_⟩
 calc⟨.non,_,I.mI (its':=au++bH) hH e (by simp) (r.append r2) ?_,Y,q⟩;rw[Eh];symm
def tj:V->-V->Hp->VK->Prop:=λx vs H Q=>∃l xs y,x=.ref l/\vs=[]/\H l=U (.lst xs)/\xs[↑xs-1]?=U y/\Q y (upd H l (.lst xs.dropLast))
theorem L7:vz X "list.pop" tj:=by
 ext pins s σ H x vs v us Q I rx rv h;let⟨l,xs,y,rfl,rfl,hH,hy,q⟩:=h;cases rx
 let L8:=rv.zero;subst L8;let⟨z,au,n,r,hl,e⟩:=I.ic hH;let⟨u,hu,ru⟩:=r.get hy
 let oK:au.toArray[au.toArray.size-1]?=U u:=by
  show au.toArray[↑au-1]?=U u;rw[<-Vz,<-hl];exact hu
 calc YT ZJ ⟨_,e,Y⟩ q01 (F.args_list_pop_1 _) (MeetsSeq.list_pop_last l au.toArray n u oK (by rw[Ef];symm)) ⟨e,?_⟩;refine⟨y,_,I.mI (its':=au.dropLast) hH e ?_ r.dropLast ?_,ru,q⟩
 .show au.toArray.eraseIdxIfInBounds (au.toArray.size-1)=au.dropLast.toArray
  rw[Ef,Yn,L5]
 .rw[List.length_dropLast]
  symm
def Eb:V->-V->Hp->VK->Prop:=λx vs H Q=>∃l xs i k y,x=.ref l/\vs=[.int i]/\H l=U (.lst xs) /\ -(2 ^ 63)<=i/\i<2 ^ 63/\seqIndex? i ↑xs=U k/\xs[k]?=U y/\Q y (upd H l (.lst (xs.eraseIdx k)))
theorem L9:vz X "list.pop" Eb:=by
 ext pins s σ H x vs v us Q I rx rv h;let⟨l,xs,i,k,y,rfl,rfl,hH,h1,h2,hk,hy,q⟩:=h;cases rx
 let⟨u,rfl,ru⟩:=rv.one;let⟨t,rfl⟩:=ru;let⟨z,au,n,r,hl,e⟩:=I.ic hH;let⟨w,hw,sX⟩:=r.get hy
 refine YT ZJ ⟨_,e,Y⟩ q01 (F.args_list_pop_2 _ _)
  (MeetsSeq.list_pop_at l au.toArray n i t k w (q1B h1 h2) (by rw[Ef,<-hl];calc hk) (by rw[<-Vz];calc hw) (by rw[Ef];symm)) ⟨e,?_⟩
 refine⟨y,_,I.mI (its':=au.eraseIdx k) hH e ?_ (r.eraseIdx k) ?_,sX,q⟩
 .show au.toArray.eraseIdxIfInBounds k=(au.eraseIdx k).toArray
  rw[Yn]
 .let:=D8 xs k
  symm
def yN:R2:=λx y H Q=>∃l b xs zs,x=.ref l/\y=.ref b/\H l=U (.lst xs)/\H b=U (.lst zs)/\↑xs+↑zs<=sizeLine/\∀p,H p=Z->Q (.ref p) (upd H p (.lst (xs++zs)))
theorem Ec:d8 X (binaryOp .Add) yN:=by
 ext pins s σ H x y v u Q I rx ry h;let⟨l,b,xs,zs,rfl,rfl,hH,hB,hz,q⟩:=h;cases rx
 cases ry
 let⟨z,au,n,r,hl,e⟩:=I.ic hH;let⟨z2,bH,n2,r2,qV,e2⟩:=I.ic hB;calc PySem.P.add_list e e2 ?_ (by rw[Ef,Ef];symm);let ea:au.toArray++bH.toArray=(au++bH).toArray:=by simp
 rw[ea];calc⟨.ref _,_,I.b_ (t':=s.toks) (r.append r2) (by rw[Eh];symm),Y,q _ I.fresh⟩
def yO:R2:=λx y H Q=>∃l k xs,x=.ref l/\y=.int k/\H l=U (.lst xs) /\ -(2 ^ 63)<=k/\k<2 ^ 63/\↑xs*k.toNat<=sizeLine ∧
 ∀p,H p=Z->Q (.ref p) (upd H p (.lst (Ul k.toNat xs).flatten))
theorem len_rep{α:Type}(xs:-α)(k:Nat):(Ul k xs).flatten.length=k*↑xs:=by
 induction k with
 |zero=>simp
 |succ k ih=>rw[V_,Xd,Eh,ih,Nat.succ_mul,Nat.add_comm]
theorem L_:d8 X (binaryOp .Mult) yO:=by
 ext pins s σ H x y v u Q I rx ry h;let⟨l,k,xs,rfl,rfl,hH,h1,h2,hz,q⟩:=h;cases rx
 let⟨t,rfl⟩:=ry;let⟨z,au,n,r,hl,e⟩:=I.ic hH;let hlen:au.toArray.size*k.toNat<=sizeLine:=by rw[Ef,<-hl];exact hz
 let yP:¬ au.toArray.size*k.toNat>(2 ^ 63-1) / 8:=by
  let:(sizeLine:Nat)<=(2 ^ 63-1) / 8:=by decide
  symm
 let yQ:¬ (!Builtin.List.listFitsIndex k)=θ:=by
  rw[q1B h1 h2];exact Vl
 let kM:¬ Xi (au.toArray.size*k.toNat)=θ:=by
  rw[D9 hlen];exact Vl
 let yR:q1z (λx1 x2=>x1++x2) #[] (Ul (if au.toArray.isEmpty=θ then 0 else k.toNat) au.toArray)=(Ul k.toNat au).flatten.toArray:=by
  let f0:∀m:Nat,q1z (λx1 x2=>x1++x2) #[] (Ul m au.toArray)=(Ul m au).flatten.toArray:=λm=>by
   let:=foldl_rep au m [];rw[XB] at this;exact this
  rw[f0]
  cases au with
  |nil=>simp
  |cons a r'=>rw[U9 (by simp)]
 refine wpAny_binaryOp_repeat_ref (T:="list") (U:="int") (by decide) ⟨_,e,Y⟩ (λs'=>q1y s' k t) noFill_list_mul F.fills_int_mul q1k repeat_list F.slot_int_index.lookup
  (YT q1k (q1y s k t) F.entry_int_rmul (F.args_int_rmul_2 _ _) (int___rmul___int_list k t l au.toArray n)
   ⟨e,Y,⟨_,e,Y⟩,YT F.slot_list_mul ⟨_,e,Y⟩ F.entry_list_mul (F.args_list_mul_2 _ _) (AutoListH.list___mul___list_int_3 l au.toArray n k t yQ yP kM) ⟨e,?_⟩⟩)
 rw[yR];calc⟨.ref _,_,I.b_ (t':=s.toks) (r.rep k.toNat) (by rw[len_rep,q2d];calc hz),Y,q _ I.fresh⟩
end
section
variable{prog:l}{w:g}{A:q}{E:bw}{s:B}
end
section
variable{X:Cx}
end
end L2
namespace Att
open PySem PySem.W PySem.Calls PyProof.Rows
theorem fw{P:Params}{h:I}:∀(ns:-Int)(vs:-L),WellAll P h vs (ns.map WData.int)->IntsAre vs ns:=by
 ext ns
 induction ns with
 |nil =>
  ext vs w;rw[Xc] at w;cases w
  exact .nil
 |cons n ns ih =>
  ext vs w;rw[Ve] at w
  cases w with
  |cons a b =>
   cases a
   calc .cons _ _ (ih _ b)
theorem jH{l:OpenLaw}{n:Nat}(hn:l.most=U n){P:Params}{h:I}{args:-WData}{vals:-L}
  (mJ:l.row.toRowW.claim.pre args=θ) (yS:WellAll P h vals args) :
  ∃a vs ns,vals=[Vx a]/\args=[WData.list (ns.map WData.int)]/\h.get? a=U {cls:=.type "list",data:=.seq vs.toArray}/\IntsAre vs ns/\↑ns<=n:=by
 let Ma:WShape.hasAll [] args [.list .int]=θ:=(pre_splitW mJ).1;let hc:l.pre.holds [] {args:=args}=θ:=(pre_splitW mJ).2;let⟨d,r,rfl,h1,h2⟩:=hasAllW_cons Ma;obtain rfl:=hasAllW_nil h2;let⟨xs,rfl,h3⟩:=hasW_list h1;let⟨ns,rfl⟩:=items_int h3
 let hlen:↑ns<=n:=by
  unfold OpenLaw.pre at hc
  let h4:(WTm.not (.lt (.lit (.int (n:Int))) (.len (.arg 0)))).holds [] {args:=[.list (ns.map .int)]}=θ:=by
   let h4:=(holds_andW hc).1;rw[hn] at h4;exact h4
  let h5:=condW_of h4 (w_not (w_lt w_lit (w_len_list (w_arg Y))));rw[pV] at h5;calc Nat.le_of_not_lt λq=>?_;let q':(n:Int)<((↑ns:Nat):Int):=by symm
  first
   |(rw[Vk q'] at h5;calc absurd h5 (by decide))
   |(simp at h5;symm)
 cases yS with
 |cons w1 w2 =>
  cases w2
  cases w1 with
  |list ho mi=>calc⟨_,_,ns,Y,Y,ho,fw ns _ mi,hlen⟩
theorem jI(l:OpenLaw)(args:-WData):l.row.toRowW.claim.post args (.bool θ) args=θ :=
 postW_of (r:=l.row.toRowW) (X:=(θ==θ))
  (show WShape.has [] (.bool θ) .bool=θ by first|rfl|decide|simp[WShape.has,WShape.arms,WShape.armsAll])
  (show(WTm.eq .res (.lit (.bool θ))).value [] {args:=args,res:=U (.bool θ),after:=args}=U (.bool (θ==θ)) from w_eq_bool (w_res Y) w_lit) Y
theorem ie{l:OpenLaw}{n:Nat}{q:ψ}{loose:-J}{XP:(J->Option L)->I->Prop}{YP:g->I->Prop}{d:DefRec}
  (hn:l.most=U n) (pR:d.params.defaults=[])
  (call:∀(w:g)(s₀ s₁:B)(mg mb:J->Option L)(fa:O)(o:Q)(pm cd doc:L)(a:O)(vs:-L)(ns:-Int),
   Ground q loose [] XP w s₀ mg mb s₁.heap->YP w s₁.heap →
   s₁.heap.get? fa=U o->o.data=.func (docDef d.name d.params d.body d.scope pm cd doc)->s₁.heap.CodeRec cd d.name->mg d.name=U (.ref fa) →
   s₁.heap.get? a=U {cls:=.type "list",data:=.seq vs.toArray}->IntsAre vs ns->↑ns<=n->s₁.gens = #[] →
   codeAny (S l.prog w) callerA (.call (.ref fa) ⟨[.ref a],[]⟩) (λr s'=>r=.ok (.ret (.bool θ))/\OldK s₁.heap s'.heap/\s'.os=s₁.os/\AllBare s'.gens) s₁) :
  WalkO q loose XP YP l.row.toRowW d [] (λf vs=>q0k f vs):=by
 ext w s₀ s₁ mg mb G Y fa o pm cd doc dV kV ho hd gi hD mK hg args vals as mJ Mb Uj yS Uk;obtain rfl:dV=.none:=Dflts.none hD pR;obtain rfl:kV=.none:=Dflts.noKw hD;let⟨a,vs,ns,rfl,rfl,pS,hints,hlen⟩:=jH hn mJ yS;calc enter_call (Yd (call w s₀ s₁ mg mb fa o pm cd doc a vs ns G Y ho (fd_plain hd) gi mK pS hints hlen hg) λr s' hq=>?_);let⟨rfl,h2,h3,h4⟩:=hq;calc⟨.inl ⟨.bool θ,.bool θ,[],rfl,λ_=>rfl,.bool θ,jI l _,λ_=>⟨Yg,λ_ hm=>(nomatch hm)⟩⟩,h2,h3,h4⟩
section
variable{prog:l}{w:g}{A:q}{E:bw}{s:B}{K:Frag}
end
end Att
namespace L2
open PySem PySem.Spec PyProof.Rows
theorem Ed:∀{vs:-L}{ns:-Int},IntsAre vs ns->Vals (ns.map V.int) vs
 |_,_,.nil=>.nil
 |_,_,.cons n t h=>.cons ⟨t,Y⟩ (Ed h)
noncomputable def inClass(s:R)(j:Nat):R:=match s with
 |.ClassDef _ _ _ body _ _ _ _ _ _ _=>body.getD j (.Pass ⟨0,0,0,0⟩)
 |_=>.Pass ⟨0,0,0,0⟩
noncomputable def iV(s:R):Arguments:=match s with
 |.FunctionDef _ a _ _ _ _ _ _ _ _=>a
 |_=>{posonlyargs:=[],args:=[],vararg:=none,kwonlyargs:=[],kw_defaults:=[],kwarg:=none,defaults:=[]}
noncomputable def fN(s:R):-R:=match s with
 |.FunctionDef _ _ b _ _ _ _ _ _ _=>b
 |_=>[]
noncomputable def cH(s:R):o:=match s with
 |.FunctionDef _ _ _ _ _ _ sc _ _ _=>sc
 |_=>{kind:=.function,names:=[],isGenerator:=false,isCoroutine:=false}
abbrev eM:kg:=λ_ _ _ _ _ _=>False
abbrev E0:XK:=λ_ _ _=>False
theorem pW{X:Cx}:pK eM X E0:=λ_ _ _ _ _ _ _ h=>h.elim
structure f_(K:Ee)(x qual:J)(st:R)(f:O)(fd:FuncData):Prop where
 ex:∃(oc:L)(od:Option O)(kV doc pm:L)(an:Option O)(bq ct:L)(mH:Array (Option L)),
  fd=VE x qual (iV st) (fN st) (cH st) .none kV doc pm an bq ct/\K.lookup f=U ⟨oc,od,.func fd,mH⟩/\XM K bq qual=θ
 kp:V6 K (.ref f)=θ
section
variable{P:l}{w:g}{K:Ee}{mg:J->Option L}{base:I}
theorem f_.vC{x qual:J}{st:R}{f:O}{fd:FuncData}{N ps:-J}{k:Nat}{sp:Sp}(F:f_ K x qual st f fd)(S:mF N ps (cH st))(len:∀vs H Q E,sp vs H Q E->↑vs=↑ps)
  (eA:∀(bq:L)(A:Β)(outer:-Ζ)(s:B)(H:Hp)(vs:-V)(Q:VK)(E:XK),bc k (A.deeper (envOfC qual (cH st) ⇑s f bq))->sp vs H Q E →
   ∃t,dU (eT eM P w K mg base N qual (cH st) f bq A outer s H E).kc (fN st) t/\t {nx:=λ_ H'=>Q .non H',rt:=Q} (start N vs) H):bY P w K mg base eM (k+1) f fd ps sp:=by
 let⟨oc,od,kV,doc,pm,an,bq,ct,mH,rfl,lk,gi⟩:=F.ex;calc DW lk gi S len λA outer s H vs Q E hr oF=>?_;let⟨t,h,q⟩:=eA bq A outer s H vs Q E hr oF;calc⟨t,h.kc,q⟩
theorem f_.binds{x qual:J}{st:R}{f:O}{fd:FuncData}{ps:-J}(F:f_ K x qual st f fd)
  (h:∀(kV doc pm:L)(an:Option O)(bq ct:L)(us:-L),↑us=↑ps->bindArgs (VE x qual (iV st) (fN st) (cH st) .none kV doc pm an bq ct) ⟨us,[]⟩=pure (ps.zip us)):Binds K fd ps []:=by
 let⟨oc,od,kV,doc,pm,an,bq,ct,mH,rfl,lk,gi⟩:=F.ex;calc .all (h kV doc pm an bq ct)
theorem vD{x qual:J}{st:R}{f:O}{oc:L}{od an:Option O}{mH:Array (Option L)}{kV doc pm bq ct:L}(l:K.lookup f=U ⟨oc,od,.func (VE x qual (iV st) (fN st) (cH st) .none kV doc pm an bq ct),mH⟩)
  (c:XM K bq qual=θ) (k:V6 K (.ref f)=θ):f_ K x qual st f (VE x qual (iV st) (fN st) (cH st) .none kV doc pm an bq ct):=⟨⟨oc,od,kV,doc,pm,an,bq,ct,mH,Y,l,c⟩,k⟩
end
theorem pX{n:Nat}(h:n<=1000):n<sizeLine:=YL h (by decide)
section
variable{X:Cx}
theorem jv(i:Nat){x:J}{pos:y}(hN:X.N[i]?=U x:=by rfl)(hv:sv X.env.scope x:=by first|exact ZL Y|exact ZM (ZL Y)|calc ZM (ZM Y))(hd:b8 x:=by decide)
  (gi:(x==("__classdict__" : J))=ι:=by decide):JE X (.Name x pos) (sA i):=DA hN hv hd gi
end
def aN(H H':Hp):Prop:=∀b o,H b=U o->H' b=U o
theorem aN.trans{H H1 H2:Hp}(a:aN H H1)(b:aN H1 H2):aN H H2:=λc o h=>b c o (a c o h)
theorem aN.free{H H':Hp}(e:aN H H'){l:O}(h:H' l=q3b):H l=q3b:=by
 cases q:H l with
 |none=>rfl
 |some o =>
  rw[e l o q] at h;cases h
theorem aN.seq{K:Ee}{H H':Hp}{a:O}{xs:-V}(e:aN H H')(h:bP K H a xs):bP K H' a xs:=by
 rcases h with(h|⟨o,h⟩)|h
 .exact .inl (.inl (e _ _ h))
 .exact .inl (.inr ⟨o,e _ _ h⟩)
 .calc .inr h
theorem Mh{prog:l}{w:g}{A:q}{R:Result->B->Prop}{s:B}{elt target iter:M}{ifs:-M}{scope:o}{pos:y}{it acc:L}{env:t}(I:Nat->B->Prop)
  (turn:∀n s,I n s->G (S prog w) A (pyNext it) (λr s₁=>match r with
   |none=>R (.ok .next) s₁
   |some v=>G (S prog w) A (letOwnedTupleGo target it v) (λ_ s₂=>G (S prog w) A (assign target env v) (λ_ s₃ =>
     G (S prog w) A (forIn ifs θ λc r=>if r=θ then do let ok <- isTrue c env (eval c env);pure (Wh ok) else pure (Wh r)) (λok s₄ =>
      if ok=θ then G (S prog w) A (eval elt env) (λx s₅ =>
       G (S prog w) A (call (.builtin "list.append") [acc,x]) (λ_ s₆=>∃m,m<n/\I m s₆) (λ_ _=>False) s₅) (λ_ _=>False) s₄
      else ∃m,m<n/\I m s₄) (λ_ _=>False) s₃) (λ_ _=>False) s₂) (λ_ _=>False) s₁) (λ_ _=>False) s)
  (n:Nat) (h:I n s) :
  codeAny (S prog w) A (.compLoop (.ListComp elt [⟨target,iter,ifs,0⟩] scope pos) 0 it acc env) R s:=by
 calc codeAny_loop Y I (λn s hI=>?_) n h;show G _ A ((compTurn (.ListComp elt [⟨target,iter,ifs,0⟩] scope pos) 0 it acc env).onRaise (λx=>do noteFrame x env;theTreesLotGoes x)) _ _ s;calc wpAny_noted ?_;rw[compTurn_list];refine s_ (Yt (s_ (WV (turn n s hI) (λr s₁ h₁=>?_) λ_ _ h'=>VW h')))
 cases r with
 |none=>exact Md h₁
 |some v =>
  calc s_ (WV h₁ (λ_ s₂ h₂=>?_) λ_ _ h'=>VW h');refine s_ (WV h₂ (λ_ s₃ h₃=>s_ (WV h₃ (λok s₄ h₄=>?_) λ_ _ h'=>VW h')) λ_ _ h'=>VW h')
  cases ok with
  |false=>exact Md ⟨Y,h₄⟩
  |true =>
   calc s_ (s_ (WV h₄ (λx s₄ h₄=>s_ (WV h₄ (λ_ s₅ h₅=>Md (Md ⟨Y,h₅⟩)) λ_ _ h'=>VW h')) λ_ _ h'=>VW h'))
theorem yU{env:t}:∀(names:-(J×NameKind))(acc:-(J×O)),(∀y∈names,y.2=.free->∃c,env.cells.lookup y.1=U c)->(∀x c,acc.lookup x=U c->env.cells.lookup x=U c) →
  ∃cl,(forIn names acc (λ(x:Str×NameKind) (cs:-(Str×Addr))=>if x.2==Wq then cellOf env x.1 >>= λa=>pure (Wh ((x.1,a)::cs)) else pure (Wh cs)):Sem (-(J×O)))=pure cl ∧
   (∀x c,cl.lookup x=U c->env.cells.lookup x=U c)/\(∀y∈names,y.2=.free->∃c,cl.lookup y.1=U c)/\(∀x c,acc.lookup x=U c->∃c,cl.lookup x=U c)
 |[],acc,_,h2=>⟨acc,Y,h2,λ_ hy=>absurd hy (by simp),λx c e=>⟨c,e⟩⟩
 |(n,k)::r,acc,h1,h2=>by
  rw[Zz]
  by_cases hk:k=.free
  .subst hk
   let⟨c,hc⟩:=h1 (n,.free) Vc Y;let ka:env.cells.lookup n=U c:=hc;let ec:cellOf env n=pure c:=by unfold cellOf;rw[ka]
   let ij:∀x d,((n,c)::acc).lookup x=U d->env.cells.lookup x=U d:=λx d e=>by
    rw[Vi] at e
    cases q:x==n with
    |true =>
     rw[q] at e;cases e
     rw[Wr q];exact ka
    |false =>
     rw[q] at e;exact h2 x d e
   let⟨cl,e,p1,p2,p3⟩:=yU r ((n,c)::acc) (λy hy=>h1 y (Us _ hy)) ij;refine⟨cl,?_,p1,λy hy hf=>?_,λx d e=>?_⟩
   .dsimp only
    rw[U_ (by decide),ec];exact e
   .rcases Um.mp hy with rfl|hy
    .exact p3 n c (by simp)
    .exact p2 y hy hf
   .cases q:x==n with
    |true=>exact p3 x c (by rw[Vi,q])
    |false=>exact p3 x d (by rw[Vi,q];calc e)
  .let⟨cl,e,p1,p2,p3⟩:=yU r acc (λy hy=>h1 y (Us _ hy)) h2
   refine⟨cl,?_,p1,λy hy hf=>?_,p3⟩
   .dsimp only
    rw[U9 hk⁻¹];exact e
   .rcases Um.mp hy with rfl|hy
    .exact absurd hf hk
    .calc p2 y hy hf
theorem Ei{scope:o}{env:t}(h:∀y∈scope.names,y.2=.free->∃c,env.cells.lookup y.1=U c):
  ∃cl,closureFor scope env=pure cl/\(∀x c,cl.lookup x=U c->env.cells.lookup x=U c)/\∀y∈scope.names,y.2=.free->∃c,cl.lookup y.1=U c:=by
 let⟨cl,e,p1,p2,_⟩:=yU scope.names [] h (λx c e=>by simp at e);calc⟨cl,?_,p1,p2⟩;let e':closureFor scope env=(forIn scope.names ([]:-(J×O)) (λ(x:Str×NameKind) (cs:-(Str×Addr))=>if x.2==Wq then cellOf env x.1 >>= λa=>pure (Wh ((x.1,a)::cs)) else pure (Wh cs)):Sem (-(J×O))) >>= pure:=Y;rw[e',e];rfl
structure BD where
 cl:-(J×O)
 C:O
 s:B
 H:Hp
 fp:-O
@[reducible] noncomputable def cb (X:Cx) (scope:o) (Nb:-J) (d:BD):Cx where
 prog:=X.prog
 w:=X.w
 K:=X.K
 mg:=X.mg
 base:=X.base
 A:=X.A
 N:=Nb
 s₀:=d.s
 H₀:=d.H
 env:=compEnvC scope d.cl d.C X.env
 outer:=X.stack
 stack:=X.stack
 ex:=d.fp
 fn:=λx=>E (scope.names.lookup x=U .cell)
 calm:=X.calm
 pn:=[]
 xe:=λ_ _=>False
noncomputable def hW(cp:-(Option Nat))(σ:St):St:=cp.map λo=>match o with
 |some i=>(σ[i]?).join
 |none=>Z
noncomputable def jj(N:-J)(vE scope:o)(Nb:-J)(cp:-(Option Nat)):Bool :=
 (scope.names.all λy=>(E (y.2≠.cell)||E (scope.names.lookup y.1=U .cell))&&(E (y.2≠.local)||E (scope.names.lookup y.1=U .local))&&(E (y.2≠.free)||E (vE.names.lookup y.1=U .cell)||E (vE.names.lookup y.1=U .free))) &&
 E (↑cp=↑Nb)&&(cp.zip Nb).all λz=>match z.1 with
  |none=>θ
  |some i=>E (N[i]?=U z.2)&&E (scope.names.lookup z.2=U .free)
structure vF(X:Cx)(scope:o)(Nb:-J)(cp:-(Option Nat)):Prop where
 kind:scope.kind=.function
 cell:∀y∈scope.names,y.2=.cell->scope.names.lookup y.1=U .cell
 names:∀y∈scope.names,y.2=.local->scope.names.lookup y.1=U .local
 free:∀y∈scope.names,y.2=.free->(X.env.kindOf y.1=U .cell\/X.env.kindOf y.1=U .free)
 len:↑cp=↑Nb
 tu:∀(j i:Nat)(x:J),cp[j]?=U (U i)->Nb[j]?=U x->X.N[i]?=U x/\scope.names.lookup x=U .free
theorem x1w{X:Cx}{scope:o}{Nb:-J}{cp:-(Option Nat)}(hk:scope.kind=.function)(h:jj X.N X.env.scope scope Nb cp=θ):vF X scope Nb cp:=by
 unfold jj at h;erw[Vy,Wk,Bool.or_eq_true,WL] at h;let⟨⟨h1,h2⟩,h3⟩:=h;refine⟨hk,λy hy e=>(h1 y hy).1.1.resolve_left (λz=>z e),λy hy e=>?_,λy hy e=>?_,h2,λj i x e1 e2=>?_⟩
 .rcases (h1 y hy).1.2 with z|z
  .exact absurd e z
  .exact z
 .rcases (h1 y hy).2 with(z|z)|z
  .exact absurd e z
  .exact .inl z
  .exact .inr z
 .let hm:(U i,x)∈cp.zip Nb:=by
   let:(cp.zip Nb)[j]?=U (U i,x):=by
    rw[List.getElem?_zip_eq_some];exact⟨e1,e2⟩
   exact Vw this
  let:=h3 _ hm;simpa using this
theorem yV{env:t}{x:J}:∀{names:-(J×NameKind)}{k:NameKind},names.lookup x=U k →
  (names.map λ(n,k)=>if(k==Wq&&env.scope.kind==.function&&env.kindOf n==U .cell) then(n,We) else(n,k)).lookup x =
   U (if(k==Wq&&env.scope.kind==.function&&env.kindOf x==U .cell) then We else k)
 |[],k,h=>by simp at h
 |(n,k')::r,k,h=>by
  let ih:=@yV env x r k;show Xv x ((if(k'==Wq&&env.scope.kind==.function&&env.kindOf n==U .cell)=θ then(n,We) else(n,k'))::_)=_
  cases hx:x==n with
  |true =>
   erw[Vi,hx] at h;cases h
   let e:x=n:=Wr hx;subst e
   by_cases hc:(k'==Wq&&env.scope.kind==.function&&env.kindOf x==U .cell)=θ
   .rw[U_ hc,U_ hc];simp[Vi]
   .rw[U9 hc,U9 hc];simp[Vi]
  |false =>
   erw[Vi,hx] at h
   by_cases hc:(k'==Wq&&env.scope.kind==.function&&env.kindOf n==U .cell)=θ
   .rw[U_ hc];erw[Vi,hx];exact ih h
   .rw[U9 hc];erw[Vi,hx];calc ih h
theorem Ej{env:t}{x:J}:∀{names:-(J×NameKind)},names.lookup x=Z →
  (names.map λ(n,k)=>if(k==Wq&&env.scope.kind==.function&&env.kindOf n==U .cell) then(n,We) else(n,k)).lookup x=Z
 |[],h=>by simp
 |(n,k')::r,h=>by
  let ih:=@Ej env x r;show Xv x ((if(k'==Wq&&env.scope.kind==.function&&env.kindOf n==U .cell)=θ then(n,We) else(n,k'))::_)=_
  cases hx:x==n with
  |true=>erw[Vi,hx] at h;cases h
  |false =>
   erw[Vi,hx] at h
   by_cases hc:(k'==Wq&&env.scope.kind==.function&&env.kindOf n==U .cell)=θ
   .rw[U_ hc];erw[Vi,hx];exact ih h
   .rw[U9 hc];erw[Vi,hx];calc ih h
structure JF(X:Cx)(ifs:-M)(t:TT):Prop where
 out:∀(pins:aM)(s:B)(σ:St)(H:Hp)(Q:Bool->Hp->Prop),Inv X pins σ H s->t σ H Q →
  G (S X.prog X.w) X.A (forIn ifs θ λc r=>if r=θ then do let ok <- isTrue c X.env (eval c X.env);pure (Wh ok) else pure (Wh r)) (TP X pins σ Q) X.xe s
instance {X:Cx} {ifs:-M} {t:TT}:CoeFun (JF X ifs t) (λ_=>∀(pins:aM)(s:B)(σ:St)(H:Hp)(Q:Bool->Hp->Prop),Inv X pins σ H s->t σ H Q->G (S X.prog X.w) X.A (forIn ifs θ λc r=>if r=θ then do let ok <- isTrue c X.env (eval c X.env);pure (Wh ok) else pure (Wh r)) (TP X pins σ Q) X.xe s):=⟨JF.out⟩
def yW:TT:=λ_ H Q=>Q θ H
theorem pY{X:Cx}:JF X [] yW:=⟨λ_ _ _ H _ I h=>wpAny_tests_nil ⟨H,I,h⟩⟩
theorem Mi{X:Cx}{c:M}{t:TT}(h:JT X c t):JF X [c] t:=⟨λpins s σ H Q I hw=>wpAny_tests_one (h pins s σ H Q I hw)
⟩
def Mj(g:TG)(tf:TT)(te:TE)(l:O)(x:V)(τ:St)(H:Hp)(N:St->Hp->Prop):Prop :=
 g x τ H fun τ2 H2=>tf τ2 H2 λb H3=>if b=θ then te τ2 H3 λy H4=>∃ys,H4 l=U (.lst ys)/\↑ys<sizeLine/\N τ2 (upd H4 l (.lst (ys++[y]))) else N τ2 H3
def yX(J:It)(g:TG)(tf:TT)(te:TE)(l:O)(τ0:St)(H0:Hp)(Q:VK):Prop :=
 ∃W:Nat->Nat->St->Hp->Prop,(∃m,W 0 m τ0 H0)/\∀i m τ H,W i m τ H →
  (J.stop i H/\Q (.ref l) H)\/(J.go i H/\∃N:St->Hp->Prop,(∀τ' H',N τ' H'->∃m',m'<m/\W (i+1) m' τ' H')/\∀x H',J.pF i H x H'->Mj g tf te l x τ H' N)
def pZ(wi:TI)(cp:-(Option Nat))(g:BD->TG)(tf:BD->TT)(te:BD->TE):TE:=fun σ H Q=>wi σ H λJ H1=>∀(d:BD)(l:O),H1 l=Z->yX J (g d) (tf d) (te d) l (hW cp σ) (upd H1 l (.lst [])) Q
theorem qX:∀{names:-(J×NameKind)}{n:Nat}{acc:-(J×O)}{x:J}{c:O},(cellsFrom n names acc).lookup x=U c->acc.lookup x=U c\/(n<=c/\(x,We)∈names)
 |[],n,acc,x,c,h=>.inl h
 |(y,k)::r,n,acc,x,c,h=>by
  unfold cellsFrom at h;split at h
  .rename_i hk
   let ek:k=.cell:=Wr hk;subst ek;rcases qX h with h|⟨h,m⟩
   .rw[Vi] at h
    cases q:x==y with
    |true=>rw[q] at h;cases h;rw[Wr q];exact .inr ⟨yT _,Vc ..⟩
    |false=>rw[q] at h;exact .inl h
   .exact .inr ⟨⋯,Us _ m⟩
  .rcases qX h with h|⟨h,m⟩
   .exact .inl h
   .calc .inr ⟨h,Us _ m⟩
theorem yY:∀{names:-(J×NameKind)}{n:Nat}{acc:-(J×O)}{x:J}{c:O},(x,We)∈names->(cellsFrom n names acc).lookup x=U c->n<=c
 |[],n,acc,x,c,m,h=>by cases m
 |(y,k)::r,n,acc,x,c,m,h=>by
  unfold cellsFrom at h
  by_cases mr:(x,We)∈r
  .split at h
   .let:=yY mr h;symm
   .exact yY mr h
  .let e:(x,We)=(y,k):=by
    rcases Um.mp m with e|e
    .exact e
    .exact absurd e mr
   cases e
   rw[U_ (by decide)] at h;rcases qX h with h|⟨h,_⟩
   .rw[Vi,beq_self_eq_true] at h
    cases h;exact yT _
   .omega
theorem yZ:∀{names:-(J×NameKind)}{n:Nat}{acc:-(J×O)}{x y:J}{c:O},(∀u v c,acc.lookup u=U c->acc.lookup v=U c->u=v)->(∀u c,acc.lookup u=U c->c<n)->(cellsFrom n names acc).lookup x=U c->(cellsFrom n names acc).lookup y=U c->x=y
 |[],n,acc,x,y,c,hi,_,h1,h2=>hi x y c h1 h2
 |(z,k)::r,n,acc,x,y,c,hi,hb,h1,h2=>by
  unfold cellsFrom at h1 h2;split at h1
  .rename_i hk
   rw[U_ hk] at h2;refine yZ (λu v c q1 q2=>?_) (λu c q=>?_) h1 h2
   .rw[Vi] at q1 q2
    cases e1:u==z with
    |true =>
     rw[e1] at q1;cases q1
     cases e2:v==z with
     |true=>rw[Wr e1,Wr e2]
     |false=>rw[e2] at q2;exact absurd (hb v _ q2) (Wo _)
    |false =>
     rw[e1] at q1
     cases e2:v==z with
     |true=>rw[e2] at q2;cases q2;exact absurd (hb u _ q1) (Wo _)
     |false=>rw[e2] at q2;exact hi u v c q1 q2
   .rw[Vi] at q
    cases e1:u==z with
    |true=>rw[e1] at q;cases q;exact Xn _
    |false=>rw[e1] at q;exact Wa (hb u c q)
  .rename_i hk
   rw[U9 hk] at h2;calc yZ hi hb h1 h2
theorem y0:∀{names:-(J×NameKind)}{n:Nat}{acc:-(J×O)}{x:J},(x,We)∉names->(cellsFrom n names acc).lookup x=acc.lookup x
 |[],n,acc,x,_=>Y
 |(y,k)::r,n,acc,x,m=>by
  unfold cellsFrom;split
  .rename_i hk
   let ek:k=.cell:=Wr hk;subst ek;rw[y0 λz=>m (Us _ z),Vi]
   cases q:x==y with
   |true=>exact absurd (by rw[Wr q];calc Vc ..) m
   |false=>rfl
  .calc y0 λz=>m (Us _ z)
theorem y6:∀{names:-(J×NameKind)}{h:I}{acc:-(J×O)}{x:J}{c:O},(∀u c,acc.lookup u=U c->∃v,h.IsCell c v)->(cellsFrom h.objs.size names acc).lookup x=U c->∃v,(pushCells h names).IsCell c v
 |[],h,acc,x,c,hc,e=>hc x c e
 |(y,k)::r,h,acc,x,c,hc,e=>by
  unfold cellsFrom at e;unfold pushCells;split at e
  .rename_i hk
   rw[U_ hk];let hz:(h.push {cls:=.type "cell",data:=.cell Z}).objs.size=h.objs.size+1:=VQ ..;rw[<-hz] at e;calc y6 (λu c q=>?_) e;rw[Vi] at q
   cases e1:u==y with
   |true=>rw[e1] at q;cases q;exact⟨Z,_,Uo _ Y,Y⟩
   |false =>
    rw[e1] at q;let⟨v,o,g1,g2⟩:=hc u c q;exact⟨v,o,vB _ g1,g2⟩
  .rename_i hk
   rw[U9 hk];calc y6 hc e
theorem Ml{M:Model}{A:q}{E:bw}{s:B}{scope:o}{g:O}{cl:-(J×O)}{qual:J}{env:t}{Q:t->B->Prop}
  (h:Q (newEnv scope ⇑s g (cellsFrom (⇑s+1) scope.names cl) qual Z .none (U env) builtinsNs) {s with heap:=pushCells (s.heap.push {cls:=.type "dict",data:=.dict #[]}) scope.names}) :
  G M A (newFunctionEnv scope g cl [] qual Z .none (U env)) Q E s:=by
 erw[newFunctionEnv,q0l,Yu];calc s_ (wpAny_alloc ?_);calc s_ (wpAny_layCells _ (λname kind cells=>by cases Mm:kind==We<;>simp[Mm]) _ _ _ _ ?_);rw[show({s with heap:=s.heap.push {cls:=.type "dict",data:=.dict #[]}}:B).heap.objs.size=⇑s+1 from VQ ..];calc s_ ?_;rw[ZR];calc Md (Md h)
section
variable{X:Cx}{elt tg iter:M}{ifs:-M}{scope:o}{pos:y}{Nb:-J}{cp:-(Option Nat)}{wi:TI}{g:BD->TG}{tf:BD->TT}{te:BD->TE}
variable{pins:aM}{σ:St}{H:Hp}{s:B}
noncomputable abbrev tw(scope:o)(s:B)(cl:-(J×O)):-(J×O):=cellsFrom (⇑s+1) scope.names cl
theorem Mn{fp:-O}{cl:-(J×O)}(S:vF X scope Nb cp)(I:Inv X pins σ H s)(hf:∀b∈fp,bS X pins H b)(ho:∀b∈fp,∃o,s.heap.get? b=U o)
  (c1:∀x c,cl.lookup x=U c->X.env.cells.lookup x=U c) (c2:∀y∈scope.names,y.2=.free->∃c,cl.lookup y.1=U c):(cb X scope Nb ⟨tw scope s cl,⇑s,s,H,fp⟩).Ok:=by
 let Mo:∀b∈fp,b∉j_ X.stack:=λb hb z=>by
  let⟨_,f1,f2,_⟩:=hf b hb;rcases Um.mp (I.gL b z) with e|e
  .exact f1 e
  .exact f2 e
 let lt:∀u c,cl.lookup u=U c->c<⇑s:=λu c e=>by
  let⟨v,q⟩:=I.cell u c (c1 _ _ e);exact q.lt
 refine⟨I.ok.mod,?_,I.ok.glob,I.ok.blt,yT _,λx y c h1 h2=>?_,λx hx=>?_,λx c h hc=>?_,I.ok.hd,I.ok.frames,.inl Y,λb hb=>⟨?_,λx c e=>?_⟩,I.bs,Vo I.ok.mq I.sz,λb o e hb=>?_,Mo,I.stack,I.je⟩
 .exact S.kind
 .exact yZ (λu v c q1 q2=>I.ok.inj u v c (c1 _ _ q1) (c1 _ _ q2)) (λu c e=>Wa (lt u c e)) h1 h2
 .cases q:scope.names.lookup x with
  |none =>
   let z:(relabel scope X.env).names.lookup x=Z:=Ej q;let qY:(relabel scope X.env).names.lookup x=U .cell\/(relabel scope X.env).names.lookup x=U .free:=hx;rw[z] at qY;rcases qY with h|h<;>cases h
  |some k =>
   let hm:=VV q;let z:(relabel scope X.env).names.lookup x=_:=yV (env:=X.env) q;let qY:(relabel scope X.env).names.lookup x=U .cell\/(relabel scope X.env).names.lookup x=U .free:=hx;rw[z] at qY
   let kf:k=.free\/k=.cell:=by
    by_cases hk:k=.free
    .exact .inl hk
    .let:(k==Wq)=ι:=by simpa using hk
     erw[this,ZP,VL,Xo] at qY;rcases qY with h|h
     .exact .inr (Vm h)
     .exact absurd (Vm h) hk
   calc Y7.mp (Ye scope.names _ cl ?_);rcases kf with rfl|rfl
   .let⟨c,e⟩:=c2 (x,.free) hm Y
    exact .inr (by rw[show cl.lookup x=U c from e];rfl)
   .exact .inl q
 .let hl:scope.names.lookup x=U .cell:=Wb h
  let:=yY (VV hl) hc;exact q0I this
 .let⟨o,e⟩:=ho b hb
  exact U8 (Me e)
 .rcases qX e with e|⟨e,_⟩
  .exact (hf b hb).2.2.2.2.1 x c (c1 _ _ e)
  .let⟨o,eo⟩:=ho b hb
   let y7:=Me eo;ext z;subst z;exact absurd (q0J e) (q4o.mpr (WB y7))
 .rcases (hf b hb).2.2.2.1 with z|z
  .exact I.ok.jF b o e z
  .calc absurd (Uq (Me (I.ok.bs b o e).1) z) (Wo _)
theorem Mp{cp:-(Option Nat)}{σ:St}{j:Nat}{v:V}(h:(hW cp σ)[j]?=U (U v)):∃i,cp[j]?=U (U i)/\σ[i]?=U (U v):=by
 unfold hW at h;rw[My] at h
 cases e:cp[j]? with
 |none=>rw[e] at h;cases h
 |some o =>
  rw[e] at h
  cases o with
  |none=>cases h
  |some i =>
   calc⟨i,Y,?_⟩;let h':(σ[i]?).join=U v:=Vm h
   cases q:σ[i]? with
   |none=>rw[q] at h';cases h'
   |some z =>
    rw[q] at h';let:z=U v:=h';rw[this]
theorem Mq{fp:-O}{cl:-(J×O)}{h1:Α}{tk:Nat}(S:vF X scope Nb cp)(I:Inv X pins σ H s)(hf:∀b∈fp,bS X pins H b)(ho:∀b∈fp,∃o,s.heap.get? b=U o)
  (c1:∀x c,cl.lookup x=U c->X.env.cells.lookup x=U c) (c2:∀y∈scope.names,y.2=.free->∃c,cl.lookup y.1=U c)
  (hn:h1.Ns ⇑s (λx=>([]:-(J×L)).reverse.lookup x)) (hk:∀b o,s.heap.get? b=U o->h1.get? b=U o) (qU:∀x c,(tw scope s cl).lookup x=U c->∃v,h1.IsCell c v) :
  Inv (cb X scope Nb ⟨tw scope s cl,⇑s,s,H,fp⟩) [] (hW cp σ) H {s with heap:=h1,toks:=tk}:=by
 refine⟨Mn S I hf ho c1 c2,Y,I.bare,Un.kept hk,⟨_,hn,λj x v e1 e2 e3=>?_⟩,qU,I.ba.fresh (yT _),λx c e=>?_,λp hp=>absurd (show p∈([]:aM) from hp) (by simp),I.ba.kept hk,?_⟩
 .let⟨i,q1,q2⟩:=Mp e2
  let⟨q3,q4⟩:=S.tu j i x q1 e1;let hm:=VV q4;let oM:=S.free _ hm Y;let⟨m,_,hl⟩:=I.loc
  let Mr:sv X.env.scope x:=by
   rcases oM with h|h
   .exact .inr (.inl h)
   .exact .inr (.inr h)
  let⟨u,ru,lk⟩:=hl i x v q3 q2 Mr;refine⟨u,ru,?_⟩
  let nl:X.env.kindOf x≠U .local:=by
   rcases oM with h|h
   .ext z;rw[h] at z;cases z
   .ext z;rw[h] at z;cases z
  rcases lk with⟨k,_⟩|⟨_,c,ec,hc⟩
  .exact absurd k nl
  .let⟨c',Ek⟩:=c2 (x,.free) hm Y
   let El:=c1 _ _ Ek;rw[ec] at El;cases El;let nc:(x,We)∉scope.names:=λz=>by let:=S.cell _ z Y;rw[show scope.names.lookup x=U .free from q4] at this;cases this
   refine .inr ⟨?_,c,(y0 nc).trans Ek,?_⟩
   .let z:(relabel scope X.env).names.lookup x=_:=yV (env:=X.env) q4
    show(relabel scope X.env).names.lookup x=U .cell\/(relabel scope X.env).names.lookup x=U .free;rw[z];split
    .exact .inl Y
    .exact .inr Y
   .let⟨o,e,d⟩:=hc
    exact⟨o,hk _ _ e,d⟩
 .rcases qX e with e|⟨e,_⟩
  .exact I.de x c (c1 _ _ e)
  .exact I.ba.fresh (q0I e)
 .unfold hW
  rw[pV];calc S.len
theorem Ms{fp:-O}{d:BD}{it l:O}{tn:Nat->I->Prop}{J:It}{R:Result->B->Prop}{Q:VK}{H1:Hp}{s1:B}{τ:St}(hc:X.calm=θ)
  (hg:JG (cb X scope Nb d) tg (g d)) (hf:JF (cb X scope Nb d) ifs (tf d)) (he:JE (cb X scope Nb d) elt (te d)) (T:Turn X.prog X.w X.K tg J fp it tn)
  (Ut:d.fp=fp) (I1:Inv (cb X scope Nb d) [] τ H1 s1) (iP:tn 0 s1.heap) (Em:∀b∈fp,bS (cb X scope Nb d) [] H1 b)
  (W:Nat->Nat->St->Hp->Prop) (w0:∃m,W 0 m τ H1)
  (turn:∀i m τ H,W i m τ H->(J.stop i H/\Q (.ref l) H)\/(J.go i H/\∃N:St->Hp->Prop,(∀τ' H',N τ' H'->∃m',m'<m/\W (i+1) m' τ' H')/\∀x H',J.pF i H x H'->g d x τ H' fun τ2 H2=>tf d τ2 H2 λb H3 =>
   if b=θ then te d τ2 H3 λy H4=>∃ys,H4 l=U (.lst ys)/\↑ys<sizeLine/\N τ2 (upd H4 l (.lst (ys++[y]))) else N τ2 H3))
  (fin:∀τ' H' s',Inv (cb X scope Nb d) [] τ' H' s'->Q (.ref l) H'->R (.ok .next) s') :
  codeAny (S X.prog X.w) X.A (.compStart (.ListComp elt [⟨tg,iter,ifs,0⟩] scope pos) 0 (.ref it) (.ref l) (compEnvC scope d.cl d.C X.env)) R s1:=by
 let iQ:∀{H':Hp},(∀b∈fp,H' b=Z)->∀b∈fp,bS (cb X scope Nb d) [] H' b:=λhn b hb=>⟨hn b hb,(Em b hb).2⟩
 let loop:codeAny (S X.prog X.w) X.A (.compLoop (.ListComp elt [⟨tg,iter,ifs,0⟩] scope pos) 0 (.ref it) (.ref l) (compEnvC scope d.cl d.C X.env)) R s1:=by
  let⟨m0,w0⟩:=w0;calc Mh (λn s'=>∃i τ' H',Inv (cb X scope Nb d) [] τ' H' s'/\tn i s'.heap/\(∀b∈fp,H' b=Z)/\W i n τ' H') ?_ m0 ⟨0,τ,H1,I1,iP,λb hb=>(Em b hb).1,w0⟩;ext n s3 ⟨i,σ3,H3,I3,oB,sH,w3⟩;rcases turn i n σ3 H3 w3 with⟨stop,qn⟩|⟨go,N,hN,step⟩
  .refine bE (T.done (cb X scope Nb d) Y Y Y hc i [] s3 σ3 H3 (λ_ _=>False) I3 (iQ sH) oB stop) λr s4 ⟨hr,I4⟩=>?_
   subst hr;exact fin σ3 H3 s4 I4 qn
  .refine bE (T.item (cb X scope Nb d) Y Y Y hc i [] s3 σ3 H3 (λ_ _=>False) I3 (iQ sH) oB go) λr s4 ⟨u,hr,h4⟩=>?_
   subst hr;calc bE h4 λ_ s5 ⟨x,H5,I5,r5,y5,pG,yd⟩=>?_;let ye:=I5.pinned (iQ yd) (T.obj _ _ pG);refine bE (hg _ s5 σ3 H5 x u _ ye r5 (step x H5 y5)) λ_ s6 ⟨σ6,H6,I6,q6⟩=>?_
   let again:∀{σ7:St}{H7:Hp}{s7:B}{m':Nat},Inv (cb X scope Nb d) ([]++sG fp s5.heap) σ7 H7 s7->m'<n->W (i+1) m' σ7 H7->∃m,m<n/\∃i σ' H',Inv (cb X scope Nb d) [] σ' H' s7/\tn i s7.heap/\(∀b∈fp,H' b=Z)/\W i m σ' H':=λ{σ7 H7 s7 m'} I7 hm w7=>by
    calc⟨m',hm,i+1,σ7,H7,I7.eg,T.keep _ _ _ pG λb hb o e=>(I7.pin (b,o) (Vg _ (Vg _ (vk hb e)))).1,λb hb=>?_,w7⟩;let⟨o,e,d⟩:=T.obj _ _ pG b hb;exact(I7.pin (b,o) (Vg _ (Vg _ (vk hb e)))).2.1
   refine bE (hf _ s6 σ6 H6 _ I6 q6) λok s7 h0_=>el3 h0_ λH7 I7 q7=>?_
   cases ok with
   |false =>
    rw[U9 Vl] at q7 ⊢;let⟨m',hm,w7⟩:=hN _ _ q7;exact again I7 hm w7
   |true =>
    rw[U_ Y] at q7 ⊢;calc bE (he _ s7 σ6 H7 _ I7 q7) λy s8 ⟨yv,H8,I8,r8,ys,hy,hz,q8⟩=>?_;let⟨m',hm,w8⟩:=hN _ _ q8;calc bE (vA _ s8 σ6 H8 (.ref l) [yv] (.ref l) [y] (λ_ H9=>H9=upd H8 l (.lst (ys++[yv]))) I8 Y (.cons r8 .nil) ⟨l,ys,yv,Y,Y,hy,hz,Y⟩) λ_ s9 ⟨_,H9,I9,_,e9⟩=>?_;subst e9;exact again I9 hm w8
 calc codeAny_compStart_list loop (T.self _ 0 s1 _ _ iP loop)
theorem Mt{fp:-O}{d:BD}{τ:St}{H1 H':Hp}{s1 s':B}(I1:Inv X pins σ H1 s1)(hs:d.s=s1)(hH:d.H=H1)(hd:d.fp=fp)(hf:∀b∈fp,bS X pins H1 b)(J:Inv (cb X scope Nb d) [] τ H' s'):Inv X pins σ H' s':=by
 subst hs hH hd;calc I1.sy (ch:=d.fp) J.os J.base J.ba J.bare λb hb=>⟨(hf b hb).2.2.2.1,(hf b hb).2.1,(hf b hb).2.2.2.2.1,(hf b hb).2.2.2.2.2⟩
theorem En{use:Option (L->Sem Unit)}{P:bw}{Q:VK}(hc:X.calm=θ)(S:vF X scope Nb cp)(hi:JI X tg iter wi)(hg:∀d,JG (cb X scope Nb d) tg (g d))(hf:∀d,JF (cb X scope Nb d) ifs (tf d))(he:∀d,JE (cb X scope Nb d) elt (te d))
  (hs:∀x,foldedSetIterable iter X.env x=pure x) (I:Inv X pins σ H s) (h:pZ wi cp g tf te σ H Q)
  (fin:∀(l C:O)(H':Hp)(s':B)(m:π->Option L),Inv X pins σ H' s'->bS X pins H' C->(∀p c,X.env.cells.lookup p=U c->c≠C)->s'.heap.Ns C m->Q (.ref l) H'->compPost (ς X.prog X.w) X.A X.xe use P (.ref l) C (.ok .next) s') :
  G (ς X.prog X.w) X.A (comprehension (.ListComp elt [⟨tg,iter,ifs,0⟩] scope pos) scope X.env (firstIterPos [⟨tg,iter,ifs,0⟩] pos) (newList []) ι (eval iter X.env) use) P X.xe s:=by
 let⟨cl,Mu,c1,c2⟩:=Ei (scope:=scope) (env:=X.env) λy hy Mv=>by
  rcases S.free y hy Mv with z|z
  .exact I.ok.has _ (.inl z)
  .exact I.ok.has _ (.inr z)
 calc wpAny_comprehension_free (cl:=cl) Y hs Mu S.kind S.names (bE (hi pins s σ H _ I h) λv s1 h1=>bE h1 λya s2 h2=>?_);let⟨it,fp,tn,J,H2,e,I2,T,kI,f2,q2⟩:=h2;subst e;calc WK ?_;let hl:H2 ⇑s2=Z:=I2.fresh;let I3:Inv X pins σ (upd H2 ⇑s2 (.lst [])) {s2 with heap:=s2.heap.push {cls:=.type "list",data:=.seq ([]:-L).toArray}}:=I2.b_ (t':=s2.toks) (ys:=[]) .nil (VT _);let k3:∀b o,s2.heap.get? b=U o->(s2.heap.push {cls:=.type "list",data:=.seq ([]:-L).toArray}).get? b=U o:=λb o e=>vB _ e
 let f3:∀b∈fp,bS X pins (upd H2 ⇑s2 (.lst [])) b:=λb hb=>by
  let⟨o,e,_⟩:=T.obj _ _ kI b hb;calc⟨?_,(f2 b hb).2⟩;rw[bf (U8 (Me e))];exact(f2 b hb).1
 generalize Mw:upd H2 ⇑s2 (.lst [])=H3 at I3 f3;generalize Mx:({s2 with heap:=s2.heap.push {cls:=.type "list",data:=.seq ([]:-L).toArray}}:B)=s3 at I3;let Eo:∀b o,s2.heap.get? b=U o->s3.heap.get? b=U o:=by rw[<-Mx];exact k3
 let o3:∀b∈fp,∃o,s3.heap.get? b=U o:=λb hb=>let⟨o,e,_⟩:=T.obj _ _ kI b hb;⟨o,Eo b o e⟩;calc Ml ?_;let k4:∀b o,s3.heap.get? b=U o->(pushCells (s3.heap.push {cls:=.type "dict",data:=.dict #[]}) scope.names).get? b=U o:=λb o e=>q1l _ _ _ _ (vB _ e);let tE:(pushCells (s3.heap.push {cls:=.type "dict",data:=.dict #[]}) scope.names).Ns ⇑s3 (λx=>([]:-(π×L)).reverse.lookup x):=(Heap.Ns.new s3.heap (.type "dict")).keeps (q1l _ _)
 let I4:=Mq (Nb:=Nb) (tk:=s3.toks) S I3 f3 o3 c1 c2 tE k4 λx c e=>by
  let hz:(s3.heap.push {cls:=.type "dict",data:=.dict #[]}).objs.size=⇑s3+1:=VQ ..;let e':(cellsFrom (s3.heap.push {cls:=.type "dict",data:=.dict #[]}).objs.size scope.names cl).lookup x=U c:=by rw[hz];exact e
  calc y6 (λu c q=>?_) e';let⟨v,o,g1,g2⟩:=I3.cell u c (c1 _ _ q);exact⟨v,o,vB _ g1,g2⟩
 generalize Uu:pushCells (s3.heap.push {cls:=.type "dict",data:=.dict #[]}) scope.names=h₁ at k4 tE I4 ⊢;let⟨W,w0,turn⟩:=q2 ⟨tw scope s3 cl,⇑s3,s3,H3,fp⟩ ⇑s2 hl;rw[Mw] at w0;refine Ms (d:=⟨tw scope s3 cl,⇑s3,s3,H3,fp⟩) (fp:=fp) (tn:=tn) (J:=J) (Q:=Q) hc (hg _) (hf _) (he _) T Y I4 (T.keep _ _ _ kI λb hb o e=>k4 b o (Eo b o e)) (λb hb=>?_) W w0 turn fun τ' H' s' I5 q5=>?_
 .let⟨o,e⟩:=o3 b hb
  refine⟨(f3 b hb).1,U8 (Me e),λz=>?_,.inl hb,λx c ec=>?_,λp hp=>absurd (show p∈([]:aM) from hp) (by simp)⟩
  .rcases Um.mp (I3.gL b z) with r|r
   .exact (f3 b hb).2.1 r
   .exact (f3 b hb).2.2.1 r
  .rcases qX ec with q|⟨q,_⟩
   .exact (f3 b hb).2.2.2.2.1 x c (c1 _ _ q)
   .let y7:=Me e
    ext z;subst z;exact absurd (q0J q) (q4o.mpr (WB y7))
 .let I6:Inv X pins σ H' s':=Mt I3 Y Y Y f3 I5
  let⟨m,hn,_⟩:=I5.loc;let fC:bS X pins H' ⇑s3:=I3.h_ (yT _) I5.free;calc fin _ _ _ _ m I6 fC (λp c e=>fC.2.2.2.2.1 p c e) hn q5
theorem Ep(cp:-(Option Nat))(Nb:-J)(hc:X.calm=θ)(hi:JI X tg iter wi)(hg:∀d,JG (cb X scope Nb d) tg (g d))(hf:∀d,JF (cb X scope Nb d) ifs (tf d))(he:∀d,JE (cb X scope Nb d) elt (te d))
  (hk:scope.kind=.function:=by rfl) (ho:jj X.N X.env.scope scope Nb cp=θ:=by first|rfl|kernel_rfl) (hs:∀x,foldedSetIterable iter X.env x=pure x:=by ext _;rfl) :
  JE X (.ListComp elt [⟨tg,iter,ifs,0⟩] scope pos) (pZ wi cp g tf te):=by
 calc⟨?_⟩;ext pins s σ H Q I h;rw[eval_ListComp];calc En (use:=none) hc (x1w hk ho) hi hg hf he hs I h λl C H' s' m I' fC hcc hn q=>⟨m,hn,λh' tF=>⟨.ref l,H',?_,Y,q⟩⟩;calc I'.turned (t':=s'.toks) (λb o hb e=>(tF.2 b hb).trans e) fC.1 fC.2.1 fC.2.2.2.1 fC.2.2.2.2.1 fC.2.2.2.2.2
theorem vG(cp:-(Option Nat))(Nb:-J){i:Nat}{x:J}{pos' dA:y}(hN:X.N.Nodup)(hi:X.N[i]?=U x)(hx:Loc X.env.scope x)(hc:X.calm=θ)(hit:JI X tg iter wi)(hg:∀d,JG (cb X scope Nb d) tg (g d))(hf:∀d,JF (cb X scope Nb d) ifs (tf d))(he:∀d,JE (cb X scope Nb d) elt (te d))
  (hk:scope.kind=.function:=by rfl) (ho:jj X.N X.env.scope scope Nb cp=θ:=by first|rfl|kernel_rfl) (hs:∀x,foldedSetIterable iter X.env x=pure x:=by ext _;rfl)
  (kN:swapsWith (.ListComp elt [⟨tg,iter,ifs,0⟩] scope pos) (U (.Name x pos')) dA.line X.env=pure θ:=by rfl)
  (iG:ft X x:=by first|exact .inl Y|exact .inr Y|assumption) :
  JS X (.Assign [.Name x pos'] (.ListComp elt [⟨tg,iter,ifs,0⟩] scope pos) dA) (kH (pZ wi cp g tf te) (vj i)):=by
 calc⟨?_⟩;ext pins s σ H D I h;rw[exec_Assign_Name_used _ _ _ _ kN];calc s_ (Yt (s_ ?_));show G _ X.A (do let _ <- comprehension (.ListComp elt [⟨tg,iter,ifs,0⟩] scope pos) scope X.env _ (newList []) ι (eval iter X.env) (U (assign (.Name x pos') X.env))) _ _ s;calc s_ (bE (En (use:=U (assign (.Name x pos') X.env)) (P:=λ_ s'=>SP X pins D .next s') hc (x1w hk ho) hit hg hf he hs I h λl C H' s' m I' fC hcc hn q=>?_) λ_ s' hq=>Md (Md hq));show G _ X.A (assign (.Name x pos') X.env (.ref l)) _ _ s';refine q0w (Dv I' hN hi hx (v:=.ref l) Y (λiU Mz ⟨a,sb,ha⟩=>?_) iG)
 let nC:C≠a:=by
  rcases ha with e|e
  .rw[e];exact fC.2.1
  .exact Xx (hcc _ _ e)
 calc⟨m,hn.sameBut sb nC,λh' tF=>⟨_,H',?_,q⟩⟩;calc Mz.turned (t':=iU.toks) (λb o hb e=>(tF.2 b hb).trans e) fC.1 fC.2.1 fC.2.2.2.1 fC.2.2.2.2.1 fC.2.2.2.2.2
end
section
variable{g:TG}{tf:TT}{te:TE}
end
section
variable{X:Cx}{pins:aM}{σ:St}{H:Hp}{s:B}{h':I}{T:O}{o:HO}{ch:-O}{t':Nat}
theorem Inv.fO(I:Inv X pins σ H s)(hf:∀b∈ch,bS X pins H b)(k:∀b u,b∉ch->s.heap.get? b=U u->h'.get? b=U u)(hT:⇑s<=T)(new:aZ X.prog X.w (upd H T o) h' T o):
  Inv X pins σ (upd H T o) {s with heap:=h',toks:=t'}:=by
 let hn:H T=Z:=I.ba.fresh hT;let kG:∀b u,H b=U u->b∉ch:=λb u e hb=>by rw[(hf b hb).1] at e;cases e
 refine I.step (g':=s.gens) (d':=s.drawn) (ch:=ch) (λb hb=>⟨(hf b hb).2.2.2.1,(hf b hb).2.1,(hf b hb).2.2.2.2.1,(hf b hb).2.2.2.2.2⟩) (λb u _ _ hc e _=>k b u hc e) (λb u _ _ hc e _=>⟨u.slots,k b u hc e⟩)
  (λb u _ e n=>by rw[bf (U8 (Uq (Me e) hT))];calc n) (λb u hc e=>⟨u,k b u hc e⟩) (λb xs e=>by rw[bf (dF e hn)];calc e)
  (λb u xs e=>by rw[bf (dF e hn)];calc e) (λb ps e=>⟨#[],by rw[bf (dF e hn),e];simp⟩) (λb _ u _ e hc=>k b u hc e) (λm hm=>?_) (λb u e=>?_) I.bare
 .let⟨u,es,ep,ho,r⟩:=hm
  exact⟨u,es,ep,k _ u (λhb=>(hf _ hb).2.1 Y) ho,r⟩
 .by_cases hb:b=T
  .subst hb;rw[b7] at e;cases e;exact new
  .rw[bf hb] at e
   refine(I.ba b u e).gK (λc v hc q=>k c v ?_ q) (λc q=>by rw[bf (dF q hn)];calc q) λc xs q=>by rw[bf (dF q hn)];exact q
   rcases hc with z|z
   .rw[z];exact kG b u e
   .calc kG c _ z
theorem Inv.jJ(I:Inv X pins σ H s)(hf:∀b∈ch,bS X pins H b)(k:∀b u,b∉ch->s.heap.get? b=U u->h'.get? b=U u):Inv X pins σ H {s with heap:=h',toks:=t'}:=by
 let kG:∀b u,H b=U u->b∉ch:=λb u e hb=>by rw[(hf b hb).1] at e;cases e
 refine I.step (g':=s.gens) (d':=s.drawn) (ch:=ch) (λb hb=>⟨(hf b hb).2.2.2.1,(hf b hb).2.1,(hf b hb).2.2.2.2.1,(hf b hb).2.2.2.2.2⟩) (λb u _ _ hc e _=>k b u hc e) (λb u _ _ hc e _=>⟨u.slots,k b u hc e⟩)
  (λb u _ e n=>n) (λb u hc e=>⟨u,k b u hc e⟩) (λb xs e=>e)
  (λb u xs e=>e) (λb ps e=>⟨#[],by rw[e];simp⟩) (λb _ u _ e hc=>k b u hc e) (λm hm=>?_) (λb u e=>?_) I.bare
 .let⟨u,es,ep,ho,r⟩:=hm
  exact⟨u,es,ep,k _ u (λhb=>(hf _ hb).2.1 Y) ho,r⟩
 .refine (I.ba b u e).gK (λc v hc q=>k c v ?_ q) (λc q=>q) λc xs q=>q
  rcases hc with z|z
  .rw[z];exact kG b u e
  .calc kG c _ z
end
noncomputable def qZ(K:Ee)(a:O):It :=
 ⟨λi H=>∃xs x,bP K H a xs/\xs[i]?=U x,λi H x H'=>∃T v,x=.ref T/\H T=Z/\H'=upd H T (.tup [.int (i:Nat),v])/\∀xs,bP K H a xs->xs[i]?=U v,λi H=>∃xs,bP K H a xs/\↑xs<=i⟩
theorem Er{P:l}{w:g}{K:Ee}{elts:-M}{x1}{tp:y}(a e it:O)(hX:e≠it):
  Turn P w K (.Tuple elts x1 tp) (qZ K a) [e,it] e (λi h=>(∃old,IsEnum h e it (i:Nat) old)/\h.IsListIter it a i) where
 mem:=by simp
 obj:=λi h st b hb=>by
  let⟨⟨old,he⟩,o,hi,hc,hd⟩:=st;rcases Um.mp hb with rfl|hb
  .exact⟨_,he,λv z=>by cases z⟩
  .let z:b=it:=by simpa using hb
   subst z;exact⟨o,hi,λv z=>by rw[hd] at z;cases z⟩
 keep:=λi h h' st k=>by
  let⟨⟨old,he⟩,hi⟩:=st;exact⟨⟨old,k e (by simp) _ he⟩,hi.at λo q=>k it (by simp) o q⟩
 item:=by
  ext X hP hw hK hc i pins s σ H E I hf st hg;subst hP hw hK;let⟨⟨old,he⟩,hi⟩:=st;let⟨xs,x,hq,hx⟩:=hg;let⟨au,rv,p,hz⟩:=I.list hq;let⟨u,hu,ru⟩:=rv.get hx;calc wpAny_pyNext_enum_item he hi p.isList (x:=u) hu⁻¹ hX λh1 lO tG tH hsz hk=>⟨_,Y,?_⟩;calc YU lO λh2 vH ee=>?_;let hT:⇑s≠e:=WR (Me he);let mf:h2.get? ⇑s=U {cls:=.type "tuple",data:=.seq #[.int i s.toks,u]}:=(ee.2 _ hT).trans tH
  let k2:∀b o,b∉[e,it]->s.heap.get? b=U o->h2.get? b=U o:=λb o hb q=>by
   let tI:b≠e:=λz=>hb (by simp[z]);let ij:b≠it:=λz=>hb (by simp[z]);exact(ee.2 _ tI).trans (hk b o tI ij q)
  let hn:H ⇑s=Z:=I.ba.fresh (yT _);refine⟨.ref ⇑s,upd H ⇑s (.tup [.int i,x]),I.fO (ch:=[e,it]) (t':=s.toks+1) hf k2 (yT _) ?_,Y,⟨_,x,Y,hn,Y,λys hy=>by rw[I.fM hy hq];calc hx⟩,⟨⟨u,?_⟩,?_⟩,λb hb=>?_⟩
  .exact⟨by show 2<=sizeLine;decide,[.int i s.toks,u],.cons ⟨_,Y⟩ (.cons ru .nil),_,mf,Y,_,Y⟩
  .let e3:((i:Int)+1)=(((i+1:Nat)):Int):=by symm
   rw[e3] at vH;exact vH
  .exact tG.at λo q=>(ee.2 _ (Xx hX)).trans q
  .let:b<⇑s:=by
    let⟨o,q,_⟩:=hi;rcases Um.mp hb with rfl|hb
    .exact Me he
    .let z:b=it:=by simpa using hb
     subst z;exact Me q
   rw[bf (U8 this)];exact(hf b hb).1
 done:=by
  ext X hP hw hK hc i pins s σ H E I hf st hg;subst hP hw hK;let⟨⟨old,he⟩,hi⟩:=st;let⟨xs,hq,hx⟩:=hg;let⟨au,rv,p,hz⟩:=I.list hq;let hl:=↑rv;calc wpAny_pyNext_enum_end (I.ok.hd hc) he hi p.isList (by simp;symm) λh1 eb=>⟨Y,?_⟩;let⟨f0,f1,f2,f3,f4,f5⟩:=hf it (by simp);exact I.turned (t':=s.toks) (λb o hb q=>eb b o hb q) f0 f1 f3 f4 f5
 self:=λA i s Q E st h=>by
  let⟨⟨old,he⟩,hi⟩:=st;let hT:s.TypeIs (.ref e) "enumerate" := ⟨_,he,Y⟩;calc WM he h
section
variable{X:Cx}{elts:-M}{x1:Nat}{tp:y}
def MA(K:Ee)(ta:TA):TI:=fun σ H R=>ta σ H λvs H1=>∃a,vs=[.ref a]/\(∃xs,bP K H1 a xs)/\R (qZ K a) H1
theorem Es:bootBuiltins "enumerate" = U (.type "enumerate"):=by decide +kernel
theorem MB:bootBuiltins "zip" = U (.type "zip"):=by decide +kernel
theorem MC{a:M}{ta:TA}{p pos:y}(hg:Gl X "enumerate")(hm:X.mg "enumerate" = Z)(ha:JA X [a] ta)(hs:starEach [a] X.env=[(ι,eval a X.env)]:=by rfl):
  JI X (.Tuple elts x1 tp) (.Call (.Name "enumerate" p) [a] [] pos) (MA X.K ta):=by
 calc⟨?_⟩;ext pins s σ H R I h;calc Call_ (mx I hg hm Es (VY (bE (ha pos pins s σ H _ I h) λus s1 ⟨vs,H1,I1,r1,q1⟩=>?_) hs Y));let⟨l,e,⟨xs,hq⟩,q⟩:=q1;subst e
 cases r1 with
 |cons r rr =>
  cases rr
  cases r
  let⟨au,rv,p,hz⟩:=I1.list hq;calc ZX p.isList λh' he hi hsz hk=>?_;let I2:Inv X pins σ H1 {s1 with heap:=h'}:=I1.kept (t':=s1.toks) hk;calc WM he ?_;refine⟨_,_,_,_,H1,Y,I2,Er l (⇑s1+1) ⇑s1 (Zd _),⟨⟨_,he⟩,hi⟩,λb hb=>?_,q⟩
  let hb':⇑s1<=b:=by
   rcases Um.mp hb with rfl|hb
   .exact Yy _
   .let z:b=⇑s1:=by simpa using hb
    rw[z];exact yT _
  calc I1.h_ hb' (I1.ba.fresh hb')
end
section
variable{X:Cx}{nm:J}{tp:y}
end
end L2
namespace L2
open PySem PySem.Spec PyProof.Rows PySem.W
open Builtin Builtin.ObjectAttr
section
variable{prog:l}{w:g}{A:q}{E:bw}{s:B}{K:Frag}{x D:O}{ox:Q}{Uv:Option Q}{name:J}
variable{h:I}{g:Array GenState}{d:Drawn}{t:Nat}{os:OsState}{nm q:J}{C N:O}{bs bm Uw:-L}{MD:Bool}{sn:-J}{sub:-L}{ab:Bool}{col:Option Bool}{dd:Option O}{k0 k1 k2 k3 k5:Option L}{B newId y8:String}
end
end L2
namespace L2
open PySem PySem.Spec PyProof.Rows
section
variable{X:Cx}{pins:aM}{σ:St}{H:Hp}{s:B}{C f:O}{CX:kg}{k:Nat}{fd:FuncData}{ps:-J}{sp:Sp}{E:XK}{x:J}{p pos pos':y}{e o value:M}{es:-M}{ta tv:TE}{t:TA}
end
section
variable{X:Cx}
noncomputable def tJ:V->Option L
 |.ty n=>U (.type n)
 |.ref a=>U (.ref a)
 |_=>Z
theorem ME{y:V}{u c:L}(r:RelV y u)(e:tJ y=U c):u=c:=by
 cases y with
 |ty n=>cases e;exact r
 |ref a=>cases e;exact r
 |_=>cases e
theorem MF:hU X (.builtin "isinstance") (λxs H Q=>∃x y c t b,xs=[x,y]/\tJ y=U c/\eu X.K H x t/\VR X.K t c=U b/\Q (.bl b) H):=by
 ext pins s σ H xs us Q I rv h;let⟨x,y,c,t,b,rfl,hc,ty,e,q⟩:=h;let⟨u,w',rfl,rx,ry⟩:=rv.two;rw[ME ry hc];calc Li I rx ty e λtk=>⟨.bl b,H,I.tok tk,Y,q⟩
end
theorem MG{K:Ee}{a:O}{xs:-V}{g:TG}{tb:TS}{D:Ends}{σ:St}{H:Hp}(Pv:Nat->St->Hp->Prop)(h0:Pv 0 σ H)(hl:∀i σ H,i<=↑xs->Pv i σ H->bP K H a xs)
  (hs:∀i x T σ H,xs[i]?=U x->Pv i σ H->H T=Z->g (.ref T) σ (upd H T (.tup [.int (i:Nat),x])) fun σ2 H2=>tb {D with nx:=Pv (i+1),ct:=Pv (i+1),bk:=D.nx} σ2 H2) (hd:∀σ H,Pv ↑xs σ H->D.nx σ H) :
  ∃W:Nat->Nat->St->Hp->Prop,(∃m,W 0 m σ H)/\∀i m σ H,W i m σ H →
   ((qZ K a).stop i H/\D.nx σ H)\/((qZ K a).go i H/\∃N:St->Hp->Prop,(∀σ' H',N σ' H'->∃m',m'<m/\W (i+1) m' σ' H')/\∀x H',(qZ K a).pF i H x H'->g x σ H' fun σ2 H2=>tb {D with nx:=N,ct:=N,bk:=D.nx} σ2 H2):=by
 calc⟨λi m σ H=>m=↑xs-i/\i<=↑xs/\Pv i σ H,⟨↑xs,by simp,VT _,h0⟩,?_⟩;ext i m σ H ⟨rfl,hi,p⟩;let q:=hl i σ H hi p
 by_cases fG:i<↑xs
 .refine .inr ⟨⟨xs,xs[i],q,by simp[fG]⟩,Pv (i+1),fun σ' H' p'=>⟨↑xs-(i+1),⋯,Y,fG,p'⟩,λx H' y=>?_⟩
  let⟨T,v,rfl,hT,rfl,y⟩:=y;exact hs i v T σ H (y xs q) p hT
 .let e:i=↑xs:=by symm
  subst e;calc .inl ⟨⟨xs,q,yT _⟩,hd σ H p⟩
section
variable{g:TG}{tf:TT}{te:TE}{l:O}{τ0:St}{H0:Hp}{Q:VK}
end
section
variable{X:Cx}{es:-M}{te:TE}{t:TA}
theorem y9{c j p}(ha:JE X (.Constant c j p) te)(hr:JA X es t):JA X (.Constant c j p::es) (oC te t):=jG ha hr Y
theorem p9{x p}(ha:JE X (.Name x p) te)(hr:JA X es t):JA X (.Name x p::es) (oC te t):=jG ha hr Y
theorem mM{f a k p}(ha:JE X (.Call f a k p) te)(hr:JA X es t):JA X (.Call f a k p::es) (oC te t):=jG ha hr Y
theorem y_{a p}(ha:JE X (.List a p) te)(hr:JA X es t):JA X (.List a p::es) (oC te t):=jG ha hr Y
theorem za{a k p}(ha:JE X (.Tuple a k p) te)(hr:JA X es t):JA X (.Tuple a k p::es) (oC te t):=jG ha hr Y
theorem zb{a k p}(ha:JE X (.Subscript a k p) te)(hr:JA X es t):JA X (.Subscript a k p::es) (oC te t):=jG ha hr Y
end
inductive D where
 |non|bl (b:Bool)|int (i:Int)|str (x:J)|tup (xs:-D)|lst (xs:-D)
mutual
def Is (H:Hp):D->V->Prop
 |.non,v=>v=.non
 |.bl b,v=>v=.bl b
 |.int i,v=>v=.int i
 |.str x,v=>v=.str x
 |.tup ds,v=>∃a vs,v=.ref a/\H a=U (.tup vs)/\aj H ds vs
 |.lst ds,v=>∃a vs,v=.ref a/\H a=U (.lst vs)/\aj H ds vs
def aj (H:Hp):-D->-V->Prop
 |[],vs=>vs=[]
 |d::ds,vs=>∃v r,vs=v::r/\Is H d v/\aj H ds r
end
mutual
theorem Is.same {H H':Hp} (s:aN H H'):∀{d:D}{v:V},Is H d v->Is H' d v
 |.non,_,h=>h
 |.bl _,_,h=>h
 |.int _,_,h=>h
 |.str _,_,h=>h
 |.tup _,_,h=>by
  erw[Is] at h ⊢;let⟨a,vs,e,h1,h2⟩:=h;exact⟨a,vs,e,s _ _ h1,aj.same s h2⟩
 |.lst _,_,h=>by
  erw[Is] at h ⊢;let⟨a,vs,e,h1,h2⟩:=h;calc⟨a,vs,e,s _ _ h1,aj.same s h2⟩
theorem aj.same {H H':Hp} (s:aN H H'):∀{d:-D}{v:-V},aj H d v->aj H' d v
 |[],_,h=>h
 |_::_,_,h=>by
  erw[aj] at h ⊢;let⟨v,r,e,h1,h2⟩:=h;calc⟨v,r,e,Is.same s h1,aj.same s h2⟩
end
theorem aj.length{H:Hp}:∀{ds:-D}{vs:-V},aj H ds vs->↑vs=↑ds
 |[],_,h=>by erw[aj] at h;rw[h];rfl
 |_::_,_,h=>by
  erw[aj] at h;let⟨v,r,rfl,_,h2⟩:=h;rw[Eg,Eg,aj.length h2]
theorem aj.get{H:Hp}:∀{ds:-D}{vs:-V}{i:Nat}{v:V},aj H ds vs->vs[i]?=U v->∃d,ds[i]?=U d/\Is H d v
 |[],_,i,v,h,e=>by erw[aj] at h;rw[h] at e;simp at e
 |d::ds,_,i,v,h,e=>by
  erw[aj] at h;let⟨v',r,rfl,h1,h2⟩:=h
  cases i with
  |zero=>simp at e;subst e;exact⟨d,Y,h1⟩
  |succ i=>simp at e;simpa using aj.get h2 e
theorem aj.nil{H:Hp}:aj H [] []:=by erw[aj]
theorem aj.cons{H:Hp}{d:D}{ds:-D}{v:V}{vs:-V}(h:Is H d v)(r:aj H ds vs):aj H (d::ds) (v::vs):=by
 erw[aj];calc⟨v,vs,Y,h,r⟩
theorem aj.snoc{H:Hp}{d:D}{v:V}:∀{ds:-D}{vs:-V},aj H ds vs->Is H d v->aj H (ds++[d]) (vs++[v])
 |[],_,h,q=>by erw[aj] at h;subst h;exact .cons q .nil
 |_::_,_,h,q=>by
  erw[aj] at h;let⟨v',r,rfl,h1,h2⟩:=h;exact .cons h1 (aj.snoc h2 q)
mutual
noncomputable def dep:D->Nat
 |.tup ds=>bB ds+1
 |.lst ds=>bB ds+1
 |_=>0
noncomputable def bB:-D->Nat
 |[]=>0
 |d::ds=>max (dep d) (bB ds)
end
theorem zc:∀{ds:-D}{i:Nat}{d:D},ds[i]?=U d->dep d<=bB ds
 |[],i,d,e=>by simp at e
 |d'::ds,0,d,e=>by simp at e;subst e;erw[bB];exact Nat.le_max_left _ _
 |d'::ds,i+1,d,e=>by simp at e;erw[bB];calc Vo (zc e) (Nat.le_max_right _ _)
noncomputable def cS:D->String
 |.non=>"NoneType" | .bl _=>"bool" | .int _=>"int" | .str _=>"str" | .tup _=>"tuple" | .lst _=>"list"
theorem Is.ty{K:Ee}{H:Hp}:∀{d:D}{v:V},Is H d v->eu K H v (.type (cS d))
 |.non,_,h=>by cases(show _=_ from h);exact .non
 |.bl b,_,h=>by cases(show _=_ from h);exact .bl b
 |.int i,_,h=>by cases(show _=_ from h);exact .int i
 |.str x,_,h=>by cases(show _=_ from h);exact .str x
 |.tup _,_,h=>by
  erw[Is] at h;let⟨a,vs,rfl,h1,_⟩:=h;exact .tup h1
 |.lst _,_,h=>by
  erw[Is] at h;let⟨a,vs,rfl,h1,_⟩:=h;calc .lst h1
noncomputable def bu(T c:String):Bool:=T==c||(T=="bool" && c=="int")
section
variable{K:Ee}
theorem MH:∀T∈["NoneType", "bool", "int", "str", "tuple", "list"],VR K (.type T) (.type "bool")=U (bu T "bool"):=by
 ext T hT;erw[Um,Vf,Xa] at hT;rcases hT with rfl|rfl|rfl|rfl|rfl|rfl<;>kernel_rfl
theorem MI:∀T∈["NoneType", "bool", "int", "str", "tuple", "list"],VR K (.type T) (.type "int")=U (bu T "int"):=by
 ext T hT;erw[Um,Vf,Xa] at hT;rcases hT with rfl|rfl|rfl|rfl|rfl|rfl<;>kernel_rfl
theorem MJ:∀T∈["NoneType", "bool", "int", "str", "tuple", "list"],VR K (.type T) (.type "str")=U (bu T "str"):=by
 ext T hT;erw[Um,Vf,Xa] at hT;rcases hT with rfl|rfl|rfl|rfl|rfl|rfl<;>kernel_rfl
theorem kit_tuple:∀T∈["NoneType", "bool", "int", "str", "tuple", "list"],VR K (.type T) (.type "tuple")=U (bu T "tuple"):=by
 ext T hT;erw[Um,Vf,Xa] at hT;rcases hT with rfl|rfl|rfl|rfl|rfl|rfl<;>kernel_rfl
theorem MK:∀T∈["NoneType", "bool", "int", "str", "tuple", "list"],VR K (.type T) (.type "list")=U (bu T "list"):=by
 ext T hT;erw[Um,Vf,Xa] at hT;rcases hT with rfl|rfl|rfl|rfl|rfl|rfl<;>kernel_rfl
theorem tK(d:D):cS d∈["NoneType", "bool", "int", "str", "tuple", "list"]:=by cases d<;>simp[cS]
end
section
variable{X:Cx}
theorem JE.weak{e:M}{t t':TE}(h:JE X e t)(k:∀σ H Q,t' σ H Q->t σ H Q):JE X e t':=⟨λpins s σ H Q I q=>h pins s σ H Q I (k σ H Q q)⟩
theorem JT.weak{e:M}{t t':TT}(h:JT X e t)(k:∀σ H Q,t' σ H Q->t σ H Q):JT X e t':=⟨λpins s σ H Q I q=>h pins s σ H Q I (k σ H Q q)⟩
theorem JA.weak{es:-M}{t t':TA}(h:JA X es t)(k:∀σ H Q,t' σ H Q->t σ H Q):JA X es t':=⟨λpos pins s σ H Q I q=>h pos pins s σ H Q I (k σ H Q q)⟩
theorem JS.weak{st:R}{t t':TS}(h:JS X st t)(k:∀D σ H,t' D σ H->t D σ H):JS X st t':=⟨λpins s σ H D I q=>h pins s σ H D I (k D σ H q)⟩
theorem dU.weak{st:-R}{t t':TS}(h:dU X st t)(k:∀D σ H,t' D σ H->t D σ H):dU X st t':=⟨λpins s σ H D I q=>h pins s σ H D I (k D σ H q)⟩
end
section
variable{κ:Type}[DecidableEq κ]
noncomputable def eB(kvs:-(κ×V))(k:κ):Option V:=(kvs.find? λkv=>E (kv.1=k)).map (·.2)
noncomputable def putK(kvs:-(κ×V))(k:κ)(v:V):-(κ×V) :=
 if(kvs.any λkv=>E (kv.1=k))=θ then kvs.map (λkv=>if kv.1=k then(kv.1,v) else kv) else kvs++[(k,v)]
theorem vI{p:κ×V}{r:-(κ×V)}{k:κ}(e:p.1=k):eB (p::r) k=U p.2:=by simp[eB,XC,e]
theorem vJ{p:κ×V}{r:-(κ×V)}{k:κ}(e:¬ p.1=k):eB (p::r) k=eB r k:=by simp[eB,XC,e]
theorem Et(k:κ):∀kvs:-(κ×V),(kvs.any λkv=>E (kv.1=k))=(eB kvs k).isSome
 |[]=>Y
 |p::r=>by
  rw[Xj]
  by_cases e:p.1=k
  .erw[vI e,Vk e,q2k,q0l]
  .rw[vJ e,Vd e,Bool.false_or];calc Et k r
theorem Eu(kvs:-(κ×V))(k:κ)(v:V):↑(putK kvs k v)<=↑kvs+1:=by
 unfold putK;split
 .rw[pV];symm
 .rw[Eh,Eg,W9];symm
theorem d_.eU{o:Option V}{u:Option L}(r:d_ o u):o.isSome=u.isSome:=by
 cases o with
 |none=>cases u with
  |none=>rfl
  |some _=>exact(show False from r).elim
 |some _=>cases u with
  |none=>exact(show False from r).elim
  |some _=>rfl
theorem KV.val{kvs:-(κ×V)}{vs:-(κ×L)}(r:KV kvs vs)(k:κ):d_ (eB kvs k) (valueAt vs k):=by
 unfold KV at r
 induction r with
 |nil=>exact Xg
 | @cons p q ps qs h t ih =>
  let⟨h1,h2⟩:=h
  by_cases e:p.1=k
  .let e':q.1=k:=h1.symm.trans e
   let b:valueAt (q::qs) k=U q.2:=by simp[valueAt,XC,e']
   rw[vI e,b];exact h2
  .let e':¬ q.1=k:=λz=>e (h1.trans z)
   let b:valueAt (q::qs) k=valueAt qs k:=by simp[valueAt,XC,e']
   rw[vJ e,b];calc ih
theorem KV.any{kvs:-(κ×V)}{vs:-(κ×L)}(r:KV kvs vs)(k:κ):(kvs.any λkv=>E (kv.1=k))=vs.any λkv=>E (kv.1=k):=by
 unfold KV at r
 induction r with
 |nil=>rfl
 |cons h t ih=>rw[Xj,Xj,ih,h.1]
theorem KV.iW{kvs:-(κ×V)}{vs:-(κ×L)}(r:KV kvs vs)(k:κ){y:V}{u:L}(ry:RelV y u):
  KV (kvs.map λkv=>if kv.1=k then(kv.1,y) else kv) (vs.map λkv=>if kv.1=k then(kv.1,u) else kv):=by
 unfold KV at r ⊢
 induction r with
 |nil=>exact .nil
 | @cons p q ps qs h t ih =>
  rw[Ve,Ve];calc .cons ?_ ih;let⟨h1,h2⟩:=h
  by_cases e:p.1=k
  .rw[U_ e,U_ (h1.symm.trans e)];exact⟨h1,ry⟩
  .rw[U9 e,U9 (λz=>e (h1.trans z))];calc⟨h1,h2⟩
theorem KV.put{kvs:-(κ×V)}{vs:-(κ×L)}(r:KV kvs vs)(k:κ){y:V}{u:L}(ry:RelV y u):KV (putK kvs k y) (stored vs k u):=by
 unfold putK stored;rw[r.any k]
 by_cases e:(vs.any λkv=>E (kv.1=k))=θ
 .rw[U_ e,U_ e];exact r.iW k ry
 .rw[U9 e,U9 e];calc Paired.snoc r ⟨Y,ry⟩
theorem KV.length{kvs:-(κ×V)}{vs:-(κ×L)}(r:KV kvs vs):↑kvs=↑vs:=Z3 r
end
theorem zd{P:l}{w:g}{k:Key}{u:L}(r:RelV (kV k) u):(jD P w).is k u=θ:=by
 cases k with
 |inl i=>let⟨t,e⟩:=(show ∃t,u=XD i t from r);subst e;exact JJ P w i t
 |inr x=>let⟨t,e⟩:=(show ∃t,u=ZU x t from r);subst e;calc JK P w x t
theorem Ew{P:l}{w:g}:∀{ks:-Key}{us:-L},Vals (ks.map kV) us->ItemsAre (jD P w) ks us
 |[],_,r=>by rw[Xc] at r;cases r;exact .nil
 |k::ks,_,r=>by
  rw[Ve] at r
  cases r with
  |cons h t=>calc .cons (zd h) (Ew t)
abbrev KT(H:Hp):-(-Key×V)->-(-Key×O×L)->Prop:=Paired λp q=>p.1=q.1/\H q.2.1=U (.tup (p.1.map kV))/\RelV p.2 q.2.2
theorem KT.val{H:Hp}{kvs:-(-Key×V)}{xs:-(-Key×O×L)}(r:KT H kvs xs)(k:-Key):d_ (eB kvs k) ((atKey xs k).map (·.2)):=by
 induction r with
 |nil=>exact Xg
 | @cons p q ps qs h t ih =>
  let⟨h1,_,h2⟩:=h
  by_cases e:p.1=k
  .let e':q.1=k:=h1.symm.trans e
   let b:atKey (q::qs) k=U q.2:=by simp[atKey,XC,e']
   rw[vI e,b];exact h2
  .let e':¬ q.1=k:=λz=>e (h1.trans z)
   let b:atKey (q::qs) k=atKey qs k:=by simp[atKey,XC,e']
   rw[vJ e,b];calc ih
theorem KT.iW{H:Hp}{kvs:-(-Key×V)}{xs:-(-Key×O×L)}(r:KT H kvs xs)(k:-Key){y:V}{u:L}(ry:RelV y u):
  KT H (kvs.map λkv=>if kv.1=k then(kv.1,y) else kv) (xs.map (putAt k u)):=by
 induction r with
 |nil=>exact .nil
 | @cons p q ps qs h t ih =>
  rw[Ve,Ve];calc .cons ?_ ih;let⟨h1,h2,h3⟩:=h;unfold putAt
  by_cases e:p.1=k
  .rw[U_ e,U_ (h1.symm.trans e)];exact⟨h1,h2,ry⟩
  .rw[U9 e,U9 (λz=>e (h1.trans z))];calc⟨h1,h2,h3⟩
theorem KT.put{H:Hp}{kvs:-(-Key×V)}{xs:-(-Key×O×L)}(r:KT H kvs xs)(k:-Key){b:O}{y:V}{u:L}(hb:H b=U (.tup (k.map kV)))(ry:RelV y u):
  KT H (putK kvs k y) (storedH xs k b u):=by
 let e:(kvs.any λkv=>E (kv.1=k))=(atKey xs k).isSome:=by
  rw[Et,(r.val k).eU,q0K]
 unfold putK storedH;rw[e]
 by_cases q:(atKey xs k).isSome=θ
 .rw[U_ q,U_ q];exact r.iW k ry
 .rw[U9 q,U9 q];calc Paired.snoc r ⟨Y,hb,ry⟩
theorem KT.keeps{H H':Hp}{kvs:-(-Key×V)}{xs:-(-Key×O×L)}(r:KT H kvs xs)(ht:∀b ys,H b=U (.tup ys)->H' b=U (.tup ys)):KT H' kvs xs :=
 Paired.pA r λ_ _ z=>⟨z.1,ht _ _ z.2.1,z.2.2⟩
section
variable{P:l}{w:g}{H:Hp}{h:I}{a:O}
theorem Ex{u:HO}(ok:d7 P w H h)(e:Rd H a u):aZ P w H h a u:=e.ok ok
theorem Ey{kvs:-(Key×V)}(ok:d7 P w H h)(e:Rd H a (.dK kvs)):↑kvs<=sizeLine/\(a==sysModules)=ι/\∃vs,KV kvs vs/\h.DictOf (jD P w) a vs :=
 show aZ P w H h a (.dK kvs) from Ex ok e
theorem ML{kvs:-(Key×V)}(ok:d7 P w H h)(e:H a=U (.dK kvs)):↑kvs<=sizeLine/\(a==sysModules)=ι/\∃vs,KV kvs vs/\h.DictOf (jD P w) a vs:=Ey ok (.inl e)
theorem ze{ks:-Key}(ok:d7 P w H h)(e:H a=U (.tup (ks.map kV))):(tupleKind (jD P w)).is h ks a:=by
 let⟨_,au,r,o,h1,h2,n,h3⟩:=(show aZ P w H h a (.tup (ks.map kV)) from ok a _ e);calc⟨o,au.toArray,n,h1,h2,h3,by simpa using Ew r⟩
theorem Ez{kvs:-(-Key×V)}(ok:d7 P w H h)(e:Rd H a (.dT kvs)):↑kvs<=sizeLine/\(a==sysModules)=ι ∧
  ∃xs,KT H kvs xs/\h.DictOfH (tupleKind (jD P w)) a xs:=by
 let⟨z,y,xs,r,o,es,ep,h1,h2,h3,h4,h5⟩:=(show aZ P w H h a (.dT kvs) from Ex ok e);refine⟨z,y,xs,r,o,es,ep,h1,h2,h3,h4,λx hx=>?_,h5⟩
 let all:∀{l:-(-Key×V)}{m:-(-Key×O×L)},KT H l m->∀x∈m,(tupleKind (jD P w)).is h x.1 x.2.1:=by
  ext l m q
  induction q with
  |nil=>ext x hx;exact nomatch hx
  | @cons p q ps qs hq t ih =>
   ext x hx;rcases Um.mp hx with e|hx
   .subst e
    exact ze ok (by rw[<-hq.1];calc hq.2.1)
   .exact ih x hx
 calc all r x hx
theorem MM{kvs:-(-Key×V)}(ok:d7 P w H h)(e:H a=U (.dT kvs)):↑kvs<=sizeLine/\(a==sysModules)=ι ∧
  ∃xs,KT H kvs xs/\h.DictOfH (tupleKind (jD P w)) a xs:=Ez ok (.inl e)
end
def jK(H:Hp)(a:O)(y:V)(r:Option V):Prop :=
 (∃kvs k,Rd H a (.dK kvs)/\y=kV k/\r=eB kvs k)\/∃kvs k b,Rd H a (.dT kvs)/\y=.ref b/\H b=U (.tup (k.map kV))/\r=eB kvs k
def kP(H:Hp)(a:O)(y v:V)(H':Hp):Prop :=
 (∃kvs k,H a=U (.dK kvs)/\y=kV k/\↑kvs<sizeLine/\H'=upd H a (.dK (putK kvs k v))) ∨
 ∃kvs k b,H a=U (.dT kvs)/\y=.ref b/\H b=U (.tup (k.map kV))/\↑kvs<sizeLine/\H'=upd H a (.dT (putK kvs k v))
theorem jK.k{H:Hp}{a:O}{kvs:-(Key×V)}{k:Key}(e:H a=U (.dK kvs)):jK H a (kV k) (eB kvs k):=.inl ⟨kvs,k,.inl e,Y,Y⟩
theorem kP.k{H:Hp}{a:O}{kvs:-(Key×V)}{k:Key}{v:V}(e:H a=U (.dK kvs))(hl:↑kvs<sizeLine):kP H a (kV k) v (upd H a (.dK (putK kvs k v))):=.inl ⟨kvs,k,e,Y,hl,Y⟩
section
variable{X:Cx}{pins:aM}{σ:St}{H:Hp}{s:B}{a:O}{y v:V}{u r:L}{o:Option V}{A:q}{E:bw}
theorem Inv.big(I:Inv X pins σ H s):sysModules<⇑s:=by
 let h:mainGlobals<⇑s:=(I.mod.glob.keeps I.bk).lt;calc q2e (by decide) h
theorem zf{Q:bw}(hu:A.units+1<cLine)(I:Inv X pins σ H s)(g:jK H a y o)(ry:RelV y u)(h:∀s',Inv X pins σ H s'->Q (.bool o.isSome) s'):
  G (S X.prog X.w) A (compareOp .In u (.ref a)) Q E s:=by
 rcases g with⟨kvs,k,e,ey,l⟩|⟨kvs,k,b,e,ey,eb,l⟩
 .subst ey
  let⟨z,hd,vs,rel,dd⟩:=Ey I.ba e;calc wpAny_in_of (zd ry) hd dd.mapOf ?_;rw[<-(rel.val k).eU,<-l];exact h _ (I.tok _)
 .subst ey
  cases(show u=Vx b from ry)
  let⟨z,hd,xs,rel,dd⟩:=Ez I.ba e;calc wpAny_in_heap (q0m hu) (ze I.ba eb) hd dd ?_;let q:=(rel.val k).eU;rw[q0K] at q;rw[<-q,<-l];calc h _ (I.tok _)
theorem EA{h':Α}{t':Nat}{ob:HO}(I:Inv X pins σ H s)(mu:so (H a))(hs:XN a s.heap h')(he:∃q,h'.get? a=U q)(new:aZ X.prog X.w (upd H a ob) h' a ob):
  Inv X pins σ (upd H a ob) {s with heap:=h',toks:=t'} :=
 I.write (x:=a) (e:=a) mu (.inl Y) (λb q hb z=>(hs.2 b hb).trans z) he new
theorem MN{P:l}{w:g}{H':Hp}{h':I}{kvs:-(Key×V)}{vs:-(Key×L)}(z:↑kvs<=sizeLine)(hd:(a==sysModules)=ι)(rel:KV kvs vs)(dd:h'.DictOf (jD P w) a vs):
  aZ P w H' h' a (.dK kvs):=⟨z,hd,vs,rel,dd⟩
theorem MO{H':Hp}{Q:Unit->B->Prop}(hu:A.units+1<cLine)(I:Inv X pins σ H s)(g:kP H a y v H')(ry:RelV y u)(rv:RelV v r)(h:∀s',Inv X pins σ H' s'->Q () s'):
  G (S X.prog X.w) A (setItem (.ref a) u r) Q E s:=by
 rcases g with⟨kvs,k,e,ey,l,eH⟩|⟨kvs,k,b,e,ey,eb,l,eH⟩
 .subst ey eH
  let⟨z,hd,vs,rel,dd⟩:=ML I.ba e;let hz:↑vs<=sizeLine:=by rw[<-↑rel];exact z
  let hl:↑(putK kvs k v)<=sizeLine:=by let:=Eu kvs k v;symm
  calc wpAny_setItem_pairs (hsz:=hz) (zd ry) dd λh' vK hs=>h _ ?_;let he:∃q,h'.get? a=U q:=let⟨q,_,_,hq,_⟩:=vK;⟨q,hq⟩;exact EA I (by rw[e];calc Xg) hs he (MN hl hd (rel.put k rv) vK)
 .subst ey eH
  cases(show u=Vx b from ry)
  let⟨z,hd,xs,rel,dd⟩:=MM I.ba e;let hz:↑xs<=sizeLine:=by rw[<-Z3 rel];exact z
  let hl:↑(putK kvs k v)<=sizeLine:=by let:=Eu kvs k v;symm
  calc wpAny_setItem_heap (hsz:=hz) (q0m hu) (ze I.ba eb) dd λh' vK hs=>h _ ?_;let⟨q,es,ep,hq,h2,h3,h4,_,h5⟩:=vK;calc EA I (by rw[e];calc Xg) hs ⟨q,hq⟩ ⟨hl,hd,_,(rel.put k eb rv).keeps λc ys ec=>?_,q,es,ep,hq,h2,h3,h4,h5⟩;rw[bf (JL ec e (λz=>nomatch z))];calc ec
end
section
variable{X:Cx}{pins:aM}{σ:St}{H:Hp}{s:B}{a:O}{kvs:-(Key×V)}{k:Key}{u:L}{A:q}{E:bw}
end
def tL(ty td:TE):TE:=fun σ H Q=>ty σ H λy H1=>td σ H1 λx H2=>∃a o,x=.ref a/\jK H2 a y o/\Q (.bl o.isSome) H2
def MP(td ty tv:TE):TS:=λD σ H=>tv σ H λv H1=>td σ H1 λx H2=>ty σ H2 λy H3=>∃a H4,x=.ref a/\kP H3 a y v H4/\D.nx σ H4
section
variable{X:Cx}{o i e value:M}{pos pos' yn:y}{td ty tv:TE}
theorem MQ(hu:X.A.units+1<cLine)(hi:JE X i ty)(ho:JE X o td):JC X .In i o (tL ty td):=by
 calc⟨?_⟩;ext pins s σ H Q I h;calc bE (hi pins s σ H _ I h) λiv s1 ⟨y,H1,I1,ry,q1⟩=>bE (ho pins s1 σ H1 _ I1 q1) λu s2 ⟨x,H2,I2,rx,a,ov,ex,g,q2⟩=>?_;subst ex;obtain rfl:u=Vx a:=rx;calc zf hu I2 g ry λs3 I3=>⟨.bl ov.isSome,H2,I3,Y,q2⟩
theorem MR(hu:X.A.units+1<cLine)(ho:JE X o td)(hi:JE X i ty)(hv:JE X value tv)(hs:swapsWith value (U (.Subscript o i pos')) pos.line X.env=pure ι):
  JS X (.Assign [.Subscript o i pos'] value pos) (MP td ty tv):=by
 calc⟨?_⟩;ext pins s σ H D I h;calc wpAny_Assign_Subscript (bE (hv pins s σ H _ I h) λr s1 ⟨v,H1,I1,rv,q1⟩=>bE (ho pins s1 σ H1 _ I1 q1) λu s2 ⟨x,H2,I2,rx,q2⟩=>bE (hi pins s2 σ H2 _ I2 q2) λiv s3 ⟨y,H3,I3,ry,a,H4,ex,g,q3⟩=>?_) hs;subst ex;obtain rfl:u=Vx a:=rx;calc MO hu I3 g ry rv λs4 I4=>⟨σ,H4,I4,q3⟩
end
theorem MS{P:l}{w:g}{H:Hp}(h:I)(hb:sysModules<h.objs.size):aZ P w H (h.push {cls:=.type "dict",data:=.dict #[]}) h.objs.size (.dK []) :=
 ⟨VT _,Xl.mpr (Xx (U8 hb)),[],.nil,Heap.DictOf.new h⟩
def MT:TE:=λ_ H Q=>∀p,H p=Z->Q (.ref p) (upd H p (.dK []))
section
variable{X:Cx}{pos:y}
theorem kQ:JE X (.Dict [] [] pos) MT:=⟨λpins s σ H Q I h =>
 wpAny_Dict_empty ⟨.ref ⇑s,_,I.laid (a:=s.heap.objs.size) (o:=.dK []) (t':=s.toks) (λ_ _ q=>vB _ q) (yT _) (MS s.heap I.big),Y,h _ (I.ba.fresh (yT _))⟩⟩
end
section
variable{X:Cx}{pins:aM}{σ:St}{H:Hp}{s:B}{a:O}{y d:V}{u r:L}{o:Option V}{A:q}{E:bw}
end
section
variable{X:Cx}{o e f:M}{apos gq:y}{td ty tx:TE}
end
section
variable{X:Cx}{pins:aM}{σ:St}{H:Hp}{s:B}{a:O}{kvs:-(Key×V)}{A:q}{E:bw}
end
section
variable{X:Cx}{pins:aM}{σ:St}{H:Hp}{s:B}{a:O}{y:V}{u:L}{A:q}{E:bw}
end
end L2
namespace L2
section
variable{κ:Type}[DecidableEq κ]
end
end L2
namespace L2
open PySem PySem.Spec PyProof.Rows
end L2
namespace LJS
open PySem
noncomputable def hp(i j:Int):Int:=reduceHash (Builtin.Tuple.tupleHashOf [hashInt i,hashInt j])
theorem EB{prog:l}{w:g}(i j:Int):hT prog w [i,j]=hp i j:=rfl
noncomputable def vL:-(Int×Int):=(Vp 12).flatMap λj=>(Vp j).map λi:Nat=>(q03 i,q03 j)
theorem MU:∀a∈vL,∀b∈vL,hp a.1 a.2=hp b.1 b.2->a=b:=by decide +kernel
theorem EC{i j:Int}(h0:0<=i)(h1:i<j)(h2:j<12):(i,j)∈vL:=by
 let⟨a,rfl⟩:∃a:Nat,i=a:=⟨i.toNat,⋯⟩;let⟨b,rfl⟩:∃b:Nat,j=b:=⟨j.toNat,⋯⟩;unfold vL;calc List.mem_flatMap.mpr ⟨b,VP.mpr ⋯,Vh.mpr ⟨a,VP.mpr ⋯,Y⟩⟩
end LJS
namespace L2
open PySem PySem.Spec PyProof.Rows
noncomputable def kR(S:O)(n:Nat):HO:=.ext λh=>∃hs:-Int,↑hs=n/\LJS.fK h S hs
theorem MV{P:l}{w:g}{H:Hp}{h:I}{S:O}{hs:-Int}{n:Nat}(e:LJS.fK h S hs)(hn:↑hs=n):aZ P w H h S (kR S n) :=
 ⟨⟨hs,hn,e⟩,let⟨o,_,_,_,ho,_⟩:=e;⟨o,ho⟩,λh1 h2 ⟨vM,en,e1⟩ k↦⟨vM,en,LJS.xH e1 λo eo=>k o eo⟩⟩
section
variable{X:Cx}
theorem ED:∀{ps:-O}{au:-L},Vals (ps.map V.ref) au->au=ps.map Vx
 |[],_,.nil=>Y
 |_::_,_,.cons r rs=>by cases r;rw[ED rs];rfl
theorem MW(hc:X.calm=θ)(hu:X.A.units+64<cLine):hU X (.type "set") (λxs H Q=>∃(l:O)(ps:-O)(ks:-(Int×Int)),xs=[.ref l]/\bP X.K H l (ps.map V.ref)/\↑ps=↑ks ∧
  (∀(i:Nat)(a:O)(k:Int×Int),ps[i]?=U a->ks[i]?=U k->H a=U (.tup [.int k.1,.int k.2]))/\(∀k∈ks,0<=k.1/\k.1<k.2/\k.2<12)/\ks.Nodup/\↑ks<=30/\∀p,H p=Z->Q (.ref p) (upd H p (kR p ↑ks))):=by
 ext pins s σ H xs us Q I r h;let⟨l,ps,ks,rfl,hq,hl,eQ,bd,mN,fq,q⟩:=h;let⟨u,rfl,rx⟩:=vals1 r;cases rx
 let⟨au,r',pl,_⟩:=I.list hq;obtain rfl:=ED r';let sz:(ps.map Vx).toArray.size=↑ks:=by rw[Ef,pV,hl]
 let p_:∀i,i<↑ks->∃k,ks[i]?=U k/\ks.getD i (0,0)=k:=λi hi=>⟨ks[i],pU hi,by rw[Mg,pU hi];rfl⟩;let zg:∀i,i<↑ks->∃a,ps[i]?=U a/\ps.getD i 0=a:=λi hi=>⟨ps[i]'(by rw[hl];calc hi),pU (by rw[hl];calc hi),by rw[Mg,pU (by rw[hl];calc hi)];rfl⟩;refine LJS.Jq (λi=>ps.getD i 0) (λi=>[(ks.getD i (0,0)).1,(ks.getD i (0,0)).2]) (I.ok.hd hc) ⋯ pl.isList (λi v hv=>?_) (λi hi=>?_) (λi j hi hj=>?_) (by rw[sz];calc fq) λh' tk se kp=>?_
 .rw[XF,My] at hv
  let⟨a,ea,rfl⟩:=Va.mp hv;rw[Mg,ea];rfl
 .rw[sz] at hi
  let⟨k,ek,dk⟩:=p_ i hi;let⟨a,ea,da⟩:=zg i hi;show IsTupleKey _ _ [(ks.getD i (0,0)).1,(ks.getD i (0,0)).2] (ps.getD i 0);rw[dk,da];let⟨_,bH,r2,o,ho,oN,n,hd⟩:=I.ba a _ (eQ i a k ea ek)
  cases r2 with
  |cons ra rr =>
   cases rr with
   |cons rb rn =>
    cases rn
    let⟨t1,rfl⟩:=ra;let⟨t2,rfl⟩:=rb;exact⟨o,_,n,ho,oN,hd,.cons (intKind_is ..) (.cons (intKind_is ..) .nil)⟩
 .rw[sz] at hi
  let⟨k,ek,dk⟩:=p_ i hi;let⟨k',zh,MX⟩:=p_ j ⋯;show LJS.hT _ _ [(ks.getD j (0,0)).1,(ks.getD j (0,0)).2]≠LJS.hT _ _ [(ks.getD i (0,0)).1,(ks.getD i (0,0)).2];rw[dk,MX,LJS.EB,LJS.EB];ext z;let b1:=bd k (Ur.mpr ⟨i,ek⟩);let b2:=bd k' (Ur.mpr ⟨j,zh⟩);let e:=LJS.MU (k'.1,k'.2) (LJS.EC b2.1 b2.2.1 b2.2.2) (k.1,k.2) (LJS.EC b1.1 b1.2.1 b1.2.2) z;let e':k'=k:=e;rw[e'] at zh;let⟨MY,MZ⟩:=qW.mp zh;let⟨gD,M0⟩:=qW.mp ek;let:=(Yr (h₀:=MY) (h₁:=gD) mN).mp (by rw[MZ,M0]);symm
 .calc⟨.ref ⇑s,upd H ⇑s (kR ⇑s ↑ks),I.laid (t':=tk) (λb o e=>kp b o (Me e) e) (yT _) (MV se (by rw[pV,VG,sz])),Y,q _ (I.ba.fresh (yT _))⟩
theorem M1:hU X (.builtin "len") (λxs H Q=>∃(p:O)(n:Nat),xs=[.ref p]/\H p=U (kR p n)/\n<1000/\Q (.int n) H):=by
 ext pins s σ H xs us Q I r h;let⟨p,n,rfl,hp,hn,q⟩:=h;let⟨u,rfl,rx⟩:=vals1 r;cases rx
 let⟨⟨hs,hl,o,es,ep,t,ho,hex,hd,T⟩,_⟩:=I.ba p _ hp;let e:es.size=n:=by rw[T.num,hl]
 calc call_len_set ho hex hd T.fits ⋯ ⟨.int n,H,I.tok _,⟨_,by rw[e]⟩,q⟩
theorem EE:∀{bs:-Bool}{au:-L},Vals (bs.map V.bl) au->au=bs.map XJ
 |[],_,.nil=>Y
 |_::_,_,.cons r rs=>by cases r;rw[EE rs];rfl
theorem all_range(bs:-Bool):(Vp bs.length).all (λi=>bs.getD i θ)=bs.all id:=by
 rw[Bool.eq_iff_iff,Wk,Wk]
 constructor
 .ext h b hb
  let⟨i,hi⟩:=Ur.mp hb;let hl:=(qW.mp hi).1;let:=h i (VP.mpr hl);rw[Mg,hi] at this;exact this
 .ext h i hi
  let hl:=VP.mp hi;rw[Mg,pU hl];calc h _ (Wx hl)
theorem M3(hc:X.calm=θ):hU X (.builtin "all") (λxs H Q=>∃(l:O)(bs:-Bool),xs=[.ref l]/\bP X.K H l (bs.map V.bl)/\Q (.bl (bs.all id)) H):=by
 ext pins s σ H xs us Q I r h;let⟨l,bs,rfl,hq,q⟩:=h;let⟨u,rfl,rx⟩:=vals1 r;cases rx
 let⟨au,r',pl,_⟩:=I.list hq;obtain rfl:=EE r';let hL:=pl.isList;let ll:l<⇑s:=by let⟨o,e,_⟩:=hL;exact Me e
 let nI:l≠⇑s:=U8 ll;calc call_all_walk (W_ hL ?_);refine⟨⇑s,_,_,_,_,_,λi=>bs.getD i θ,Y,q0e (by rw[Wz];calc I.ok.hd hc) ⇑s l nI _,⟨⟨_,Uo _ Y,Y,Y⟩,hL.push _⟩,λi v s' Q' E' hv vN=>?_,λh' tk kp=>?_⟩
 .let hv:(bs.map XJ).toArray[i]?=U v:=hv
  let vN:Q' (bs.getD i θ) s':=vN;rw[XF,My] at hv;let⟨b,eb,rfl⟩:=Va.mp hv;rw[Mg,eb] at vN;exact WH vN
 .refine⟨.bl (bs.all id),H,I.kept (t':=tk) λb o e=>kp b o (λz=>?_) (vB _ e),?_,q⟩
  .let:=Me e
   rw[Vu.mp z] at this;exact Wo _ this
  .show XJ _=XJ _
   rw[Ef,pV,all_range]
end
end L2
namespace LJ
open PySem L2
structure Fn(P:l)(w:g)(K:Ee)(mg:J->Option L)(base:I)(k:Nat)(x:J)(ps:-J)(sp:Sp)(f:O)(fd:FuncData):Prop where
 ok:bY P w K mg base eM k f fd ps sp
 vO:mg x=U (.ref f)
 kp:V6 K (.ref f)=θ
 bd:Binds K fd ps []
theorem tM:bootBuiltins "bool" = U (.type "bool"):=by decide +kernel
theorem zi:bootBuiltins "int" = U (.type "int"):=by decide +kernel
theorem EF:bootBuiltins "str" = U (.type "str"):=by decide +kernel
theorem vP:bootBuiltins "tuple" = U (.type "tuple"):=by decide +kernel
theorem tN:bootBuiltins "list" = U (.type "list"):=by decide +kernel
theorem M4:bootBuiltins "set" = U (.type "set"):=by decide +kernel
theorem M5:bootBuiltins "all" = U (.builtin "all"):=by decide +kernel
section
variable{K:Ee}
end
structure bz(many:Int)(ys:-(Int×Int×Int)):Prop where
 m1:1<=many
 lR:many<=12
 fq:↑ys<=30
 ends:∀y∈ys,0<=y.1/\y.1<y.2.1/\y.2.1<many/\0<=y.2.2/\y.2.2<=1000000000
 unlike:(ys.map λy=>(y.1,y.2.1)).Nodup
end LJ
namespace L2
open PySem PySem.Spec PyProof.Rows
section
variable{X:Cx}
end
end L2
namespace LJ
open PySem L2
noncomputable def jk:Nat->-(Int×Int)
 |0=>[]
 |n+1=>jk n++(Vp n).map λa:Nat=>(q03 a,q03 n)
theorem zj:∀{n:Nat}{k:Int×Int},k∈jk n->0<=k.1/\k.1<k.2/\k.2<n
 |0,_,h=>nomatch h
 |n+1,k,h=>by
  rcases Vs.mp h with h|h
  .let:=zj h;symm
  .let⟨a,ha,rfl⟩:=Vh.mp h
   let:=VP.mp ha;refine⟨Int.natCast_nonneg a,?_,?_⟩
   .show (a:Int)<(n:Int);symm
   .show (n:Int)<((n+1:Nat):Int);symm
theorem EG:∀n:Nat,(jk n).Nodup
 |0=>List.nodup_nil
 |n+1=>by
  refine Yh.mpr ⟨EG n,?_,λk h1 k' h2 e=>?_⟩
  .refine Xf.mpr (Yp.imp λ{a b} ne e=>ne ?_)
   exact Z6 (congrArg q3d e)
  .subst e
   let⟨a,ha,rfl⟩:=Vh.mp h2;let:=(zj h1).2.2;let:(n:Int)<(n:Int):=this;symm
theorem EH:∀n:Nat,n<=12->↑(jk n)<=66:=by
 ext n h;rcases n with _|_|_|_|_|_|_|_|_|_|_|_|_|n
 all_goals first|decide|symm
end LJ
namespace LJ
open PySem
theorem M6{j n:Nat}(h:j<n):seqIndex? (j:Int) n=U j:=by
 unfold seqIndex?
 first|(simp;symm)|skip
end LJ
namespace L2
open PySem PySem.Spec PyProof.Rows
section
variable{X:Cx}
theorem EI:hU X (.type "range") (λxs H Q=>∃j:Int,xs=[.int j]/\∀r,H r=Z->Q (.ref r) (upd H r (.rng 0 j))):=by
 ext pins s σ H xs us Q I r h;let⟨j,rfl,q⟩:=h;let⟨u,rfl,t,rfl⟩:=vals1 r;calc call_range_1 ⟨.ref ⇑s,_,I.laid (t':=s.toks+1+1) (o:=.rng 0 j) (λb o e=>vB _ e) (yT _) ?_,Y,q _ (I.ba.fresh (yT _))⟩;calc⟨_,_,_,Uo _ Y⟩
noncomputable def bX(n:Nat):-Int:=(Vp n).map λa:Nat=>(a:Int)
theorem zk:∀{ns:-Int}{us:-L},↑us=↑ns->(∀(i:Nat)(u:L),us[i]?=U u->∃t,u=.int (ns.getD i 0) t)->Vals (ns.map V.int) us
 |[],[],_,_=>.nil
 |[],_::_,h,_=>by simp at h
 |_::_,[],h,_=>by simp at h
 |n::ns,u::us,h,g=>by
  let⟨t,e⟩:=g 0 u Y;calc .cons ⟨t,e⟩ (zk h⁻¹ λi v e2=>?_);let⟨t,e⟩:=g (i+1) v e2⁻¹;calc⟨t,by simpa using e⟩
theorem M7(hc:X.calm=θ):hU X (.type "list") (λxs H Q=>∃(r:O)(n:Nat),xs=[.ref r]/\H r=U (.rng 0 (n:Int))/\n<=1000/\∀l,H l=Z->Q (.ref l) (upd H l (.lst ((bX n).map V.int)))):=by
 ext pins s σ H xs us Q I r h;let⟨a,n,rfl,ha,hn,q⟩:=h;let⟨u,rfl,rx⟩:=vals1 r;cases rx
 let⟨t,u,v,e⟩:=(show ∃t u v,s.heap.get? a=U {cls:=.type "range",data:=.fields #[.int 0 t,.int (n:Int) u,.int 1 v]} from I.ba a _ ha);let hs:Xq 0 (n:Int) 1=n:=by rw[Z4];split<;>symm
 calc call_list_range (n:=n) (I.ok.hd hc) e (q13 ⋯ ⋯ ⋯ ⋯) hs ⋯ λh' tk acc c' kp e' it=>?_;calc⟨.ref ⇑s,_,I.laid (t':=tk) (o:=.lst ((bX n).map V.int)) kp (yT _) ?_,Y,q _ (I.ba.fresh (yT _))⟩;calc⟨WB (pX (by rw[pV,bX,pV,VG];calc hn)),acc.toList,c',?_,by simpa using e'⟩;refine zk ?_ λi u e=>?_
 .rw[Vb,it.1,bX,pV,VG]
 .rw[Vz] at e
  let⟨t',e2⟩:=it.2 i u e;let hi:i<n:=by rw[<-it.1];exact(XH.mp e).1
  calc⟨t',e2.trans ?_⟩;rw[bX,Mg,My,Xk hi];show XD (0+(i:Int)*1) t'=XD (i:Int) t';rw[q0L,q1b]
theorem zm:∀(ns:-Int)(j:Nat),j<=↑ns->q2l (λi=>ns.getD i 0) j=(ns.take j).sum
 |ns,0,_=>by rw[Yi];rfl
 |ns,j+1,h=>by
  show q2l _ j+ns.getD j 0=_;let hj:j<↑ns:=by symm
  rw[zm ns j ⋯,q0M,pU hj,Mg,pU hj,List.sum_append];simp
theorem EJ:∀{ns:-Int},(∀x∈ns,0<=x/\x<=1000000000)->0<=ns.sum/\ns.sum<=↑ns*1000000000
 |[],_=>by simp
 |n::ns,h=>by
  let ih:=EJ λx hx=>h x (Us _ hx);let:=h n (Vc ..);rw[List.sum_cons,Eg];symm
theorem M8(hc:X.calm=θ):hU X (.builtin "sum") (λxs H Q=>∃(l:O)(ns:-Int),xs=[.ref l]/\bP X.K H l (ns.map V.int)/\(∀x∈ns,0<=x/\x<=1000000000)/\↑ns<=1000/\Q (.int ns.sum) H):=by
 ext pins s σ H xs us Q I r h;let⟨l,ns,rfl,hq,bd,EK,q⟩:=h;let⟨u,rfl,rx⟩:=vals1 r;cases rx
 let⟨au,r',pl,_⟩:=I.list hq;let hl:=↑r';rw[pV] at hl;let hL:=pl.isList;let ll:l<⇑s:=by let⟨o,e,_⟩:=hL;exact Me e
 let nI:l≠⇑s:=U8 ll;let sz:au.toArray.size=↑ns:=by rw[Ef];exact hl.symm
 calc call_sum_walk (W_ hL ?_);refine⟨⇑s,_,_,_,_,_,λi=>ns.getD i 0,Y,q0e (by rw[Wz];calc I.ok.hd hc) ⇑s l nI _,⟨⟨_,Uo _ Y,Y,Y⟩,hL.push _⟩,λb hb=>?_,λi v hv=>?_,λj hj=>?_,λh' tk t' kp=>?_⟩
 .erw[Um,Vf,Xa] at hb
  rw[VQ];rcases hb with e|e
  .rw[e];exact Xn _
  .rw[e];exact Wa ll
 .let hv:au.toArray[i]?=U v:=hv
  rw[XF] at hv;let hi:i<↑ns:=by rw[hl];exact(qW.mp hv).1
  let⟨u,e1,t,e2⟩:=r'.get (x:=V.int (ns.getD i 0)) (i:=i) (by rw[My,pU hi,Mg,pU hi];rfl);rw[hv] at e1;cases e1
  exact⟨t,e2⟩
 .rw[sz] at hj
  let a1:=bd _ (Wx hj);let e1:ns.getD j 0=ns[j]:=by rw[Mg,pU hj];rfl
  let a2:=EJ (ns:=ns.take (j+1)) λx hx=>bd x (Yx hx);let a3:↑(ns.take (j+1))<=1000:=by rw[Vn];symm
  rw[zm ns (j+1) ⋯];show InLong (ns.getD j 0)/\_;rw[e1];refine⟨⟨⋯,⋯⟩,⟨⋯,⋯⟩⟩
 .refine⟨.int ns.sum,H,I.kept (t':=tk) λb o e=>kp b o (λz=>?_) (vB _ e),⟨t',?_⟩,q⟩
  .let:=Me e
   rw[Vu.mp z] at this;exact Wo _ this
  .rw[sz,zm ns ↑ns (yT _),VO (yT _)]
theorem EL:∀{us:-L}{ns:-Int},IntsAre us ns->Vals (ns.map V.int) us
 |_,_,.nil=>.nil
 |_,_,.cons n t r=>.cons ⟨t,Y⟩ (EL r)
theorem EM:hU X (.builtin "sorted") (λxs H Q=>∃(l:O)(ns:-Int),xs=[.ref l]/\bP X.K H l (ns.map V.int)/\↑ns<64/\∀(r:O)(bU:-Int),bU.Perm ns->bU.Pairwise (· <= ·)->H r=Z->Q (.ref r) (upd H r (.lst (bU.map V.int)))):=by
 ext pins s σ H xs us Q I r h;let⟨l,ns,rfl,hq,oO,q⟩:=h;let⟨u,rfl,rx⟩:=vals1 r;cases rx
 let⟨au,r',pl,_⟩:=I.list hq;let hl:=↑r';rw[pV] at hl;calc sorted_ints pl.isList (intsAre_of r')⁻¹ ⋯ λout bU hI pm pw=>?_;let hf:H (⇑s+1)=Z:=I.ba.fresh (Yy _);let⟨e,he⟩:=sortedAll_at s.heap au out;calc⟨.ref (⇑s+1),_,I.laid (t':=s.toks) (o:=.lst (bU.map V.int)) (λb o e=>sortedAll_old e) (Yy _) ?_,Y,q _ bU pm pw hf⟩;calc⟨WB (pX (by rw[pV,pm.length_eq];symm)),out.toList,e,EL hI,?_⟩;simpa[seqObj] using he
theorem EN{prog:ψ}{w:ω}{A:q}{E:bw}{I l:O}{items:Array L}(W:Walks prog w A I [I,l] [I] items.size (λi v=>items[i]?=U v) (λi h=>h.IsListIter I l i/\h.IsList l items)):
  ∀(k i:Nat)(s:B)(Q:-L->B->Prop),i+k<=items.size->(s.heap.IsListIter I l i/\s.heap.IsList l items) →
   (∀h' tk,(h'.IsListIter I l (i+k)/\h'.IsList l items)->(∀b o,b∉[I]->s.heap.get? b=U o->h'.get? b=U o)->Q ((items.toList.drop i).take k) {s with heap:=h',toks:=tk})->G (S prog w) A (draw (.ref I) k) Q E s
 |0,i,s,Q,_,st,g=>by
  show G _ _ (pure []) Q E s;calc Md ?_;let:=g s.heap s.toks st λ_ _ _ e=>e;rw[Yi] at this;exact this
 |k+1,i,s,Q,hk,st,g=>by
  let hi:i<items.size:=by symm
  show G _ _ (pyNext (.ref I) >>= _) Q E s;calc s_ (W.item i s _ _ hi st λv h1 ot hv lN zo=>?_);refine s_ (VH (EN W k (i+1) _ _ ⋯ lN λh2 zp kI zq=>Md ?_))
  let e:items.toList.drop i=v::items.toList.drop (i+1):=by
   rw[Wu (by rw[Vb];calc hi)];congr 1;let vn:items[i]?=U v:=hv;rw[Wt hi] at vn;simpa using vn
  let:=g h2 zp (by rw[show i+(k+1)=i+1+k by symm];calc kI) λb o hb e=>zq b o hb (zo b o hb e);rw[e,ZY] at this;calc this
theorem M9{prog:ψ}{w:ω}{A:q}{E:bw}{s:B}{l:O}{items:Array L}{Q:-L->B->Prop}(hh:A.handled=Z)(hl:s.heap.IsList l items)
  (g:∀h' tk,(∀b o,b≠⇑s->s.heap.get? b=U o->h'.get? b=U o)->Q items.toList {s with heap:=h',toks:=tk}):G (S prog w) A (unpackItems (.ref l) items.size Z) Q E s:=by
 let ll:l<⇑s:=by let⟨o,e,_⟩:=hl;exact Me e
 let W:=q0e (prog:=prog) (w:=w) hh ⇑s l (U8 ll) items;unfold unpackItems;calc s_ ?_;unfold notIterableAtAll;calc s_ (q1g hl.typeIs slot_list_iter.lookup (Md ?_));erw[VL,Xo];calc s_ (VH (W_ hl ?_));calc s_ (VH (EN W items.size 0 _ _ ⋯ ⟨⟨_,Uo _ Y,Y,Y⟩,hl.push _⟩ λh1 ot lN zo=>?_));rw[YV,VO (by rw[Vb];calc yT _),U9 (by rw[Vb];calc Wo _)];rw[VJ] at lN;calc s_ (VH (W.done _ _ _ lN λh2 zp zq=>?_));erw[Option.isSome_none,VL,Xo];calc Md (g h2 zp λb o hb e=>zq b o hb⁻¹ (zo b o hb⁻¹ (vB _ e)))
def M_(K:Ee)(n:Nat)(t:ke):TG:=λv σ H Q=>∃a xs,v=.ref a/\bP K H a xs/\↑xs=n/\t xs σ H Q
theorem Na{es:-M}{k:Nat}{t:ke}{n:Nat}{pos:y}(hc:X.calm=θ)(h:jf X es t)
  (hn:↑(assignEach es X.env)=n:=by rfl) (iP:(assignEach es X.env).findIdx? (·.1)=Z:=by rfl):JG X (.Tuple es k pos) (M_ X.K n t):=by
 calc⟨?_⟩;ext pins s σ H v u Q I r hw;let⟨a,xs,e1,hq,hl,hw⟩:=hw;subst e1;cases r
 let⟨au,rv,ht,hz⟩:=I.list hq;let hlen:=↑rv;rw[assign_Tuple];calc s_ (Yt ?_);unfold unpack;rw[iP,show↑(assignEach es X.env)=au.toArray.size by rw[hn,<-hl,hlen];simp];calc s_ (VH (M9 (I.ok.hd hc) ht.isList λh' tk kp=>?_));let I1:Inv X pins σ H {s with heap:=h',toks:=tk}:=I.kept λb o e=>kp b o (U8 (Me e)) e;calc h pins _ σ H xs _ Q I1 rv⁻¹ hw
end
section
variable{X:Cx}{e:M}{te:TE}{pos p2 p3 p4:y}
end
inductive FV where
 |p (d:D)|w (a:O)
inductive DV where
 |p (d:D)|o (k:Nat)|t (d:D) (k:Nat)|w (a:O)|u (t:Bool) (fs:-FV)
noncomputable def FV.v:FV->DV
 |.p d=>.p d
 |.w a=>.w a
inductive OV where
 |lst (ds:-D)|dct (kvs:-(Key×D))|dtt (kvs:-(-Int×Int))
 |al (a:O) (ds:-D)|ac (a:O) (kvs:-(Key×D))|ins (a C:O) (fs:-(J×FV))|av (a:O) (kvs:-(Key×FV))
structure aG where
 sl:-(Option DV)
 mu:-(Option OV)
def fc{κ α:Type}(R:α->V->Prop):-(κ×α)->-(κ×V)->Prop
 |[],ws=>ws=[]
 |kd::r,ws=>∃v t,ws=(kd.1,v)::t/\R kd.2 v/\fc R r t
def iH(F:Hp):FV->V->Prop
 |.p d,v=>Is F d v
 |.w a,v=>v=.ref a
abbrev vQ(F:Hp):-(Key×D)->-(Key×V)->Prop:=fc (Is F)
abbrev oP(F:Hp){κ:Type}:-(κ×FV)->-(κ×V)->Prop:=fc (iH F)
theorem fc.mono{κ α:Type}{R R':α->V->Prop}(s:∀a v,R a v->R' a v):∀{ks:-(κ×α)}{ws:-(κ×V)},fc R ks ws->fc R' ks ws
 |[],_,h=>h
 |_::_,_,⟨v,t,e,h1,h2⟩=>⟨v,t,e,s _ _ h1,fc.mono s h2⟩
theorem iH.same{F F':Hp}(s:aN F F'):∀(f:FV)(v:V),iH F f v->iH F' f v
 |.p _,_,h=>Is.same s h
 |.w _,_,h=>h
def eN(F:Hp)(a:O):OV->HO->Prop
 |.lst ds,o=>∃vs,o=.lst vs/\aj F ds vs
 |.dct kvs,o=>∃ws,o=.dK ws/\vQ F kvs ws
 |.dtt kvs,o=>o=.dT (kvs.map λp=>(p.1.map Y0,V.int p.2))
 |.al b ds,o=>b=a/\∃vs,o=.lst vs/\aj F ds vs
 |.ac b kvs,o=>b=a/\∃ws,o=.dK ws/\vQ F kvs ws
 |.ins b C fs,o=>b=a/\∃dx ws,o=.ins C dx ws/\oP F fs ws
 |.av b kvs,o=>b=a/\∃ws,o=.dK ws/\oP F kvs ws
theorem eN.same{F F':Hp}{a:O}(s:aN F F'):∀{ov:OV}{o:HO},eN F a ov o->eN F' a ov o
 |.lst _,_,⟨vs,e,h⟩=>⟨vs,e,h.same s⟩
 |.dct _,_,⟨ws,e,h⟩=>⟨ws,e,h.mono λ_ _=>Is.same s⟩
 |.dtt _,_,e=>e
 |.al _ _,_,⟨z,vs,e,h⟩=>⟨z,vs,e,h.same s⟩
 |.ac _ _,_,⟨z,ws,e,h⟩=>⟨z,ws,e,h.mono λ_ _=>Is.same s⟩
 |.ins _ _ _,_,⟨z,dx,ws,e,h⟩=>⟨z,dx,ws,e,h.mono (iH.same s)⟩
 |.av _ _,_,⟨z,ws,e,h⟩=>⟨z,ws,e,h.mono (iH.same s)⟩
noncomputable def mO:Bool->-V->HO
 |true,us=>.tup us
 |false,us=>.lst us
def cw(F:Hp):-FV->-V->Prop
 |[],us=>us=[]
 |f::r,us=>∃v t,us=v::t/\iH F f v/\cw F r t
theorem cw.same{F F':Hp}(s:aN F F'):∀{fs:-FV}{us:-V},cw F fs us->cw F' fs us
 |[],_,h=>h
 |_::_,_,⟨v,t,e,h1,h2⟩=>⟨v,t,e,iH.same s _ _ h1,cw.same s h2⟩
def dB(F:Hp)(ad:-O):DV->V->Prop
 |.p d,v=>Is F d v
 |.o k,v=>∃a,ad[k]?=U a/\v=.ref a
 |.w a,v=>v=.ref a
 |.u t fs,v=>∃b us,v=.ref b/\F b=U (mO t us)/\cw F fs us
 |.t d k,v=>∃a b u,v=.ref a/\F a=U (.tup [u,.ref b])/\Is F d u/\ad[k]?=U b
def Lv(ad:-O)(mu:-(Option OV))(a:O):Prop:=∃(k:Nat)(ov:OV),ad[k]?=U a/\mu[k]?=U (U ov)
class aV where
 ad:-O
 ok:Hp->Prop
 same:∀{H H':Hp},ok H->aN H H'->ok H'
 put:∀{H:Hp}{a:O}{o o':HO},ok H->H a=U o->((∃vs,o=.lst vs)\/(∃ws,o=.dK ws)\/(∃ws,o=.dT ws)\/∃C dx ws,o=.ins C dx ws)->ok (upd H a o')
 tb:∀{H:Hp}{a:O},ok H->a∈ad->∃ps,H a=U (.tbl ps)
 cs:Hp
 ct:∀{a:O}{o:HO},cs a=U o->∃vs,o=.tup vs
 co:∀{H:Hp},ok H->aN cs H
theorem eN.kd{F:Hp}{a:O}:∀{ov:OV}{o:HO},eN F a ov o->(∃vs,o=.lst vs)\/(∃ws,o=.dK ws)\/(∃ws,o=.dT ws)\/∃C dx ws,o=.ins C dx ws
 |.lst _,_,⟨vs,e,_⟩=>.inl ⟨vs,e⟩
 |.dct _,_,⟨ws,e,_⟩=>.inr (.inl ⟨ws,e⟩)
 |.dtt _,_,e=>.inr (.inr (.inl ⟨_,e⟩))
 |.al _ _,_,⟨_,vs,e,_⟩=>.inl ⟨vs,e⟩
 |.ac _ _,_,⟨_,ws,e,_⟩=>.inr (.inl ⟨ws,e⟩)
 |.av _ _,_,⟨_,ws,e,_⟩=>.inr (.inl ⟨ws,e⟩)
 |.ins _ _ _,_,⟨_,dx,ws,e,_⟩=>.inr (.inr (.inr ⟨_,dx,ws,e⟩))
theorem eN.kind{F:Hp}{a:O}{ov:OV}{o:HO}(h:eN F a ov o)(ps:Array L)(z:o=.tbl ps):False:=by
 rcases h.kd with⟨_,e⟩|⟨_,e⟩|⟨_,e⟩|⟨_,_,_,e⟩<;>rw[e] at z<;>cases z
variable[aV]
structure NT(F:Hp):Prop where
 no:∀a∈aV.ad,F a=Z
 cs:aN aV.cs F
instance {F:Hp}:CoeFun (NT F) λ_=>∀a∈aV.ad,F a=Z:=⟨NT.no⟩
theorem NT.up{F F':Hp}(h:NT F)(s:aN F F')(n:∀a∈aV.ad,F' a=Z):NT F':=⟨n,λa o e=>s a o (h.cs a o e)⟩
structure SR(F:Hp)(ad:-O)(δ:aG)(σ:St)(H:Hp):Prop where
 sub:aN F H
 off:∀a,Lv ad δ.mu a->F a=Z
 cD:↑ad=↑δ.mu
 inj:∀(k l:Nat)(a:O)(ov ow:OV),ad[k]?=U a->ad[l]?=U a->δ.mu[k]?=U (U ov)->δ.mu[l]?=U (U ow)->k=l
 mu:∀(k:Nat)(ov:OV),δ.mu[k]?=U (U ov)->∃a o,ad[k]?=U a/\H a=U o/\eN F a ov o
 sl:∀(i:Nat)(x:DV),δ.sl[i]?=U (U x)->∃v,σ[i]?=U (U v)/\dB F ad x v
 len:↑σ=↑δ.sl
 tab:aV.ok H
 nt:NT F
structure Ext(F:Hp)(ad:-O)(mu:-(Option OV))(H:Hp)(F':Hp)(aE:-O)(cZ:-(Option OV))(H':Hp):Prop where
 same:aN F F'
 new:∀a o,F' a=U o->F a=U o\/H a=Z\/Lv ad mu a
 keep:∀a o,H a=U o->¬ Lv ad mu a->a∉aV.ad->H' a=U o
 pre:∀(k:Nat)(a:O),ad[k]?=U a->aE[k]?=U a
 b_:∀a,Lv aE cZ a->Lv ad mu a\/H a=Z
 iI:∀a o,H a=U o->∃o',H' a=U o'
section
variable{F F' EO H H' jL:Hp}{ad aE tO:-O}{mu cZ tP:-(Option OV)}{δ:aG}{σ:St}
theorem dh{H:Hp}{a:O}{o:HO}(h:H a=Z):aN H (upd H a o):=λb u e=>by rw[bf (dF e h)];calc e
theorem Ext.refl:Ext F ad mu H F ad mu H:=⟨λ_ _ e=>e,λ_ _ e=>.inl e,λ_ _ e _ _=>e,λ_ _ e=>e,λ_ e=>.inl e,λ_ o e=>⟨o,e⟩⟩
theorem Ext.trans(x:Ext F ad mu H F' aE cZ H')(y:Ext F' aE cZ H' EO tO tP jL):Ext F ad mu H EO tO tP jL where
 same:=x.same.trans y.same
 new:=λa o e=>by
  rcases y.new a o e with h|h|h
  .exact x.new a o h
  .refine .inr (.inl ?_)
   cases q:H a with
   |none=>rfl
   |some u=>let⟨u',h'⟩:=x.iI a u q;rw[h] at h';cases h'
  .rcases x.b_ a h with h|h
   .exact .inr (.inr h)
   .exact .inr (.inl h)
 keep:=λa o e n t=>y.keep a o (x.keep a o e n t) (λl=>by
  rcases x.b_ a l with h|h
  .exact n h
  .rw[e] at h;cases h) t
 pre:=λk a e=>y.pre k a (x.pre k a e)
 b_:=λa l=>by
  rcases y.b_ a l with h|h
  .exact x.b_ a h
  .refine .inr ?_
   cases q:H a with
   |none=>rfl
   |some u=>let⟨u',h'⟩:=x.iI a u q;rw[h] at h';cases h'
 iI:=λa o e=>let⟨o1,e1⟩:=x.iI a o e;y.iI a o1 e1
theorem dB.ext{x:DV}{v:V}(h:dB F ad x v)(e:Ext F ad mu H F' aE cZ H'):dB F' aE x v:=by
 cases x with
 |p d=>exact Is.same e.same h
 |o k=>let⟨a,h1,h2⟩:=h;exact⟨a,e.pre k a h1,h2⟩
 |w a=>exact h
 |u t fs=>let⟨b,us,h1,h2,h3⟩:=h;exact⟨b,us,h1,e.same _ _ h2,h3.same e.same⟩
 |t d k=>let⟨a,b,u,h1,h2,h3,h4⟩:=h;calc⟨a,b,u,h1,e.same _ _ h2,h3.same e.same,e.pre k b h4⟩
theorem dB.same{x:DV}{v:V}(h:dB F ad x v)(s:aN F F'):dB F' ad x v:=by
 cases x with
 |p d=>exact Is.same s h
 |o k=>exact h
 |w a=>exact h
 |u t fs=>let⟨b,us,h1,h2,h3⟩:=h;exact⟨b,us,h1,s _ _ h2,h3.same s⟩
 |t d k=>let⟨a,b,u,h1,h2,h3,h4⟩:=h;calc⟨a,b,u,h1,s _ _ h2,h3.same s,h4⟩
theorem dB.pre{bV:-O}{x:DV}{v:V}(h:dB F ad x v)(s:∀k a,ad[k]?=U a->x=.o k\/(∃d,x=.t d k)->bV[k]?=U a):dB F bV x v:=by
 cases x with
 |p d=>exact h
 |o k=>let⟨a,h1,h2⟩:=h;exact⟨a,s k a h1 (.inl Y),h2⟩
 |w a=>exact h
 |u t fs=>exact h
 |t d k=>let⟨a,b,u,h1,h2,h3,h4⟩:=h;calc⟨a,b,u,h1,h2,h3,s k b h4 (.inr ⟨d,Y⟩)⟩
noncomputable def Nw(F H H':Hp):Hp:=λa=>match H a with
 |none=>H' a
 |some _=>F a
theorem Nw.same(s:aN F H):aN F (Nw F H H'):=λa o e=>by
 unfold Nw;rw[s a o e];calc e
theorem Nw.sub(s:aN F H)(k:aN H H'):aN (Nw F H H') H':=λa o e=>by
 unfold Nw at e
 cases q:H a with
 |none=>rw[q] at e;exact e
 |some u=>rw[q] at e;calc k a o (s a o e)
theorem Nw.upd{p:O}{o:HO}(s:aN F H)(hp:H p=Z):Nw F H (upd H p o)=upd F p o:=by
 funext a;unfold Nw L2.upd
 by_cases c:a=p
 .subst c;rw[hp,U_ Y];simp
 .rw[U9 c,U9 c]
  cases q:H a with
  |none =>
   cases q2:F a with
   |none=>rfl
   |some u=>rw[s a u q2] at q;cases q
  |some u=>rfl
theorem Nw.refl(s:aN F H):Nw F H H=F:=by
 funext a;unfold Nw
 cases q:H a with
 |none =>
  cases q2:F a with
  |none=>rfl
  |some u=>rw[s a u q2] at q;cases q
 |some u=>rfl
theorem SR.al(S:SR F ad δ σ H)(k:aN H H'):SR (Nw F H H') ad δ σ H':=by
 let sm:=Nw.same (H':=H') S.sub;refine⟨Nw.sub S.sub k,λa l=>?_,S.cD,S.inj,λi ov e=>?_,λi x e=>?_,S.len,aV.same S.tab k,S.nt.up sm λa ha=>by let⟨ps,q⟩:=aV.tb S.tab ha;unfold Nw;rw[q];calc S.nt a ha⟩
 .let⟨i,ov,e1,e2⟩:=l
  let⟨a',o,e3,e4,_⟩:=S.mu i ov e2;rw[e1] at e3;cases e3;unfold Nw;rw[e4];exact S.off a ⟨i,ov,e1,e2⟩
 .let⟨a,o,e1,e2,h⟩:=S.mu i ov e
  exact⟨a,o,e1,k a o e2,h.same sm⟩
 .let⟨v,e1,h⟩:=S.sl i x e
  calc⟨v,e1,h.same sm⟩
theorem Ext.al(S:SR F ad δ σ H)(k:aN H H'):Ext F ad δ.mu H (Nw F H H') ad δ.mu H' where
 same:=Nw.same S.sub
 new:=λa o e=>by
  unfold Nw at e
  cases q:H a with
  |none=>exact .inr (.inl Y)
  |some u=>rw[q] at e;exact .inl e
 keep:=λa o e _ _=>k a o e
 pre:=λ_ _ e=>e
 b_:=λ_ l=>.inl l
 iI:=λa o e=>⟨o,k a o e⟩
theorem SR.own{p:O}{o:HO}{ov:OV}(S:SR F ad δ σ H)(hp:H p=Z)(h:eN F p ov o):SR F (ad++[p]) ⟨δ.sl,δ.mu++[U ov]⟩ σ (upd H p o):=by
 let old:∀{k:Nat}{w:OV},(δ.mu++[U ov])[k]?=U (U w)->(k<↑δ.mu/\δ.mu[k]?=U (U w))\/(k=↑δ.mu/\w=ov):=λ{k w} e=>by
  by_cases c:k<↑δ.mu
  .rw[Mc c] at e;exact .inl ⟨c,e⟩
  .let hl:=(qW.mp e).1
   rw[Eh,VA] at hl;let ek:k=↑δ.mu:=by symm
   subst ek;rw[Mf (yT _),VB] at e;exact .inr ⟨Y,by simpa using e.symm⟩
 let pre:∀{k:Nat},k<↑δ.mu->(ad++[p])[k]?=ad[k]?:=λ{k} c=>Mc (by rw[S.cD];calc c);let last:(ad++[p])[↑δ.mu]?=U p:=by rw[<-S.cD,Mf (yT _),VB];rfl
 let np:∀{k:Nat}{a:O}{w:OV},ad[k]?=U a->δ.mu[k]?=U (U w)->a≠p:=λ{k a w} e1 e2=>by
  let⟨a',u,e3,e4,_⟩:=S.mu k w e2;rw[e1] at e3;cases e3;exact dF e4 hp
 refine⟨λa u e=>?_,λa l=>?_,by rw[Eh,Eh,S.cD];rfl,λk l a w w' e1 e2 e3 e4=>?_,λk w e=>?_,λi x e=>?_,S.len,aV.same S.tab (dh hp),S.nt⟩
 .let:=S.sub a u e
  rw[bf (dF this hp)];exact this
 .let⟨k,w,e1,e2⟩:=l
  rcases old e2 with⟨c,e3⟩|⟨c,e3⟩
  .rw[pre c] at e1;exact S.off a ⟨k,w,e1,e3⟩
  .subst c;rw[last] at e1;cases e1
   cases q:F p with
   |none=>rfl
   |some u=>rw[S.sub p u q] at hp;cases hp
 .rcases old e3 with⟨c,q⟩|⟨c,q⟩
  .rw[pre c] at e1
   rcases old e4 with⟨c',q'⟩|⟨c',q'⟩
   .rw[pre c'] at e2;exact S.inj k l a w w' e1 e2 q q'
   .subst c';rw[last] at e2;cases e2;exact absurd Y (np e1 q)
  .subst c;rw[last] at e1;cases e1
   rcases old e4 with⟨c',q'⟩|⟨c',q'⟩
   .rw[pre c'] at e2;exact absurd Y (np e2 q')
   .exact c'.symm
 .rcases old e with⟨c,q⟩|⟨c,q⟩
  .let⟨a,u,e1,e2,h'⟩:=S.mu k w q
   exact⟨a,u,by rw[pre c];calc e1,by rw[bf (np e1 q)];calc e2,h'⟩
  .subst c;subst q;exact⟨p,o,last,b7,h⟩
 .let⟨v,e1,h'⟩:=S.sl i x e
  calc⟨v,e1,h'.pre λk a e2 _=>by rw[Mc (qW.mp e2).1];calc e2⟩
theorem Ext.own{p:O}{o:HO}{ov:OV}(S:SR F ad δ σ H)(hp:H p=Z):Ext F ad δ.mu H F (ad++[p]) (δ.mu++[U ov]) (upd H p o) where
 same:=λ_ _ e=>e
 new:=λ_ _ e=>.inl e
 keep:=λa u e _ _=>by rw[bf (dF e hp)];exact e
 pre:=λk a e=>by rw[Mc (qW.mp e).1];exact e
 b_:=λa l=>by
  let⟨k,w,e1,e2⟩:=l
  by_cases c:k<↑δ.mu
  .rw[Mc c] at e2
   rw[Mc (by rw[S.cD];calc c)] at e1;exact .inl ⟨k,w,e1,e2⟩
  .let hl:=(qW.mp e2).1
   rw[Eh,VA] at hl;let ek:k=↑ad:=by rw[S.cD];symm
   subst ek;rw[Mf (yT _),VB] at e1;let:p=a:=by simpa using e1
   subst this;exact .inr hp
 iI:=λa u e=>⟨u,by rw[bf (dF e hp)];calc e⟩
theorem SR.put{k:Nat}{a:O}{o:HO}{ov ow:OV}(S:SR F ad δ σ H)(hk:δ.mu[k]?=U (U ow))(ha:ad[k]?=U a)(h:eN F a ov o):SR F ad ⟨δ.sl,δ.mu.set k (U ov)⟩ σ (upd H a o):=by
 let kl:=(qW.mp hk).1
 let old:∀{l:Nat}{w:OV},(δ.mu.set k (U ov))[l]?=U (U w)->(l≠k/\δ.mu[l]?=U (U w))\/(l=k/\w=ov):=λ{l w} e=>by
  by_cases c:k=l
  .subst c;rw[VN kl] at e;exact .inr ⟨Y,by simpa using e.symm⟩
  .rw[VI c] at e;exact .inl ⟨λz=>c z.symm,e⟩
 let lv:∀{l:Nat}{w:OV}{b:O},ad[l]?=U b->(δ.mu.set k (U ov))[l]?=U (U w)->Lv ad δ.mu b:=λ{l w b} e1 e2=>by
  rcases old e2 with⟨_,q⟩|⟨c,_⟩
  .exact⟨l,w,e1,q⟩
  .subst c;exact⟨l,ow,e1,hk⟩
 let tk:aV.ok (upd H a o):=by
  let⟨a',u,e1,e2,h'⟩:=S.mu k ow hk;rw[ha] at e1;cases e1;exact aV.put S.tab e2 h'.kd
 refine⟨λb u e=>?_,λb l=>?_,by rw[VS];calc S.cD,λl l' b w w' e1 e2 e3 e4=>?_,λl w e=>?_,λi x e=>?_,S.len,tk,S.nt⟩
 .let nb:b≠a:=λz=>by
   subst z;rw[S.off b ⟨k,ow,ha,hk⟩] at e;cases e
  rw[bf nb];exact S.sub b u e
 .let⟨l,w,e1,e2⟩:=l
  exact S.off b (lv e1 e2)
 .let h1:∃w,δ.mu[l]?=U (U w):=by
   rcases old e3 with⟨_,q⟩|⟨c,_⟩
   .exact⟨_,q⟩
   .subst c;exact⟨_,hk⟩
  let h2:∃w,δ.mu[l']?=U (U w):=by
   rcases old e4 with⟨_,q⟩|⟨c,_⟩
   .exact⟨_,q⟩
   .subst c;exact⟨_,hk⟩
  let⟨w1,q1⟩:=h1;let⟨w2,q2⟩:=h2;exact S.inj l l' b _ _ e1 e2 q1 q2
 .rcases old e with⟨c,q⟩|⟨c,q⟩
  .let⟨b,u,e1,e2,h'⟩:=S.mu l w q
   let nb:b≠a:=λz=>by subst z;exact c (S.inj l k b _ _ e1 ha q hk)
   exact⟨b,u,e1,by rw[bf nb];calc e2,h'⟩
  .subst c;subst q;exact⟨a,o,ha,b7,h⟩
 .calc S.sl i x e
theorem Ext.put{k:Nat}{a:O}{o:HO}{ov ow:OV}(S:SR F ad δ σ H)(hk:δ.mu[k]?=U (U ow))(ha:ad[k]?=U a):Ext F ad δ.mu H F ad (δ.mu.set k (U ov)) (upd H a o) where
 same:=λ_ _ e=>e
 new:=λ_ _ e=>.inl e
 keep:=λb u e n _=>by rw[bf λz=>n (by subst z;calc⟨k,ow,ha,hk⟩)];exact e
 pre:=λ_ _ e=>e
 b_:=λb l=>by
  let⟨l,w,e1,e2⟩:=l
  by_cases c:k=l
  .subst c;exact .inl ⟨k,ow,e1,hk⟩
  .rw[VI c] at e2;exact .inl ⟨l,w,e1,e2⟩
 iI:=λb u e=>by
  by_cases c:b=a
  .subst c;exact⟨o,b7⟩
  .calc⟨u,by rw[bf c];calc e⟩
theorem SR.fix{k:Nat}{a:O}{o:HO}{ow:OV}(S:SR F ad δ σ H)(hk:δ.mu[k]?=U (U ow))(ha:ad[k]?=U a)(ho:H a=U o):SR (upd F a o) ad ⟨δ.sl,δ.mu.set k Z⟩ σ H:=by
 let kl:=(qW.mp hk).1;let fa:=S.off a ⟨k,ow,ha,hk⟩;let sm:aN F (upd F a o):=λb u e=>by rw[bf (dF e fa)];exact e
 let old:∀{l:Nat}{w:OV},(δ.mu.set k Z)[l]?=U (U w)->l≠k/\δ.mu[l]?=U (U w):=λ{l w} e=>by
  by_cases c:k=l
  .subst c;rw[VN kl] at e;cases e
  .rw[VI c] at e;exact⟨λz=>c z.symm,e⟩
 refine⟨λb u e=>?_,λb l=>?_,by rw[VS];calc S.cD,λl l' b w w' e1 e2 e3 e4=>S.inj l l' b w w' e1 e2 (old e3).2 (old e4).2,λl w e=>?_,λi x e=>?_,S.len,S.tab,S.nt.up sm λb hb=>?_⟩
 .by_cases c:b=a
  .subst c;rw[b7] at e;cases e;exact ho
  .rw[bf c] at e;exact S.sub b u e
 .let⟨l,w,e1,e2⟩:=l
  let⟨c,q⟩:=old e2;let nb:b≠a:=λz=>by subst z;exact c (S.inj l k b _ _ e1 ha q hk)
  rw[bf nb];exact S.off b ⟨l,w,e1,q⟩
 .let⟨b,u,e1,e2,h'⟩:=S.mu l w (old e).2
  exact⟨b,u,e1,e2,h'.same sm⟩
 .let⟨v,e1,h'⟩:=S.sl i x e
  exact⟨v,e1,h'.same sm⟩
 .let⟨ps,q⟩:=aV.tb S.tab hb
  let nb:b≠a:=λz=>by
   subst z;let⟨a',u,e1,e2,h'⟩:=S.mu k ow hk;rw[ha] at e1;cases e1;rw[q] at e2;cases e2;exact h'.kind ps Y
  rw[bf nb];calc S.nt b hb
theorem Ext.fix{k:Nat}{a:O}{o:HO}{ow:OV}(S:SR F ad δ σ H)(hk:δ.mu[k]?=U (U ow))(ha:ad[k]?=U a):Ext F ad δ.mu H (upd F a o) ad (δ.mu.set k Z) H where
 same:=λb u e=>by rw[bf (dF e (S.off a ⟨k,ow,ha,hk⟩))];exact e
 new:=λb u e=>by
  by_cases c:b=a
  .subst c;exact .inr (.inr ⟨k,ow,ha,hk⟩)
  .rw[bf c] at e;exact .inl e
 keep:=λb u e _ _=>e
 pre:=λ_ _ e=>e
 b_:=λb l=>by
  let⟨l,w,e1,e2⟩:=l
  by_cases c:k=l
  .subst c;rw[VN (qW.mp hk).1] at e2;cases e2
  .rw[VI c] at e2;exact .inl ⟨l,w,e1,e2⟩
 iI:=λb u e=>⟨u,e⟩
theorem SR.set{i:Nat}{x:DV}{v:V}(S:SR F ad δ σ H)(h:dB F ad x v):SR F ad ⟨δ.sl.set i (U x),δ.mu⟩ (σ.set i (U v)) H:=by
 refine⟨S.sub,S.off,S.cD,S.inj,S.mu,λj y e=>?_,by rw[VS,VS];calc S.len,S.tab,S.nt⟩
 by_cases c:i=j
 .subst c
  let hl:=(qW.mp e).1;rw[VS] at hl;rw[VN hl] at e;cases e
  exact⟨v,VN (by rw[S.len];calc hl),h⟩
 .rw[VI c] at e
  let⟨w,e1,h1⟩:=S.sl j y e;calc⟨w,by rw[VI c];calc e1,h1⟩
end
abbrev WE:=aG->(DV->aG->Prop)->Prop
abbrev WA:=aG->(-DV->aG->Prop)->Prop
abbrev WT:=aG->(Bool->aG->Prop)->Prop
def cU(F:Hp)(ad:-O):-DV->-V->Prop
 |[],vs=>vs=[]
 |x::xs,vs=>∃v r,vs=v::r/\dB F ad x v/\cU F ad xs r
theorem cU.ext{F F' H H':Hp}{ad aE:-O}{mu cZ:-(Option OV)}(e:Ext F ad mu H F' aE cZ H'):∀{xs:-DV}{vs:-V},cU F ad xs vs->cU F' aE xs vs
 |[],_,h=>h
 |_::_,_,⟨v,r,q,h1,h2⟩=>⟨v,r,q,h1.ext e,cU.ext e h2⟩
inductive tD (f:WE) (σ:St) (H:Hp) (Q:VK):Prop
 |mk (F:Hp) (ad:-O) (δ:aG) (K:DV->aG->Prop) (S:SR F ad δ σ H) (q:f δ K) (k:∀x δ',K x δ'->∀v F' aE H',Ext F ad δ.mu H F' aE δ'.mu H'->SR F' aE δ' σ H'->dB F' aE x v->Q v H')
inductive cf (f:WA) (σ:St) (H:Hp) (Q:-V->Hp->Prop):Prop
 |mk (F:Hp) (ad:-O) (δ:aG) (K:-DV->aG->Prop) (S:SR F ad δ σ H) (q:f δ K) (k:∀xs δ',K xs δ'->∀vs F' aE H',Ext F ad δ.mu H F' aE δ'.mu H'->SR F' aE δ' σ H'->cU F' aE xs vs->Q vs H')
inductive cP (f:WT) (σ:St) (H:Hp) (Q:Bool->Hp->Prop):Prop
 |mk (F:Hp) (ad:-O) (δ:aG) (K:Bool->aG->Prop) (S:SR F ad δ σ H) (q:f δ K) (k:∀b δ',K b δ'->∀F' aE H',Ext F ad δ.mu H F' aE δ'.mu H'->SR F' aE δ' σ H'->Q b H')
def jm(F H:Hp):D->V->Prop
 |.lst ds,v=>∃a vs,v=.ref a/\H a=U (.lst vs)/\aj F ds vs
 |d,v=>Is F d v
def hZ(x:DV)(δ:aG)(K:D->Prop):Prop:=match x with
 |.p d=>K d
 |.o k=>match δ.mu[k]? with
  |some (some (.lst ds))=>K (.lst ds)
  |some (some (.al _ ds))=>K (.lst ds)
  |_=>False
 |.w _=>False
 |.u _ _=>False
 |.t _ _=>False
theorem jm.of{F H:Hp}(s:aN F H):∀{d:D}{v:V},Is F d v->jm F H d v
 |.lst _,_,h=>by
  erw[Is] at h;let⟨a,vs,e,h1,h2⟩:=h;exact⟨a,vs,e,s _ _ h1,h2⟩
 |.tup _,_,h=>h
 |.non,_,h=>h
 |.bl _,_,h=>h
 |.int _,_,h=>h
 |.str _,_,h=>h
theorem jm.is{F H:Hp}(s:aN F H):∀{d:D}{v:V},jm F H d v->Is H d v
 |.lst _,_,h=>by
  let⟨a,vs,e,h1,h2⟩:=h;erw[Is];exact⟨a,vs,e,h1,h2.same s⟩
 |.tup _,_,h=>Is.same s h
 |.non,_,h=>Is.same s h
 |.bl _,_,h=>Is.same s h
 |.int _,_,h=>Is.same s h
 |.str _,_,h=>Is.same s h
theorem jM{F H:Hp}{ad:-O}{δ:aG}{σ:St}{x:DV}{v:V}{K:D->Prop}(S:SR F ad δ σ H)(hv:dB F ad x v)(h:hZ x δ K):∃d,K d/\jm F H d v:=by
 cases x with
 |p d=>exact⟨d,h,jm.of S.sub hv⟩
 |o k =>
  unfold hZ at h;dsimp only at h;split at h
  .rename_i ds e
   let⟨a,e1,rfl⟩:=hv;let⟨a',o,e2,e3,vs,rfl,h4⟩:=S.mu k _ e;rw[e1] at e2;cases e2;exact⟨_,h,a,vs,Y,e3,h4⟩
  .rename_i ds e
   let⟨a,e1,rfl⟩:=hv;let⟨a',o,e2,e3,_,vs,rfl,h4⟩:=S.mu k _ e;rw[e1] at e2;cases e2;exact⟨_,h,a,vs,Y,e3,h4⟩
  .exact h.elim
 |w _=>exact h.elim
 |u _ _=>exact h.elim
 |t _ _=>calc h.elim
def kU:-DV->aG->(-D->Prop)->Prop
 |[],_,K=>K []
 |x::xs,δ,K=>hZ x δ λd=>kU xs δ λds=>K (d::ds)
def iX(F H:Hp):-D->-V->Prop
 |[],vs=>vs=[]
 |d::ds,vs=>∃v r,vs=v::r/\jm F H d v/\iX F H ds r
theorem vR{F H:Hp}{ad:-O}{δ:aG}{σ:St}(S:SR F ad δ σ H):∀{xs:-DV}{vs:-V}{K:-D->Prop},cU F ad xs vs->kU xs δ K->∃ds,K ds/\iX F H ds vs
 |[],_,_,hv,h=>⟨[],h,hv⟩
 |x::xs,_,_,⟨v,r,rfl,h1,h2⟩,h=>by
  let⟨d,h',rd⟩:=jM S h1 h;let⟨ds,q9,qa⟩:=vR S h2 h';calc⟨d::ds,q9,v,r,Y,rd,qa⟩
abbrev Made(F H:Hp)(K:D->Prop)(Q:VK):Prop:=∀z v H',K z->aN H H'->Is (Nw F H H') z v->Q v H'
inductive zr (g:D->D->(D->Prop)->Prop) (x y:V) (H:Hp) (Q:VK):Prop
 |mk (F:Hp) (d e:D) (K:D->Prop) (s:aN F H) (rd:jm F H d x) (re:jm F H e y) (q:g d e K) (md:Made F H K Q)
inductive ER (g:-D->(D->Prop)->Prop) (xs:-V) (H:Hp) (Q:VK):Prop
 |mk (F:Hp) (ds:-D) (K:D->Prop) (s:aN F H) (rd:iX F H ds xs) (q:g ds K) (md:Made F H K Q)
def fg(X:Cx)(f:L->L->Sem L)(g:D->D->(D->Prop)->Prop):Prop :=
 d8 X f λx y H Q=>zr g x y H Q
def ES(X:Cx)(g:D->D->(D->Prop)->Prop):Prop :=
 lQ X λx y H Q=>zr g x y H Q
def eC(X:Cx)(f:L)(g:-D->(D->Prop)->Prop):Prop :=
 hU X f λxs H Q=>ER g xs H Q
def d2(f g:WE)(op:D->D->(D->Prop)->Prop):WE:=fun δ K=>f δ λx δ1=>g δ1 λy δ2=>hZ x δ2 λd=>hZ y δ2 λe=>op d e λz=>K (.p z) δ2
def d1(f:WE)(op:D->(D->Prop)->Prop):WE:=fun δ K=>f δ λx δ1=>hZ x δ1 λd=>op d λz=>K (.p z) δ1
def dN(f:WA)(op:-D->(D->Prop)->Prop):WE:=fun δ K=>f δ λxs δ1=>kU xs δ1 λds=>op ds λz=>K (.p z) δ1
def dC(d:D):WE:=fun δ K=>K (.p d) δ
def aa(i:Nat):WE:=fun δ K=>match δ.sl[i]? with
 |some (some x)=>K x δ
 |_=>False
def ak:WA:=fun δ K=>K [] δ
def aq(f:WE)(g:WA):WA:=fun δ K=>f δ λx δ1=>g δ1 λxs δ2=>K (x::xs) δ2
section
variable{X:Cx}{a b c:M}{f g h:WE}{fa:WA}{pos:y}
theorem tQ{e:M}{d:D}{v:V}(h:JE X e (tC v))(hi:∀F,Is F d v):JE X e (tD (dC d)):=h.weak fun σ H Q ⟨F,ad,δ,K,S,q,k⟩↦k _ _ q _ _ _ _ .refl S (hi F)
theorem cg{i j pos}:JE X (.Constant (.int i) j pos) (tD (dC (.int i))):=tQ oA λ_=>Y
theorem qb{i j pos}:JE X (.Constant (.bool i) j pos) (tD (dC (.bl i))):=tQ JP λ_=>Y
theorem oQ{j pos}:JE X (.Constant .none j pos) (tD (dC .non)):=tQ JQ λ_=>Y
theorem vS{x j pos}:JE X (.Constant (.str x) j pos) (tD (dC (.str x))):=tQ JR λ_=>Y
theorem Nc{x:J}{i:Int}{u:L}{pos:y}(hg:Gl X x)(hm:X.mg x=U u)(r:RelV (.int i) u)(hd:b8 x:=by decide):JE X (.Name x pos) (tD (dC (.int i))):=tQ (JU hg hm r hd) λ_=>Y
theorem dv(i:Nat){x:J}{pos:y}(hN:X.N[i]?=U x:=by rfl)(hv:sv X.env.scope x:=by first|exact ZL Y|exact ZM (ZL Y)|calc ZM (ZM Y))
  (hd:b8 x:=by decide) (gi:(x==("__classdict__" : J))=ι:=by decide):JE X (.Name x pos) (tD (aa i)) :=
 (DA hN hv hd gi).weak fun σ H Q ⟨F,ad,δ,K,S,q,k⟩↦by
  unfold aa at q;split at q
  .rename_i x e
   let⟨v,e1,h1⟩:=S.sl i x e;exact⟨v,e1,k _ _ q _ _ _ _ .refl S h1⟩
  .calc q.elim
theorem vT{r:R2}{ta tb:TE}{op:D->D->(D->Prop)->Prop}(hr:∀x y H Q,(zr op x y H Q)->r x y H Q):∀σ H Q,tD (d2 f g op) σ H Q->sI r (tD f) (tD g) σ H Q:=by
 ext σ H Q ⟨F,ad,δ,K,S,q,k⟩;calc⟨F,ad,δ,_,S,q,λx δ1 h1 v1 F1 aS H1 E1 S1 V1=>⟨F1,aS,δ1,_,S1,h1,λy δ2 h2 v2 F2 bV H2 E2 S2 V2=>hr _ _ _ _ ?_⟩⟩;let⟨d,h3,rd⟩:=jM S2 (V1.ext E2) h2;let⟨e,h4,re⟩:=jM S2 V2 h3;calc⟨F2,d,e,_,S2.sub,rd,re,h4,λz v H' hz sm is=>k _ _ hz _ _ _ _ ((E1.trans E2).trans (Ext.al S2 sm)) (S2.al sm) is⟩
theorem iJ{op:Operator}{o:D->D->(D->Prop)->Prop}(ho:fg X (binaryOp op) o)(ha:JE X a (tD f))(hb:JE X b (tD g)):JE X (.BinOp a op b pos) (tD (d2 f g o)) :=
 (sJ ho ha hb).weak (vT (ta:=tD f) (tb:=tD g) λ_ _ _ _ h=>h)
theorem oR{op:CmpOp}{o:D->D->(D->Prop)->Prop}(ho:fg X (compareOp op) o)(ha:JE X a (tD f))(hb:JE X b (tD g))(hm:behindInMarks op b=ι):JE X (.Compare a [op] [b] pos) (tD (d2 f g o)) :=
 (KN ho ha hb hm).weak (vT (ta:=tD f) (tb:=tD g) λ_ _ _ _ h=>h)
theorem gE{o:D->D->(D->Prop)->Prop}(ho:ES X o)(ha:JE X a (tD f))(hb:JE X b (tD g))(hs:yF b):JE X (.Subscript a b pos) (tD (d2 f g o)) :=
 (yH ho ha hb hs).weak (vT (ta:=tD f) (tb:=tD g) λ_ _ _ _ h=>h)
theorem bM:JA X [] (cf ak):=cY.weak fun σ H Q ⟨F,ad,δ,K,S,q,k⟩↦k _ _ q _ _ _ _ .refl S Y
theorem qc:∀σ H Q,cf (aq f fa) σ H Q->oC (tD f) (cf fa) σ H Q:=by
 ext σ H Q ⟨F,ad,δ,K,S,q,k⟩;calc⟨F,ad,δ,_,S,q,λx δ1 h1 v1 F1 aS H1 E1 S1 V1=>⟨F1,aS,δ1,_,S1,h1,λxs δ2 h2 vs F2 bV H2 E2 S2 V2=>k _ _ h2 _ _ _ _ (E1.trans E2) S2 ⟨v1,vs,Y,V1.ext E2,V2⟩⟩⟩
theorem gO{e:M}{es:-M}(ha:JE X e (tD f))(hr:JA X es (cf fa))(hs:cF X e es:=by rfl):JA X (e::es) (cf (aq f fa)):=(jG ha hr hs).weak qc
theorem cA{es:-M}{c j p}(ha:JE X (.Constant c j p) (tD f))(hr:JA X es (cf fa)):JA X (.Constant c j p::es) (cf (aq f fa)):=(y9 ha hr).weak qc
theorem bD{es:-M}{x p}(ha:JE X (.Name x p) (tD f))(hr:JA X es (cf fa)):JA X (.Name x p::es) (cf (aq f fa)):=(p9 ha hr).weak qc
theorem eD{es:-M}{x y k p}(ha:JE X (.Call x y k p) (tD f))(hr:JA X es (cf fa)):JA X (.Call x y k p::es) (cf (aq f fa)):=(mM ha hr).weak qc
theorem mP{es:-M}{x p}(ha:JE X (.List x p) (tD f))(hr:JA X es (cf fa)):JA X (.List x p::es) (cf (aq f fa)):=(y_ ha hr).weak qc
theorem qd{es:-M}{x k p}(ha:JE X (.Tuple x k p) (tD f))(hr:JA X es (cf fa)):JA X (.Tuple x k p::es) (cf (aq f fa)):=(za ha hr).weak qc
theorem dq{es:-M}{x k p}(ha:JE X (.Subscript x k p) (tD f))(hr:JA X es (cf fa)):JA X (.Subscript x k p::es) (cf (aq f fa)):=(zb ha hr).weak qc
theorem ET{r:-V->Hp->VK->Prop}{op:-D->(D->Prop)->Prop}(hr:∀xs H Q,(ER op xs H Q)->r xs H Q):∀σ H Q,tD (dN fa op) σ H Q->vt r (cf fa) σ H Q:=by
 ext σ H Q ⟨F,ad,δ,K,S,q,k⟩;calc⟨F,ad,δ,_,S,q,λxs δ1 h1 vs F1 aS H1 E1 S1 V1=>hr _ _ _ ?_⟩;let⟨ds,h2,qa⟩:=vR S1 V1 h1;calc⟨F1,ds,_,S1.sub,qa,h2,λz v H' hz sm is=>k _ _ hz _ _ _ _ (E1.trans (Ext.al S1 sm)) (S1.al sm) is⟩
theorem ki{x:J}{p:y}{e:M}{es:-M}{id:String}{o:-D->(D->Prop)->Prop}(hc:eC X (.builtin id) o)(hg:Gl X x)(hm:X.mg x=Z)(hv:bootBuiltins x=U (.builtin id))(ha:JA X (e::es) (cf fa))(hn:x≠"__name__" := by decide)(dX:b8 x:=by decide)
  (he:cF X e es:=by rfl) (dg:cR X pos es:=by rfl):JE X (.Call (.Name x p) (e::es) [] pos) (tD (dN fa o)) :=
 (vv hc hg hm hv ha hn dX he dg).weak (ET λ_ _ _ h=>h)
theorem Nd{x:J}{p:y}{e:M}{es:-M}{T:String}{o:-D->(D->Prop)->Prop}(hc:eC X (.type T) o)(hg:Gl X x)(hm:X.mg x=Z)(hv:bootBuiltins x=U (.type T))(ha:JA X (e::es) (cf fa))(hn:x≠"__name__" := by decide)(dX:b8 x:=by decide)
  (he:cF X e es:=by rfl) (dg:cR X pos es:=by rfl):JE X (.Call (.Name x p) (e::es) [] pos) (tD (dN fa o)) :=
 (pM hc hg hm hv ha hn dX he dg).weak (ET λ_ _ _ h=>h)
end
noncomputable def EU(k:Nat)(ds:-D):Option DV->Option DV
 |some (.o j)=>if j=k then U (.p (.lst ds)) else U (.o j)
 |some (.t d j)=>if j=k then Z else U (.t d j)
 |s=>s
noncomputable def aG.fix(δ:aG)(k:Nat)(ds:-D):aG:=⟨δ.sl.map (EU k ds),δ.mu.set k Z⟩
def kj(x:DV)(δ:aG)(K:D->aG->Prop):Prop:=match x with
 |.p d=>K d δ
 |.o k=>match δ.mu[k]? with
  |some (some (.lst ds))=>K (.lst ds) (δ.fix k ds)
  |_=>False
 |.w _=>False
 |.u _ _=>False
 |.t _ _=>False
def jN:-DV->aG->(-D->aG->Prop)->Prop
 |[],δ,K=>K [] δ
 |x::xs,δ,K=>kj x δ λd δ1=>jN xs δ1 λds δ2=>K (d::ds) δ2
section
variable{F F' H H':Hp}{ad aE:-O}{δ δ':aG}{σ σ':St}
theorem SR.fixed{k:Nat}{a:O}{vs:-V}{ds:-D}(S:SR F ad δ σ H)(hk:δ.mu[k]?=U (U (.lst ds)))(ha:ad[k]?=U a)(ho:H a=U (.lst vs))(hi:aj F ds vs):SR (upd F a (.lst vs)) ad (δ.fix k ds) σ H:=by
 let S1:=S.fix hk ha ho;let sm:aN F (upd F a (.lst vs)):=(Ext.fix (o:=.lst vs) S hk ha).same;calc⟨S1.sub,S1.off,S1.cD,S1.inj,S1.mu,λi x e=>?_,by rw[S.len];unfold aG.fix;rw[pV],S1.tab,S1.nt⟩;unfold aG.fix at e;rw[My] at e;let⟨s,e1,e2⟩:=Va.mp e
 match s,e2 with
 |none,e2=>cases e2
 |some (.p d),e2 =>
  cases(show U (DV.p d)=U x from e2)
  exact S1.sl i _ e1
 |some (.w d),e2 =>
  cases(show U (DV.w d)=U x from e2)
  exact S1.sl i _ e1
 |some (.u t fs),e2 =>
  cases(show U (DV.u t fs)=U x from e2)
  exact S1.sl i _ e1
 |some (.t d j),e2 =>
  let e3:(if j=k then Z else U (DV.t d j))=U x:=e2
  by_cases c:j=k
  .rw[U_ c] at e3;cases e3
  .rw[U9 c] at e3;cases e3;exact S1.sl i _ e1
 |some (.o j),e2 =>
  let e3:(if j=k then U (DV.p (.lst ds)) else U (DV.o j))=U x:=e2;clear e2;let⟨v,h1,a',h2,h3⟩:=S.sl i _ e1
  by_cases c:j=k
  .rw[U_ c] at e3
   subst c;cases e3
   rw[ha] at h2;cases h2;calc⟨v,h1,?_⟩;show Is _ (.lst ds) v;erw[Is];exact⟨a,vs,h3,b7,hi.same sm⟩
  .rw[U9 c] at e3
   cases e3
   calc⟨v,h1,a',h2,h3⟩
theorem qe{x:DV}{v:V}{K:D->aG->Prop}(S:SR F ad δ σ H)(hv:dB F ad x v)(h:kj x δ K):∃d δ' F',K d δ'/\Ext F ad δ.mu H F' ad δ'.mu H/\SR F' ad δ' σ H/\Is F' d v:=by
 cases x with
 |p d=>exact⟨d,δ,F,h,.refl,S,hv⟩
 |o k =>
  unfold kj at h;dsimp only at h;split at h
  .rename_i ds e
   let⟨a,e1,rfl⟩:=hv;let⟨a',o,e2,e3,vs,rfl,h4⟩:=S.mu k _ e;rw[e1] at e2;cases e2;calc⟨_,_,_,h,Ext.fix S e e1,S.fixed e e1 e3 h4,?_⟩;erw[Is];exact⟨a,vs,Y,b7,h4.same (Ext.fix (o:=.lst vs) S e e1).same⟩
  .exact h.elim
 |w _=>exact h.elim
 |u _ _=>exact h.elim
 |t _ _=>calc h.elim
theorem vU:∀{xs:-DV}{vs:-V}{δ:aG}{F:Hp}{K:-D->aG->Prop},SR F ad δ σ H->cU F ad xs vs->jN xs δ K->∃ds δ' F',K ds δ'/\Ext F ad δ.mu H F' ad δ'.mu H/\SR F' ad δ' σ H/\aj F' ds vs
 |[],_,δ,F,_,S,hv,h=>⟨[],δ,F,h,.refl,S,by erw[aj];calc hv⟩
 |x::xs,_,δ,F,_,S,⟨v,r,e,h1,h2⟩,h=>by
  subst e;let⟨d,δ1,F1,h',E1,S1,i1⟩:=qe S h1 h;let⟨ds,δ2,F2,q9,E2,S2,i2⟩:=vU S1 (h2.ext E1) h';calc⟨d::ds,δ2,F2,q9,E1.trans E2,S2,.cons (i1.same E2.same) i2⟩
end
def bN(fa:WA):WE:=fun δ K=>fa δ λxs δ1=>jN xs δ1 λds δ2=>↑ds<=1000/\K (.p (.tup ds)) δ2
def c5(fa:WA):WE:=fun δ K=>fa δ λxs δ1=>jN xs δ1 λds δ2=>↑ds<=1000/\K (.p (.lst ds)) δ2
def lS(fa:WA):WE:=fun δ K=>fa δ λxs δ1=>jN xs δ1 λds δ2=>↑ds<=1000/\K (.o ↑δ2.mu) ⟨δ2.sl,δ2.mu++[U (.lst ds)]⟩
section
variable{X:Cx}{a b c:M}{es:-M}{f g h:WE}{fa:WA}{t u:WT}{pos:y}
theorem km{n:Nat}(h:n<=1000):n<=sizeLine:=WB (pX h)
theorem zt{x1}(ha:JA X es (cf fa)):JE X (.Tuple es x1 pos) (tD (bN fa)):=(Ll ha).weak fun σ H Q ⟨F,ad,δ,K,S,q,k⟩ =>
 ⟨F,ad,δ,_,S,q,λxs δ1 h1 vs F1 aS H1 E1 S1 V1=>by
  let⟨ds,δ2,F2,⟨hl,h2⟩,E2,S2,i2⟩:=vU S1 V1 h1;calc⟨km (by rw[↑i2];calc hl),λp hp=>?_⟩;let sm:aN H1 (upd H1 p (.tup vs)):=dh hp;calc k _ _ h2 _ _ _ _ ((E1.trans E2).trans (Ext.al S2 sm)) (S2.al sm) ?_;show Is _ (.tup ds) _;erw[Is];rw[Nw.upd S2.sub hp];refine⟨p,vs,Y,b7,i2.same λb o e=>?_⟩
  rw[bf (dF (S2.sub b o e) hp)];calc e⟩
theorem oS(ha:JA X es (cf fa)):JE X (.List es pos) (tD (c5 fa)):=(vp ha).weak fun σ H Q ⟨F,ad,δ,K,S,q,k⟩ =>
 ⟨F,ad,δ,_,S,q,λxs δ1 h1 vs F1 aS H1 E1 S1 V1=>by
  let⟨ds,δ2,F2,⟨hl,h2⟩,E2,S2,i2⟩:=vU S1 V1 h1;calc⟨km (by rw[↑i2];calc hl),λp hp=>?_⟩;let sm:aN H1 (upd H1 p (.lst vs)):=dh hp;calc k _ _ h2 _ _ _ _ ((E1.trans E2).trans (Ext.al S2 sm)) (S2.al sm) ?_;show Is _ (.lst ds) _;erw[Is];rw[Nw.upd S2.sub hp];refine⟨p,vs,Y,b7,i2.same λb o e=>?_⟩
  rw[bf (dF (S2.sub b o e) hp)];calc e⟩
theorem q_(ha:JA X es (cf fa)):JE X (.List es pos) (tD (lS fa)):=(vp ha).weak fun σ H Q ⟨F,ad,δ,K,S,q,k⟩ =>
 ⟨F,ad,δ,_,S,q,λxs δ1 h1 vs F1 aS H1 E1 S1 V1=>by
  let⟨ds,δ2,F2,⟨hl,h2⟩,E2,S2,i2⟩:=vU S1 V1 h1;calc⟨km (by rw[↑i2];calc hl),λp hp=>?_⟩;let oi:∀{jn},eN F2 jn (.lst ds) (.lst vs):=λ{jn}=>⟨vs,Y,i2⟩;refine k _ _ h2 _ _ _ _ ((E1.trans E2).trans (Ext.own S2 hp)) (S2.own hp oi) ⟨p,?_,Y⟩
  rw[<-S2.cD,Mf (yT _),VB];rfl⟩
def rf(x:DV)(P:Bool->Prop):Prop:=match x with
 |.p (.bl b)=>P b
 |_=>False
def dT(f:WE):WT:=fun δ K=>f δ λx δ1=>rf x λb=>K b δ1
def jO(t u:WT):WT:=fun δ K=>t δ λb δ1=>if b=θ then u δ1 K else K ι δ1
def oT(t u:WT):WT:=fun δ K=>t δ λb δ1=>if b=θ then K θ δ1 else u δ1 K
def eV(t:WT):WT:=fun δ K=>t δ λb δ1=>K (!b) δ1
def rh(t:WT)(f g:WE):WE:=fun δ K=>t δ λb δ1=>if b=θ then f δ1 K else g δ1 K
def kn(f g:WE):WE:=fun δ K=>f δ λx δ1=>rf x λb=>if b=θ then g δ1 K else K (.p (.bl ι)) δ1
def zu(f:WE):WE:=fun δ K=>f δ λx δ1=>rf x λb=>K (.p (.bl (!b))) δ1
theorem tR{F:Hp}{ad:-O}{x:DV}{v:V}{P:Bool->Prop}(hv:dB F ad x v)(h:rf x P):∃b,v=.bl b/\P b:=by
 unfold rf at h;split at h
 .rename_i b
  exact⟨b,hv,h⟩
 .calc h.elim
theorem mQ(ha:JE X a (tD f))(he:∀whole,isTrue a X.env whole=(do let v <- whole;standAt a.pos;holding [v] (truthy v)):=by ext _;rfl):JT X a (cP (dT f)) :=
 (JY ha he).weak fun σ H Q ⟨F,ad,δ,K,S,q,k⟩↦⟨F,ad,δ,_,S,q,λx δ1 h1 v F1 aS H1 E1 S1 V1=>by
  let⟨b,rfl,h2⟩:=tR V1 h1
  calc⟨b,Y,k _ _ h2 _ _ _ E1 S1⟩⟩
theorem fP{op:CmpOp}{o:D->D->(D->Prop)->Prop}(ho:fg X (compareOp op) o)(ha:JE X a (tD f))(hb:JE X b (tD g))(hm:behindInMarks op b=ι):JT X (.Compare a [op] [b] pos) (cP (dT (d2 f g o))) :=
 (KP ho ha hb hm).weak fun σ H Q ⟨F,ad,δ,K,S,q,k⟩↦vT (ta:=tD f) (tb:=tD g) (λ_ _ _ _ h=>h) σ H _ ⟨F,ad,δ,_,S,q,λx δ1 h1 v F1 aS H1 E1 S1 V1=>by
  let⟨b,rfl,h2⟩:=tR V1 h1
  calc⟨b,Y,k _ _ h2 _ _ _ E1 S1⟩⟩
theorem tT(ha:JT X a (cP t)):JT X (.UnaryOp .Not a pos) (cP (eV t)):=(J7 ha).weak fun σ H Q ⟨F,ad,δ,K,S,q,k⟩↦⟨F,ad,δ,_,S,q,λb δ1 h1 F1 aS H1 E1 S1=>k _ _ h1 _ _ _ E1 S1⟩
theorem Nf:∀σ H Q,cP (jO t u) σ H Q->sC (cP t) (cP u) σ H Q:=fun σ H Q ⟨F,ad,δ,K,S,q,k⟩↦⟨F,ad,δ,_,S,q,λb δ1 h1 F1 aS H1 E1 S1=>by
 cases b with
 |true =>
  rw[U_ Y] at h1 ⊢;exact⟨F1,aS,δ1,_,S1,h1,λb δ2 h2 F2 bV H2 E2 S2=>k _ _ h2 _ _ _ (E1.trans E2) S2⟩
 |false =>
  rw[U9 Vl] at h1 ⊢
  calc k _ _ h1 _ _ _ E1 S1⟩
theorem Ng:∀σ H Q,cP (oT t u) σ H Q->DB (cP t) (cP u) σ H Q:=fun σ H Q ⟨F,ad,δ,K,S,q,k⟩↦⟨F,ad,δ,_,S,q,λb δ1 h1 F1 aS H1 E1 S1=>by
 cases b with
 |false =>
  rw[U9 Vl] at h1 ⊢;exact⟨F1,aS,δ1,_,S1,h1,λb δ2 h2 F2 bV H2 E2 S2=>k _ _ h2 _ _ _ (E1.trans E2) S2⟩
 |true =>
  rw[U_ Y] at h1 ⊢
  calc k _ _ h1 _ _ _ E1 S1⟩
theorem JW.weak{e:M}{t t':TT}(h:JW X e t)(k:∀σ H Q,t' σ H Q->t σ H Q):JW X e t':=⟨λwh pins s σ H Q I q=>h wh pins s σ H Q I (k σ H Q q)⟩
theorem Nh(ha:JT X a (cP t)):JW X (.BoolOp .And [a] pos) (cP t):=JZ ha
theorem zv(ha:JT X a (cP t)):JW X (.BoolOp .Or [a] pos) (cP t):=J0 ha
theorem EV{rest:-M}(ha:JT X a (cP t))(hb:JW X (.BoolOp .And (b::rest) pos) (cP u)):JW X (.BoolOp .And (a::b::rest) pos) (cP (jO t u)):=(J5 ha hb).weak Nf
theorem vV{rest:-M}(ha:JT X a (cP t))(hb:JW X (.BoolOp .Or (b::rest) pos) (cP u)):JW X (.BoolOp .Or (a::b::rest) pos) (cP (oT t u)):=(J6 ha hb).weak Ng
theorem vW{op}(ha:JE X a (tD f)):JE X (.BoolOp op [a] pos) (tD f):=J_ ha
theorem tU{rest:-M}(ha:JE X a (tD f))(hb:JE X (.BoolOp .And (b::rest) pos) (tD g)):JE X (.BoolOp .And (a::b::rest) pos) (tD (kn f g)) :=
 (Ka ha hb).weak fun σ H Q ⟨F,ad,δ,K,S,q,k⟩=>⟨F,ad,δ,_,S,q,λx δ1 h1 v F1 aS H1 E1 S1 V1=>by
  let⟨b,rfl,h2⟩:=tR V1 h1;refine⟨b,Y,?_⟩
  cases b with
  |true =>
   rw[U_ Y] at h2 ⊢;exact⟨F1,aS,δ1,_,S1,h2,λx δ2 h3 v F2 bV H2 E2 S2 V2=>k _ _ h3 _ _ _ _ (E1.trans E2) S2 V2⟩
  |false =>
   rw[U9 Vl] at h2 ⊢
   calc k _ _ h2 _ _ _ _ E1 S1 Y⟩
theorem Ni(ha:JE X a (tD f)):JE X (.UnaryOp .Not a pos) (tD (zu f)) :=
 (Kb ha).weak fun σ H Q ⟨F,ad,δ,K,S,q,k⟩↦⟨F,ad,δ,_,S,q,λx δ1 h1 v F1 aS H1 E1 S1 V1=>by
  let⟨b,rfl,h2⟩:=tR V1 h1
  calc⟨b,Y,k _ _ h2 _ _ _ _ E1 S1 Y⟩⟩
theorem EW(hc:JT X c (cP t))(ha:JE X a (tD f))(hb:JE X b (tD g)):JE X (.IfExp c a b pos) (tD (rh t f g)) :=
 (Kd hc ha hb).weak fun σ H Q ⟨F,ad,δ,K,S,q,k⟩↦⟨F,ad,δ,_,S,q,λb δ1 h1 F1 aS H1 E1 S1=>by
  cases b with
  |true =>
   rw[U_ Y] at h1 ⊢;exact⟨F1,aS,δ1,_,S1,h1,λx δ2 h3 v F2 bV H2 E2 S2 V2=>k _ _ h3 _ _ _ _ (E1.trans E2) S2 V2⟩
  |false =>
   rw[U9 Vl] at h1 ⊢
   calc⟨F1,aS,δ1,_,S1,h1,λx δ2 h3 v F2 bV H2 E2 S2 V2=>k _ _ h3 _ _ _ _ (E1.trans E2) S2 V2⟩⟩
end
structure KS where
 nx:aG->Prop
 rt:DV->aG->Prop
 bk:aG->Prop:=λ_=>False
 ct:aG->Prop:=λ_=>False
abbrev WS:=KS->aG->Prop
def Cn(F:Hp)(ad:-O)(mu:-(Option OV))(H:Hp)(P:aG->Prop)(R:St->Hp->Prop):Prop:=∀δ',P δ'->∀F' aE σ' H',Ext F ad mu H F' aE δ'.mu H'->SR F' aE δ' σ' H'->R σ' H'
class jq where
 ok:Nat->Int->Prop
 kp:-O->-(Option OV)->Hp->Prop
 st:∀{F ad mu H F' aE cZ H'},Ext F ad mu H F' aE cZ H'->kp ad mu H->kp aE cZ H'
instance (priority:=low) Nj:jq:=⟨λ_ _=>False,λ_ _ _=>True,λ_ _=>trivial⟩
section
variable[jq]
structure vX(F:Hp)(ad:-O)(mu:-(Option OV))(H:Hp)(K:KS)(D:Ends):Prop where
 nx:Cn F ad mu H K.nx D.nx
 bk:Cn F ad mu H K.bk D.bk
 ct:Cn F ad mu H K.ct D.ct
 rt:∀x δ',K.rt x δ'->∀v F' aE σ' H',Ext F ad mu H F' aE δ'.mu H'->SR F' aE δ' σ' H'->dB F' aE x v->D.rt v H'
 kp:jq.kp ad mu H
theorem Cn.ext{F F' H H':Hp}{ad aE:-O}{mu cZ:-(Option OV)}{P:aG->Prop}{R:St->Hp->Prop}(c:Cn F ad mu H P R)(e:Ext F ad mu H F' aE cZ H'):Cn F' aE cZ H' P R:=fun δ' h _ _ _ _ E S=>c δ' h _ _ _ _ (e.trans E) S
theorem vX.ext{F F' H H':Hp}{ad aE:-O}{mu cZ:-(Option OV)}{K:KS}{D:Ends}(c:vX F ad mu H K D)(e:Ext F ad mu H F' aE cZ H'):vX F' aE cZ H' K D :=
 ⟨c.nx.ext e,c.bk.ext e,c.ct.ext e,λx δ' h _ _ _ _ _ E S V=>c.rt x δ' h _ _ _ _ _ (e.trans E) S V,jq.st e c.kp⟩
inductive dG (G:WS) (D:Ends) (σ:St) (H:Hp):Prop
 |mk (F:Hp) (ad:-O) (δ:aG) (K:KS) (S:SR F ad δ σ H) (q:G K δ) (k:vX F ad δ.mu H K D)
def az(G G':WS):WS:=λK δ=>G {K with nx:=G' K} δ
def di:WS:=λK δ=>K.nx δ
def aU(i:Nat)(f:WE):WS:=λK δ=>f δ λx δ1=>K.nx ⟨δ1.sl.set i (U x),δ1.mu⟩
def jr(f:WE):WS:=λK δ=>f δ λ_ δ1=>K.nx δ1
def aR(f:WE):WS:=λK δ=>f δ λx δ1=>K.rt x δ1
def bC(t:WT)(G G':WS):WS:=λK δ=>t δ λb δ1=>if b=θ then G K δ1 else G' K δ1
section
variable{X:Cx}{e c:M}{st:R}{rest:-R}{f:WE}{t:WT}{G G':WS}{pos:y}
theorem h8:dU X [] (dG di):=my.weak λD σ H ⟨F,ad,δ,K,S,q,k⟩↦k.nx _ q _ _ _ _ .refl S
theorem cI(h:JS X st (dG G)):dU X [st] (dG G):=xW h
theorem cE(h:JS X st (dG G))(r:dU X rest (dG G')):dU X (st::rest) (dG (az G G')) :=
 (vi h r).weak λD σ H ⟨F,ad,δ,K,S,q,k⟩↦⟨F,ad,δ,_,S,q,⟨fun δ' h _ _ _ _ E S'=>⟨_,_,δ',K,S',h,k.ext E⟩,k.bk,k.ct,k.rt,k.kp⟩⟩
theorem Nk{i:Nat}:∀D σ H,dG (aU i f) D σ H->kH (tD f) (vj i) D σ H:=λD σ H ⟨F,ad,δ,K,S,q,k⟩↦⟨F,ad,δ,_,S,q,λx δ1 h1 v F1 aS H1 E1 S1 V1=>k.nx _ h1 _ _ _ _ E1 (S1.set V1)⟩
theorem jP{i:Nat}{x:J}{pos':y}(hN:X.N.Nodup)(hi:X.N[i]?=U x)(hx:Loc X.env.scope x)(he:JE X e (tD f))(hs:swapsWith e (U (.Name x pos')) pos.line X.env=pure ι:=by rfl)
  (hf:ft X x:=by first|exact .inl Y|exact .inr Y|assumption):JS X (.Assign [.Name x pos'] e pos) (dG (aU i f)):=(x9 hN hi hx he hs hf).weak Nk
theorem oU(he:JE X e (tD f))(hs:swapsWith e Z pos.line X.env=pure ι:=by rfl):JS X (.Expr e pos) (dG (jr f)) :=
 (Kg he hs).weak λD σ H ⟨F,ad,δ,K,S,q,k⟩↦⟨F,ad,δ,_,S,q,λx δ1 h1 v F1 aS H1 E1 S1 V1=>k.nx _ h1 _ _ _ _ E1 S1⟩
theorem eW(he:JE X e (tD f)):JS X (.Return (U e) pos) (dG (aR f)) :=
 (DC he).weak λD σ H ⟨F,ad,δ,K,S,q,k⟩↦⟨F,ad,δ,_,S,q,λx δ1 h1 v F1 aS H1 E1 S1 V1=>k.rt _ _ h1 _ _ _ _ _ E1 S1 V1⟩
theorem gr{a b:-R}(hc:JT X c (cP t))(ha:dU X a (dG G))(hb:dU X b (dG G')):JS X (.If c a b pos) (dG (bC t G G')) :=
 (Kh hc ha hb).weak λD σ H ⟨F,ad,δ,K,S,q,k⟩↦⟨F,ad,δ,_,S,q,λb δ1 h1 F1 aS H1 E1 S1=>by
  cases b with
  |true =>
   rw[U_ Y] at h1 ⊢;exact⟨F1,aS,δ1,K,S1,h1,k.ext E1⟩
  |false =>
   rw[U9 Vl] at h1 ⊢
   calc⟨F1,aS,δ1,K,S1,h1,k.ext E1⟩⟩
def lT:WS:=λ_ _=>False
abbrev WG:=DV->aG->(aG->Prop)->Prop
inductive gu (g:WG) (v:V) (σ:St) (H:Hp) (Q:St->Hp->Prop):Prop
 |mk (F:Hp) (ad:-O) (δ:aG) (x:DV) (K:aG->Prop) (S:SR F ad δ σ H) (V:dB F ad x v) (q:g x δ K) (k:Cn F ad δ.mu H K Q)
abbrev qf:=-D->aG->(aG->Prop)->Prop
def mR(g:qf):ke:=λvs σ H Q=>∃F ad δ ds K,SR F ad δ σ H/\aj F ds vs/\g ds δ K/\Cn F ad δ.mu H K Q
def cz(i:Nat):WG:=λx δ K=>K ⟨δ.sl.set i (U x),δ.mu⟩
def lU:qf:=λds δ K=>match ds with
 |[]=>K δ
 |_=>False
def iK(g:WG)(g':qf):qf:=λds δ K=>match ds with
 |d::r=>g (.p d) δ fun δ1=>g' r δ1 K
 |[]=>False
theorem JG.weak{tg:M}{t t':TG}(h:JG X tg t)(k:∀v σ H Q,t' v σ H Q->t v σ H Q):JG X tg t':=⟨λpins s σ H v u Q I r q=>h pins s σ H v u Q I r (k v σ H Q q)⟩
theorem jf.weak{ts:-M}{t t':ke}(h:jf X ts t)(k:∀v σ H Q,t' v σ H Q->t v σ H Q):jf X ts t':=⟨λpins s σ H v u Q I r q=>h pins s σ H v u Q I r (k v σ H Q q)⟩
theorem kq{i:Nat}{x:J}(hN:X.N.Nodup)(hi:X.N[i]?=U x)(hx:Loc X.env.scope x)(hf:ft X x:=by first|exact .inl Y|exact .inr Y|assumption):JG X (.Name x pos) (gu (cz i)) :=
 (xZ hN hi hx hf).weak λv σ H Q ⟨F,ad,δ,x,K,S,V,q,k⟩↦k _ q _ _ _ _ .refl (S.set V)
theorem zw:jf X [] (mR lU):=jg.weak λvs σ H Q ⟨F,ad,δ,ds,K,S,V,q,k⟩↦by
 unfold lU at q;split at q
 .erw[aj] at V
  exact⟨V,k _ q _ _ _ _ .refl S⟩
 .calc q.elim
theorem tV{es:-M}{g:WG}{g':qf}(h1:JG X e (gu g))(h2:jf X es (mR g'))(hs:(assignEach (e::es) X.env).map (·.2)=assign e X.env::(assignEach es X.env).map (·.2):=by rfl):jf X (e::es) (mR (iK g g')) :=
 (x6 h1 h2 hs).weak λvs σ H Q ⟨F,ad,δ,ds,K,S,V,q,k⟩↦by
  unfold iK at q;split at q
  .rename_i d r
   erw[aj] at V;let⟨v,r',e,i1,i2⟩:=V;exact⟨v,r',e,F,ad,δ,.p d,_,S,i1,q,fun δ' h _ _ _ _ E S'=>⟨_,_,δ',r,K,S',i2.same E.same,h,k.ext E⟩⟩
  .calc q.elim
def mS(n:Nat)(g:qf):WG:=λx δ K=>hZ x δ λd=>match d with
 |.tup ds=>↑ds=n/\g ds δ K
 |.lst ds=>↑ds=n/\g ds δ K
 |_=>False
theorem JG.or{tg:M}{t t':TG}(h:JG X tg t)(h':JG X tg t'):JG X tg (λv σ H Q=>t v σ H Q\/t' v σ H Q):=⟨λpins s σ H v u Q I r q=>q.elim (λq=>h pins s σ H v u Q I r q) λq=>h' pins s σ H v u Q I r q⟩
theorem zx{es:-M}{k:Nat}{g:qf}{n:Nat}(hc:X.calm=θ)(h:jf X es (mR g))(hn:↑(assignEach es X.env)=n:=by rfl)(iP:(assignEach es X.env).findIdx? (·.1)=Z:=by rfl):JG X (.Tuple es k pos) (gu (mS n g)) :=
 ((DD hc h hn iP).or (Na hc h hn iP)).weak λv σ H Q ⟨F,ad,δ,x,K,S,V,q,k⟩↦by
  let⟨d,q,rd⟩:=jM S V q;split at q
  .rename_i ds
   let vY:Is F (.tup ds) v:=rd;erw[Is] at vY;let⟨a,vs,e,h1,h2⟩:=vY;exact .inl ⟨a,vs,e,b9.of (S.sub _ _ h1),by rw[↑h2];calc q.1,F,ad,δ,ds,K,S,h2,q.2,k⟩
  .rename_i ds
   let⟨a,vs,e,h1,h2⟩:=rd;exact .inr ⟨a,vs,e,bP.of h1,by rw[↑h2];calc q.1,F,ad,δ,ds,K,S,h2,q.2,k⟩
  .calc q.elim
def jQ(f:WE)(g:WG):WS:=λK δ=>f δ λx δ1=>g x δ1 K.nx
theorem EX{tg:M}{g:WG}(he:JE X e (tD f))(hg:JG X tg (gu g))(hs:swapsWithSole [tg] e pos.line X.env=pure ι:=by rfl)(hw:swappedStores [tg] e X.env=pure Z:=by rfl)
  (h1:(assignEach [tg] X.env).map (·.2)=[assign tg X.env]:=by rfl):JS X (.Assign [tg] e pos) (dG (jQ f g)) :=
 (mB he hg hs hw h1).weak λD σ H ⟨F,ad,δ,K,S,q,k⟩↦⟨F,ad,δ,_,S,q,λx δ1 h1 v F1 aS H1 E1 S1 V1=>⟨F1,aS,δ1,x,K.nx,S1,V1,h1,k.nx.ext E1⟩⟩
end
end
structure mT where
 items:-D
 bL:aG->Prop
abbrev WI:=aG->(mT->aG->Prop)->Prop
def qg(F:Hp)(ad:-O)(it:mT)(J:It):Prop:=∀(F':Hp)(aE:-O)(δ:aG)(σ:St)(H:Hp),aN F F'->(∀(k:Nat)(a:O),ad[k]?=U a->aE[k]?=U a)->SR F' aE δ σ H->it.bL δ →
 J.stop ↑it.items H/\∀(i:Nat)(d:D),it.items[i]?=U d->J.go i H/\∀x H',J.pF i H x H'->aN H H'/\Is (Nw F' H H') d x
inductive iL (w:WI) (σ:St) (H:Hp) (R:It->Hp->Prop):Prop
 |mk (F:Hp) (ad:-O) (δ:aG) (K:mT->aG->Prop) (S:SR F ad δ σ H) (q:w δ K) (k:∀it δ',K it δ'->∀J F' aE H',Ext F ad δ.mu H F' aE δ'.mu H'->SR F' aE δ' σ H'->qg F' aE it J->R J H')
noncomputable def vZ(n:Nat):Option DV->Option DV->Option DV
 |none,_=>Z
 |some _,some (.o k)=>if k<n then U (.o k) else Z
 |some _,some (.t d k)=>if k<n then U (.t d k) else Z
 |some _,s=>s
noncomputable def gv(n:Nat):-(Option DV)->-(Option DV)->-(Option DV)
 |s0::r0,s::r=>vZ n s0 s::gv n r0 r
 |[],_::r=>Z::gv n [] r
 |_,[]=>[]
noncomputable def aG.trim(δ0 δ:aG):aG:=⟨gv ↑δ0.mu δ0.sl δ.sl,δ.mu.take ↑δ0.mu⟩
theorem zy{n:Nat}:∀(l0 l:-(Option DV)),↑(gv n l0 l)=↑l
 |_::r0,_::r=>by rw[gv,Eg,Eg,zy r0 r]
 |[],_::r=>by rw[gv,Eg,Eg,zy [] r]
 |[],[]=>Y
 |_::_,[]=>Y
theorem zz{n:Nat}:∀{l0 l:-(Option DV)}{i:Nat}{x:DV},(gv n l0 l)[i]?=U (U x)->l[i]?=U (U x)/\∀k,x=.o k\/(∃d,x=.t d k)->k<n
 |s0::r0,s::r,0,x,h=>by
  let h:vZ n s0 s=U x:=by simpa[gv] using h
  match s0,s,h with
  |none,_,h=>cases h
  |some _,none,h=>cases h
  |some _,some (.p d),h=>cases(show U (DV.p d)=U x from h);exact⟨Y,λk e=>by rcases e with e|⟨_,e⟩<;>cases e⟩
  |some _,some (.w d),h=>cases(show U (DV.w d)=U x from h);exact⟨Y,λk e=>by rcases e with e|⟨_,e⟩<;>cases e⟩
  |some _,some (.u t d),h=>cases(show U (DV.u t d)=U x from h);exact⟨Y,λk e=>by rcases e with e|⟨_,e⟩<;>cases e⟩
  |some _,some (.t d k),h =>
   let h:(if k<n then U (DV.t d k) else Z)=U x:=h
   by_cases c:k<n
   .rw[U_ c] at h;cases h;exact⟨Y,λk' e=>by rcases e with e|⟨_,e⟩<;>cases e;calc c⟩
   .rw[U9 c] at h;cases h
  |some _,some (.o k),h =>
   let h:(if k<n then U (DV.o k) else Z)=U x:=h
   by_cases c:k<n
   .rw[U_ c] at h;cases h;exact⟨Y,λk' e=>by rcases e with e|⟨_,e⟩<;>cases e;calc c⟩
   .rw[U9 c] at h;cases h
 |s0::r0,s::r,i+1,x,h=>by
  let h:(gv n r0 r)[i]?=U (U x):=by simpa[gv] using h
  simpa using zz h
 |[],s::r,0,x,h=>by simp[gv] at h
 |[],s::r,i+1,x,h=>by
  let h:(gv n [] r)[i]?=U (U x):=by simpa[gv] using h
  simpa using zz h
 |[],[],i,x,h=>by simp[gv] at h
 |_::_,[],i,x,h=>by simp[gv] at h
section
variable{F F' H H':Hp}{ad aE:-O}{δ δ' δ0:aG}{σ σ' τ:St}{mu cZ:-(Option OV)}{l:O}{o:HO}
theorem Lv.take{n:Nat}{a:O}(h:Lv (ad.take n) (mu.take n) a):Lv ad mu a:=by
 let⟨k,ov,e1,e2⟩:=h
 let hk:k<n:=by
  let:=(qW.mp e1).1;rw[Vn] at this;symm
 rw[Vr hk] at e1 e2;calc⟨k,ov,e1,e2⟩
theorem SR.trim(S:SR F ad δ σ H):SR F (ad.take ↑δ0.mu) (δ0.trim δ) σ H:=by
 let tk:∀{k:Nat}{a:O},(ad.take ↑δ0.mu)[k]?=U a->k<↑δ0.mu/\ad[k]?=U a:=λ{k a} e=>by
  let hk:k<↑δ0.mu:=by
   let:=(qW.mp e).1;rw[Vn] at this;symm
  rw[Vr hk] at e;exact⟨hk,e⟩
 let tm:∀{k:Nat}{w:Option OV},(δ.mu.take ↑δ0.mu)[k]?=U w->k<↑δ0.mu/\δ.mu[k]?=U w:=λ{k w} e=>by
  let hk:k<↑δ0.mu:=by
   let:=(qW.mp e).1;rw[Vn] at this;symm
  rw[Vr hk] at e;exact⟨hk,e⟩
 refine⟨S.sub,λa x=>S.off a x.take,?_,λk l a w w' e1 e2 e3 e4=>S.inj k l a w w' (tk e1).2 (tk e2).2 (tm e3).2 (tm e4).2,λk ov e=>?_,λi x e=>?_,?_,S.tab,S.nt⟩
 .show ↑(ad.take _)=↑(δ.mu.take _)
  rw[Vn,Vn,S.cD]
 .let⟨a,o,e1,e2,h⟩:=S.mu k ov (tm e).2
  exact⟨a,o,by rw[Vr (tm e).1];calc e1,e2,h⟩
 .let⟨e1,e2⟩:=zz e
  let⟨v,h1,h2⟩:=S.sl i x e1;exact⟨v,h1,h2.pre λk a h3 z=>by rw[Vr (e2 k z)];calc h3⟩
 .show ↑σ=↑(gv _ _ _)
  rw[zy];calc S.len
theorem Ext.trim{n:Nat}(e:Ext F ad mu H F' aE cZ H')(hn:↑ad=n):Ext F ad mu H F' (aE.take n) (cZ.take n) H' :=
 ⟨e.same,e.new,e.keep,λk a h=>by rw[Vr (by rw[<-hn];calc(qW.mp h).1)];calc e.pre k a h,λa x=>e.b_ a x.take,e.iI⟩
theorem SR.other(S:SR F ad δ σ H)(hf:F l=Z)(hl:¬ Lv ad δ.mu l)(tk:aV.ok (upd H l o)):SR F ad δ σ (upd H l o):=by
 refine⟨λa u e=>?_,S.off,S.cD,S.inj,λk ov e=>?_,S.sl,S.len,tk,S.nt⟩
 .rw[bf (dF e hf)];exact S.sub a u e
 .let⟨a,u,e1,e2,h⟩:=S.mu k ov e
  calc⟨a,u,e1,by rw[bf λz=>hl (by subst z;calc⟨k,ov,e1,e⟩)];calc e2,h⟩
theorem Ext.other(e:Ext F ad mu H F' aE cZ H')(hl:H l=Z):Ext F ad mu H F' aE cZ (upd H' l o) :=
 ⟨e.same,e.new,λa u h n t=>by rw[bf (dF h hl)];calc e.keep a u h n t,e.pre,e.b_,λa u h=>by rw[bf (dF h hl)];calc e.iI a u h⟩
theorem SR.adopt(S:SR F ad δ σ H)(hf:F l=Z)(ho:H l=U o)(hl:¬ Lv ad δ.mu l)(no:∀ps,o≠.tbl ps:=by ext _ z;cases z):SR (upd F l o) ad δ σ H:=by
 let sm:aN F (upd F l o):=dh hf
 refine⟨λa u e=>?_,λa x=>?_,S.cD,S.inj,λk ov e=>?_,λi x e=>?_,S.len,S.tab,S.nt.up sm λa ha=>by
  let⟨ps,q⟩:=aV.tb S.tab ha;rw[bf λz=>by subst z;rw[ho] at q;calc no ps (Vm q)]
  calc S.nt a ha⟩
 .by_cases c:a=l
  .subst c;rw[b7] at e;cases e;exact ho
  .rw[bf c] at e;exact S.sub a u e
 .rw[bf λz=>hl (by subst z;calc x)];exact S.off a x
 .let⟨a,u,e1,e2,h⟩:=S.mu k ov e
  exact⟨a,u,e1,e2,h.same sm⟩
 .let⟨v,e1,h⟩:=S.sl i x e
  calc⟨v,e1,h.same sm⟩
theorem Ext.adopt(e:Ext F ad mu H F' aE cZ H')(hl:H l=Z)(hf:F' l=Z):Ext F ad mu H (upd F' l o) aE cZ H' :=
 ⟨e.same.trans (dh hf),λa u h=>by
  by_cases c:a=l
  .subst c;exact .inr (.inl hl)
  .rw[bf c] at h;calc e.new a u h,e.keep,e.pre,e.b_,e.iI⟩
theorem SR.cx{ov:OV}(S:SR F ad δ σ H)(hf:F l=Z)(ho:H l=U o)(hl:¬ Lv ad δ.mu l)(h:eN F l ov o):SR F (ad++[l]) ⟨δ.sl,δ.mu++[U ov]⟩ σ H:=by
 let old:∀{k:Nat}{w:OV},(δ.mu++[U ov])[k]?=U (U w)->(k<↑δ.mu/\δ.mu[k]?=U (U w))\/(k=↑δ.mu/\w=ov):=λ{k w} e=>by
  by_cases c:k<↑δ.mu
  .rw[Mc c] at e;exact .inl ⟨c,e⟩
  .let hl:=(qW.mp e).1
   rw[Eh,VA] at hl;let ek:k=↑δ.mu:=by symm
   subst ek;rw[Mf (yT _),VB] at e;exact .inr ⟨Y,by simpa using e.symm⟩
 let pre:∀{k:Nat},k<↑δ.mu->(ad++[l])[k]?=ad[k]?:=λ{k} c=>Mc (by rw[S.cD];calc c);let last:(ad++[l])[↑δ.mu]?=U l:=by rw[<-S.cD,Mf (yT _),VB];rfl
 refine⟨S.sub,λa x=>?_,by rw[Eh,Eh,S.cD];rfl,λk k' a w w' e1 e2 e3 e4=>?_,λk w e=>?_,λi x e=>?_,S.len,S.tab,S.nt⟩
 .let⟨k,w,e1,e2⟩:=x
  rcases old e2 with⟨c,e3⟩|⟨c,e3⟩
  .rw[pre c] at e1;exact S.off a ⟨k,w,e1,e3⟩
  .subst c;rw[last] at e1;cases e1;exact hf
 .rcases old e3 with⟨c,q⟩|⟨c,q⟩
  .rw[pre c] at e1
   rcases old e4 with⟨c',q'⟩|⟨c',q'⟩
   .rw[pre c'] at e2;exact S.inj k k' a w w' e1 e2 q q'
   .subst c';rw[last] at e2;cases e2;exact absurd ⟨k,w,e1,q⟩ hl
  .subst c;rw[last] at e1;cases e1
   rcases old e4 with⟨c',q'⟩|⟨c',q'⟩
   .rw[pre c'] at e2;exact absurd ⟨k',w',e2,q'⟩ hl
   .exact c'.symm
 .rcases old e with⟨c,q⟩|⟨c,q⟩
  .let⟨a,u,e1,e2,h'⟩:=S.mu k w q
   exact⟨a,u,by rw[pre c];calc e1,e2,h'⟩
  .subst c;subst q;exact⟨l,o,last,ho,h⟩
 .let⟨v,e1,h'⟩:=S.sl i x e
  calc⟨v,e1,h'.pre λk a e2 _=>by rw[Mc (qW.mp e2).1];calc e2⟩
theorem Ext.cx{ov:OV}(e:Ext F ad mu H F' aE cZ H')(hl:H l=Z)(hm:↑aE=↑cZ):Ext F ad mu H F' (aE++[l]) (cZ++[U ov]) H' :=
 ⟨e.same,e.new,e.keep,λk a h=>by rw[Mc (qW.mp (e.pre k a h)).1];calc e.pre k a h,λa x=>by
  let⟨k,w,e1,e2⟩:=x
  by_cases c:k<↑cZ
  .rw[Mc c] at e2
   rw[Mc (by rw[hm];calc c)] at e1;exact e.b_ a ⟨k,w,e1,e2⟩
  .let fQ:=(qW.mp e2).1
   rw[Eh,VA] at fQ;let ek:k=↑aE:=by rw[hm];symm
   subst ek;rw[Mf (yT _),VB] at e1;let:l=a:=by simpa using e1
   subst this;calc .inr hl,e.iI⟩
theorem SR.back{sl:-(Option DV)}(S0:SR F ad δ σ H)(e:Ext F ad δ.mu H F' aE cZ H')(S:SR F' aE ⟨sl,cZ⟩ τ H'):SR F' aE ⟨δ.sl,cZ⟩ σ H' :=
 ⟨S.sub,S.off,S.cD,S.inj,S.mu,λi x q=>let⟨v,h1,h2⟩:=S0.sl i x q;⟨v,h1,h2.ext e⟩,S0.len,S.tab,S.nt⟩
noncomputable def cV(cp:-(Option Nat))(sl:-(Option DV)):-(Option DV):=cp.map λo=>match o with
 |some i=>(sl[i]?).join
 |none=>Z
theorem SR.qh{cp:-(Option Nat)}(S:SR F ad δ σ H):SR F ad ⟨cV cp δ.sl,δ.mu⟩ (hW cp σ) H:=by
 calc⟨S.sub,S.off,S.cD,S.inj,S.mu,λj x e=>?_,by unfold hW cV;rw[pV,pV],S.tab,S.nt⟩;unfold cV at e;rw[My] at e;let⟨o,e1,e2⟩:=Va.mp e
 match o,e2 with
 |none,e2=>cases e2
 |some i,e2 =>
  let e2:(δ.sl[i]?).join=U x:=e2
  cases q:δ.sl[i]? with
  |none=>rw[q] at e2;cases e2
  |some z =>
   rw[q] at e2;let e3:z=U x:=e2;subst e3;let⟨v,h1,h2⟩:=S.sl i x q;calc⟨v,?_,h2⟩;unfold hW;rw[My,e1];show U ((σ[i]?).join)=U (U v);rw[h1];rfl
end
def kW(δ0:aG)(bL:aG->Prop)(g:WG)(b:WS)(K:KS):-D->aG->Prop
 |[],δ=>bL δ/\K.nx δ
 |d::r,δ=>bL δ/\g (.p d) δ fun δ1=>b {nx:=fun δ2=>kW δ0 bL g b K r (δ0.trim δ2),ct:=fun δ2=>kW δ0 bL g b K r (δ0.trim δ2),bk:=K.nx,rt:=K.rt} δ1
def fR(w:WI)(g:WG)(b:WS):WS:=λK δ=>w δ λit δ1=>kW δ1 it.bL g b K it.items δ1
def ju(δ0:aG)(bL:aG->Prop)(g:WG)(t:WT)(f:WE)(K:-D->aG->Prop):-D->-D->aG->Prop
 |[],acc,δ=>bL δ/\K acc δ
 |d::r,acc,δ=>bL δ/\g (.p d) δ fun δ1=>t δ1 λb δ2=>if b=θ then f δ2 λx δ3=>kj x δ3 λe δ4=>↑acc<1000/\ju δ0 bL g t f K r (acc++[e]) (δ0.trim δ4) else ju δ0 bL g t f K r acc (δ0.trim δ2)
def gF(w:WI)(cp:-(Option Nat))(g:WG)(t:WT)(f:WE):WE:=fun δ K=>w δ λit δ1=>ju ⟨cV cp δ1.sl,δ1.mu⟩ it.bL g t f (λacc δ'=>K (.p (.lst acc)) ⟨δ1.sl,δ'.mu⟩) it.items [] ⟨cV cp δ1.sl,δ1.mu⟩
def kX(w:WI)(cp:-(Option Nat))(g:WG)(t:WT)(f:WE):WE:=fun δ K=>w δ λit δ1=>ju ⟨cV cp δ1.sl,δ1.mu⟩ it.bL g t f (λacc δ'=>K (.o ↑δ'.mu) ⟨δ1.sl,δ'.mu++[U (.lst acc)]⟩) it.items [] ⟨cV cp δ1.sl,δ1.mu⟩
section
variable{X:Cx}{tg iter elt:M}{body:-R}{w:WI}{g:WG}{b:WS}{pos:y}{ifs:-M}{t:WT}{f:WE}{scope:o}
theorem zA[jq](hp:PassesOwn (ς X.prog X.w) X.A X.env X.xe)(hc:X.calm=θ)(hi:JI X tg iter (iL w))(hg:JG X tg (gu g))(hb:dU X body (dG b))(hs:∀x,foldedSetIterable iter X.env x=pure x:=by ext _;rfl):
  JS X (.For tg iter body [] pos) (dG (fR w g b)):=(DH hp hc hi hg hb hs).weak λD σ H ⟨F,ad,δ,K,S,q,k⟩=>by
 calc⟨F,ad,δ,_,S,q,λit δ1 h1 J F1 aS H1 E1 S1 I1=>?_⟩;let k1:=k.ext E1;calc⟨λi m σ' H'=>∃F' aE δ',i+m=↑it.items/\Ext F1 aS δ1.mu H1 F' aE δ'.mu H'/\SR F' aE δ' σ' H'/\kW δ1 it.bL g b K (it.items.drop i) δ',⟨↑it.items,F1,aS,δ1,⋯,.refl,S1,h1⟩,?_⟩;ext i m σ' H' ⟨F',aE,δ',hm,E',S',h⟩
 by_cases fG:i<↑it.items
 .rw[Wu fG] at h
  let⟨ck,h⟩:=h;let⟨go,yl⟩:=(I1 F' aE δ' σ' H' E'.same E'.pre S' ck).2 i _ (pU fG);calc .inr ⟨go,fun σ2 H2=>∃F2 bV δ2,Ext F1 aS δ1.mu H1 F2 bV δ2.mu H2/\SR F2 bV δ2 σ2 H2/\kW δ1 it.bL g b K (it.items.drop (i+1)) δ2,fun σ2 H2 ⟨F2,bV,δ2,e1,e2,e3⟩↦⟨m-1,⋯,F2,bV,δ2,⋯,e1,e2,e3⟩,λx H2 y=>?_⟩;let⟨sm,is⟩:=yl x H2 y;let E2:=E'.trans (Ext.al S' sm);calc⟨_,aE,δ',.p _,_,S'.al sm,is,h,fun δ3 h3 F3 mU σ3 H3 E3 S3=>?_⟩;let tW:=E2.trans E3;refine⟨F3,mU,δ3,_,S3,h3,⟨fun δ4 h4 F4 rj σ4 H4 E4 S4=>⟨F4,_,_,(tW.trans E4).trim S1.cD,S4.trim,h4⟩,k1.nx.ext tW,fun δ4 h4 F4 rj σ4 H4 E4 S4=>⟨F4,_,_,(tW.trans E4).trim S1.cD,S4.trim,h4⟩,(k1.ext tW).rt,(k1.ext tW).kp⟩⟩
 .let ei:i=↑it.items:=by symm
  subst ei;rw[Yj (yT _)] at h;let⟨ck,h⟩:=h;calc .inl ⟨(I1 F' aE δ' σ' H' E'.same E'.pre S' ck).1,k1.nx _ h _ _ _ _ E' S'⟩
def dH:WT:=fun δ K=>K θ δ
theorem JF.weak{ifs:-M}{t t':TT}(h:JF X ifs t)(k:∀σ H Q,t' σ H Q->t σ H Q):JF X ifs t':=⟨λpins s σ H Q I q=>h pins s σ H Q I (k σ H Q q)⟩
theorem qi:JF X [] (cP dH):=pY.weak fun σ H Q ⟨F,ad,δ,K,S,q,k⟩↦k _ _ q _ _ _ .refl S
theorem EY{c:M}(h:JT X c (cP t)):JF X [c] (cP t):=Mi h
theorem EZ{J:It}{l:O}{F1:Hp}{aS:-O}{δ1:aG}{σ:St}{H1:Hp}{it:mT}{cp:-(Option Nat)}{Q:VK}{K:-D->aG->Prop}(S1:SR F1 aS δ1 σ H1)(I1:qg F1 aS it J)(hl:H1 l=Z)
  (h:ju ⟨cV cp δ1.sl,δ1.mu⟩ it.bL g t f K it.items [] ⟨cV cp δ1.sl,δ1.mu⟩)
  (fin:∀acc δ' F' aE τ H' ys,K acc δ'->Ext F1 aS δ1.mu H1 F' aE δ'.mu H'->SR F' aE δ' τ H'->H' l=U (.lst ys)->F' l=Z->¬ Lv aE δ'.mu l->aj F' acc ys->Q (.ref l) H') :
  yX J (gu g) (cP t) (tD f) l (hW cp σ) (upd H1 l (.lst [])) Q:=by
 let f1:F1 l=Z:=by
  cases q:F1 l with
  |none=>rfl
  |some u=>rw[S1.sub l u q] at hl;cases hl
 let nl:∀{ad mu},(∀a,Lv ad mu a->Lv aS δ1.mu a\/H1 a=Z)->True:=λ_=>trivial
 let l1:¬ Lv aS δ1.mu l:=λ⟨k,ov,e1,e2⟩↦by
  let⟨a,o,e3,e4,_⟩:=S1.mu k ov e2;rw[e1] at e3;cases e3;rw[hl] at e4;cases e4
 let S0:SR F1 aS ⟨cV cp δ1.sl,δ1.mu⟩ (hW cp σ) (upd H1 l (.lst [])):=S1.qh.other f1 l1 (aV.same S1.tab (dh hl));calc⟨λi m τ H'=>∃F' aE δ' acc ys,i+m=↑it.items/\Ext F1 aS δ1.mu H1 F' aE δ'.mu H'/\SR F' aE δ' τ H'/\H' l=U (.lst ys)/\F' l=Z/\¬ Lv aE δ'.mu l/\aj F' acc ys/\ju ⟨cV cp δ1.sl,δ1.mu⟩ it.bL g t f K (it.items.drop i) acc δ',⟨↑it.items,F1,aS,_,[],[],⋯,Ext.refl.other hl,S0,b7,f1,l1,.nil,h⟩,?_⟩;ext i m τ H' ⟨F',aE,δ',acc,ys,hm,E',S',fQ,gP,ik,ia,h⟩
 by_cases fG:i<↑it.items
 .rw[Wu fG] at h
  let⟨ck,h⟩:=h;let⟨go,yl⟩:=(I1 F' aE δ' τ H' E'.same E'.pre S' ck).2 i _ (pU fG)
  let step:∀{F2:Hp}{bV:-O}{qj:-(Option OV)}{H2:Hp},Ext F' aE δ'.mu H' F2 bV qj H2->H2 l=U (.lst ys)/\F2 l=Z/\¬ Lv bV qj l/\aj F2 acc ys:=λ{F2 bV qj H2} e=>by
   refine⟨e.keep _ _ fQ ik (λz=>by let⟨ps,q⟩:=aV.tb S1.tab z;rw[hl] at q;cases q),?_,λz=>?_,ia.same e.same⟩
   .cases q:F2 l with
    |none=>rfl
    |some u =>
     rcases e.new l u q with z|z|z
     .rw[gP] at z;cases z
     .rw[fQ] at z;cases z
     .exact absurd z ik
   .rcases e.b_ l z with z|z
    .exact ik z
    .rw[fQ] at z;cases z
  refine .inr ⟨go,fun τ2 H2=>∃F2 bV δ2 gQ mV,Ext F1 aS δ1.mu H1 F2 bV δ2.mu H2/\SR F2 bV δ2 τ2 H2/\H2 l=U (.lst mV)/\F2 l=Z/\¬ Lv bV δ2.mu l/\aj F2 gQ mV/\ju ⟨cV cp δ1.sl,δ1.mu⟩ it.bL g t f K (it.items.drop (i+1)) gQ δ2,
   fun τ2 H2 ⟨F2,bV,δ2,gQ,mV,r⟩↦⟨m-1,⋯,F2,bV,δ2,gQ,mV,⋯,r⟩,λx H2 y=>?_⟩
  let⟨sm,is⟩:=yl x H2 y;let X2:=Ext.al S' sm;calc⟨_,aE,δ',.p _,_,S'.al sm,is,h,fun δ3 h3 F3 mU σ3 H3 X3 S3=>?_⟩;calc⟨F3,mU,δ3,_,S3,h3,λbb δ4 h4 F4 rj H4 X4 S4=>?_⟩;let qk:=(X2.trans X3).trans X4
  cases bb with
  |false =>
   dsimp only at h4 ⊢;rw[U9 Vl] at h4 ⊢;let⟨a1,a2,a3,a4⟩:=step qk;exact⟨F4,_,_,acc,ys,(E'.trans qk).trim S1.cD,S4.trim (δ0:=⟨cV cp δ1.sl,δ1.mu⟩),a1,a2,λz=>a3 z.take,a4,h4⟩
  |true =>
   dsimp only at h4 ⊢;rw[U_ Y] at h4 ⊢;calc⟨F4,rj,δ4,_,S4,h4,λy δ5 h5 v F5 Nl H5 X5 S5 V5=>?_⟩;let⟨e,δ6,F6,⟨hlen,h6⟩,X6,S6,i6⟩:=qe S5 V5 h5;let tX:=(qk.trans X5).trans X6;let⟨a1,a2,a3,a4⟩:=step tX;calc⟨ys,a1,pX (by rw[↑a4];symm),F6,_,_,acc++[e],ys++[v],?_,(S6.other a2 a3 (aV.put S6.tab a1 (.inl ⟨_,Y⟩))).trim (δ0:=⟨cV cp δ1.sl,δ1.mu⟩),b7,a2,λz=>a3 z.take,a4.snoc i6,h6⟩;exact((E'.trans tX).other hl).trim S1.cD
 .let ei:i=↑it.items:=by symm
  subst ei;rw[Yj (yT _)] at h;let⟨ck,h⟩:=h;calc .inl ⟨(I1 F' aE δ' τ H' E'.same E'.pre S' ck).1,fin _ _ _ _ _ _ _ h E' S' fQ gP ik ia⟩
theorem E5{cp:-(Option Nat)}:∀σ H Q,tD (gF w cp g t f) σ H Q->pZ (iL w) cp (λ_=>gu g) (λ_=>cP t) (λ_=>tD f) σ H Q:=fun σ H Q ⟨F,ad,δ,K,S,q,k⟩=>by
 calc⟨F,ad,δ,_,S,q,λit δ1 h1 J F1 aS H1 E1 S1 I1=>λd l hl=>?_⟩;calc EZ S1 I1 hl h1 λacc δ' F' aE τ H' ys hk E' S' fQ gP ik ia=>?_;let sm:aN F' (upd F' l (.lst ys)):=dh gP;calc k _ _ hk _ _ _ _ (E1.trans (E'.adopt hl gP)) (SR.back (sl:=δ'.sl) S1 (E'.adopt hl gP) (S'.adopt gP fQ ik)) ?_;show Is _ (.lst acc) _;erw[Is];calc⟨l,ys,Y,b7,ia.same sm⟩
theorem E6{cp:-(Option Nat)}:∀σ H Q,tD (kX w cp g t f) σ H Q->pZ (iL w) cp (λ_=>gu g) (λ_=>cP t) (λ_=>tD f) σ H Q:=fun σ H Q ⟨F,ad,δ,K,S,q,k⟩=>by
 calc⟨F,ad,δ,_,S,q,λit δ1 h1 J F1 aS H1 E1 S1 I1=>λd l hl=>?_⟩;calc EZ S1 I1 hl h1 λacc δ' F' aE τ H' ys hk E' S' fQ gP ik ia=>?_;let S2:=S'.cx (ov:=.lst acc) gP fQ ik ⟨ys,Y,ia⟩;let E2:=E'.cx (ov:=.lst acc) hl S'.cD;calc k _ _ hk _ _ _ _ (E1.trans E2) (SR.back (sl:=δ'.sl) S1 E2 S2) ⟨l,?_,Y⟩;rw[<-S'.cD,Mf (yT _),VB];rfl
theorem zB(cp:-(Option Nat))(Nb:-J)(hc:X.calm=θ)(hi:JI X tg iter (iL w))(hg:∀d,JG (cb X scope Nb d) tg (gu g))(hf:∀d,JF (cb X scope Nb d) ifs (cP t))(he:∀d,JE (cb X scope Nb d) elt (tD f))
  (hk:scope.kind=.function:=by rfl) (ho:jj X.N X.env.scope scope Nb cp=θ:=by first|rfl|kernel_rfl) (hs:∀x,foldedSetIterable iter X.env x=pure x:=by ext _;rfl) :
  JE X (.ListComp elt [⟨tg,iter,ifs,0⟩] scope pos) (tD (gF w cp g t f)):=(Ep cp Nb hc hi hg hf he hk ho hs).weak E5
theorem E7(cp:-(Option Nat))(Nb:-J)(hc:X.calm=θ)(hi:JI X tg iter (iL w))(hg:∀d,JG (cb X scope Nb d) tg (gu g))(hf:∀d,JF (cb X scope Nb d) ifs (cP t))(he:∀d,JE (cb X scope Nb d) elt (tD f))
  (hk:scope.kind=.function:=by rfl) (ho:jj X.N X.env.scope scope Nb cp=θ:=by first|rfl|kernel_rfl) (hs:∀x,foldedSetIterable iter X.env x=pure x:=by ext _;rfl) :
  JE X (.ListComp elt [⟨tg,iter,ifs,0⟩] scope pos) (tD (kX w cp g t f)):=(Ep cp Nb hc hi hg hf he hk ho hs).weak E6
theorem E8[jq](cp:-(Option Nat))(Nb:-J){i:Nat}{x:J}{pos' dA:y}(hN:X.N.Nodup)(hi:X.N[i]?=U x)(hx:Loc X.env.scope x)(hc:X.calm=θ)(hit:JI X tg iter (iL w))(hg:∀d,JG (cb X scope Nb d) tg (gu g))(hf:∀d,JF (cb X scope Nb d) ifs (cP t))(he:∀d,JE (cb X scope Nb d) elt (tD f))
  (hk:scope.kind=.function:=by rfl) (ho:jj X.N X.env.scope scope Nb cp=θ:=by first|rfl|kernel_rfl) (hs:∀x,foldedSetIterable iter X.env x=pure x:=by ext _;rfl)
  (kN:swapsWith (.ListComp elt [⟨tg,iter,ifs,0⟩] scope pos) (U (.Name x pos')) dA.line X.env=pure θ:=by rfl)
  (iG:ft X x:=by first|exact .inl Y|exact .inr Y|assumption) :
  JS X (.Assign [.Name x pos'] (.ListComp elt [⟨tg,iter,ifs,0⟩] scope pos) dA) (dG (aU i (gF w cp g t f))) :=
 (vG cp Nb hN hi hx hc hit hg hf he hk ho hs kN iG).weak λD σ H ⟨F,ad,δ,K,S,q,k⟩↦E5 σ H _ ⟨F,ad,δ,_,S,q,λx δ1 h1 v F1 aS H1 E1 S1 V1=>k.nx _ h1 _ _ _ _ E1 (S1.set V1)⟩
theorem Nm[jq](cp:-(Option Nat))(Nb:-J){i:Nat}{x:J}{pos' dA:y}(hN:X.N.Nodup)(hi:X.N[i]?=U x)(hx:Loc X.env.scope x)(hc:X.calm=θ)(hit:JI X tg iter (iL w))(hg:∀d,JG (cb X scope Nb d) tg (gu g))(hf:∀d,JF (cb X scope Nb d) ifs (cP t))(he:∀d,JE (cb X scope Nb d) elt (tD f))
  (hk:scope.kind=.function:=by rfl) (ho:jj X.N X.env.scope scope Nb cp=θ:=by first|rfl|kernel_rfl) (hs:∀x,foldedSetIterable iter X.env x=pure x:=by ext _;rfl)
  (kN:swapsWith (.ListComp elt [⟨tg,iter,ifs,0⟩] scope pos) (U (.Name x pos')) dA.line X.env=pure θ:=by rfl)
  (iG:ft X x:=by first|exact .inl Y|exact .inr Y|assumption) :
  JS X (.Assign [.Name x pos'] (.ListComp elt [⟨tg,iter,ifs,0⟩] scope pos) dA) (dG (aU i (kX w cp g t f))) :=
 (vG cp Nb hN hi hx hc hit hg hf he hk ho hs kN iG).weak λD σ H ⟨F,ad,δ,K,S,q,k⟩↦E6 σ H _ ⟨F,ad,δ,_,S,q,λx δ1 h1 v F1 aS H1 E1 S1 V1=>k.nx _ h1 _ _ _ _ E1 (S1.set V1)⟩
end
inductive RV where
 |p (d:D)|n (ds:-D)|a (j:Nat)|t (d:D) (ds:-D)
def ql(F' H H':Hp)(d:D)(ds:-D)(v:V):Prop:=∃a b u vs,v=.ref a/\F' a=U (.tup [u,.ref b])/\Is F' d u/\H b=Z/\H' b=U (.lst vs)/\F' b=Z/\aj F' ds vs
abbrev GD:=-DV->-OV->(RV->-OV->Prop)->Prop
structure zC(F:Hp)(ad:-O)(H:Hp)(r:RV)(ows:-OV)(v:V)(F' H':Hp):Prop where
 sub:aN F' H'
 same:aN F F'
 new:∀a o,F' a=U o->F a=U o\/H a=Z
 keep:∀a o,H a=U o->a∉ad->a∉aV.ad->H' a=U o
 tab:aV.ok H'
 nt:NT F'
 len:↑ows=↑ad
 own:∀(j:Nat)(ow:OV),ows[j]?=U ow->∃a o,ad[j]?=U a/\H' a=U o/\eN F' a ow o
 off:∀a∈ad,F' a=Z
 res:match r with
  |.p d=>Is F' d v
  |.n ds=>∃a vs,v=.ref a/\H a=Z/\H' a=U (.lst vs)/\F' a=Z/\aj F' ds vs
  |.a j=>∃a,ad[j]?=U a/\v=.ref a
  |.t d ds=>ql F' H H' d ds v
inductive mW (G:GD) (n:Nat) (vs:-V) (H:Hp) (Q:VK) (_:XK):Prop
 |mk (hl:↑vs=n) (F:Hp) (ad:-O) (ys:-DV) (ar:-OV) (K:RV->-OV->Prop) (S:SR F ad ⟨ys.map U,ar.map U⟩ (vs.map U) H) (g:G ys ar K) (k:∀r ows,K r ows->∀v F' H',zC F ad H r ows v F' H'->Q v H')
def gR(n:Nat)(K:RV->-OV->Prop)(x:DV)(δ:aG):Prop:=∃ows,δ.mu.take n=ows.map U/\↑ows=n/\match x with
 |.p d=>K (.p d) ows
 |.o k=>if k<n then K (.a k) ows else match δ.mu[k]? with
  |some (some (.lst ds))=>K (.n ds) ows\/K (.p (.lst ds)) ows
  |_=>False
 |.w _=>False
 |.u _ _=>False
 |.t d k=>n<=k/\match δ.mu[k]? with
  |some (some (.lst ds))=>K (.t d ds) ows
  |_=>False
noncomputable def iY(n:Nat)(K:RV->-OV->Prop):KS where
 nx:=gR n K (.p .non)
 rt:=gR n K
section
variable{F F' H H':Hp}{ad aE:-O}{σ σ':St}
theorem tY{α:Type}{l:-α}{i:Nat}{x:α}(h:(l.map U)[i]?=U (U x)):l[i]?=U x:=by
 rw[My] at h;let⟨y,e,q⟩:=Va.mp h;cases q;calc e
theorem tZ{α:Type}{l:-α}{i:Nat}{x:α}(h:l[i]?=U x):(l.map U)[i]?=U (U x):=by
 rw[My,h];rfl
theorem SR.start{ys:-DV}{mu:-(Option OV)}{vs:-V}{N:-J}(S:SR F ad ⟨ys.map U,mu⟩ (vs.map U) H):SR F ad ⟨ys.map U++Ul (↑N-↑vs) Z,mu⟩ (start N vs) H:=by
 let hl:↑vs=↑ys:=by
  let:=S.len;rw[pV] at this;rw[this];rw[pV]
 refine⟨S.sub,S.off,S.cD,S.inj,S.mu,λi x e=>?_,?_,S.tab,S.nt⟩
 .let hi:i<↑ys:=by
   by_cases c:i<↑ys
   .exact c
   .rw[Mf (by rw[pV];symm),X8] at e
    split at e
    .cases e
    .cases e
  rw[Mc (by rw[pV];calc hi)] at e;let⟨v,h1,h2⟩:=S.sl i x e;exact⟨v,by unfold L2.start;rw[Mc (by rw[pV,hl];calc hi)];calc h1,h2⟩
 .unfold L2.start
  rw[Eh,Eh,Yo,Yo,pV,pV,hl]
theorem v3{ar:-OV}{δ:aG}{x:DV}{v:V}{K:RV->-OV->Prop}{Q:VK}{sl:-(Option DV)}{τ:St}(S0:SR F ad ⟨sl,ar.map U⟩ τ H)(E:Ext F ad (ar.map U) H F' aE δ.mu H')(S:SR F' aE δ σ' H')(V:dB F' aE x v)
  (h:gR ↑ar K x δ) (k:∀r ows,K r ows->∀v F' H',zC F ad H r ows v F' H'->Q v H'):Q v H':=by
 let⟨ows,tk,hl,h⟩:=h;let al:↑ad=↑ar:=by let:=S0.cD;rwa [pV] at this
 let lv:∀(j:Nat)(a:O),ad[j]?=U a->∃ow,ows[j]?=U ow/\δ.mu[j]?=U (U ow)/\Lv aE δ.mu a:=λj a e=>by
  let hj:j<↑ar:=by rw[<-al];exact(qW.mp e).1
  let h1:(δ.mu.take ↑ar)[j]?=U (U (ows[j]'(by rw[hl];calc hj))):=by
   rw[tk,My,pU (by rw[hl];calc hj)];rfl
  rw[Vr hj] at h1;exact⟨_,pU (by rw[hl];calc hj),h1,j,_,E.pre j a e,h1⟩
 let jR:∀a∈ad,F' a=Z:=λa ha=>by
  let⟨j,e⟩:=Ur.mp ha;let⟨_,_,_,l⟩:=lv j a e;exact S.off a l
 let base:∀{F2:Hp},aN F' F2->aN F2 H'->(∀a o,F2 a=U o->F' a=U o\/(H a=Z/\¬ a∈ad))->(∀a∈ad,F2 a=Z)->NT F2->∀{r:RV},(match r with
   |.p d=>Is F2 d v
   |.n ds=>∃a vs,v=.ref a/\H a=Z/\H' a=U (.lst vs)/\F2 a=Z/\aj F2 ds vs
   |.a j=>∃a,ad[j]?=U a/\v=.ref a
   |.t d ds=>ql F2 H H' d ds v)->zC F ad H r ows v F2 H':=λ{F2} s1 s2 n2 o2 Nn {r} res=>by
  refine⟨s2,E.same.trans s1,λa o e=>?_,λa o e n t=>?_,S.tab,Nn,by rw[hl,al],λj ow e=>?_,o2,res⟩
  .rcases n2 a o e with e|⟨e,_⟩
   .rcases E.new a o e with z|z|⟨j,ov,z,_⟩
    .exact .inl z
    .exact .inr z
    .rw[jR a (Ur.mpr ⟨j,z⟩)] at e;cases e
   .exact .inr e
  .exact E.keep a o e (λ⟨j,ov,z,_⟩↦n (Ur.mpr ⟨j,z⟩)) t
  .let hj:j<↑ad:=by rw[al,<-hl];exact(qW.mp e).1
   let⟨zD,e1,e2,_⟩:=lv j _ (pU hj);rw[e] at e1;cases e1;let⟨a,o,e3,e4,h5⟩:=S.mu j _ e2;rw[E.pre j _ (pU hj)] at e3;cases e3
   exact⟨_,o,pU hj,e4,h5.same s1⟩
 let fresh:∀{i:Nat}{ds:-D}{a:O},¬ i<↑ar->aE[i]?=U a->δ.mu[i]?=U (U (.lst ds))->∃vs,H' a=U (.lst vs)/\aj F' ds vs/\a∉ad/\F' a=Z/\H a=Z:=λ{i ds a} c e1 em=>by
  let⟨a',o,e2,e3,vs,rfl,h4⟩:=S.mu i _ em;rw[e1] at e2;cases e2
  let na:a∉ad:=λz=>by
   let⟨j,e⟩:=Ur.mp z;let⟨ow,_,e5,_⟩:=lv j a e;let:i=j:=S.inj i j a _ _ e1 (E.pre j a e) em e5;subst this;exact c (by rw[<-al];calc(qW.mp e).1)
  calc⟨vs,e3,h4,na,S.off a ⟨i,_,e1,em⟩,?_⟩;rcases E.b_ a ⟨i,_,e1,em⟩ with⟨j,ov,z,_⟩|z
  .exact absurd (Ur.mpr ⟨j,z⟩) na
  .exact z
 cases x with
 |p d=>exact k _ _ h _ _ _ (base (F2:=F') (λ_ _ e=>e) S.sub (λ_ _ e=>.inl e) jR S.nt V)
 |w _=>exact h.elim
 |u _ _=>exact h.elim
 |t d i =>
  let⟨a,b,u,rfl,e0,e2,e1⟩:=V;let⟨c,h⟩:=h;split at h
  .rename_i ds em
   let⟨vs,e3,h4,na,fa,ha⟩:=fresh ⋯ e1 em;exact k _ _ h _ _ _ (base (F2:=F') (λ_ _ e=>e) S.sub (λ_ _ e=>.inl e) jR S.nt ⟨a,b,u,vs,Y,e0,e2,ha,e3,fa,h4⟩)
  .exact h.elim
 |o i =>
  dsimp only at h;let⟨a,e1,rfl⟩:=V
  by_cases c:i<↑ar
  .rw[U_ c] at h
   let ei:ad[i]?=U a:=by
    let:=E.pre i _ (pU (by rw[al];calc c));rw[e1] at this;rw[pU (by rw[al];calc c)];exact this.symm
   exact k _ _ h _ _ _ (base (F2:=F') (λ_ _ e=>e) S.sub (λ_ _ e=>.inl e) jR S.nt ⟨a,ei,Y⟩)
  .rw[U9 c] at h
   split at h
   .rename_i ds em
    let⟨vs,e3,h4,na,fa,ha⟩:=fresh c e1 em;rcases h with h|h
    .exact k _ _ h _ _ _ (base (F2:=F') (λ_ _ e=>e) S.sub (λ_ _ e=>.inl e) jR S.nt ⟨a,vs,Y,ha,e3,fa,h4⟩)
    .refine k _ _ h _ _ _ (base (F2:=upd F' a (.lst vs)) (dh fa) (λb o e=>?_) (λb o e=>?_) (λb hb=>?_) (S.nt.up (dh fa) λb hb=>?_) ?_)
     .by_cases z:b=a
      .subst z;rw[b7] at e;cases e;exact e3
      .rw[bf z] at e;exact S.sub b o e
     .by_cases z:b=a
      .subst z;exact .inr ⟨ha,na⟩
      .rw[bf z] at e;exact .inl e
     .rw[bf λz=>na (by subst z;calc hb)];exact jR b hb
     .let⟨ps,q⟩:=aV.tb S.tab hb
      rw[bf λz=>by subst z;rw[e3] at q;cases q];exact S.nt b hb
     .show Is _ (.lst ds) _
      exact⟨a,vs,Y,b7,h4.same (dh fa)⟩
   .calc h.elim
end
theorem f_.Np{P:l}{w:ω}{K:Ee}{mg:J->Option L}{base:I}{x qual:J}{st:R}{f:O}{fd:FuncData}{N ps:-J}{k:Nat}{G:GD}(F:f_ K x qual st f fd)(S:mF N ps (cH st))
  (eA:∀(bq:L)(A:q)(outer:-t)(s:ο)(H:Hp)(E:XK),bc k (A.deeper (envOfC qual (cH st) ⇑s f bq)) →
   ∃B:WS,dU (eT eM P w K mg base N qual (cH st) f bq A outer s H E).kc (fN st) (dG B)/\∀ys ar K',↑ys=↑ps->G ys ar K'->B (iY ↑ar K') ⟨ys.map U++Ul (↑N-↑ps) Z,ar.map U⟩) :
  bY P w K mg base eM (k+1) f fd ps (mW G ↑ps) :=
 F.vC S (λvs H Q E h=>h.1) λbq A outer s H vs Q E hr h=>by
  let⟨hl,Fz,ad,ys,ar,K',S0,g,kk⟩:=h;let⟨B,jb,hb⟩:=eA bq A outer s H E hr
  let hy:↑ys=↑ps:=by
   let:=S0.len;rw[pV] at this;rw[<-hl,this];rw[pV]
  refine⟨_,jb,Fz,ad,⟨ys.map U++Ul (↑N-↑ps) Z,ar.map U⟩,iY ↑ar K',by rw[<-hl];calc S0.start,hb ys ar K' hy g,⟨fun δ' h F' aE σ' H' E' S'=>?_,fun δ' h=>h.elim,fun δ' h=>h.elim,λy δ' h v F' aE σ' H' E' S' V=>?_,trivial⟩⟩
  .exact v3 (σ':=σ') S0 E' S' (x:=.p .non) (v:=.non) Y h kk
  .calc v3 (σ':=σ') S0 E' S' V h kk
noncomputable def passes(mu:-(Option OV)):-DV->Nat->Option (-DV×-(Nat×OV))
 |[],_=>U ([],[])
 |.p d::xs,j=>match passes mu xs j with
  |some r=>U (.p d::r.1,r.2)
  |none=>Z
 |.o k::xs,j=>match mu[k]? with
  |some (some ov)=>match passes mu xs (j+1) with
   |some r=>U (.o j::r.1,(k,ov)::r.2)
   |none=>Z
  |_=>Z
 |.w a::xs,j=>match passes mu xs j with
  |some r=>U (.w a::r.1,r.2)
  |none=>Z
 |.u _ _::_,_=>Z
 |.t _ _::_,_=>Z
noncomputable def c6(mu:-(Option OV)):-(Nat×OV)->-OV->-(Option OV)
 |(k,_)::r,ow::ows=>c6 (mu.set k (U ow)) r ows
 |_,_=>mu
noncomputable def jS:-(Nat×OV)->Bool
 |[]=>θ
 |(k,_)::r => !(r.any λe=>e.1==k)&&jS r
def mX(δ:aG)(bR:-(Nat×OV))(K:DV->aG->Prop)(r:RV)(ows:-OV):Prop:=match r with
 |.p d=>K (.p d) ⟨δ.sl,c6 δ.mu bR ows⟩
 |.n ds=>K (.p (.lst ds)) ⟨δ.sl,c6 δ.mu bR ows⟩
 |.t d ds=>K (.p (.tup [d,.lst ds])) ⟨δ.sl,c6 δ.mu bR ows⟩
 |.a j=>match bR[j]? with
  |some ko=>K (.o ko.1) ⟨δ.sl,c6 δ.mu bR ows⟩
  |none=>False
def t6(δ:aG)(bR:-(Nat×OV))(K:DV->aG->Prop)(r:RV)(ows:-OV):Prop:=match r with
 |.n ds=>K (.o ↑(c6 δ.mu bR ows)) ⟨δ.sl,c6 δ.mu bR ows++[U (.lst ds)]⟩
 |_=>False
def aF(n:Nat)(G:GD)(fa:WA):WE:=fun δ K=>fa δ λxs δ1=>match passes δ1.mu xs 0 with
 |some r=>(jS r.2=θ/\↑r.1=n)/\G r.1 (r.2.map (·.2)) (mX δ1 r.2 K)
 |none=>False
def t7(n:Nat)(G:GD)(fa:WA):WE:=fun δ K=>fa δ λxs δ1=>match passes δ1.mu xs 0 with
 |some r=>(jS r.2=θ/\↑r.1=n)/\G r.1 (r.2.map (·.2)) (t6 δ1 r.2 K)
 |none=>False
section
variable{F F' H H':Hp}{ad aE:-O}{δ:aG}{σ σ':St}
theorem rk{mu:-(Option OV)}(hm:∀(k:Nat) (ov:OV),mu[k]?=U (U ov)->∃a o,ad[k]?=U a/\H a=U o/\eN F a ov o):∀{xs:-DV}{vs:-V}{j:Nat}{r:-DV×-(Nat×OV)},passes mu xs j=U r->cU F ad xs vs →
  ∃as:-O,↑as=↑r.2/\(∀(i:Nat)(ko:Nat×OV),r.2[i]?=U ko->mu[ko.1]?=U (U ko.2)/\∃a o,as[i]?=U a/\ad[ko.1]?=U a/\H a=U o/\eN F a ko.2 o) ∧
   ∀(pre:-O),pre.length=j->∃_u:Unit,↑vs=↑r.1/\∀(i:Nat)(y:DV),r.1[i]?=U y->∃v,vs[i]?=U v/\dB F (pre++as) y v
 |[],vs,j,r,h,hv=>by
  cases h
  let:vs=[]:=hv;subst this;exact⟨[],Y,λi ko e=>by simp at e,λpre _=>⟨(),Y,λi y e=>by simp at e⟩⟩
 |.p d::xs,_,j,r,h,⟨v,t,e,h1,h2⟩=>by
  subst e;unfold passes at h;split at h
  .rename_i r' hr
   cases h
   let⟨as,l,b,c⟩:=rk hm hr h2;refine⟨as,l,b,λpre hp=>⟨(),?_,λi y e=>?_⟩⟩
   .let⟨_,c1,_⟩:=c pre hp
    rw[Eg,Eg,c1]
   .let⟨_,_,c2⟩:=c pre hp
    cases i with
    |zero=>cases(show U (DV.p d)=U y by simpa using e);exact⟨v,Y,h1⟩
    |succ i=>simpa using c2 i y e⁻¹
  .cases h
 |.w d::xs,_,j,r,h,⟨v,t,e,h1,h2⟩=>by
  subst e;unfold passes at h;split at h
  .rename_i r' hr
   cases h
   let⟨as,l,b,c⟩:=rk hm hr h2;refine⟨as,l,b,λpre hp=>⟨(),?_,λi y e=>?_⟩⟩
   .let⟨_,c1,_⟩:=c pre hp
    rw[Eg,Eg,c1]
   .let⟨_,_,c2⟩:=c pre hp
    cases i with
    |zero=>cases(show U (DV.w d)=U y by simpa using e);exact⟨v,Y,h1⟩
    |succ i=>simpa using c2 i y e⁻¹
  .cases h
 |.o k::xs,_,j,r,h,⟨v,t,e,h1,h2⟩=>by
  subst e;unfold passes at h;split at h
  .rename_i ov hk
   split at h
   .rename_i r' hr
    cases h
    let⟨as,l,b,c⟩:=rk hm hr h2;let⟨a,e1,rfl⟩:=h1;let⟨a',o,e2,e3,e4⟩:=hm k ov hk;rw[e1] at e2;cases e2;refine⟨a::as,by rw[Eg,Eg,l],λi ko e=>?_,λpre hp=>⟨(),?_,λi y e=>?_⟩⟩
    .cases i with
     |zero=>cases(show U (k,ov)=U ko by simpa using e);exact⟨hk,a,o,Y,e1,e3,e4⟩
     |succ i=>simpa using b i ko e⁻¹
    .let⟨_,c1,_⟩:=c (pre++[a]) (by rw[Eh,hp];rfl)
     rw[Eg,Eg,c1]
    .let⟨_,_,c2⟩:=c (pre++[a]) (by rw[Eh,hp];rfl)
     cases i with
     |zero =>
      cases(show U (DV.o j)=U y by simpa using e)
      calc⟨_,Y,a,?_,Y⟩;rw[Mf ⋯,hp,VB];rfl
     |succ i =>
      let⟨v',c3,c4⟩:=c2 i y e⁻¹;exact⟨v',by simpa using c3,by rw[Xe] at c4;calc c4⟩
   .cases h
  .cases h
theorem zE:∀{bR:-(Nat×OV)},jS bR=θ->∀(i j:Nat)(k:Nat)(a b:OV),bR[i]?=U (k,a)->bR[j]?=U (k,b)->i=j
 |[],_,i,j,k,a,b,e,_=>by simp at e
 |(k',ov)::r,h,i,j,k,a,b,e1,e2=>by
  unfold jS at h;erw[Vy,Yk] at h
  let no:∀(m:Nat)(c:OV),r[m]?=U (k',c)->False:=λm c e=>by
   let:=WJ.mp h.1 _ (Ur.mpr ⟨m,e⟩);exact this (by simp)
  cases i with
  |zero =>
   cases(show U (k',ov)=U (k,a) by simpa using e1)
   cases j with
   |zero=>rfl
   |succ j=>exact(no j b e2⁻¹).elim
  |succ i =>
   cases j with
   |zero=>cases(show U (k',ov)=U (k,b) by simpa using e2);exact(no i a e1⁻¹).elim
   |succ j=>rw[zE h.2 i j k a b e1⁻¹ e2⁻¹]
theorem zF:∀(bR:-(Nat×OV))(ows:-OV)(mu:-(Option OV)),↑(c6 mu bR ows)=↑mu
 |(k,_)::r,ow::ows,mu=>by rw[c6,zF r ows,VS]
 |[],_,_=>Y
 |_::_,[],_=>Y
theorem t8:∀(bR:-(Nat×OV))(ows:-OV)(mu:-(Option OV))(l:Nat),(∀ko∈bR,ko.1≠l)->(c6 mu bR ows)[l]?=mu[l]?
 |(k,_)::r,ow::ows,mu,l,h=>by
  rw[c6,t8 r ows _ l λko hk=>h ko (Us _ hk),VI (h _ Vc)]
 |[],_,_,_,_=>Y
 |_::_,[],_,_,_=>Y
theorem zG:∀{bR:-(Nat×OV)}{ows:-OV}{mu:-(Option OV)}{i:Nat}{ko:Nat×OV}{ow:OV},jS bR=θ->bR[i]?=U ko->ows[i]?=U ow->ko.1<↑mu->(c6 mu bR ows)[ko.1]?=U (U ow)
 |(k,ov)::r,zD::ows,mu,0,ko,ow,h,e1,e2,hl=>by
  cases(show U (k,ov)=U ko by simpa using e1)
  cases(show U zD=U ow by simpa using e2)
  unfold jS at h;erw[Vy,Yk] at h;rw[c6,t8 r ows _ k λko hk z=>absurd z⁻¹ (WJ.mp h.1 ko hk),VN hl]
 |(k,ov)::r,zD::ows,mu,i+1,ko,ow,h,e1,e2,hl=>by
  unfold jS at h;erw[Vy,Yk] at h;rw[c6];exact zG h.2 e1⁻¹ e2⁻¹ (by rw[VS];calc hl)
 |[],_,_,i,_,_,_,e1,_,_=>by simp at e1
 |_::_,[],_,i,_,_,_,_,e2,_=>by simp at e2
theorem E9{xs:-DV}{vs:-V}{r:-DV×-(Nat×OV)}{G:GD}{n:Nat}{Q:VK}{E:XK}{K:RV->-OV->Prop}(S:SR F ad δ σ H)(V:cU F ad xs vs)(hn:↑vs=n)(hp:passes δ.mu xs 0=U r)(nd:jS r.2=θ)(g:G r.1 (r.2.map (·.2)) K)
  (fin:∀res ows v F' H',K res ows->Ext F ad δ.mu H F' ad (c6 δ.mu r.2 ows) H'->SR F' ad ⟨δ.sl,c6 δ.mu r.2 ows⟩ σ H'->(match res with
   |.p d=>Is F' d v
   |.n ds=>∃a vs,v=.ref a/\H a=Z/\H' a=U (.lst vs)/\F' a=Z/\aj F' ds vs
   |.a j=>∃ko a,r.2[j]?=U ko/\ad[ko.1]?=U a/\v=.ref a
   |.t d ds=>ql F' H H' d ds v)->Q v H'):mW G n vs H Q E:=by
 let⟨as,al,b,c⟩:=rk S.mu hp V;let⟨_,c1,c2⟩:=c [] Y
 let jw:∀(i:Nat)(a:O),as[i]?=U a->Lv ad δ.mu a/\∃ko,r.2[i]?=U ko/\ad[ko.1]?=U a/\δ.mu[ko.1]?=U (U ko.2):=λi a e=>by
  let hi:i<↑r.2:=by rw[<-al];exact(qW.mp e).1
  let⟨m1,a',o,e1,e2,_,_⟩:=b i _ (pU hi);rw[e] at e1;cases e1;exact⟨⟨_,_,e2,m1⟩,_,pU hi,e2,m1⟩
 refine⟨hn,F,as,r.1,r.2.map (·.2),K,⟨S.sub,λa ⟨i,ov,e1,e2⟩↦S.off a (jw i a e1).1,by rw[al];rw[pV,pV],λi j a ov ow e1 e2 _ _=>?_,λi ov e=>?_,λi y e=>?_,?_,S.tab,S.nt⟩,g,λres ows hk v F' H' P=>?_⟩
 .let⟨_,ko,k1,k2,k3⟩:=jw i a e1
  let⟨_,kp,p1,p2,p3⟩:=jw j a e2;let:ko.1=kp.1:=S.inj _ _ a _ _ k2 p2 k3 p3;exact zE nd i j ko.1 ko.2 kp.2 k1 (by rw[this];calc p1)
 .let e:=tY e
  rw[My] at e;let⟨ko,e1,rfl⟩:=Va.mp e;let⟨_,a,o,e2,_,e4,e5⟩:=b i ko e1;exact⟨a,o,e2,e4,e5⟩
 .let⟨v,e1,e2⟩:=c2 i y (tY e)
  exact⟨v,tZ e1,by simpa using e2⟩
 .show ↑(vs.map U)=↑(r.1.map U)
  rw[pV,pV,c1]
 .let ol:↑ows=↑r.2:=by rw[P.len,al]
  let jE:∀(l:Nat)(ow:OV),(c6 δ.mu r.2 ows)[l]?=U (U ow)->(∃(i:Nat)(ko:Nat×OV),r.2[i]?=U ko/\ko.1=l/\ows[i]?=U ow)\/((∀ko∈r.2,ko.1≠l)/\δ.mu[l]?=U (U ow)):=λl ow e=>by
   by_cases z:∃ko∈r.2,ko.1=l
   .let⟨ko,hk,rfl⟩:=z
    let⟨i,hi⟩:=Ur.mp hk;let lV:i<↑ows:=by rw[ol];exact(qW.mp hi).1
    let:=zG (mu:=δ.mu) nd hi (pU lV) (qW.mp (b i ko hi).1).1;rw[e] at this;cases this
    exact .inl ⟨i,ko,hi,Y,pU lV⟩
   .let z':∀ko∈r.2,ko.1≠l:=λko hk q=>z ⟨ko,hk,q⟩
    rw[t8 _ _ _ _ z'] at e;exact .inr ⟨z',e⟩
  let mY:∀(l:Nat)(ow:OV)(a:O),ad[l]?=U a->(c6 δ.mu r.2 ows)[l]?=U (U ow)->Lv ad δ.mu a:=λl ow a e1 e2=>by
   rcases jE l ow e2 with⟨i,ko,hi,rfl,_⟩|⟨_,q⟩
   .exact⟨_,_,e1,(b i ko hi).1⟩
   .exact⟨_,_,e1,q⟩
  let t_:∀a,a∈as->Lv ad δ.mu a:=λa ha=>by
   let⟨i,e⟩:=Ur.mp ha;exact(jw i a e).1
  let ex:Ext F ad δ.mu H F' ad (c6 δ.mu r.2 ows) H':=by
   refine⟨P.same,λa o e=>?_,λa o e n t=>P.keep a o e (λz=>n (t_ a z)) t,λ_ _ e=>e,λa ⟨l,ow,e1,e2⟩↦.inl (mY l ow a e1 e2),λa o e=>?_⟩
   .rcases P.new a o e with z|z
    .exact .inl z
    .exact .inr (.inl z)
   .by_cases z:a∈as
    .let⟨i,e1⟩:=Ur.mp z
     let hi:i<↑ows:=by rw[P.len];exact(qW.mp e1).1
     let⟨a',o',e2,e3,_⟩:=P.own i _ (pU hi);rw[e1] at e2;cases e2;exact⟨o',e3⟩
    .by_cases t:a∈aV.ad
     .let⟨ps,q⟩:=aV.tb P.tab t
      exact⟨_,q⟩
     .exact⟨o,P.keep a o e z t⟩
  let qm:∀a,Lv ad δ.mu a->F' a=Z:=λa l=>by
   by_cases z:a∈as
   .exact P.off a z
   .cases q:F' a with
    |none=>rfl
    |some u =>
     rcases P.new a u q with y|y
     .rw[S.off a l] at y;cases y
     .let⟨k,ov,e1,e2⟩:=l
      let⟨a',o,e3,e4,_⟩:=S.mu k ov e2;rw[e1] at e3;cases e3;rw[y] at e4;cases e4
  let sr:SR F' ad ⟨δ.sl,c6 δ.mu r.2 ows⟩ σ H':=by
   refine⟨P.sub,λa ⟨l,ow,e1,e2⟩↦qm a (mY l ow a e1 e2),by rw[S.cD];calc(zF _ _ _).symm,λk l a ov ow e1 e2 e3 e4=>?_,λl ow e=>?_,λi y e=>?_,S.len,P.tab,P.nt⟩
   .let h3:∃w,δ.mu[k]?=U (U w):=by
     rcases jE k ov e3 with⟨i,ko,hi,rfl,_⟩|⟨_,q⟩
     .exact⟨_,(b i ko hi).1⟩
     .exact⟨_,q⟩
    let h4:∃w,δ.mu[l]?=U (U w):=by
     rcases jE l ow e4 with⟨i,ko,hi,rfl,_⟩|⟨_,q⟩
     .exact⟨_,(b i ko hi).1⟩
     .exact⟨_,q⟩
    let⟨_,h3⟩:=h3;let⟨_,h4⟩:=h4;exact S.inj k l a _ _ e1 e2 h3 h4
   .rcases jE l ow e with⟨i,ko,hi,rfl,ho⟩|⟨z,q⟩
    .let⟨_,a,o,e1,e2,_,_⟩:=b i ko hi
     let⟨a',o',e3,e4,h5⟩:=P.own i ow ho;rw[e1] at e3;cases e3;exact⟨a,o',e2,e4,h5⟩
    .let⟨a,o,e1,e2,h⟩:=S.mu l ow q
     refine⟨a,o,e1,P.keep a o e2 (λy=>?_) (λt=>?_),h.same P.same⟩
     .let⟨i,e3⟩:=Ur.mp y
      let⟨_,ko,k1,k2,k3⟩:=jw i a e3;exact z ko (Ur.mpr ⟨i,k1⟩) (S.inj _ _ a _ _ k2 e1 k3 q)
     .let⟨ps,q2⟩:=aV.tb S.tab t
      rw[e2] at q2;cases q2
      exact h.kind ps Y
   .let⟨v,e1,h⟩:=S.sl i y e
    exact⟨v,e1,h.ext ex⟩
  calc fin res ows v F' H' hk ex sr ?_;let gT:=P.res
  cases res with
  |p d=>exact gT
  |n ds=>exact gT
  |t d ds=>exact gT
  |a j =>
   let⟨a,e1,e2⟩:=gT;let⟨_,ko,k1,k2,_⟩:=jw j a e1;calc⟨ko,a,k1,k2,e2⟩
end
section
variable{X:Cx}{fa:WA}{G:GD}{pos:y}
theorem zH{F1 F2 H1 H2:Hp}{aS:-O}{δ1:aG}{σ:St}{xs:-DV}{vs:-V}{r:-DV×-(Nat×OV)}{ows:-OV}{a:O}(S1:SR F1 aS δ1 σ H1)(V1:cU F1 aS xs vs)(hp:passes δ1.mu xs 0=U r)(n1:H1 a=Z):¬ Lv aS (c6 δ1.mu r.2 ows) a:=λ⟨k,ov,e1,e2⟩↦by
 let c:∃ov,δ1.mu[k]?=U (U ov):=by
  by_cases y:∃ko∈r.2,ko.1=k
  .let⟨ko,lW,rfl⟩:=y
   let⟨as,_,b,_⟩:=rk S1.mu hp V1;let⟨i,hi⟩:=Ur.mp lW;exact⟨_,(b i ko hi).1⟩
  .rw[t8 _ _ _ _ λko lW q=>y ⟨ko,lW,q⟩] at e2
   exact⟨_,e2⟩
 let⟨Nq,c⟩:=c;let⟨a',o,e3,e4,_⟩:=S1.mu k Nq c;rw[e1] at e3;cases e3;rw[n1] at e4;cases e4
theorem cU.length{F:Hp}{ad:-O}:∀{xs:-DV}{vs:-V},cU F ad xs vs->↑vs=↑xs
 |[],vs,h=>by let h:vs=[]:=h;rw[h];rfl
 |x::xs,vs,⟨v,r,e,_,h2⟩=>by rw[e,Eg,Eg,cU.length h2]
theorem rl{mu:-(Option OV)}:∀{xs:-DV}{j:Nat}{r:-DV×-(Nat×OV)},passes mu xs j=U r->↑r.1=↑xs
 |[],j,r,h=>by cases h;rfl
 |.p d::xs,j,r,h=>by
  unfold passes at h;split at h
  .rename_i r' hr;cases h;rw[Eg,Eg,rl hr]
  .cases h
 |.w d::xs,j,r,h=>by
  unfold passes at h;split at h
  .rename_i r' hr;cases h;rw[Eg,Eg,rl hr]
  .cases h
 |.o k::xs,j,r,h=>by
  unfold passes at h;split at h
  .split at h
   .rename_i r' hr;cases h;rw[Eg,Eg,rl hr]
   .cases h
  .cases h
section
variable{k:Nat}{f:O}{fd:FuncData}{ps:-J}{x:J}{p:y}{e:M}{es:-M}{n:Nat}
theorem Nr{E:XK}{F F1 H H1:Hp}{ad aS:-O}{δ δ1:aG}{σ:St}{K:DV->aG->Prop}{Q:VK}{xs:-DV}{vs:-V}(kk:∀x δ',K x δ'->∀v F' aE H',Ext F ad δ.mu H F' aE δ'.mu H'->SR F' aE δ' σ H'->dB F' aE x v->Q v H')(h1:match passes δ1.mu xs 0 with
 |some r=>(jS r.2=θ/\↑r.1=n)/\G r.1 (r.2.map (·.2)) (mX δ1 r.2 K)
 |none=>False)(E1:Ext F ad δ.mu H F1 aS δ1.mu H1)(S1:SR F1 aS δ1 σ H1)(V1:cU F1 aS xs vs):mW G n (vs++[]) H1 Q E:=by
 split at h1
 .rename_i r hp
  let⟨⟨nd,hn⟩,h1⟩:=h1;rw[mL];calc E9 S1 V1 (by rw[↑V1,<-rl hp,hn]) hp nd h1 λres ows v F2 H2 hk E2 S2 fx=>?_;unfold mX at hk
  cases res with
  |p d=>exact kk _ _ hk _ _ _ _ (E1.trans E2) S2 fx
  |n ds =>
   let⟨a,us,rfl,n1,n2,n3,n4⟩:=fx;calc kk _ _ hk _ _ _ _ (E1.trans (E2.adopt (o:=.lst us) n1 n3)) (S2.adopt n3 n2 (zH (F2:=F2) (H2:=H2) S1 V1 hp n1)) ?_;show Is _ (.lst ds) _;exact⟨a,us,Y,b7,n4.same (dh n3)⟩
  |t d ds =>
   let⟨a,b,u,us,rfl,m1,m2,n1,n2,n3,n4⟩:=fx;calc kk _ _ hk _ _ _ _ (E1.trans (E2.adopt (o:=.lst us) n1 n3)) (S2.adopt n3 n2 (zH (F2:=F2) (H2:=H2) S1 V1 hp n1)) ?_;show Is _ (.tup [d,.lst ds]) _;let sm:aN F2 (upd F2 b (.lst us)):=dh n3;exact⟨a,_,Y,sm _ _ m1,u,_,Y,m2.same sm,.ref b,_,Y,⟨b,us,Y,b7,n4.same sm⟩,Y⟩
  |a j =>
   let⟨ko,a,h1,h2,h3⟩:=fx;dsimp only at hk;rw[h1] at hk;exact kk _ _ hk _ _ _ _ (E1.trans E2) S2 ⟨a,h2,h3⟩
 .calc h1.elim
theorem Nt{E:XK}:∀σ H Q,tD (aF n G fa) σ H Q->yr (mW G n) [] E (cf fa) σ H Q:=fun σ H Q ⟨F,ad,δ,K,S,q,kk⟩ ↦
 ⟨F,ad,δ,_,S,q,λxs δ1 h1 vs F1 aS H1 E1 S1 V1=>Nr kk h1 E1 S1 V1⟩
theorem Nu{E:XK}:∀σ H Q,tD (t7 n G fa) σ H Q->yr (mW G n) [] E (cf fa) σ H Q:=fun σ H Q ⟨F,ad,δ,K,S,q,kk⟩=>by
 calc⟨F,ad,δ,_,S,q,λxs δ1 h1 vs F1 aS H1 E1 S1 V1=>?_⟩;split at h1
 .rename_i r hp
  let⟨⟨nd,hn⟩,h1⟩:=h1;rw[mL];refine E9 S1 V1 (by rw[↑V1,<-rl hp,hn]) hp nd h1 λres ows v F2 H2 hk E2 S2 fx=>?_
  cases res with
  |p d=>exact hk.elim
  |n ds =>
   let⟨a,us,rfl,n1,n2,n3,n4⟩:=fx;let oi:∀{ax},eN F2 ax (.lst ds) (.lst us):=λ{ax}=>⟨us,Y,n4⟩;calc kk _ _ hk _ _ _ _ (E1.trans (E2.cx (ov:=.lst ds) n1 S2.cD)) (S2.cx n3 n2 (zH (F2:=F2) (H2:=H2) S1 V1 hp n1) oi) ⟨a,?_,Y⟩;let:↑aS=↑(c6 δ1.mu r.2 ows):=S2.cD;rw[<-this,Mf (yT _),VB];rfl
  |a j=>exact hk.elim
  |t d ds=>exact hk.elim
 .calc h1.elim
theorem Nv(Fn:bY X.prog X.w X.K X.mg X.base eM k f fd ps (mW G n))(hr:bc k X.A)(hg:Gl X x)(hm:X.mg x=U (.ref f))(hk:V6 X.K (.ref f)=θ)(hb:Binds X.K fd ps [])
  (ha:JA X (e::es) (cf fa)) (dX:b8 x:=by decide) (he:cF X e es:=by rfl) (dg:cR X pos es:=by rfl) :
  JE X (.Call (.Name x p) (e::es) [] pos) (tD (aF n G fa)):=(vq Fn hr hg hm hk hb .nil pW ha dX he dg).weak Nt
theorem Nx(Fn:bY X.prog X.w X.K X.mg X.base eM k f fd ps (mW G n))(hr:bc k X.A)(hg:Gl X x)(hm:X.mg x=U (.ref f))(hk:V6 X.K (.ref f)=θ)(hb:Binds X.K fd ps [])
  (ha:JA X (e::es) (cf fa)) (dX:b8 x:=by decide) (he:cF X e es:=by rfl) (dg:cR X pos es:=by rfl) :
  JE X (.Call (.Name x p) (e::es) [] pos) (tD (t7 n G fa)):=(vq Fn hr hg hm hk hb .nil pW ha dX he dg).weak Nu
end
end
end L2
namespace PySem
open Sem (wp)
open AutoSeq1 (wpAny_loadPart')
theorem Ny(l:O)(items:Array L)(n:Nat)(dct:Option O)(sl:Array (Option L)):
  Meets (Builtin.«enumerate.__new__» ⟨[.type "enumerate",.ref l],[]⟩) (λ_ R s=>s.heap.get? l=U {cls:=.type "tuple",dict:=dct,data:=.seq items n,slots:=sl} ∧
   R (.ok (.ret (.ref (s.heap.push {cls:=.type "tuple_iterator",data:=.fields #[.ref l,.int 0 0]}).objs.size)))
    {s with heap:=(s.heap.push {cls:=.type "tuple_iterator",data:=.fields #[.ref l,.int 0 0]}).push {cls:=.type "enumerate",data:=.fields #[.none,.bool ι,.ref ⇑s,rawInt 0,.none,.none]}}) :=
 .of_wp λprog w A R s h=>by
  let⟨hp,g,d,tk,os⟩:=s;let⟨hl,h⟩:=h;let zI:=sub_enumerate;let hL:Heap.IsTuple (q1d ⟨hp,g,d,tk,os⟩) l items:=⟨_,hl,Y,n,Y⟩
  wp_walk using Wg hl
  calc wpAny_stack_any λst=>Md ?_;split
  .rename_i c _ _ _ _ _
   cases(c==X1 "enumerate")
   .wp_walk using Wg hl,Xz hL
    exact⟨_,Y,h⟩
   .wp_walk using Wg hl,Xz hL
    exact⟨_,Y,h⟩
  .wp_walk using Wg hl,Xz hL
   calc⟨_,Y,h⟩
section
variable{prog:l}{w:g}{A:q}{E:bw}{s:B}
theorem Nz{l:O}{items:Array L}{Q:bw}(hL:s.heap.IsTuple l items)
  (h:∀h',IsEnum h' (⇑s+1) ⇑s 0 .none->h'.IsTupleIter ⇑s l 0->h'.objs.size=⇑s+2 →
   (∀b o,s.heap.get? b=U o->h'.get? b=U o)->Q (.ref (⇑s+1)) {s with heap:=h'}) :
  G (S prog w) A (call (.type "enumerate") [.ref l]) Q E s:=by
 let⟨⟨c,dct,dt,sl⟩,hl,hc,n,hd⟩:=hL;subst hc hd
 refine callType_new F.called_enumerate (by decide) (F.typeCall_enumerate_1 _) (F.newCall_enumerate_1 _) (λobj=>F.args_object_init_2 obj _) F.entry_enumerate_new
  (Ny l items n dct sl) ⟨hl,?_⟩
 let hz:(s.heap.push {cls:=.type "tuple_iterator",data:=.fields #[.ref l,.int 0 0]}).objs.size=⇑s+1:=VQ ..;rw[hz]
 let he:IsEnum ((s.heap.push {cls:=.type "tuple_iterator",data:=.fields #[.ref l,.int 0 0]}).push
   {cls:=.type "enumerate",data:=.fields #[.none,.bool ι,.ref ⇑s,rawInt 0,.none,.none]}) (⇑s+1) ⇑s 0 .none:=by
  let:=Uo (s.heap.push {cls:=.type "tuple_iterator",data:=.fields #[.ref l,.int 0 0]})
   (o:={cls:=.type "enumerate",data:=.fields #[.none,.bool ι,.ref ⇑s,rawInt 0,.none,.none]}) Y
  rw[hz] at this;exact this
 calc⟨⟨_,he,Y⟩,h _ he ⟨_,vB _ (Uo _ Y),Y,Y⟩ (by rw[VQ,hz]) λb o x=>vB _ (vB _ x)⟩
theorem NA{it l:O}{i:Nat}{items:Array L}{x:L}{Q:bw}(hit:s.heap.IsTupleIter it l i)(hl:s.heap.IsTuple l items)(hx:items[i]?=U x)
  (hQ:∀h',h'.IsTupleIter it l (i+1)->XN it s.heap h'->Q x {s with heap:=h'}):G (S prog w) A (V9 (.ref it)) Q E s:=by
 let⟨o,ho,hc,hd⟩:=id hit;let⟨ol,zJ,_,nl,zK⟩:=hl;let nn:¬ ((Vx l==VM)=θ):=Vl;calc s_ (Wm (name:=Xb "__next__") hit.typeIs WX (Xr WX hit.typeIs YG ?_ (YA _)));show G _ _ (field (.ref it) 0 >>= _) _ _ s;calc s_ (Wd ho hd (x:=.ref l) Y ?_);calc s_ (Wd ho hd (x:=.int i 0) Y ?_);calc s_ (WD zJ zK ?_);erw[Vt,hx];calc s_ (q1D ho hd (by simp) (Md ⟨x,Y,Md (hQ _ ⟨_,XE _ ho (Obj.isFreed_of_fields (q0n hd _)),(Obj.cls_mapFields ..).trans hc,?_⟩ (VU ..))⟩));rw[q0n hd];simp[rawInt]
theorem NB{it l:O}{i:Nat}{items:Array L}{Q:bw}(hh:A.handled=Z)(hit:s.heap.IsTupleIter it l i)(hl:s.heap.IsTuple l items)(hx:items[i]?=Z)
  (hE:∀h' e,Heap.ExtBut it s.heap h'->(∃o,h'.get? e=U o/\o.cls=.type "StopIteration")->E (.ref e) {s with heap:=h'}):G (S prog w) A (V9 (.ref it)) Q E s:=by
 let⟨o,ho,hc,hd⟩:=id hit;let⟨ol,zJ,_,nl,zK⟩:=hl;let nn:¬ ((Vx l==VM)=θ):=Vl;calc s_ (Wm (name:=Xb "__next__") hit.typeIs WX (Xr WX hit.typeIs YG ?_ (YA _)));show G _ _ (field (.ref it) 0 >>= _) _ _ s;calc s_ (Wd ho hd (x:=.ref l) Y ?_);calc s_ (Wd ho hd (x:=.int i 0) Y ?_);calc s_ (WD zJ zK ?_);erw[Vt,hx];calc s_ (Zs (s_ (q1D ho hd (by simp) ?_)));calc s_ ?_;calc s_ (m:=firstArgMember _ _) (wpAny_of_eq (a:=VM) (by first|rfl|(erw[firstArgMember];rfl)) (WK ?_ (by size_fits)));refine s_ (wpAny_handled ?_)
 first|rw[show A.in1.handled=Z from hh]|rw[hh]
 calc s_ (Md (wpAny_throw (hE _ _ (((VU ..).extBut.push _).push _) ⟨_,Uo _ Y,Y⟩)))
theorem zL(hh:A.handled=Z)(it l:O)(hX:l≠it)(items:Array L):Draws prog w A it [it,l] items.size (λi v=>items[i]?=U v) (λi h=>h.IsTupleIter it l i/\h.IsTuple l items) where
 live:=λ_ _ st=>let⟨o,ho,_⟩:=st.1;⟨o,ho⟩
 frame:=λ_ _ _ st hk=>⟨st.1.at λo e=>hk it (by simp) o e,st.2.at λo e=>hk l (by simp) o e⟩
 item:=λi s Q E hi st hQ=>NA st.1 st.2 (x:=items[i]) (by simp[hi]) λh' zM vM=>hQ _ h' s.toks (by simp[hi]) ⟨zM,st.2.extBut vM.extBut hX⟩ vM
 done:=λs Q E st hE=>NB hh st.1 st.2 (by simp) hE
end
end PySem
namespace L2
open PySem PySem.Spec PyProof.Rows
noncomputable def ua(K:Ee)(a:O):It :=
 ⟨λi H=>∃xs x,b9 K H a xs/\xs[i]?=U x,λi H x H'=>∃T v,x=.ref T/\H T=Z/\H'=upd H T (.tup [.int (i:Nat),v])/\∀xs,b9 K H a xs->xs[i]?=U v,λi H=>∃xs,b9 K H a xs/\↑xs=i⟩
theorem NC{P:l}{w:g}{K:Ee}{elts:-M}{x1}{tp:Ε}(a e it:O)(hX:e≠it)(ND:a≠e)(E_:a≠it):
  Turn P w K (.Tuple elts x1 tp) (ua K a) [e,it] e (λi h=>(∃old,IsEnum h e it (i:Nat) old)/\h.IsTupleIter it a i) where
 mem:=by simp
 obj:=λi h st b hb=>by
  let⟨⟨old,he⟩,o,hi,hc,hd⟩:=st;rcases Um.mp hb with rfl|hb
  .exact⟨_,he,λv z=>by cases z⟩
  .let z:b=it:=by simpa using hb
   subst z;exact⟨o,hi,λv z=>by rw[hd] at z;cases z⟩
 keep:=λi h h' st k=>by
  let⟨⟨old,he⟩,hi⟩:=st;exact⟨⟨old,k e (by simp) _ he⟩,hi.at λo q=>k it (by simp) o q⟩
 item:=by
  ext X hP hw hK hc i pins s σ H E I hf st hg;subst hP hw hK;let⟨⟨old,he⟩,hi⟩:=st;let⟨xs,x,hq,hx⟩:=hg;let⟨au,rv,p,hz⟩:=I.tuple hq;let⟨u,hu,ru⟩:=rv.get hx;let D:=zL (prog:=X.prog) (w:=X.w) (A:=X.A.in1) (by rw[Wz];calc I.ok.hd hc) it a E_ au.toArray;let lV:i<au.toArray.size:=by rw[Ef];exact(qW.mp hu).1
  refine wpAny_pyNext_enum_itemD D he ⟨hi,p⟩ lV hX (by simp[hX,Xx ND]) λy h1 tk py lO tG tH hsz hk=>⟨_,Y,?_⟩
  let ey:y=u:=by
   rw[XF,hu] at py;cases py;rfl
  subst ey;calc YU lO λh2 vH ee=>?_;let hT:⇑s≠e:=WR (Me he);let mf:h2.get? ⇑s=U {cls:=.type "tuple",data:=.seq #[.int i tk,y]}:=(ee.2 _ hT).trans tH
  let k2:∀b o,b∉[e,it]->s.heap.get? b=U o->h2.get? b=U o:=λb o hb q=>by
   let tI:b≠e:=λz=>hb (by simp[z]);let ij:b≠it:=λz=>hb (by simp[z]);exact(ee.2 _ tI).trans (hk b o tI ij q)
  let hn:H ⇑s=Z:=I.ba.fresh (yT _);refine⟨.ref ⇑s,upd H ⇑s (.tup [.int i,x]),I.fO (ch:=[e,it]) (t':=tk+1) hf k2 (yT _) ?_,Y,⟨_,x,Y,hn,Y,λys hy=>by rw[I.eS hy hq];calc hx⟩,⟨⟨y,?_⟩,?_⟩,λb hb=>?_⟩
  .exact⟨by show 2<=sizeLine;decide,[.int i tk,y],.cons ⟨_,Y⟩ (.cons ru .nil),_,mf,Y,_,Y⟩
  .let e3:((i:Int)+1)=(((i+1:Nat)):Int):=by symm
   exact vH
  .exact tG.1.at λo q=>(ee.2 _ (Xx hX)).trans q
  .let:b<⇑s:=by
    let⟨o,q,_⟩:=hi;rcases Um.mp hb with rfl|hb
    .exact Me he
    .let z:b=it:=by simpa using hb
     subst z;exact Me q
   rw[bf (U8 this)];exact(hf b hb).1
 done:=by
  ext X hP hw hK hc i pins s σ H E I hf st hg;subst hP hw hK;let⟨⟨old,he⟩,hi⟩:=st;let⟨xs,hq,hx⟩:=hg;let⟨au,rv,p,hz⟩:=I.tuple hq;let D:=zL (prog:=X.prog) (w:=X.w) (A:=X.A.in1) (by rw[Wz];calc I.ok.hd hc) it a E_ au.toArray;let lV:au.toArray.size=i:=by rw[Ef,<-↑rv];exact hx
  calc wpAny_pyNext_enum_endD D he (by rw[lV];calc⟨hi,p⟩) λh1 eb=>⟨Y,?_⟩;let⟨f0,f1,f2,f3,f4,f5⟩:=hf it (by simp);exact I.turned (t':=s.toks) (λb o hb q=>eb b o hb q) f0 f1 f3 f4 f5
 self:=λA i s Q E st h=>by
  let⟨⟨old,he⟩,hi⟩:=st;calc WM he h
section
variable{X:Cx}{elts:-M}{x1:Nat}{tp:y}{tg:M}
def NF(K:Ee)(ta:TA):TI:=fun σ H R=>ta σ H λvs H1=>∃a,vs=[.ref a]/\(((∃xs,bP K H1 a xs)/\R (qZ K a) H1)\/((∃xs,b9 K H1 a xs)/\R (ua K a) H1))
theorem NG{a:M}{ta:TA}{p pos:y}(hg:Gl X "enumerate")(hm:X.mg "enumerate" = Z)(ha:JA X [a] ta)(hs:starEach [a] X.env=[(ι,eval a X.env)]:=by rfl):
  JI X (.Tuple elts x1 tp) (.Call (.Name "enumerate" p) [a] [] pos) (NF X.K ta):=by
 calc⟨?_⟩;ext pins s σ H R I h;calc Call_ (mx I hg hm Es (VY (bE (ha pos pins s σ H _ I h) λus s1 ⟨vs,H1,I1,r1,q1⟩=>?_) hs Y));let⟨l,e,q⟩:=q1;subst e;let⟨u,rfl,rx⟩:=vals1 r1;cases rx
 let fp:∀b∈[⇑s1+1,⇑s1],bS X pins H1 b:=λb hb=>by
  let hb':⇑s1<=b:=by
   rcases Um.mp hb with rfl|hb
   .exact Yy _
   .let z:b=⇑s1:=by simpa using hb
    rw[z];exact yT _
  exact I1.h_ hb' (I1.ba.fresh hb')
 rcases q with⟨⟨xs,hq⟩,q⟩|⟨⟨xs,hq⟩,q⟩
 .let⟨au,rv,p,hz⟩:=I1.list hq
  calc ZX p.isList λh' he hi hsz hk=>?_;let I2:Inv X pins σ H1 {s1 with heap:=h'}:=I1.kept (t':=s1.toks) hk;calc WM he ?_;exact⟨_,_,_,_,H1,Y,I2,Er l (⇑s1+1) ⇑s1 (Zd _),⟨⟨_,he⟩,hi⟩,fp,q⟩
 .let⟨au,rv,p,hz⟩:=I1.tuple hq
  let Fb:l<⇑s1:=by let⟨o,e,_⟩:=p;exact Me e
  calc Nz p λh' he hi hsz hk=>?_;let I2:Inv X pins σ H1 {s1 with heap:=h'}:=I1.kept (t':=s1.toks) hk;calc WM he ?_;calc⟨_,_,_,_,H1,Y,I2,NC l (⇑s1+1) ⇑s1 (Zd _) (U8 (Wa Fb)) (U8 Fb),⟨⟨_,he⟩,hi⟩,fp,q⟩
def zN(K:Ee)(tl:TE):TI:=fun σ H R=>tl σ H λx H1=>∃a,x=.ref a/\(((∃xs,bP K H1 a xs)/\R (DE K a) H1)\/((∃xs,b9 K H1 a xs)/\R (DF K a) H1))
theorem Fd{l:M}{tl:TE}(hl:JE X l tl):JI X tg l (zN X.K tl):=by
 calc⟨?_⟩;ext pins s σ H R I h;calc bE (hl pins s σ H _ I h) λv s1 ⟨x,H1,I1,r1,q1⟩=>?_;let⟨a,e,q⟩:=q1;subst e;cases r1
 let fp:∀b∈[⇑s1],bS X pins H1 b:=λb hb=>by
  let e:b=⇑s1:=by simpa using hb
  subst e;exact I1.h_ (yT _) (I1.ba.fresh (yT _))
 rcases q with⟨⟨xs,hq⟩,q⟩|⟨⟨xs,hq⟩,q⟩
 .let⟨au,rv,p,hz⟩:=I1.list hq
  exact W_ p.isList ⟨⇑s1,[⇑s1],_,_,H1,Y,I1.kept (t':=s1.toks) λb o e=>vB _ e,Kj a _,⟨_,Uo _ Y,Y,Y⟩,fp,q⟩
 .let⟨au,rv,p,hz⟩:=I1.tuple hq
  calc Xz (show s1.heap.IsTuple a au.toArray from p) ⟨⇑s1,[⇑s1],_,_,H1,Y,I1.kept (t':=s1.toks) λb o e=>vB _ e,Kk a _,⟨_,Uo _ Y,Y,Y⟩,fp,q⟩
end
variable[aV]
noncomputable def c7(lo:Int)(n:Nat):-D:=(Vp n).map λi:Nat=>D.int (lo+i)
noncomputable def lX:Nat->-D->-D
 |_,[]=>[]
 |i,d::r=>.tup [.int i,d]::lX (i+1) r
noncomputable def c8:-D->-D->-D
 |a::r,b::s=>.tup [a,b]::c8 r s
 |_,_=>[]
def mZ(x:DV)(δ:aG)(K:mT->Prop):Prop:=match x with
 |.p (.lst ds)=>K ⟨ds,λ_=>True⟩
 |.p (.tup ds)=>K ⟨ds,λ_=>True⟩
 |.o k=>match δ.mu[k]? with
  |some (some (.lst ds))=>K ⟨ds,fun δ'=>δ'.mu[k]?=U (U (.lst ds))⟩
  |some (some (.al a ds))=>K ⟨ds,fun δ'=>δ'.mu[k]?=U (U (.al a ds))⟩
  |_=>False
 |_=>False
def cM(f:WE):WI:=fun δ K=>f δ λx δ1=>mZ x δ1 λit=>K it δ1
def oV(fa:WA):WI:=fun δ K=>fa δ λxs δ1=>match xs with
 |[.p (.int j)]=>(-(2 ^ 62)<=j/\j<2 ^ 62)/\K ⟨c7 0 j.toNat,λ_=>True⟩ δ1
 |_=>False
def zO(fa:WA):WI:=fun δ K=>fa δ λxs δ1=>match xs with
 |[.p (.int i),.p (.int j)]=>(-(2 ^ 62)<=i/\i<2 ^ 62 /\ -(2 ^ 62)<=j/\j<2 ^ 62)/\K ⟨c7 i (j-i).toNat,λ_=>True⟩ δ1
 |_=>False
def m8(fa:WA):WI:=fun δ K=>fa δ λxs δ1=>match xs with
 |[x]=>mZ x δ1 λit=>K ⟨lX 0 it.items,it.bL⟩ δ1
 |_=>False
def zP(x:DV)(δ:aG)(K:mT->Prop):Prop:=match x with
 |.p (.lst ds)=>K ⟨ds,λ_=>True⟩
 |.o k=>match δ.mu[k]? with
  |some (some (.lst ds))=>K ⟨ds,fun δ'=>δ'.mu[k]?=U (U (.lst ds))⟩
  |some (some (.al a ds))=>K ⟨ds,fun δ'=>δ'.mu[k]?=U (U (.al a ds))⟩
  |_=>False
 |_=>False
theorem oW{lo:Int}{n i:Nat}{d:D}(h:(c7 lo n)[i]?=U d):i<n/\d=.int (lo+i):=by
 unfold c7 at h;rw[My] at h;let⟨j,e,rfl⟩:=Va.mp h;let hj:=(qW.mp e).1;rw[VG] at hj;rw[Xk hj] at e;cases e
 calc⟨hj,Y⟩
theorem m9(lo:Int)(n:Nat):↑(c7 lo n)=n:=by unfold c7;rw[pV,VG]
theorem v5:∀(ds:-D)(i:Nat),↑(lX i ds)=↑ds
 |[],_=>Y
 |d::r,i=>by rw[lX,Eg,Eg,v5 r]
theorem v7:∀{ds:-D}{k i:Nat}{d:D},(lX k ds)[i]?=U d->∃e,ds[i]?=U e/\d=.tup [.int ((k+i:Nat):Int),e]
 |[],k,i,d,h=>by simp[lX] at h
 |e::r,k,0,d,h=>by
  cases(show U (D.tup [.int (k:Nat),e])=U d by simpa[lX] using h)
  exact⟨e,Y,Y⟩
 |e::r,k,i+1,d,h=>by
  let⟨e',h1,h2⟩:=v7 (ds:=r) (k:=k+1) (i:=i) (d:=d) (by simpa[lX] using h);calc⟨e',by simpa using h1,by rw[h2];congr 4;symm⟩
theorem Fe:∀{as bs:-D}{i:Nat}{d:D},(c8 as bs)[i]?=U d->∃a b,as[i]?=U a/\bs[i]?=U b/\d=.tup [a,b]
 |[],_,i,d,h=>by simp[c8] at h
 |_::_,[],i,d,h=>by simp[c8] at h
 |a::r,b::s,0,d,h=>by
  cases(show U (D.tup [a,b])=U d by simpa[c8] using h)
  exact⟨a,b,Y,Y,Y⟩
 |a::r,b::s,i+1,d,h=>by
  let⟨x,y,h1,h2,h3⟩:=Fe (as:=r) (bs:=s) (i:=i) (d:=d) (by simpa[c8] using h);calc⟨x,y,by simpa using h1,by simpa using h2,h3⟩
theorem v8:∀(as bs:-D),↑(c8 as bs)=min ↑as bs.length
 |[],_=>by simp[c8]
 |_::_,[]=>by simp[c8]
 |a::r,b::s=>by rw[c8,Eg,Eg,Eg,v8 r s];symm
section
variable{X:Cx}{tg l a b:M}{f:WE}{fa:WA}{F H:Hp}{ad:-O}{δ:aG}{σ:St}
theorem JI.weak{iter:M}{w w':TI}(h:JI X tg iter w)(k:∀σ H R,w' σ H R->w σ H R):JI X tg iter w':=⟨λpins s σ H R I q=>h pins s σ H R I (k σ H R q)⟩
theorem m_{ds:-D}{vs:-V}(h:aj F ds vs){i:Nat}{d:D}(e:ds[i]?=U d):∃v,vs[i]?=U v/\Is F d v:=by
 let hl:=↑h;let hi:i<↑vs:=by rw[hl];exact(qW.mp e).1
 let⟨d',e1,h1⟩:=h.get (pU hi);rw[e] at e1;cases e1;calc⟨_,pU hi,h1⟩
theorem Ff{x:DV}{v:V}{K:mT->Prop}(S:SR F ad δ σ H)(V1:dB F ad x v)(h:zP x δ K):∃a it,v=.ref a/\K it/\(∃vs,H a=U (.lst vs)) ∧
  ∀(F':Hp)(aE:-O)(δ':aG)(σ':St)(H':Hp),aN F F'->(∀(k:Nat)(a:O),ad[k]?=U a->aE[k]?=U a)->SR F' aE δ' σ' H'->it.bL δ'->∃vs,H' a=U (.lst vs)/\aj F' it.items vs:=by
 unfold zP at h;split at h
 .rename_i ds
  let V2:Is F (.lst ds) v:=V1;erw[Is] at V2;let⟨a,vs,rfl,h1,h2⟩:=V2;exact⟨a,_,Y,h,⟨vs,S.sub _ _ h1⟩,λF' aE δ' σ' H' s _ S' _=>⟨vs,S'.sub _ _ (s _ _ h1),h2.same s⟩⟩
 .rename_i k
  split at h
  .rename_i ds e
   let⟨a,e1,rfl⟩:=V1;let⟨a',o,e2,e3,vs,rfl,h4⟩:=S.mu k _ e;rw[e1] at e2;cases e2;calc⟨a,_,Y,h,⟨vs,e3⟩,λF' aE δ' σ' H' _ pre S' ck=>?_⟩;let⟨NH,o,e5,e6,ws,rfl,h7⟩:=S'.mu k _ ck;rw[pre k a e1] at e5;cases e5;exact⟨ws,e6,h7⟩
  .rename_i b ds e
   let⟨a,e1,rfl⟩:=V1;let⟨a',o,e2,e3,z,vs,rfl,h4⟩:=S.mu k _ e;rw[e1] at e2;cases e2;calc⟨a,_,Y,h,⟨vs,e3⟩,λF' aE δ' σ' H' _ pre S' ck=>?_⟩;let⟨NH,o,e5,e6,_,ws,rfl,h7⟩:=S'.mu k _ ck;rw[pre k a e1] at e5;cases e5;exact⟨ws,e6,h7⟩
  .exact h.elim
 .calc h.elim
theorem zQ{x:DV}{v:V}{K:mT->Prop}(S:SR F ad δ σ H)(V1:dB F ad x v)(h:mZ x δ K):∃a it,v=.ref a/\K it ∧
  (((∃vs,H a=U (.lst vs))/\∀(F':Hp)(aE:-O)(δ':aG)(σ':St)(H':Hp),aN F F'->(∀(k:Nat)(a:O),ad[k]?=U a->aE[k]?=U a)->SR F' aE δ' σ' H'->it.bL δ'->∃vs,H' a=U (.lst vs)/\aj F' it.items vs) ∨
  ((∃vs,H a=U (.tup vs))/\∀(F':Hp)(aE:-O)(δ':aG)(σ':St)(H':Hp),aN F F'->(∀(k:Nat)(a:O),ad[k]?=U a->aE[k]?=U a)->SR F' aE δ' σ' H'->it.bL δ'->∃vs,H' a=U (.tup vs)/\aj F' it.items vs)):=by
 unfold mZ at h;split at h
 .rename_i ds
  let⟨a,it,e,k,r⟩:=Ff (x:=.p (.lst ds)) S V1 h;exact⟨a,it,e,k,.inl r⟩
 .rename_i ds
  let V2:Is F (.tup ds) v:=V1;erw[Is] at V2;let⟨a,vs,rfl,h1,h2⟩:=V2;exact⟨a,_,Y,h,.inr ⟨⟨vs,S.sub _ _ h1⟩,λF' aE δ' σ' H' s _ S' _=>⟨vs,S'.sub _ _ (s _ _ h1),h2.same s⟩⟩⟩
 .rename_i k
  let⟨a,it,e,k,r⟩:=Ff (x:=.o k) S V1 h;exact⟨a,it,e,k,.inl r⟩
 .calc h.elim
theorem qo(hl:JE X l (tD f)):JI X tg l (iL (cM f)):=(Fd hl).weak fun σ H R ⟨F,ad,δ,K,S,q,k⟩=>⟨F,ad,δ,_,S,q,λx δ1 h1 v F1 aS H1 E1 S1 V1=>by
 let⟨a,it,rfl,hk,r⟩:=zQ S1 V1 h1;calc⟨a,Y,?_⟩;rcases r with⟨⟨vs,e⟩,r⟩|⟨⟨vs,e⟩,r⟩
 .refine .inl ⟨⟨vs,bP.of e⟩,k _ _ hk _ _ _ _ E1 S1 λF' aE δ' σ' H' s pre S' ck=>?_⟩
  let⟨ws,e1,e2⟩:=r F' aE δ' σ' H' s pre S' ck;calc⟨⟨ws,bP.of e1,by rw[↑e2];calc yT _⟩,λi d ed=>?_⟩;let⟨w,e3,e4⟩:=m_ e2 ed;calc⟨⟨ws,w,bP.of e1,e3⟩,λy jL ⟨eh,hy⟩=>?_⟩;subst eh;calc⟨λ_ _ e=>e,?_⟩;let:=hy ws (bP.of e1);rw[e3] at this;cases this;rw[Nw.refl S'.sub];exact e4
 .refine .inr ⟨⟨vs,b9.of e⟩,k _ _ hk _ _ _ _ E1 S1 λF' aE δ' σ' H' s pre S' ck=>?_⟩
  let⟨ws,e1,e2⟩:=r F' aE δ' σ' H' s pre S' ck;calc⟨⟨ws,b9.of e1,by rw[↑e2];calc yT _⟩,λi d ed=>?_⟩;let⟨w,e3,e4⟩:=m_ e2 ed;calc⟨⟨ws,w,b9.of e1,e3⟩,λy jL ⟨eh,hy⟩=>?_⟩;subst eh;calc⟨λ_ _ e=>e,?_⟩;let:=hy ws (b9.of e1);rw[e3] at this;cases this
  rw[Nw.refl S'.sub];calc e4⟩
theorem zR{F H:Hp}{T:O}{d e:D}{x y:V}(s:aN F H)(hT:H T=Z)(h1:Is F d x)(h2:Is F e y):Is (Nw F H (upd H T (.tup [x,y]))) (.tup [d,e]) (.ref T):=by
 rw[Nw.upd s hT]
 let hF:F T=Z:=by
  cases q:F T with
  |none=>rfl
  |some u=>rw[s T u q] at hT;cases hT
 let sm:aN F (upd F T (.tup [x,y])):=dh hF;erw[Is];calc⟨T,_,Y,b7,.cons (h1.same sm) (.cons (h2.same sm) .nil)⟩
theorem NI{elts:-M}{x1:Nat}{tp p pos:Ε}(hg:Gl X "enumerate")(hm:X.mg "enumerate" = Z)(ha:JA X [a] (cf fa))(hs:starEach [a] X.env=[(ι,eval a X.env)]:=by rfl):
  JI X (.Tuple elts x1 tp) (.Call (.Name "enumerate" p) [a] [] pos) (iL (m8 fa)):=(NG hg hm ha hs).weak fun σ H R ⟨F,ad,δ,K,S,q,k⟩=>⟨F,ad,δ,_,S,q,λxs δ1 h1 vs F1 aS H1 E1 S1 V1=>by
 match xs,h1,V1 with
 |[x],g1,⟨v,r,e,W1,W2⟩ =>
  subst e;let W3:r=[]:=W2;subst W3;let⟨a,it,rfl,hk,r⟩:=zQ S1 W1 g1;calc⟨a,Y,?_⟩;rcases r with⟨⟨vs,e⟩,r⟩|⟨⟨vs,e⟩,r⟩
  .refine .inl ⟨⟨vs,bP.of e⟩,k _ _ hk _ _ _ _ E1 S1 λF' aE δ' σ' H' s pre S' ck=>?_⟩
   let⟨ws,e1,e2⟩:=r F' aE δ' σ' H' s pre S' ck;calc⟨⟨ws,bP.of e1,by rw[↑e2,v5];calc yT _⟩,λi d ed=>?_⟩;let⟨d',zS,rfl⟩:=v7 ed;let⟨w,e3,e4⟩:=m_ e2 zS;calc⟨⟨ws,w,bP.of e1,e3⟩,λy jL ⟨T,v,ey,hT,eh,hy⟩=>?_⟩;subst eh ey;let:=hy ws (bP.of e1);rw[e3] at this;cases this;calc⟨dh hT,?_⟩;rw[VJ];exact zR S'.sub hT Y e4
  .refine .inr ⟨⟨vs,b9.of e⟩,k _ _ hk _ _ _ _ E1 S1 λF' aE δ' σ' H' s pre S' ck=>?_⟩
   let⟨ws,e1,e2⟩:=r F' aE δ' σ' H' s pre S' ck;calc⟨⟨ws,b9.of e1,by rw[↑e2,v5]⟩,λi d ed=>?_⟩;let⟨d',zS,rfl⟩:=v7 ed;let⟨w,e3,e4⟩:=m_ e2 zS;calc⟨⟨ws,w,b9.of e1,e3⟩,λy jL ⟨T,v,ey,hT,eh,hy⟩=>?_⟩;subst eh ey;let:=hy ws (b9.of e1);rw[e3] at this;cases this;calc⟨dh hT,?_⟩;rw[VJ];exact zR S'.sub hT Y e4
 |[],h1,_=>exact h1.elim
 |_::_::_,h1,_=>calc h1.elim⟩
theorem Fg{F1:Hp}{aS:-O}{lo:Int}{n:Nat}:qg F1 aS ⟨c7 lo n,λ_=>True⟩ (sF lo n):=λF' aE δ' σ' H' s pre S' _=>by
 calc⟨by show n<=↑(c7 lo n);rw[m9];calc yT _,λi d ed=>?_⟩;let⟨hi,rfl⟩:=oW ed;calc⟨hi,λx jL ⟨eh,ex⟩=>?_⟩;subst eh ex;calc⟨λ_ _ e=>e,Y⟩
theorem Fh{p pos:y}(hg:Gl X "range")(hm:X.mg "range" = Z)(ha:JA X [a] (cf fa))(hs:starEach [a] X.env=[(ι,eval a X.env)]:=by rfl):JI X tg (.Call (.Name "range" p) [a] [] pos) (iL (oV fa)) :=
 (Ko hg hm ha hs).weak fun σ H R ⟨F,ad,δ,K,S,q,k⟩↦⟨F,ad,δ,_,S,q,λxs δ1 h1 vs F1 aS H1 E1 S1 V1=>by
  split at h1
  .rename_i j
   let⟨v,r,e,V1,V2⟩:=V1;let V2:r=[]:=V2;let V1:v=.int j:=V1;subst V2 V1 e;exact⟨j,Y,h1.1.1,h1.1.2,k _ _ h1.2 _ _ _ _ E1 S1 Fg⟩
  .calc h1.elim⟩
theorem NJ{p pos:y}(hg:Gl X "range")(hm:X.mg "range" = Z)(ha:JA X [a,b] (cf fa))(hs:starEach [a,b] X.env=[(ι,eval a X.env),(ι,eval b X.env)]:=by rfl)(ee:starEach [b] X.env=[(ι,eval b X.env)]:=by rfl):
  JI X tg (.Call (.Name "range" p) [a,b] [] pos) (iL (zO fa)) :=
 (Kq hg hm ha hs ee).weak fun σ H R ⟨F,ad,δ,K,S,q,k⟩↦⟨F,ad,δ,_,S,q,λxs δ1 h1 vs F1 aS H1 E1 S1 V1=>by
  split at h1
  .rename_i i j
   let⟨v,r,e,V1,w,r2,e2,V2,V3⟩:=V1;let V3:r2=[]:=V3;let V1:v=.int i:=V1;let V2:w=.int j:=V2;subst V3 V1 V2 e2 e;exact⟨i,j,Y,h1.1,k _ _ h1.2 _ _ _ _ E1 S1 Fg⟩
  .calc h1.elim⟩
end
end L2
namespace L2
open PySem PySem.Spec PyProof.Rows
mutual
noncomputable def aO:D->D->Bool
 |.non,.non=>θ
 |.bl a,.bl b=>a==b
 |.bl a,.int b=>(if a then 1 else 0)==b
 |.int a,.bl b=>a==(if b then 1 else 0)
 |.int a,.int b=>a==b
 |.str a,.str b=>a==b
 |.tup a,.tup b=>dZ a b
 |.lst a,.lst b=>dZ a b
 |_,_=>ι
noncomputable def dZ:-D->-D->Bool
 |[],[]=>θ
 |a::r,b::s=>aO a b&&dZ r s
 |_,_=>ι
end
mutual
theorem gb:∀d:D,aO d d=θ
 |.non=>by simp[aO]
 |.bl a=>by simp[aO]
 |.int a=>by simp[aO]
 |.str a=>by simp[aO]
 |.tup a=>by erw[aO];exact zT a
 |.lst a=>by erw[aO];calc zT a
theorem zT:∀ds:-D,dZ ds ds=θ
 |[]=>by simp[dZ]
 |d::r=>by erw[dZ,gb d,zT r,Z7]
end
mutual
theorem Is.inj {H:Hp}:∀{d e:D}{v:V},Is H d v->Is H e v->d=e
 |.non,e,v,h,q=>by cases e<;>erw[Is] at h q<;>first|rfl|(subst h;first|(let⟨_,_,z,_⟩:=q;cases z;done)|(cases q;done)|(cases q;rfl))
 |.bl a,e,v,h,q=>by cases e<;>erw[Is] at h q<;>(subst h;first|(let⟨_,_,z,_⟩:=q;cases z;done)|(cases q;done)|(cases q;rfl))
 |.int a,e,v,h,q=>by cases e<;>erw[Is] at h q<;>(subst h;first|(let⟨_,_,z,_⟩:=q;cases z;done)|(cases q;done)|(cases q;rfl))
 |.str a,e,v,h,q=>by cases e<;>erw[Is] at h q<;>(subst h;first|(let⟨_,_,z,_⟩:=q;cases z;done)|(cases q;done)|(cases q;rfl))
 |.tup a,e,v,h,q=>by
  erw[Is] at h;let⟨p,vs,rfl,h1,h2⟩:=h
  cases e with
  |tup b =>
   erw[Is] at q;let⟨p',ws,z,q1,q2⟩:=q;cases z
   rw[h1] at q1;cases q1;rw[aj.inj h2 q2]
  |lst b =>
   erw[Is] at q;let⟨p',ws,z,q1,q2⟩:=q;cases z
   rw[h1] at q1;cases q1
  |non=>erw[Is] at q;cases q
  |bl _=>erw[Is] at q;cases q
  |int _=>erw[Is] at q;cases q
  |str _=>erw[Is] at q;cases q
 |.lst a,e,v,h,q=>by
  erw[Is] at h;let⟨p,vs,rfl,h1,h2⟩:=h
  cases e with
  |lst b =>
   erw[Is] at q;let⟨p',ws,z,q1,q2⟩:=q;cases z
   rw[h1] at q1;cases q1;rw[aj.inj h2 q2]
  |tup b =>
   erw[Is] at q;let⟨p',ws,z,q1,q2⟩:=q;cases z
   rw[h1] at q1;cases q1
  |non=>erw[Is] at q;cases q
  |bl _=>erw[Is] at q;cases q
  |int _=>erw[Is] at q;cases q
  |str _=>erw[Is] at q;cases q
theorem aj.inj {H:Hp}:∀{ds es:-D}{vs:-V},aj H ds vs->aj H es vs->ds=es
 |[],es,vs,h,q=>by
  erw[aj] at h;subst h
  cases es with
  |nil=>rfl
  |cons _ _=>erw[aj] at q;let⟨_,_,z,_⟩:=q;cases z
 |d::ds,es,vs,h,q=>by
  erw[aj] at h;let⟨v,r,rfl,h1,h2⟩:=h
  cases es with
  |nil=>erw[aj] at q;cases q
  |cons e es =>
   erw[aj] at q;let⟨v',r',z,q1,q2⟩:=q;cases z
   rw[Is.inj h1 q1,aj.inj h2 q2]
end
theorem ub:∀{ds es:-D},↑ds≠↑es->dZ ds es=ι
 |[],[],h=>absurd Y h
 |[],_::_,_=>by simp[dZ]
 |_::_,[],_=>by simp[dZ]
 |d::r,e::s,h=>by erw[dZ];rw[ub (λz=>h (by rw[Eg,Eg,z])),q1A]
noncomputable def qp(ds es:-D)(j:Nat):Bool:=match ds[j]?,es[j]? with
 |some a,some b=>aO a b
 |_,_=>θ
theorem uc:∀{ds es:-D},↑ds=↑es->(Vp ↑ds).all (qp ds es)=dZ ds es
 |[],[],_=>by simp[dZ]
 |[],_::_,h=>by simp at h
 |_::_,[],h=>by simp at h
 |d::r,e::s,h=>by
  let ih:=uc (ds:=r) (es:=s) h⁻¹;rw[Eg,List.range_succ_eq_map,List.all_cons,List.all_map];erw[dZ];rw[<-ih];rfl
section
variable{X:Cx}{pins:aM}{σ:St}{H:Hp}{s:B}
theorem v9{vs:-V}{au:-L}(r:Vals vs au){j:Nat}(h:j<au.toArray.size):∃v,vs[j]?=U v/\RelV v au.toArray[j]:=by
 let hj:j<↑au:=by simpa using h
 let hv:j<↑vs:=by rw[↑r];exact hj
 let⟨u,e,ru⟩:=r.get (pU hv)
 let:au.toArray[j]=u:=by
  let:=(qW.mp e).2;simpa using this
 rw[this];calc⟨_,pU hv,ru⟩
theorem dJ(I:Inv X pins σ H s){a:O}{vs:-V}(h:H a=U (.lst vs)):∃au:-L,Vals vs au/\s.heap.IsList a au.toArray:=by
 let⟨au,r,p,_⟩:=I.list (bP.of h);calc⟨au,r,p.isList⟩
theorem dM(I:Inv X pins σ H s){a:O}{vs:-V}(h:H a=U (.tup vs)):∃au:-L,Vals vs au/\s.heap.IsTuple a au.toArray:=by
 let⟨au,r,p,_⟩:=I.tuple (b9.of h);calc⟨au,r,p⟩
theorem in1_units(A:q):A.in1.units=A.units+1:=rfl
theorem zU(I:Inv X pins σ H s):∀(n:Nat){A:q}{d e:D}{v u:V}{x y:L},dep d<=n->A.units+n<cLine->Is H d v->Is H e u->RelV v x->RelV u y->Zl A s x y (aO d e)/\q1E A s x y (aO d e):=by
 ext n
 induction n with
 |zero =>
  ext A d e v u x y hd hu hv hw rv ru;let nz:A.units<cLine:=by symm
  cases d with
  |tup ds=>simp[dep] at hd
  |lst ds=>simp[dep] at hd
  |non =>
   cases(show v=.non from hv);cases rv
   cases e with
   |non=>cases(show u=.non from hw);cases ru;erw[aO];exact⟨ZA _,SeqAt.RcAt.none_none⟩
   |bl b=>cases(show u=.bl b from hw);cases ru;erw[aO];exact⟨SeqAt.EqAt.none_bool _,SeqAt.RcAt.none_bool _⟩
   |int b=>cases(show u=.int b from hw);let⟨t,rfl⟩:=ru;erw[aO];exact⟨SeqAt.EqAt.none_int _ _,SeqAt.RcAt.none_int _ _⟩
   |str b=>cases(show u=.str b from hw);let⟨t,rfl⟩:=ru;erw[aO];exact⟨SeqAt.EqAt.none_str _ _,SeqAt.RcAt.none_str _ _⟩
   |tup es=>erw[Is] at hw;let⟨a,vs,rfl,h1,_⟩:=hw;cases ru;let⟨_,_,p⟩:=dM I h1;erw[aO];exact⟨SeqAt.EqAt.none_tuple p nz,SeqAt.RcAt.none_tuple p nz⟩
   |lst es=>erw[Is] at hw;let⟨a,vs,rfl,h1,_⟩:=hw;cases ru;let⟨_,_,p⟩:=dJ I h1;erw[aO];exact⟨SeqAt.EqAt.none_list p nz,SeqAt.RcAt.none_list p nz⟩
  |bl b0 =>
   cases(show v=.bl b0 from hv);cases rv
   cases e with
   |non=>cases(show u=.non from hw);cases ru;erw[aO];exact⟨SeqAt.EqAt.bool_none _,SeqAt.RcAt.bool_none _⟩
   |bl b=>cases(show u=.bl b from hw);cases ru;erw[aO];exact⟨SeqAt.EqAt.bool_bool _ _,SeqAt.RcAt.bool_bool _ _⟩
   |int b=>cases(show u=.int b from hw);let⟨t,rfl⟩:=ru;erw[aO];exact⟨SeqAt.EqAt.bool_int _ _ _,SeqAt.RcAt.bool_int _ _ _⟩
   |str b=>cases(show u=.str b from hw);let⟨t,rfl⟩:=ru;erw[aO];exact⟨SeqAt.EqAt.bool_str _ _ _,SeqAt.RcAt.bool_str _ _ _⟩
   |tup es=>erw[Is] at hw;let⟨a,vs,rfl,h1,_⟩:=hw;cases ru;let⟨_,_,p⟩:=dM I h1;erw[aO];exact⟨SeqAt.EqAt.bool_tuple _ p nz,SeqAt.RcAt.bool_tuple _ p nz⟩
   |lst es=>erw[Is] at hw;let⟨a,vs,rfl,h1,_⟩:=hw;cases ru;let⟨_,_,p⟩:=dJ I h1;erw[aO];exact⟨SeqAt.EqAt.bool_list _ p nz,SeqAt.RcAt.bool_list _ p nz⟩
  |int b0 =>
   cases(show v=.int b0 from hv);let⟨t0,rfl⟩:=rv
   cases e with
   |non=>cases(show u=.non from hw);cases ru;erw[aO];exact⟨SeqAt.EqAt.int_none _ _,SeqAt.RcAt.int_none _ _⟩
   |bl b=>cases(show u=.bl b from hw);cases ru;erw[aO];exact⟨SeqAt.EqAt.int_bool _ _ _,SeqAt.RcAt.int_bool _ _ _⟩
   |int b=>cases(show u=.int b from hw);let⟨t,rfl⟩:=ru;erw[aO];exact⟨q0h _ _ _ _,SeqAt.RcAt.int_int _ _ _ _⟩
   |str b=>cases(show u=.str b from hw);let⟨t,rfl⟩:=ru;erw[aO];exact⟨q0f _ _ _ _,SeqAt.RcAt.int_str _ _ _ _⟩
   |tup es=>erw[Is] at hw;let⟨a,vs,rfl,h1,_⟩:=hw;cases ru;let⟨_,_,p⟩:=dM I h1;erw[aO];exact⟨SeqAt.EqAt.int_tuple _ _ p nz,SeqAt.RcAt.int_tuple _ _ p nz⟩
   |lst es=>erw[Is] at hw;let⟨a,vs,rfl,h1,_⟩:=hw;cases ru;let⟨_,_,p⟩:=dJ I h1;erw[aO];exact⟨SeqAt.EqAt.int_list _ _ p nz,SeqAt.RcAt.int_list _ _ p nz⟩
  |str b0 =>
   cases(show v=.str b0 from hv);let⟨t0,rfl⟩:=rv
   cases e with
   |non=>cases(show u=.non from hw);cases ru;erw[aO];exact⟨SeqAt.EqAt.str_none _ _,SeqAt.RcAt.str_none _ _⟩
   |bl b=>cases(show u=.bl b from hw);cases ru;erw[aO];exact⟨SeqAt.EqAt.str_bool _ _ _,SeqAt.RcAt.str_bool _ _ _⟩
   |int b=>cases(show u=.int b from hw);let⟨t,rfl⟩:=ru;erw[aO];exact⟨q0g _ _ _ _,SeqAt.RcAt.str_int _ _ _ _⟩
   |str b=>cases(show u=.str b from hw);let⟨t,rfl⟩:=ru;erw[aO];exact⟨SeqAt.EqAt.str_str _ _ _ _,SeqAt.RcAt.str_str _ _ _ _⟩
   |tup es=>erw[Is] at hw;let⟨a,vs,rfl,h1,_⟩:=hw;cases ru;let⟨_,_,p⟩:=dM I h1;erw[aO];exact⟨SeqAt.EqAt.str_tuple _ _ p nz,SeqAt.RcAt.str_tuple _ _ p nz⟩
   |lst es=>erw[Is] at hw;let⟨a,vs,rfl,h1,_⟩:=hw;cases ru;let⟨_,_,p⟩:=dJ I h1;erw[aO];exact⟨SeqAt.EqAt.str_list _ _ p nz,SeqAt.RcAt.str_list _ _ p nz⟩
 |succ n ih =>
  ext A d e v u x y hd hu hv hw rv ru;let nz:A.units<cLine:=by symm
  let step:∀{ds es:-D}{vs us:-V}{au bH:-L}(r1:Vals vs au)(r2:Vals us bH),bB ds<=n->aj H ds vs->aj H es us →
    ∀(j:Nat)(h1:j<au.toArray.size)(h2:j<bH.toArray.size),Zl A.in1 s au.toArray[j] bH.toArray[j] (qp ds es j):=λ{ds es vs us au bH} r1 r2 hl i1 i2 j h1 h2=>by
   let⟨v1,e1,q1⟩:=v9 r1 h1;let⟨v2,e2,q2⟩:=v9 r2 h2;let⟨d1,f1,g1⟩:=i1.get e1;let⟨d2,f2,g2⟩:=i2.get e2;unfold qp;rw[f1,f2];exact(ih (Vo (zc f1) hl) (by rw[in1_units];symm) g1 g2 q1 q2).1
  cases d with
  |tup ds =>
   let hl:bB ds<=n:=by erw[dep] at hd;symm
   let zV:=hv;erw[Is] at hv;let⟨a,vs,rfl,h1,i1⟩:=hv;cases rv
   let⟨au,r1,p1⟩:=dM I h1
   cases e with
   |tup es =>
    let zW:=hw;erw[Is] at hw;let⟨b,us,rfl,h2,i2⟩:=hw;cases ru
    let⟨bH,r2,p2⟩:=dM I h2
    let rc:q1E A s (.ref a) (.ref b) (aO (.tup ds) (.tup es)):=by
     let:=SeqAt.RcAt.tuples p1 p2 nz (step r1 r2 hl i1 i2);let l1:au.toArray.size=↑ds:=by rw[Ef,<-↑r1,↑i1]
     let l2:bH.toArray.size=↑es:=by rw[Ef,<-↑r2,↑i2]
     rw[l1,l2] at this
     let eb:((Vp (min ↑ds ↑es)).all (qp ds es)&&↑ds==↑es)=aO (.tup ds) (.tup es):=by
      erw[aO]
      by_cases c:↑ds=↑es
      .rw[<-c,q0N,uc c];simp
      .rw[ub c];simp[c]
     rw[eb] at this;exact this
    refine⟨?_,rc⟩
    by_cases c:a=b
    .subst c
     let:=Is.inj zV zW;rw[this,gb];exact ZA _
    .exact q0o c rc
   |lst es =>
    erw[Is] at hw;let⟨b,us,rfl,h2,i2⟩:=hw;cases ru
    let⟨bH,r2,p2⟩:=dJ I h2;erw[aO];exact⟨SeqAt.EqAt.tuple_list p1 p2 nz,SeqAt.RcAt.tuple_list p1 p2 nz⟩
   |non=>cases(show u=.non from hw);cases ru;erw[aO];exact⟨SeqAt.EqAt.tuple_none p1 nz,SeqAt.RcAt.tuple_none p1 nz⟩
   |bl b=>cases(show u=.bl b from hw);cases ru;erw[aO];exact⟨SeqAt.EqAt.tuple_bool _ p1 nz,SeqAt.RcAt.tuple_bool _ p1 nz⟩
   |int b=>cases(show u=.int b from hw);let⟨t,rfl⟩:=ru;erw[aO];exact⟨SeqAt.EqAt.tuple_int _ _ p1 nz,SeqAt.RcAt.tuple_int _ _ p1 nz⟩
   |str b=>cases(show u=.str b from hw);let⟨t,rfl⟩:=ru;erw[aO];exact⟨SeqAt.EqAt.tuple_str _ _ p1 nz,SeqAt.RcAt.tuple_str _ _ p1 nz⟩
  |lst ds =>
   let hl:bB ds<=n:=by erw[dep] at hd;symm
   let zV:=hv;erw[Is] at hv;let⟨a,vs,rfl,h1,i1⟩:=hv;cases rv
   let⟨au,r1,p1⟩:=dJ I h1
   cases e with
   |lst es =>
    let zW:=hw;erw[Is] at hw;let⟨b,us,rfl,h2,i2⟩:=hw;cases ru
    let⟨bH,r2,p2⟩:=dJ I h2;let l1:au.toArray.size=↑ds:=by rw[Ef,<-↑r1,↑i1]
    let l2:bH.toArray.size=↑es:=by rw[Ef,<-↑r2,↑i2]
    let rc:q1E A s (.ref a) (.ref b) (aO (.lst ds) (.lst es)):=by
     by_cases c:↑ds=↑es
     .let:=SeqAt.RcAt.lists p1 p2 (by rw[l1,l2];calc c) nz (step r1 r2 hl i1 i2)
      rw[l1,uc c] at this;erw[aO];exact this
     .erw[aO];rw[ub c]
      exact SeqAt.RcAt.lists_lengths p1 p2 (by rw[l1,l2];simpa using c) nz
    refine⟨?_,rc⟩
    by_cases c:a=b
    .subst c
     let:=Is.inj zV zW;rw[this,gb];exact ZA _
    .exact q0o c rc
   |tup es =>
    erw[Is] at hw;let⟨b,us,rfl,h2,i2⟩:=hw;cases ru
    let⟨bH,r2,p2⟩:=dM I h2;erw[aO];exact⟨SeqAt.EqAt.list_tuple p1 p2 nz,SeqAt.RcAt.list_tuple p1 p2 nz⟩
   |non=>cases(show u=.non from hw);cases ru;erw[aO];exact⟨SeqAt.EqAt.list_none p1 nz,SeqAt.RcAt.list_none p1 nz⟩
   |bl b=>cases(show u=.bl b from hw);cases ru;erw[aO];exact⟨SeqAt.EqAt.list_bool _ p1 nz,SeqAt.RcAt.list_bool _ p1 nz⟩
   |int b=>cases(show u=.int b from hw);let⟨t,rfl⟩:=ru;erw[aO];exact⟨SeqAt.EqAt.list_int _ _ p1 nz,SeqAt.RcAt.list_int _ _ p1 nz⟩
   |str b=>cases(show u=.str b from hw);let⟨t,rfl⟩:=ru;erw[aO];exact⟨SeqAt.EqAt.list_str _ _ p1 nz,SeqAt.RcAt.list_str _ _ p1 nz⟩
  |non=>exact ih (by simp[dep]) ⋯ hv hw rv ru
  |bl b0=>exact ih (by simp[dep]) ⋯ hv hw rv ru
  |int b0=>exact ih (by simp[dep]) ⋯ hv hw rv ru
  |str b0=>calc ih (by simp[dep]) ⋯ hv hw rv ru
theorem NK(I:Inv X pins σ H s){A:q}{d e:D}{v u:V}{x y:L}(hd:dep d<=60)(hu:A.units+61<cLine)(hv:Is H d v)(hw:Is H e u)(rv:RelV v x)(ru:RelV u y):SeqAt.RcNeAt A s x y (!aO d e):=by
 let nz:A.units<cLine:=by symm
 let step:∀{ds es:-D}{vs us:-V}{au bH:-L}(r1:Vals vs au)(r2:Vals us bH),bB ds<=59->aj H ds vs->aj H es us →
   ∀(j:Nat)(h1:j<au.toArray.size)(h2:j<bH.toArray.size),Zl A.in1 s au.toArray[j] bH.toArray[j] (qp ds es j):=λ{ds es vs us au bH} r1 r2 hl i1 i2 j h1 h2=>by
  let⟨v1,e1,q1⟩:=v9 r1 h1;let⟨v2,e2,q2⟩:=v9 r2 h2;let⟨d1,f1,g1⟩:=i1.get e1;let⟨d2,f2,g2⟩:=i2.get e2;unfold qp;rw[f1,f2];exact(zU I 59 (Vo (zc f1) hl) (by rw[in1_units];symm) g1 g2 q1 q2).1
 cases d with
 |tup ds =>
  let hl:bB ds<=59:=by erw[dep] at hd;symm
  erw[Is] at hv;let⟨a,vs,rfl,h1,i1⟩:=hv;cases rv
  let⟨au,r1,p1⟩:=dM I h1
  cases e with
  |tup es =>
   erw[Is] at hw;let⟨b,us,rfl,h2,i2⟩:=hw;cases ru
   let⟨bH,r2,p2⟩:=dM I h2;let:=SeqAt.RcNeAt.tuples p1 p2 nz (step r1 r2 hl i1 i2);let l1:au.toArray.size=↑ds:=by rw[Ef,<-↑r1,↑i1]
   let l2:bH.toArray.size=↑es:=by rw[Ef,<-↑r2,↑i2]
   rw[l1,l2] at this
   let eb:((Vp (min ↑ds ↑es)).all (qp ds es)&&↑ds==↑es)=aO (.tup ds) (.tup es):=by
    erw[aO]
    by_cases c:↑ds=↑es
    .rw[<-c,q0N,uc c];simp
    .rw[ub c];simp[c]
   rw[eb] at this;exact this
  |lst es=>erw[Is] at hw;let⟨b,us,rfl,h2,i2⟩:=hw;cases ru;let⟨bH,r2,p2⟩:=dJ I h2;erw[aO];exact SeqAt.RcNeAt.tuple_list p1 p2 nz
  |non=>cases(show u=.non from hw);cases ru;erw[aO];exact SeqAt.RcNeAt.tuple_none p1 nz
  |bl b=>cases(show u=.bl b from hw);cases ru;erw[aO];exact SeqAt.RcNeAt.tuple_bool _ p1 nz
  |int b=>cases(show u=.int b from hw);let⟨t,rfl⟩:=ru;erw[aO];exact SeqAt.RcNeAt.tuple_int _ _ p1 nz
  |str b=>cases(show u=.str b from hw);let⟨t,rfl⟩:=ru;erw[aO];exact SeqAt.RcNeAt.tuple_str _ _ p1 nz
 |lst ds =>
  let hl:bB ds<=59:=by erw[dep] at hd;symm
  erw[Is] at hv;let⟨a,vs,rfl,h1,i1⟩:=hv;cases rv
  let⟨au,r1,p1⟩:=dJ I h1
  cases e with
  |lst es =>
   erw[Is] at hw;let⟨b,us,rfl,h2,i2⟩:=hw;cases ru
   let⟨bH,r2,p2⟩:=dJ I h2;let l1:au.toArray.size=↑ds:=by rw[Ef,<-↑r1,↑i1]
   let l2:bH.toArray.size=↑es:=by rw[Ef,<-↑r2,↑i2]
   by_cases c:↑ds=↑es
   .let:=SeqAt.RcNeAt.lists p1 p2 (by rw[l1,l2];calc c) nz (step r1 r2 hl i1 i2)
    rw[l1,uc c] at this;erw[aO];exact this
   .erw[aO];rw[ub c]
    exact SeqAt.RcNeAt.lists_lengths p1 p2 (by rw[l1,l2];simpa using c) nz
  |tup es=>erw[Is] at hw;let⟨b,us,rfl,h2,i2⟩:=hw;cases ru;let⟨bH,r2,p2⟩:=dM I h2;erw[aO];exact SeqAt.RcNeAt.list_tuple p1 p2 nz
  |non=>cases(show u=.non from hw);cases ru;erw[aO];exact SeqAt.RcNeAt.list_none p1 nz
  |bl b=>cases(show u=.bl b from hw);cases ru;erw[aO];exact SeqAt.RcNeAt.list_bool _ p1 nz
  |int b=>cases(show u=.int b from hw);let⟨t,rfl⟩:=ru;erw[aO];exact SeqAt.RcNeAt.list_int _ _ p1 nz
  |str b=>cases(show u=.str b from hw);let⟨t,rfl⟩:=ru;erw[aO];exact SeqAt.RcNeAt.list_str _ _ p1 nz
 |non =>
  cases(show v=.non from hv);cases rv
  cases e with
  |non=>cases(show u=.non from hw);cases ru;erw[aO];exact SeqAt.RcNeAt.none_none
  |bl b=>cases(show u=.bl b from hw);cases ru;erw[aO];exact SeqAt.RcNeAt.none_bool _
  |int b=>cases(show u=.int b from hw);let⟨t,rfl⟩:=ru;erw[aO];exact SeqAt.RcNeAt.none_int _ _
  |str b=>cases(show u=.str b from hw);let⟨t,rfl⟩:=ru;erw[aO];exact SeqAt.RcNeAt.none_str _ _
  |tup es=>erw[Is] at hw;let⟨a,vs,rfl,h1,_⟩:=hw;cases ru;let⟨_,_,p⟩:=dM I h1;erw[aO];exact SeqAt.RcNeAt.none_tuple p nz
  |lst es=>erw[Is] at hw;let⟨a,vs,rfl,h1,_⟩:=hw;cases ru;let⟨_,_,p⟩:=dJ I h1;erw[aO];exact SeqAt.RcNeAt.none_list p nz
 |bl b0 =>
  cases(show v=.bl b0 from hv);cases rv
  cases e with
  |non=>cases(show u=.non from hw);cases ru;erw[aO];exact SeqAt.RcNeAt.bool_none _
  |bl b=>cases(show u=.bl b from hw);cases ru;erw[aO];exact SeqAt.RcNeAt.bool_bool _ _
  |int b=>cases(show u=.int b from hw);let⟨t,rfl⟩:=ru;erw[aO];exact SeqAt.RcNeAt.bool_int _ _ _
  |str b=>cases(show u=.str b from hw);let⟨t,rfl⟩:=ru;erw[aO];exact SeqAt.RcNeAt.bool_str _ _ _
  |tup es=>erw[Is] at hw;let⟨a,vs,rfl,h1,_⟩:=hw;cases ru;let⟨_,_,p⟩:=dM I h1;erw[aO];exact SeqAt.RcNeAt.bool_tuple _ p nz
  |lst es=>erw[Is] at hw;let⟨a,vs,rfl,h1,_⟩:=hw;cases ru;let⟨_,_,p⟩:=dJ I h1;erw[aO];exact SeqAt.RcNeAt.bool_list _ p nz
 |int b0 =>
  cases(show v=.int b0 from hv);let⟨t0,rfl⟩:=rv
  cases e with
  |non=>cases(show u=.non from hw);cases ru;erw[aO];exact SeqAt.RcNeAt.int_none _ _
  |bl b=>cases(show u=.bl b from hw);cases ru;erw[aO];exact SeqAt.RcNeAt.int_bool _ _ _
  |int b=>cases(show u=.int b from hw);let⟨t,rfl⟩:=ru;erw[aO];exact SeqAt.RcNeAt.int_int _ _ _ _
  |str b=>cases(show u=.str b from hw);let⟨t,rfl⟩:=ru;erw[aO];exact SeqAt.RcNeAt.int_str _ _ _ _
  |tup es=>erw[Is] at hw;let⟨a,vs,rfl,h1,_⟩:=hw;cases ru;let⟨_,_,p⟩:=dM I h1;erw[aO];exact SeqAt.RcNeAt.int_tuple _ _ p nz
  |lst es=>erw[Is] at hw;let⟨a,vs,rfl,h1,_⟩:=hw;cases ru;let⟨_,_,p⟩:=dJ I h1;erw[aO];exact SeqAt.RcNeAt.int_list _ _ p nz
 |str b0 =>
  cases(show v=.str b0 from hv);let⟨t0,rfl⟩:=rv
  cases e with
  |non=>cases(show u=.non from hw);cases ru;erw[aO];exact SeqAt.RcNeAt.str_none _ _
  |bl b=>cases(show u=.bl b from hw);cases ru;erw[aO];exact SeqAt.RcNeAt.str_bool _ _ _
  |int b=>cases(show u=.int b from hw);let⟨t,rfl⟩:=ru;erw[aO];exact SeqAt.RcNeAt.str_int _ _ _ _
  |str b=>cases(show u=.str b from hw);let⟨t,rfl⟩:=ru;erw[aO];exact SeqAt.RcNeAt.str_str _ _ _ _
  |tup es=>erw[Is] at hw;let⟨a,vs,rfl,h1,_⟩:=hw;cases ru;let⟨_,_,p⟩:=dM I h1;erw[aO];exact SeqAt.RcNeAt.str_tuple _ _ p nz
  |lst es=>erw[Is] at hw;let⟨a,vs,rfl,h1,_⟩:=hw;cases ru;let⟨_,_,p⟩:=dJ I h1;erw[aO];calc SeqAt.RcNeAt.str_list _ _ p nz
end
variable[aV]
noncomputable def intsOf:-D->Option (-Int)
 |[]=>U []
 |.int i::r=>match intsOf r with
  |some ns=>U (i::ns)
  |none=>Z
 |_=>Z
theorem ud:∀ns:-Int,intsOf (ns.map D.int)=U ns
 |[]=>Y
 |n::r=>by show(match intsOf (r.map D.int) with|some ns=>U (n::ns)|none=>Z)=_;rw[ud r]
theorem rm:∀{ds:-D}{ns:-Int},intsOf ds=U ns->ds=ns.map D.int
 |[],ns,h=>by cases h;rfl
 |.int i::r,ns,h=>by
  unfold intsOf at h;split at h
  .rename_i ms e;cases h;rw[Ve,rm e]
  .cases h
 |.non::r,ns,h=>by cases h
 |.bl _::r,ns,h=>by cases h
 |.str _::r,ns,h=>by cases h
 |.tup _::r,ns,h=>by cases h
 |.lst _::r,ns,h=>by cases h
theorem qq{F:Hp}:∀{ns:-Int}{vs:-V},aj F (ns.map D.int) vs->vs=ns.map V.int
 |[],vs,h=>by erw[Xc,aj] at h;exact h
 |n::r,vs,h=>by
  erw[Ve,aj] at h;let⟨v,t,rfl,h1,h2⟩:=h;let h1:v=.int n:=h1;rw[qq h2,h1];rfl
theorem rp{F:Hp}:∀{ns:-Int},aj F (ns.map D.int) (ns.map V.int)
 |[]=>.nil
 |n::r=>.cons (show _=_ from Y) rp
theorem rq{F:Hp}:∀{as bs:-D}{us vs:-V},aj F as us->aj F bs vs->aj F (as++bs) (us++vs)
 |[],bs,us,vs,h,q=>by erw[aj] at h;subst h;exact q
 |a::r,bs,us,vs,h,q=>by
  erw[aj] at h;let⟨v,t,rfl,h1,h2⟩:=h;calc .cons h1 (rq h2 q)
theorem zX{F:Hp}:∀{as:-D}{us:-V}(n:Nat),aj F as us->aj F (as.take n) (us.take n)
 |as,us,0,_=>by rw[Yi,Yi];exact .nil
 |[],us,n+1,h=>by erw[aj] at h;subst h;exact .nil
 |a::r,us,n+1,h=>by
  erw[aj] at h;let⟨v,t,rfl,h1,h2⟩:=h;calc .cons h1 (zX n h2)
theorem Fi{F:Hp}:∀{as:-D}{us:-V}(n:Nat),aj F as us->aj F (as.drop n) (us.drop n)
 |as,us,0,h=>h
 |[],us,n+1,h=>by erw[aj] at h;subst h;exact .nil
 |a::r,us,n+1,h=>by
  erw[aj] at h;let⟨v,t,rfl,h1,h2⟩:=h;calc Fi n h2
theorem zY{F:Hp}:∀{as:-D}{us:-V}(n:Nat){d:D}{v:V},aj F as us->Is F d v->aj F (as.set n d) (us.set n v)
 |[],us,n,d,v,h,_=>by erw[aj] at h;subst h;exact .nil
 |a::r,us,0,d,v,h,q=>by
  erw[aj] at h;let⟨w,t,rfl,h1,h2⟩:=h;exact .cons q h2
 |a::r,us,n+1,d,v,h,q=>by
  erw[aj] at h;let⟨w,t,rfl,h1,h2⟩:=h;calc .cons h1 (zY n h2 q)
theorem Fj{F:Hp}:∀{as:-D}{us:-V}(n:Nat),aj F as us->aj F (as.eraseIdx n) (us.eraseIdx n)
 |[],us,n,h=>by erw[aj] at h;subst h;exact .nil
 |a::r,us,0,h=>by
  erw[aj] at h;let⟨w,t,rfl,h1,h2⟩:=h;exact h2
 |a::r,us,n+1,h=>by
  erw[aj] at h;let⟨w,t,rfl,h1,h2⟩:=h;calc .cons h1 (Fj n h2)
theorem ue{F H:Hp}{p:O}{ds:-D}{vs:-V}(s:aN F H)(hp:H p=Z)(h:aj F ds vs):Is (Nw F H (upd H p (.lst vs))) (.lst ds) (.ref p):=by
 rw[Nw.upd s hp];erw[Is];calc⟨p,vs,Y,b7,h.same (dh (s.free hp))⟩
theorem zZ{F H:Hp}{p:O}{ds:-D}{vs:-V}(s:aN F H)(hp:H p=Z)(h:aj F ds vs):Is (Nw F H (upd H p (.tup vs))) (.tup ds) (.ref p):=by
 rw[Nw.upd s hp];erw[Is];calc⟨p,vs,Y,b7,h.same (dh (s.free hp))⟩
theorem uf{F H:Hp}{d:D}{v:V}(s:aN F H)(h:Is F d v):Is (Nw F H H) d v:=by rw[Nw.refl s];calc h
def qr:D->D->(D->Prop)->Prop
 |.int i,.int j,K=>K (.int (i+j))
 |.lst a,.lst b,K=>↑a+↑b<=1000/\K (.lst (a++b))
 |.tup a,.tup b,K=>(a≠[]/\↑a+↑b<=1000)/\K (.tup (a++b))
 |.str a,.str b,K=>↑a+↑b<=1000/\K (.str (a++b))
 |_,_,_=>False
def oI(f:Int->Int->D):D->D->(D->Prop)->Prop
 |.int i,.int j,K=>K (f i j)
 |_,_,_=>False
def dO(C:Int->Int->Prop)(f:Int->Int->D):D->D->(D->Prop)->Prop
 |.int i,.int j,K=>C i j/\K (f i j)
 |_,_,_=>False
def gw:D->D->(D->Prop)->Prop
 |.int i,.int j,K=>mE i j/\K (.int (i*j))
 |.lst a,.int j,K=>(-(2 ^ 63)<=j/\j<2 ^ 63/\↑a*j.toNat<=1000)/\K (.lst (Ul j.toNat a).flatten)
 |_,_,_=>False
section
variable{X:Cx}
theorem v_{f:L->L->Sem L}{g:Int->Int->V}{h:Int->Int->D}(op:d8 X f (mC g))(hg:∀F i j,Is F (h i j) (g i j)):fg X f (oI h):=by
 ext pins s σ H x y v u Q I rx ry ⟨F,d,e,K,sub,rd,re,q,md⟩;unfold oI at q;split at q
 .rename_i i j
  exact op pins s σ H x y v u Q I rx ry ⟨i,j,rd,re,md _ _ _ q (λ_ _ e=>e) (hg _ i j)⟩
 .calc q.elim
theorem z6{f:L->L->Sem L}{C:Int->Int->Prop}{g:Int->Int->V}{h:Int->Int->D}(op:d8 X f (rI C g))(hg:∀F i j,Is F (h i j) (g i j)):fg X f (dO C h):=by
 ext pins s σ H x y v u Q I rx ry ⟨F,d,e,K,sub,rd,re,q,md⟩;unfold dO at q;split at q
 .rename_i i j
  exact op pins s σ H x y v u Q I rx ry ⟨i,j,rd,re,q.1,md _ _ _ q.2 (λ_ _ e=>e) (hg _ i j)⟩
 .calc q.elim
theorem wa:fg X (binaryOp .Add) qr:=by
 ext pins s σ H x y v u Q I rx ry ⟨F,d,e,K,sub,rd,re,q,md⟩;unfold qr at q;split at q
 .rename_i i j
  exact DI pins s σ H x y v u Q I rx ry ⟨i,j,rd,re,md _ _ _ q (λ_ _ e=>e) Y⟩
 .rename_i as bs
  let⟨a,us,rfl,h1,h2⟩:=rd;let⟨b,ws,rfl,h3,h4⟩:=re;refine Ec pins s σ H _ _ v u Q I rx ry ⟨a,b,us,ws,Y,Y,h1,h3,km (by rw[↑h2,↑h4];calc q.1),λp hp=>md _ _ _ q.2 (dh hp) (ue sub hp (rq h2 h4))⟩
 .rename_i as bs
  let dP:Is F (.tup as) x:=rd;let ip:Is F (.tup bs) y:=re;erw[Is] at dP ip;let⟨a,us,rfl,h1,h2⟩:=dP;let⟨b,ws,rfl,h3,h4⟩:=ip;let ne:us≠[]:=λz=>q.1.1 (Xs.mp (by rw[<-↑h2,z];rfl));calc LW pins s σ H _ _ v u Q I rx ry ⟨a,b,us,ws,Y,Y,b9.of (sub _ _ h1),b9.of (sub _ _ h3),ne,km (by rw[↑h2,↑h4];calc q.1.2),λz=>?_,λz p hp=>md _ _ _ q.2 (dh hp) (zZ sub hp (rq h2 h4))⟩;let:bs=[]:=Xs.mp (by rw[<-↑h4,z];rfl);subst this;calc md _ _ _ q.2 (λ_ _ e=>e) (uf sub ?_);rw[mL];exact rd
 .rename_i as bs
  let dP:x=.str as:=rd;let ip:y=.str bs:=re;subst dP ip;exact KU pins s σ H _ _ v u Q I rx ry ⟨as,bs,Y,Y,km q.1,md _ _ _ q.2 (λ_ _ e=>e) Y⟩
 .calc q.elim
theorem wc:fg X (binaryOp .Sub) (oI λi j=>.int (i-j)):=v_ Ku λ_ _ _=>Y
theorem NL:fg X (binaryOp .Mult) gw:=by
 ext pins s σ H x y v u Q I rx ry ⟨F,d,e,K,sub,rd,re,q,md⟩;unfold gw at q;split at q
 .rename_i i j
  exact Kv pins s σ H x y v u Q I rx ry ⟨i,j,rd,re,q.1,md _ _ _ q.2 (λ_ _ e=>e) Y⟩
 .rename_i as j
  let⟨a,us,rfl,h1,h2⟩:=rd;refine L_ pins s σ H _ _ v u Q I rx ry ⟨a,j,us,Y,re,h1,q.1.1,q.1.2.1,km (by rw[↑h2];calc q.1.2.2),λp hp=>md _ _ _ q.2 (dh hp) (ue sub hp ?_)⟩
  let:∀k:Nat,aj F (Ul k as).flatten (Ul k us).flatten:=λk=>by
   induction k with
   |zero=>exact .nil
   |succ k ih=>rw[V_,V_,Xd,Xd];exact rq h2 ih
  exact this _
 .calc q.elim
theorem z9:fg X (binaryOp .Mod) (dO (λ_ j=>0<j) λi j=>.int (i%j)):=z6 yg λ_ _ _=>Y
theorem NM:fg X (binaryOp .Pow) (dO et λi j=>.int (i ^ j.toNat)):=z6 Kw λ_ _ _=>Y
def oEq:D->D->(D->Prop)->Prop:=λd e K=>dep d<=60/\K (.bl (aO d e))
def oX:D->D->(D->Prop)->Prop:=λd e K=>dep d<=60/\K (.bl (!aO d e))
theorem jT(hu:X.A.units+64<cLine):fg X (compareOp .Eq) oEq:=by
 ext pins s σ H x y v u Q I rx ry ⟨F,d,e,K,sub,rd,re,q,md⟩;calc(zU I 60 q.1 ⋯ (rd.is sub) (re.is sub) rx ry).2 _ _ _ _ ⟨.bl _,H,I,Y,md _ _ _ q.2 (λ_ _ e=>e) Y⟩
theorem ug(hu:X.A.units+64<cLine):fg X (compareOp .NotEq) oX:=by
 ext pins s σ H x y v u Q I rx ry ⟨F,d,e,K,sub,rd,re,q,md⟩;calc NK I q.1 ⋯ (rd.is sub) (re.is sub) rx ry _ _ _ _ ⟨.bl _,H,I,Y,md _ _ _ q.2 (λ_ _ e=>e) Y⟩
def oLt:D->D->(D->Prop)->Prop
 |.int i,.int j,K=>K (.bl (E (i<j)))
 |.tup a,.tup b,K=>match intsOf a,intsOf b with
  |some ns,some ms=>K (.bl (HT.lexLt ns ms))
  |_,_=>False
 |_,_,_=>False
theorem Fl(hu:X.A.units+64<cLine):fg X (compareOp .Lt) oLt:=by
 ext pins s σ H x y v u Q I rx ry ⟨F,d,e,K,sub,rd,re,q,md⟩;unfold oLt at q;split at q
 .rename_i i j
  exact KC pins s σ H x y v u Q I rx ry ⟨i,j,rd,re,md _ _ _ q (λ_ _ e=>e) Y⟩
 .rename_i as bs
  split at q
  .rename_i ns ms e1 e2
   rw[rm e1] at rd;rw[rm e2] at re;let dP:Is F (.tup (ns.map D.int)) x:=rd;let ip:Is F (.tup (ms.map D.int)) y:=re;erw[Is] at dP ip;let⟨a,us,rfl,h1,h2⟩:=dP;let⟨b,ws,rfl,h3,h4⟩:=ip;rw[qq h2] at h1;rw[qq h4] at h3;exact LU ⋯ pins s σ H _ _ v u Q I rx ry ⟨a,b,ns,ms,Y,Y,b9.of (sub _ _ h1),b9.of (sub _ _ h3),md _ _ _ q (λ_ _ e=>e) Y⟩
  .exact q.elim
 .calc q.elim
theorem Fm:fg X (compareOp .LtE) (oI λi j=>.bl (E (i<=j))):=v_ KD λ_ _ _=>Y
theorem Fp:fg X (compareOp .Gt) (oI λi j=>.bl (E (j<i))):=v_ KG λ_ _ _=>Y
theorem NN:fg X (compareOp .GtE) (oI λi j=>.bl (E (j<=i))):=v_ KH λ_ _ _=>Y
def jU:D->D->(D->Prop)->Prop
 |.non,.non,K=>K (.bl θ)
 |.bl _,.non,K=>K (.bl ι)
 |.int _,.non,K=>K (.bl ι)
 |.str _,.non,K=>K (.bl ι)
 |.tup _,.non,K=>K (.bl ι)
 |.lst _,.non,K=>K (.bl ι)
 |_,_,_=>False
theorem Fs{F H:Hp}{d e:D}{x y:V}{K:D->Prop}(rd:jm F H d x)(re:jm F H e y)(q:jU d e K):y=.non/\K (.bl (E (x=.non))):=by
 unfold jU at q;split at q
 .let:x=.non:=rd;let h2:y=.non:=re;subst this;exact⟨h2,q⟩
 .rename_i b;let:x=.bl b:=rd;let h2:y=.non:=re;subst this;exact⟨h2,q⟩
 .rename_i b;let:x=.int b:=rd;let h2:y=.non:=re;subst this;exact⟨h2,q⟩
 .rename_i b;let:x=.str b:=rd;let h2:y=.non:=re;subst this;exact⟨h2,q⟩
 .rename_i b;let rd:Is F (.tup b) x:=rd;erw[Is] at rd;let⟨a,_,rfl,_⟩:=rd;exact⟨re,q⟩
 .rename_i b;let⟨a,_,rfl,_⟩:=rd;exact⟨re,q⟩
 .calc q.elim
def z_:D->D->(D->Prop)->Prop:=λd e K=>jU d e λz=>match z with
 |.bl b=>K (.bl (!b))
 |_=>False
theorem NO:fg X (compareOp .Is) jU:=by
 ext pins s σ H x y v u Q I rx ry ⟨F,d,e,K,sub,rd,re,q,md⟩;let⟨h1,h2⟩:=Fs rd re q;calc KI pins s σ H x y v u Q I rx ry ⟨h1,md _ _ _ h2 (λ_ _ e=>e) Y⟩
theorem NP:fg X (compareOp .IsNot) z_:=by
 ext pins s σ H x y v u Q I rx ry ⟨F,d,e,K,sub,rd,re,q,md⟩;let⟨h1,h2⟩:=Fs rd re q;calc KJ pins s σ H x y v u Q I rx ry ⟨h1,md _ _ _ h2 (λ_ _ e=>e) Y⟩
def kY(neg:Bool):D->D->(D->Prop)->Prop
 |d,.lst es,K=>bB es<=55/\K (.bl (if neg then !(es.any λe=>aO e d) else es.any λe=>aO e d))
 |d,.tup es,K=>bB es<=55/\K (.bl (if neg then !(es.any λe=>aO e d) else es.any λe=>aO e d))
 |_,_,_=>False
noncomputable def iM(H:Hp)(d:D)(u:L):Bool:=by
 classical calc if ∃e v,Is H e v/\RelV v u/\aO e d=θ then θ else ι
theorem Ft{H:Hp}{d e:D}{v:V}{u:L}(h:Is H e v)(r:RelV v u):iM H d u=aO e d:=by
 unfold iM;split
 .rename_i z
  let⟨e',v',h',r',q⟩:=z;let:v'=v:=r'.inj r;subst this;rw[Is.inj h h'];exact q.symm
 .rename_i z
  cases q:aO e d with
  |false=>rfl
  |true=>calc absurd ⟨e,v,h,r,q⟩ z
theorem uh{H:Hp}{d:D}:∀{es:-D}{vs:-V}{us:-L},aj H es vs->Vals vs us->us.any (iM H d)=es.any λe=>aO e d
 |[],vs,us,h,r=>by erw[aj] at h;subst h;cases r;rfl
 |e::es,vs,us,h,r=>by
  erw[aj] at h;let⟨v,t,rfl,h1,h2⟩:=h
  cases r with
  |cons r1 r2=>rw[Xj,Xj,Ft h1 r1,uh h2 r2]
theorem ui{pins:aM}{σ:St}{H:Hp}{s:B}(I:Inv X pins σ H s){A:q}(hu:A.units+60<cLine){d:D}{x:V}{w:L}(hd:Is H d x)(rd:RelV x w):∀{es:-D}{vs:-V}{us:-L},bB es<=55->aj H es vs->Vals vs us->∀u∈us,Zl A s u w (iM H d u)
 |[],vs,us,_,h,r=>by erw[aj] at h;subst h;cases r;ext u hu;cases hu
 |e::es,vs,us,hp,h,r=>by
  erw[aj] at h;let⟨v,t,rfl,h1,h2⟩:=h;erw[bB] at hp
  cases r with
  |cons r1 r2 =>
   ext u hu';rcases Um.mp hu' with rfl|hu'
   .rw[Ft h1 r1];exact(zU I 55 ⋯ ⋯ h1 hd r1 rd).1
   .calc ui I hu hd rd ⋯ h2 r2 u hu'
theorem Fu(hu:X.A.units+64<cLine):fg X (compareOp .In) (kY ι):=by
 ext pins s σ H x y v u Q I rx ry ⟨F,d,e,K,sub,rd,re,q,md⟩;unfold kY at q;split at q
 .rename_i es
  let⟨a,vs,rfl,h1,h2⟩:=re;cases ry
  let⟨au,r,p⟩:=dJ I h1;let ij:=h2.same sub;calc SeqAt.in_listAt (iM H d) p (λw hw=>ui I (by rw[in1_units];symm) (rd.is sub) rx q.1 ij r w hw⁻¹) ⟨.bl _,H,I,Y,?_⟩;rw[show au.toArray.any (iM H d)=au.any (iM H d) by simp,uh ij r];exact md _ _ _ q.2 (λ_ _ e=>e) Y
 .rename_i es
  let ip:Is F (.tup es) y:=re;erw[Is] at ip;let⟨a,vs,rfl,h1,h2⟩:=ip;cases ry
  let⟨au,r,p⟩:=dM I (sub _ _ h1);let ij:=h2.same sub;calc SeqAt.in_tupleAt (iM H d) p (λw hw=>ui I (by rw[in1_units];symm) (rd.is sub) rx q.1 ij r w hw⁻¹) ⟨.bl _,H,I,Y,?_⟩;rw[show au.toArray.any (iM H d)=au.any (iM H d) by simp,uh ij r];exact md _ _ _ q.2 (λ_ _ e=>e) Y
 .calc q.elim
theorem Aa(hu:X.A.units+64<cLine):fg X (compareOp .NotIn) (kY θ):=by
 ext pins s σ H x y v u Q I rx ry ⟨F,d,e,K,sub,rd,re,q,md⟩;unfold kY at q;split at q
 .rename_i es
  let⟨a,vs,rfl,h1,h2⟩:=re;cases ry
  let⟨au,r,p⟩:=dJ I h1;let ij:=h2.same sub;calc SeqAt.notIn_listAt (iM H d) p (λw hw=>ui I (by rw[in1_units];symm) (rd.is sub) rx q.1 ij r w hw⁻¹) ⟨.bl _,H,I,Y,?_⟩;rw[show au.toArray.any (iM H d)=au.any (iM H d) by simp,uh ij r];exact md _ _ _ q.2 (λ_ _ e=>e) Y
 .rename_i es
  let ip:Is F (.tup es) y:=re;erw[Is] at ip;let⟨a,vs,rfl,h1,h2⟩:=ip;cases ry
  let⟨au,r,p⟩:=dM I (sub _ _ h1);let ij:=h2.same sub;calc SeqAt.notIn_tupleAt (iM H d) p (λw hw=>ui I (by rw[in1_units];symm) (rd.is sub) rx q.1 ij r w hw⁻¹) ⟨.bl _,H,I,Y,?_⟩;rw[show au.toArray.any (iM H d)=au.any (iM H d) by simp,uh ij r];exact md _ _ _ q.2 (λ_ _ e=>e) Y
 .calc q.elim
def bg:D->D->(D->Prop)->Prop
 |.lst ds,.int i,K=>match dY ds i with
  |some d=>K d
  |none=>False
 |.tup ds,.int i,K=>match dY ds i with
  |some d=>K d
  |none=>False
 |.str z,.int i,K=>↑z<=1000/\match dY z.cps.toList i with
  |some c=>K (.str ⟨#[c]⟩)
  |none=>False
 |_,_,_=>False
theorem Fv{F:Hp}{ds:-D}{vs:-V}{i:Int}{d:D}(h:aj F ds vs)(e:dY ds i=U d):∃v,dY vs i=U v/\Is F d v:=by
 unfold dY at e ⊢;rw[↑h]
 cases q:eK ↑ds i with
 |none=>rw[q] at e;cases e
 |some j =>
  rw[q] at e;calc m_ h (show ds[j]?=U d from e)
theorem gG:ES X bg:=by
 ext value slice pins s σ H x y v u Q I rx ry ⟨F,d,e,K,sub,rd,re,q,md⟩ hs;unfold bg at q;split at q
 .rename_i ds i
  split at q
  .rename_i d' e1
   let⟨a,vs,rfl,h1,h2⟩:=rd;let⟨w,e2,h3⟩:=Fv h2 e1;exact gM value slice pins s σ H _ _ v u Q I rx ry ⟨a,vs,i,w,Y,re,bP.of h1,e2,md _ _ _ q (λ_ _ e=>e) (uf sub h3)⟩ hs
  .exact q.elim
 .rename_i ds i
  split at q
  .rename_i d' e1
   let dP:Is F (.tup ds) x:=rd;erw[Is] at dP;let⟨a,vs,rfl,h1,h2⟩:=dP;let⟨w,e2,h3⟩:=Fv h2 e1;exact kJ value slice pins s σ H _ _ v u Q I rx ry ⟨a,vs,i,w,Y,re,b9.of (sub _ _ h1),e2,md _ _ _ q (λ_ _ e=>e) (uf sub h3)⟩ hs
  .exact q.elim
 .rename_i z i
  let⟨hz,q⟩:=q;split at q
  .rename_i c e1
   let dP:x=.str z:=rd;subst dP;exact D3 value slice pins s σ H _ _ v u Q I rx ry ⟨z,i,c,Y,re,km hz,e1,md _ _ _ q (λ_ _ e=>e) Y⟩ hs
  .exact q.elim
 .calc q.elim
noncomputable def cutD(ds:-D)(lo hi:Option Int):-D:=(ds.drop (HT.bI ↑ds 0 lo)).take (HT.bI ↑ds ↑ds hi-HT.bI ↑ds 0 lo)
theorem Fw{F:Hp}{ds:-D}{vs:-V}(h:aj F ds vs)(lo hi:Option Int):aj F (cutD ds lo hi) (dz vs lo hi):=by
 unfold cutD dz;rw[↑h];calc zX _ (Fi _ h)
abbrev WO:=aG->(Option Int->aG->Prop)->Prop
def wd(f:WO):TO:=fun σ H Q=>∃F ad δ K,SR F ad δ σ H/\f δ K/\∀o δ',K o δ'->∀F' aE H',Ext F ad δ.mu H F' aE δ'.mu H'->SR F' aE δ' σ H'->Q o H'
def gU:WO:=fun δ K=>K Z δ
def kZ(f:WE):WO:=fun δ K=>f δ λx δ1=>match x with
 |.p (.int i)=>K (U i) δ1
 |_=>False
theorem NQ:PO X Z (wd gU):=λpins s σ H Q I ⟨F,ad,δ,K,S,q,k⟩↦D0 pins s σ H Q I (k _ _ q _ _ _ .refl S)
theorem Ab{e:M}{f:WE}(h:JE X e (tD f)):PO X (U e) (wd (kZ f)):=λpins s σ H Q I ⟨F,ad,δ,K,S,q,k⟩↦vx h pins s σ H Q I ⟨F,ad,δ,_,S,q,λx δ1 h1 v F1 aS H1 E1 S1 V1=>by
 split at h1
 .rename_i i
  exact⟨i,V1,k _ _ h1 _ _ _ E1 S1⟩
 .calc h1.elim⟩
def iZ:D->(D->Prop)->Prop
 |.int i,K=>K (.int (-(i:Int)))
 |_,_=>False
theorem Fy{e:M}{f:WE}{pos:y}(he:JE X e (tD f)):JE X (.UnaryOp .USub e pos) (tD (d1 f iZ)) :=
 (Kt Kz he).weak fun σ H Q ⟨F,ad,δ,K,S,q,k⟩↦⟨F,ad,δ,_,S,q,λx δ1 h1 v F1 aS H1 E1 S1 V1=>by
  let⟨d,h4,rd⟩:=jM S1 V1 h1;unfold iZ at h4;split at h4
  .rename_i i
   exact⟨i,rd,k _ _ h4 _ _ _ _ E1 S1 Y⟩
  .calc h4.elim⟩
def Ac(f g h:WE)(o o':D->D->(D->Prop)->Prop):WE:=fun δ K=>f δ λx δ1=>g δ1 λy δ2=>hZ x δ2 λd=>hZ y δ2 λe=>o d e λz=>match z with
 |.bl true=>h δ2 λw δ3=>hZ y δ3 λe'=>hZ w δ3 λc=>o' e' c λz'=>K (.p z') δ3
 |.bl false=>K (.p (.bl ι)) δ2
 |_=>False
theorem NR{a b c:M}{f g h:WE}{op pI:CmpOp}{o o':D->D->(D->Prop)->Prop}{pos:Ε}(ho:fg X (compareOp op) o)(dS:fg X (compareOp pI) o')(ha:JE X a (tD f))(hb:JE X b (tD g))(hc:JE X c (tD h))
  (hm:lastMarks [op,pI] [b,c]=ι:=by with_unfolding_all rfl):JE X (.Compare a [op,pI] [b,c] pos) (tD (Ac f g h o o')) :=
 (KR ho dS ha hb hc hm).weak fun σ H Q ⟨F,ad,δ,K,S,q,k⟩=>by
  calc⟨F,ad,δ,_,S,q,λx δ1 h1 v1 F1 aS H1 E1 S1 V1=>⟨F1,aS,δ1,_,S1,h1,λy δ2 h2 v2 F2 bV H2 E2 S2 V2=>?_⟩⟩;let⟨d,h3,rd⟩:=jM S2 (V1.ext E2) h2;let⟨e,h4,re⟩:=jM S2 V2 h3;calc⟨F2,d,e,_,S2.sub,rd,re,h4,λz v H' hz sm is=>?_⟩;let S3:=S2.al sm;let E3:=Ext.al S2 sm;split at hz
  .refine⟨θ,is,?_⟩
   rw[U_ Y];calc⟨_,bV,δ2,_,S3,hz,λw δ4 h5 v4 F4 rj H4 E4 S4 V4=>?_⟩;let⟨d',h6,vY⟩:=jM S4 ((V2.ext E3).ext E4) h5;let⟨e',h7,NS⟩:=jM S4 V4 h6;exact⟨F4,d',e',_,S4.sub,vY,NS,h7,λz v H' hz sm is=>k _ _ hz _ _ _ _ ((((E1.trans E2).trans E3).trans E4).trans (Ext.al S4 sm)) (S4.al sm) is⟩
  .refine⟨ι,is,?_⟩
   rw[U9 Vl];exact k _ _ hz _ _ _ _ ((E1.trans E2).trans E3) S3 Y
  .calc hz.elim
end
noncomputable def sortI(ns:-Int):-Int:=ns.mergeSort λa b=>E (a<=b)
theorem sortI_perm(ns:-Int):(sortI ns).Perm ns:=List.mergeSort_perm ns _
theorem FA(ns:-Int):(sortI ns).Pairwise (· <= ·):=by
 let:=List.pairwise_mergeSort (le:=λa b:Int=>E (a<=b)) (λa b c h1 h2=>by simp at *;symm) (λa b=>by simp;symm) ns;calc this.imp λh=>by simpa using h
theorem FC:∀{as bs:-Int},as.Perm bs->as.Pairwise (· <= ·)->bs.Pairwise (· <= ·)->as=bs
 |[],bs,p,_,_=>p.nil_eq
 |a::as,[],p,_,_=>absurd p.length_eq (by simp)
 |a::as,b::bs,p,s,t=>by
  let e:a=b:=by
   let h1:a<=b:=by
    let hb:b∈a::as:=p.mem_iff.mpr (Vc ..);rcases Um.mp hb with h|h
    .omega
    .exact (WY.mp s).1 b h
   let h2:b<=a:=by
    let ha:a∈b::bs:=p.mem_iff.mp (Vc ..);rcases Um.mp ha with h|h
    .omega
    .exact (WY.mp t).1 a h
   symm
  subst e;rw[FC (List.perm_cons a |>.mp p) (WY.mp s).2 (WY.mp t).2]
theorem FD{as bs:-Int}(p:as.Perm bs)(s:as.Pairwise (· <= ·)):as=sortI bs:=FC (p.trans (sortI_perm bs).symm) s (FA bs)
theorem NU(ns:-Int):↑(sortI ns)=↑ns:=(sortI_perm ns).length_eq
def cB:-D->(D->Prop)->Prop
 |[.lst ds],K=>K (.int ↑ds)
 |[.tup ds],K=>K (.int ↑ds)
 |[.str z],K=>↑z<=1000/\K (.int ↑z)
 |_,_=>False
def uj:-D->(D->Prop)->Prop
 |[.lst ds],K=>K (.tup ds)
 |[.tup ds],K=>K (.tup ds)
 |_,_=>False
def rz:-D->(D->Prop)->Prop
 |[.lst ds],K=>match intsOf ds with
  |some ns=>↑ns<64/\K (.lst ((sortI ns).map D.int))
  |none=>False
 |_,_=>False
def nh:-D->(D->Prop)->Prop
 |[.lst ds],K=>match intsOf ds with
  |some ns=>((∀x∈ns,0<=x/\x<=1000000000)/\↑ns<=1000)/\K (.int ns.sum)
  |none=>False
 |_,_=>False
noncomputable def rA:-D->Option (-Bool)
 |[]=>U []
 |.bl b::r=>match rA r with
  |some bs=>U (b::bs)
  |none=>Z
 |_=>Z
theorem FE:∀bs:-Bool,rA (bs.map D.bl)=U bs
 |[]=>Y
 |n::r=>by show(match rA (r.map D.bl) with|some ns=>U (n::ns)|none=>Z)=_;rw[FE r]
theorem FF:∀{ds:-D}{bs:-Bool},rA ds=U bs->ds=bs.map D.bl
 |[],ns,h=>by cases h;rfl
 |.bl i::r,ns,h=>by
  unfold rA at h;split at h
  .rename_i ms e;cases h;rw[Ve,FF e]
  .cases h
 |.non::r,ns,h=>by cases h
 |.int _::r,ns,h=>by cases h
 |.str _::r,ns,h=>by cases h
 |.tup _::r,ns,h=>by cases h
 |.lst _::r,ns,h=>by cases h
theorem FG{F:Hp}:∀{bs:-Bool}{vs:-V},aj F (bs.map D.bl) vs->vs=bs.map V.bl
 |[],vs,h=>by erw[Xc,aj] at h;exact h
 |n::r,vs,h=>by
  erw[Ve,aj] at h;let⟨v,t,rfl,h1,h2⟩:=h;let h1:v=.bl n:=h1;rw[FG h2,h1];rfl
def ni:-D->(D->Prop)->Prop
 |[.lst ds],K=>match rA ds with
  |some bs=>K (.bl (bs.all id))
  |none=>False
 |_,_=>False
def rB:-D->(D->Prop)->Prop
 |[.int i,.int j],K=>K (.int (min i j))
 |_,_=>False
def we:-D->(D->Prop)->Prop
 |[.int i,.int j],K=>K (.int (max i j))
 |_,_=>False
section
variable{X:Cx}
theorem dP{F H:Hp}{d:D}{xs:-V}(h:iX F H [d] xs):∃v,xs=[v]/\jm F H d v:=by
 let⟨v,r,rfl,h1,h2⟩:=h;let h2:r=[]:=h2;subst h2;calc⟨v,Y,h1⟩
theorem FH{F H:Hp}{d e:D}{xs:-V}(h:iX F H [d,e] xs):∃v w,xs=[v,w]/\jm F H d v/\jm F H e w:=by
 let⟨v,r,rfl,h1,h2⟩:=h;let⟨w,rfl,h3⟩:=dP h2;calc⟨v,w,Y,h1,h3⟩
theorem rC:eC X (.builtin "len") cB:=by
 ext pins s σ H xs us Q I r ⟨F,ds,K,sub,rd,q,md⟩;unfold cB at q;split at q
 .let⟨v,rfl,a,vs,rfl,h1,h2⟩:=dP rd
  exact D5 pins s σ H _ us Q I r ⟨a,vs,Y,.inl (bP.of h1),by rw[↑h2];calc md _ _ _ q (λ_ _ e=>e) Y⟩
 .rename_i es
  let⟨v,rfl,h⟩:=dP rd;let h:Is F (.tup es) v:=h;erw[Is] at h;let⟨a,vs,rfl,h1,h2⟩:=h;exact D5 pins s σ H _ us Q I r ⟨a,vs,Y,.inr (b9.of (sub _ _ h1)),by rw[↑h2];calc md _ _ _ q (λ_ _ e=>e) Y⟩
 .rename_i z
  let⟨v,rfl,h⟩:=dP rd;let h:v=.str z:=h;subst h;exact L3 pins s σ H _ us Q I r ⟨z,Y,km q.1,md _ _ _ q.2 (λ_ _ e=>e) Y⟩
 .calc q.elim
theorem NV:eC X (.type "tuple") uj:=by
 ext pins s σ H xs us Q I r ⟨F,ds,K,sub,rd,q,md⟩;unfold uj at q;split at q
 .let⟨v,rfl,a,vs,rfl,h1,h2⟩:=dP rd
  exact D6 pins s σ H _ us Q I r ⟨a,vs,Y,.inl ⟨bP.of h1,λl hl=>md _ _ _ q (dh hl) (zZ sub hl h2)⟩⟩
 .rename_i es
  let⟨v,rfl,h⟩:=dP rd;let h0:Is F (.tup es) v:=h;let h:Is F (.tup es) v:=h;erw[Is] at h;let⟨a,vs,rfl,h1,h2⟩:=h;exact D6 pins s σ H _ us Q I r ⟨a,vs,Y,.inr ⟨b9.of (sub _ _ h1),md _ _ _ q (λ_ _ e=>e) (uf sub h0)⟩⟩
 .calc q.elim
theorem FI:eC X (.builtin "sorted") rz:=by
 ext pins s σ H xs us Q I r ⟨F,ds,K,sub,rd,q,md⟩;unfold rz at q;split at q
 .rename_i es
  split at q
  .rename_i ns e
   let⟨v,rfl,a,vs,rfl,h1,h2⟩:=dP rd;rw[rm e] at h2;rw[qq h2] at h1;calc EM pins s σ H _ us Q I r ⟨a,ns,Y,bP.of h1,q.1,λl bU pm pw hl=>?_⟩;rw[FD pm pw];exact md _ _ _ q.2 (dh hl) (ue sub hl rp)
  .exact q.elim
 .calc q.elim
theorem NW(hc:X.calm=θ):eC X (.builtin "sum") nh:=by
 ext pins s σ H xs us Q I r ⟨F,ds,K,sub,rd,q,md⟩;unfold nh at q;split at q
 .rename_i es
  split at q
  .rename_i ns e
   let⟨v,rfl,a,vs,rfl,h1,h2⟩:=dP rd;rw[rm e] at h2;rw[qq h2] at h1;exact M8 hc pins s σ H _ us Q I r ⟨a,ns,Y,bP.of h1,q.1.1,q.1.2,md _ _ _ q.2 (λ_ _ e=>e) Y⟩
  .exact q.elim
 .calc q.elim
theorem NX(hc:X.calm=θ):eC X (.builtin "all") ni:=by
 ext pins s σ H xs us Q I r ⟨F,ds,K,sub,rd,q,md⟩;unfold ni at q;split at q
 .rename_i es
  split at q
  .rename_i bs e
   let⟨v,rfl,a,vs,rfl,h1,h2⟩:=dP rd;rw[FF e] at h2;rw[FG h2] at h1;exact M3 hc pins s σ H _ us Q I r ⟨a,bs,Y,bP.of h1,md _ _ _ q (λ_ _ e=>e) Y⟩
  .exact q.elim
 .calc q.elim
theorem NY(hc:X.calm=θ):eC X (.builtin "min") rB:=by
 ext pins s σ H xs us Q I r ⟨F,ds,K,sub,rd,q,md⟩;unfold rB at q;split at q
 .rename_i i j
  let⟨v,w,rfl,h1,h2⟩:=FH rd;let h1:v=.int i:=h1;let h2:w=.int j:=h2;subst h1 h2;calc KY hc pins s σ H _ us Q I r ⟨i,j,Y,?_⟩;let:(if j<i then j else i)=min i j:=by split<;>symm
  rw[this];exact md _ _ _ q (λ_ _ e=>e) Y
 .calc q.elim
theorem NZ(hc:X.calm=θ):eC X (.builtin "max") we:=by
 ext pins s σ H xs us Q I r ⟨F,ds,K,sub,rd,q,md⟩;unfold we at q;split at q
 .rename_i i j
  let⟨v,w,rfl,h1,h2⟩:=FH rd;let h1:v=.int i:=h1;let h2:w=.int j:=h2;subst h1 h2;calc KW hc pins s σ H _ us Q I r ⟨i,j,Y,?_⟩;let:(if j>i then j else i)=max i j:=by split<;>symm
  rw[this];exact md _ _ _ q (λ_ _ e=>e) Y
 .calc q.elim
def Ad(fa:WA):WE:=fun δ K=>fa δ λxs δ1=>match xs with
 |[.p (.int j)]=>(0<=j/\j<=1000)/\K (.p (.lst (c7 0 j.toNat))) δ1
 |_=>False
theorem uk(n:Nat):c7 0 n=(bX n).map D.int:=by
 unfold c7 bX;rw[Vv];calc Xm λi _=>?_;show D.int (0+(i:Int))=D.int (i:Int);rw[q0L]
theorem N0{a:M}{fa:WA}{p1 p2 q1 q2:y}(hc:X.calm=θ)(Ae:Gl X "list")(hl:X.mg "list" = Z)(Af:bootBuiltins "list" = U (.type "list"))(qt:Gl X "range")(hr:X.mg "range" = Z)(qu:bootBuiltins "range" = U (.type "range"))(ha:JA X [a] (cf fa))
  (he:starEach [a] X.env=[(ι,eval a X.env)]:=by rfl) (Ag:starEach [.Call (.Name "range" p2) [a] [] q2] X.env=[(ι,eval (.Call (.Name "range" p2) [a] [] q2) X.env)]:=by rfl):JE X (.Call (.Name "list" p1) [.Call (.Name "range" p2) [a] [] q2] [] q1) (tD (Ad fa)) :=
 (pM (M7 hc) Ae hl Af (mM (pM EI qt hr qu ha (he:=he)) cY) (he:=Ag)).weak fun σ H Q ⟨F,ad,δ,K,S,q,k⟩=>⟨F,ad,δ,_,S,q,λxs δ1 h1 vs F1 aS H1 E1 S1 V1=>by
  split at h1
  .rename_i j
   let⟨v,r,e,W1,W2⟩:=V1;let W2:r=[]:=W2;let W1:v=.int j:=W1;subst W2 W1 e;calc⟨j,Y,λrr Ah=>⟨rr,j.toNat,Y,by rw[b7,Int.toNat_of_nonneg h1.1.1],⋯,λl hl=>?_⟩⟩;let s1:aN H1 (upd H1 rr (.rng 0 j)):=dh Ah;let S2:=S1.al s1;let E2:=Ext.al S1 s1;calc k _ _ h1.2 _ _ _ _ ((E1.trans E2).trans (Ext.al S2 (dh hl))) (S2.al (dh hl)) ?_;let:Is (Nw (Nw F1 H1 (upd H1 rr (.rng 0 j))) (upd H1 rr (.rng 0 j)) (upd (upd H1 rr (.rng 0 j)) l (.lst ((bX j.toNat).map V.int)))) (.lst ((bX j.toNat).map D.int)) (.ref l):=ue S2.sub hl rp;rw[uk];exact this
  .calc h1.elim⟩
def c9(T:String):D->(D->Prop)->Prop:=λd K=>K (.bl (bu (cS d) T))
theorem iN{T:String}{t:J}{a:M}{f:WE}{p p2 pos:y}(hk:∀d:D,VR X.K (.type (cS d)) (.type T)=U (bu (cS d) T))(hg:Gl X "isinstance")(hm:X.mg "isinstance" = Z)(N3:Gl X t)(N4:X.mg t=Z)(N5:bootBuiltins t=U (.type T))(ha:JE X a (tD f))
  (tH:t≠"__name__" := by decide) (mf:b8 t:=by decide) (he:starEach [a,.Name t p2] X.env=(ι,eval a X.env)::starEach [.Name t p2] X.env:=by rfl):JE X (.Call (.Name "isinstance" p) [a,.Name t p2] [] pos) (tD (d1 f (c9 T))) :=
 (vv MF hg hm PyProof.Rows.boot_isinstance (jG ha (p9 (JV N3 N4 N5 (v:=.ty T) Y tH mf) cY) he) (he:=he)).weak fun σ H Q ⟨F,ad,δ,K,S,q,k⟩↦⟨F,ad,δ,_,S,q,λx δ1 h1 v F1 aS H1 E1 S1 V1=>by
  let⟨d,h2,rd⟩:=jM S1 V1 h1
  calc⟨v,.ty T,.type T,.type (cS d),_,Y,Y,Is.ty (rd.is S1.sub),hk d,k _ _ h2 _ _ _ _ E1 S1 Y⟩⟩
theorem Ai{K:Ee}:∀d:D,VR K (.type (cS d)) (.type "int")=U (bu (cS d) "int"):=λd=>MI _ (tK d)
theorem um{K:Ee}:∀d:D,VR K (.type (cS d)) (.type "bool")=U (bu (cS d) "bool"):=λd=>MH _ (tK d)
theorem FJ{K:Ee}:∀d:D,VR K (.type (cS d)) (.type "str")=U (bu (cS d) "str"):=λd=>MJ _ (tK d)
theorem Aj{K:Ee}:∀d:D,VR K (.type (cS d)) (.type "tuple")=U (bu (cS d) "tuple"):=λd=>kit_tuple _ (tK d)
theorem Ak{K:Ee}:∀d:D,VR K (.type (cS d)) (.type "list")=U (bu (cS d) "list"):=λd=>MK _ (tK d)
def fy(x:DV)(δ:aG)(K:Nat->(-D->OV)->-D->Prop):Prop:=match x with
 |.o k=>match δ.mu[k]? with
  |some (some (.lst ds))=>K k OV.lst ds
  |some (some (.al a ds))=>K k (OV.al a) ds
  |_=>False
 |_=>False
theorem nj{F H:Hp}{ad:-O}{δ:aG}{σ:St}{x:DV}{v:V}{K:Nat->(-D->OV)->-D->Prop}(S:SR F ad δ σ H)(V1:dB F ad x v)(h:fy x δ K):∃k B ds a vs,x=.o k/\K k B ds/\v=.ref a/\ad[k]?=U a/\H a=U (.lst vs)/\aj F ds vs/\δ.mu[k]?=U (U (B ds))/\∀{F' es us},aj F' es us->eN F' a (B es) (.lst us):=by
 unfold fy at h;split at h
 .rename_i k
  split at h
  .rename_i ds e
   let⟨a,e1,rfl⟩:=V1;let⟨a',o,e2,e3,vs,rfl,h4⟩:=S.mu k _ e;rw[e1] at e2;cases e2;exact⟨k,_,ds,a,vs,Y,h,Y,e1,e3,h4,e,λi=>⟨_,Y,i⟩⟩
  .rename_i b ds e
   let⟨a,e1,rfl⟩:=V1;let⟨a',o,e2,e3,z,vs,rfl,h4⟩:=S.mu k _ e;rw[e1] at e2;cases e2;exact⟨k,_,ds,a,vs,Y,h,Y,e1,e3,h4,e,λi=>⟨z,_,Y,i⟩⟩
  .exact h.elim
 .calc h.elim
def jV(f:WE)(fa:WA):WE:=fun δ K=>f δ λx δ1=>fy x δ1 λ_ _ _=>fa δ1 λys δ2=>match ys with
 |[y]=>kj y δ2 λd δ3=>fy x δ3 λk B ds=>↑ds<1000/\K (.p .non) ⟨δ3.sl,δ3.mu.set k (U (B (ds++[d])))⟩
 |_=>False
theorem Al{f:WE}{fa:WA}{K0:Ee}:∀σ H Q,tD (jV f fa) σ H Q->vy K0 "list" D_ (tD f) (cf fa) σ H Q:=fun σ H Q ⟨F,ad,δ,K,S,q,k⟩=>⟨F,ad,δ,_,S,q,λx δ1 h1 v F1 aS H1 E1 S1 V1=>by
 let⟨k0,B0,FK,a,vs,rfl,h2,rfl,e1,e2,i1,m1,k6⟩:=nj S1 V1 h1;refine⟨.inl ⟨Y,vs,bP.of e2⟩,F1,aS,δ1,_,S1,h2,λys δ2 h3 us F2 bV H2 E2 S2 V2=>?_⟩
 match ys,h3,V2 with
 |[y],g3,⟨u,r,e,W1,W2⟩ =>
  let W3:r=[]:=W2;subst W3 e;let⟨d,δ3,F3,h4,E3,S3,i3⟩:=qe S2 W1 g3;let⟨k1,B,ds,b,ws,ek,h5,eb,e3,e4,i4,m4,uo⟩:=nj (x:=.o k0) S3 ((V1.ext E2).ext E3) h4;cases ek
  let uq:a=b:=by injection eb
  subst uq;let oi:=uo (F':=F3) (i4.snoc i3);calc⟨a,ws,u,Y,Y,e4,pX (by rw[↑i4];symm),?_⟩;exact k _ _ h5.2 _ _ _ _ (((E1.trans E2).trans E3).trans (Ext.put S3 m4 e3)) (S3.put m4 e3 oi) Y
 |[],g3,_=>exact g3.elim
 |_::_::_,g3,_=>calc g3.elim⟩
def qv(f:WE)(fa:WA):WE:=fun δ K=>f δ λx δ1=>fy x δ1 λ_ _ _=>fa δ1 λys δ2=>match ys with
 |[.p (.lst es)]=>fy x δ2 λk B ds=>↑ds+↑es<=1000/\K (.p .non) ⟨δ2.sl,δ2.mu.set k (U (B (ds++es)))⟩
 |_=>False
theorem N6{f:WE}{fa:WA}{K0:Ee}:∀σ H Q,tD (qv f fa) σ H Q->vy K0 "list" Ea (tD f) (cf fa) σ H Q:=fun σ H Q ⟨F,ad,δ,K,S,q,k⟩=>⟨F,ad,δ,_,S,q,λx δ1 h1 v F1 aS H1 E1 S1 V1=>by
 let⟨k0,B0,FK,a,vs,rfl,h2,rfl,e1,e2,i1,m1,k6⟩:=nj S1 V1 h1;calc⟨.inl ⟨Y,vs,bP.of e2⟩,F1,aS,δ1,_,S1,h2,λys δ2 h3 us F2 bV H2 E2 S2 V2=>?_⟩;split at h3
 .rename_i es
  let⟨u,r,e,W1,W2⟩:=V2;let W3:r=[]:=W2;let W4:Is F2 (.lst es) u:=W1;erw[Is] at W4;let⟨b,zs,rfl,z1,z2⟩:=W4;subst W3 e;let⟨k1,B,ds,b',ws,ek,h5,eb,e3,e4,i4,m4,uo⟩:=nj (x:=.o k0) S2 (V1.ext E2) h3;cases ek
  let uq:a=b':=by injection eb
  subst uq;let oi:=uo (F':=F2) (rq i4 z2);calc⟨a,b,ws,zs,Y,Y,e4,S2.sub _ _ z1,km (by rw[↑i4,↑z2];calc h5.1),?_⟩;exact k _ _ h5.2 _ _ _ _ ((E1.trans E2).trans (Ext.put S2 m4 e3)) (S2.put m4 e3 oi) Y
 .calc h3.elim⟩
def Am(f:WE)(fa:WA):WE:=fun δ K=>f δ λx δ1=>fy x δ1 λ_ _ _=>fa δ1 λys δ2=>match ys with
 |[.p (.int i)]=>fy x δ2 λk B ds=>(-(2 ^ 63)<=i/\i<2 ^ 63)/\match seqIndex? i ↑ds with
  |some j=>match ds[j]? with
   |some d=>K (.p d) ⟨δ2.sl,δ2.mu.set k (U (B (ds.eraseIdx j)))⟩
   |none=>False
  |none=>False
 |_=>False
theorem N7{f:WE}{fa:WA}{K0:Ee}:∀σ H Q,tD (Am f fa) σ H Q->vy K0 "list" Eb (tD f) (cf fa) σ H Q:=fun σ H Q ⟨F,ad,δ,K,S,q,k⟩=>⟨F,ad,δ,_,S,q,λx δ1 h1 v F1 aS H1 E1 S1 V1=>by
 let⟨k0,B0,FK,a,vs,rfl,h2,rfl,e1,e2,i1,m1,k6⟩:=nj S1 V1 h1;calc⟨.inl ⟨Y,vs,bP.of e2⟩,F1,aS,δ1,_,S1,h2,λys δ2 h3 us F2 bV H2 E2 S2 V2=>?_⟩;split at h3
 .rename_i i
  let⟨u,r,e,W1,W2⟩:=V2;let W3:r=[]:=W2;let W4:u=.int i:=W1;subst W3 W4 e;let⟨k1,B,ds,b',ws,ek,⟨h5,h6⟩,eb,e3,e4,i4,m4,uo⟩:=nj (x:=.o k0) S2 (V1.ext E2) h3;cases ek
  let uq:a=b':=by injection eb
  subst uq;split at h6
  .rename_i j hj
   split at h6
   .rename_i d hd
    let⟨w,g1,g2⟩:=m_ i4 hd;let oi:=uo (F':=F2) (Fj j i4);calc⟨a,ws,i,j,w,Y,Y,e4,h5.1,h5.2,by rw[↑i4];calc hj,g1,?_⟩;exact k _ _ h6 _ _ _ _ ((E1.trans E2).trans (Ext.put S2 m4 e3)) (S2.put m4 e3 oi) g2
   .exact h6.elim
  .exact h6.elim
 .calc h3.elim⟩
def qw(f:WE):WE:=fun δ K=>f δ λx δ1=>fy x δ1 λk B ds=>match ds[↑ds-1]? with
 |some d=>K (.p d) ⟨δ1.sl,δ1.mu.set k (U (B ds.dropLast))⟩
 |none=>False
theorem N8{F:Hp}{ds:-D}{vs:-V}(h:aj F ds vs):aj F ds.dropLast vs.dropLast:=by
 rw[ZI,ZI,↑h];calc zX _ h
theorem N9{f:WE}{K0:Ee}:∀σ H Q,tD (qw f) σ H Q->sY K0 "list" tj (tD f) σ H Q:=fun σ H Q ⟨F,ad,δ,K,S,q,k⟩=>⟨F,ad,δ,_,S,q,λx δ1 h1 v F1 aS H1 E1 S1 V1=>by
 let⟨k0,B,ds,a,vs,rfl,h2,rfl,e1,e2,i1,m1,k6⟩:=nj S1 V1 h1;calc⟨.inl ⟨Y,vs,bP.of e2⟩,?_⟩;split at h2
 .rename_i d hd
  let⟨w,g1,g2⟩:=m_ i1 hd;let oi:=k6 (F':=F1) (N8 i1);calc⟨a,vs,w,Y,Y,e2,by rw[↑i1];calc g1,?_⟩;exact k _ _ h2 _ _ _ _ (E1.trans (Ext.put S1 m1 e1)) (S1.put m1 e1 oi) g2
 .calc h2.elim⟩
def jW(f fo fi:WE):WS:=λK δ=>f δ λx δ1=>fo δ1 λo δ2=>fi δ2 λi δ3=>kj x δ3 λd δ4=>fy o δ4 λk B ds=>match i with
 |.p (.int j)=>match eK ↑ds j with
  |some m=>K.nx ⟨δ4.sl,δ4.mu.set k (U (B (ds.set m d)))⟩
  |none=>False
 |_=>False
theorem qx[jq]{f fo fi:WE}:∀D σ H,dG (jW f fo fi) D σ H->kH (tD f) (sE (tD fo) (tD fi) D4) D σ H:=λD σ H ⟨F,ad,δ,K,S,q,k⟩=>⟨F,ad,δ,_,S,q,λx δ1 h1 v F1 aS H1 E1 S1 V1=>⟨F1,aS,δ1,_,S1,h1,λo δ2 h2 ov F2 bV H2 E2 S2 V2=>⟨F2,bV,δ2,_,S2,h2,λi δ3 h3 iv F3 mU H3 E3 S3 V3=>by
 let⟨d,δ4,F4,h4,E4,S4,i4⟩:=qe S3 ((V1.ext E2).ext E3) h3;let⟨k0,B,ds,a,vs,rfl,h5,rfl,e1,e2,i1,m1,k6⟩:=nj S4 ((V2.ext E3).ext E4) h4;split at h5
 .rename_i j
  split at h5
  .rename_i m hm
   let V3:iv=.int j:=V3;subst V3;let oi:=k6 (F':=F4) (zY m i1 i4);calc⟨a,vs,j,m,Y,Y,e2,by rw[↑i1];calc hm,?_⟩;exact k.nx _ h5 _ _ _ _ ((((E1.trans E2).trans E3).trans E4).trans (Ext.put S4 m1 e1)) (S4.put m1 e1 oi)
  .exact h5.elim
 .calc h5.elim⟩⟩⟩
end
end L2
namespace L2
open PySem PySem.Spec PyProof.Rows PySem.W
abbrev LK:=-Int
def kle(a b:LK):Prop:=HT.lexLt b a=ι
theorem An:∀a:LK,HT.lexLt a a=ι
 |[]=>Y
 |x::r=>by rw[HT.qS,U_ Y];calc An r
theorem wj:∀{a b:LK},HT.lexLt a b=ι->HT.lexLt b a=ι->a=b
 |[],[],_,_=>Y
 |[],_::_,h,_=>by cases h
 |_::_,[],_,h=>by cases h
 |x::r,y::s,h,q=>by
  rw[HT.qS] at h q
  by_cases c:x=y
  .subst c
   rw[U_ Y] at h q;rw[wj h q]
  .rw[U9 c] at h
   rw[U9 (λz=>c z.symm)] at q;simp at h q;symm
theorem Ao:∀{a b c:LK},HT.lexLt a b=θ->HT.lexLt b c=θ->HT.lexLt a c=θ
 |[],[],_,h,_=>by cases h
 |[],_::_,[],_,q=>by cases q
 |[],_::_,_::_,_,_=>Y
 |_::_,[],_,h,_=>by cases h
 |_::_,_::_,[],_,q=>by cases q
 |x::r,y::s,z::t,h,q=>by
  rw[HT.qS] at h q ⊢
  by_cases c1:x=y
  .subst c1
   rw[U_ Y] at h
   by_cases c2:x=z
   .subst c2
    rw[U_ Y] at q ⊢;exact Ao h q
   .rw[U9 c2] at q ⊢;exact q
  .rw[U9 c1] at h
   by_cases c2:y=z
   .subst c2
    rw[U9 c1];exact h
   .rw[U9 c2] at q
    let h1:x<y:=by simpa using h
    let h2:y<z:=by simpa using q
    rw[U9 ⋯];simp;symm
theorem kle_refl(a:LK):kle a a:=An a
theorem wk{a b:LK}(h:HT.lexLt a b=θ):kle a b:=by
 unfold kle
 cases q:HT.lexLt b a with
 |false=>rfl
 |true=>let:=Ao h q;rw[An] at this;cases this
theorem kle_trans{a b c:LK}(h1:kle a b)(h2:kle b c):kle a c:=by
 unfold kle at *
 cases q:HT.lexLt c a with
 |false=>rfl
 |true =>
  cases q2:HT.lexLt a b with
  |true=>let:=Ao q q2;rw[h2] at this;cases this
  |false =>
   let e:=wj q2 h1;subst e;rw[h2] at q;cases q
theorem FL{a b:LK}(h1:kle a b)(h2:kle b a):a=b:=wj h2 h1
section
variable{n:Nat}{k:Nat->LK}{I:B->Prop}{cmp:Nat->Nat->(Bool->B->Prop)->B->Prop}
def oY(n:Nat)(k:Nat->LK)(I:B->Prop)(cmp:Nat->Nat->(Bool->B->Prop)->B->Prop):Prop :=
 ∀(i j:Nat)(C:Bool->B->Prop)(s:B),i<n->j<n->I s->(∀s',I s'->C (HT.lexLt (k i) (k j)) s')->cmp i j C s
noncomputable def KA(k:Nat->LK)(p:Array Nat)(i:Nat):LK:=k (p.getD i 0)
structure d9(n:Nat)(p:Array Nat):Prop where
 perm:p.Perm (Vp n).toArray
theorem d9.size{p:Array Nat}(h:d9 n p):p.size=n:=by let:=h.perm.size_eq;simpa using this
theorem d9.lt{p:Array Nat}(h:d9 n p){i:Nat}(hi:i<n):p.getD i 0<n:=by
 let hs:=h.size;let e:p.getD i 0=p[i]:=by simp[q4w,hs,hi]
 rw[e];let:p[i]∈(Vp n).toArray:=(h.perm.mem_iff).mp (Array.getElem_mem _);simpa using this
theorem ur{p q:Array Nat}{i j:Nat}(h:p[i]?=q[j]?):p.getD i 0=q.getD j 0:=by
 rw[VX,VX,h]
theorem wm{p:Array Nat}{i j:Nat}(hj:j<=p.size)(t:Nat):KA k (kas_rev p i j) t=if i<=t/\t<j then KA k p (i+j-1-t) else KA k p t:=by
 let e:=getElem?_mirror_all (xs:=p) (i:=i) hj t;unfold KA kas_rev
 by_cases c:i<=t/\t<j
 .rw[U_ c] at e ⊢;rw[ur e]
 .rw[U9 c] at e ⊢;rw[ur e]
theorem N_{p:Array Nat}{src d:Nat}(hs:src<p.size)(hd:d<=src)(t:Nat):
  KA k (bubble p src d) t=if t=src-d then KA k p src else if src-d<t/\t<=src then KA k p (t-1) else KA k p t:=by
 let e:=getElem?_bubble hs d hd t;unfold KA
 by_cases c:t=src-d
 .rw[U_ c] at e ⊢;rw[ur e]
 .rw[U9 c] at e ⊢
  by_cases c2:src-d<t/\t<=src
  .rw[U_ c2] at e ⊢;rw[ur e]
  .rw[U9 c2] at e ⊢;rw[ur e]
def Up(k:Nat->LK)(p:Array Nat)(m:Nat):Prop:=∀i j,i<=j->j<m->kle (KA k p i) (KA k p j)
def Dn(k:Nat->LK)(p:Array Nat)(m:Nat):Prop:=∀i j,i<=j->j<m->kle (KA k p j) (KA k p i)
theorem Up.snoc{p:Array Nat}{m:Nat}(h:Up k p m)(hm:1<=m)(q:kle (KA k p (m-1)) (KA k p m)):Up k p (m+1):=λi j jx hj=>by
 by_cases c:j<m
 .exact h i j jx c
 .let e:j=m:=by symm
  subst e
  by_cases c2:i=j
  .subst c2;exact kle_refl _
  .calc kle_trans (h i (j-1) ⋯ ⋯) q
theorem Dn.snoc{p:Array Nat}{m:Nat}(h:Dn k p m)(hm:1<=m)(q:kle (KA k p m) (KA k p (m-1))):Dn k p (m+1):=λi j jx hj=>by
 by_cases c:j<m
 .exact h i j jx c
 .let e:j=m:=by symm
  subst e
  by_cases c2:i=j
  .subst c2;exact kle_refl _
  .calc kle_trans q (h i (j-1) ⋯ ⋯)
theorem Up.one{p:Array Nat}:Up k p 1:=λi j jx hj=>by
 let:i=j:=by symm
 subst this;calc kle_refl _
theorem Dn.one{p:Array Nat}:Dn k p 1:=λi j jx hj=>by
 let:i=j:=by symm
 subst this;calc kle_refl _
theorem d9.rev{p:Array Nat}(h:d9 n p)(i j:Nat):d9 n (kas_rev p i j):=⟨(mirror_perm _ _ _ _).trans h.perm⟩
theorem d9.Oa{p:Array Nat}(h:d9 n p)(i j:Nat):d9 n (bubble p i j):=⟨(bubble_perm _ _ _).trans h.perm⟩
theorem FN(hc:oY n k I cmp){p:Array Nat}(hp:d9 n p):∀(f m:Nat)(s:B)(Q:Nat->B->Prop),1<=m->m+f=n->Up k p m->I s →
  (∀m' s',m<=m'->m'<=n->Up k p m'->I s'->Q m' s')->(kas_asc p f m).kasWp cmp Q s
 |0,m,s,Q,h1,h2,up,hi,fin=>fin m s (yT _) ⋯ up hi
 |f+1,m,s,Q,h1,h2,up,hi,fin=>by
  refine hc _ _ _ s (hp.lt ⋯) (hp.lt ⋯) hi λs' gD=>?_
  cases q:HT.lexLt (k (p.getD m 0)) (k (p.getD (m-1) 0)) with
  |true=>dsimp only;rw[U_ Y];exact fin m s' (yT _) ⋯ up gD
  |false =>
   calc FN hc hp f (m+1) s' Q ⋯ ⋯ (up.snoc h1 q) gD λm' iU a b c d=>fin m' iU ⋯ b c d
def Ap(k:Nat->LK)(p:Array Nat)(m q:Nat):Prop:=∀t,m-(q+1)<=t->t<m->KA k p t=KA k p (m-1)
theorem FO{p:Array Nat}{m q:Nat}(hs:m<=p.size)(hq:q+1<=m)(e:Ap k p m q)(t:Nat):KA k (kas_rev p (m-(q+1)) m) t=KA k p t:=by
 rw[wm hs];split
 .rename_i c
  rw[e _ ⋯ ⋯,e t c.1 c.2]
 .rfl
theorem Dn.congr{p p':Array Nat}{m:Nat}(h:Dn k p m)(e:∀t,KA k p' t=KA k p t):Dn k p' m:=λi j a b=>by rw[e,e];calc h i j a b
theorem wo(hc:oY n k I cmp):∀(f:Nat)(p:Array Nat)(m q:Nat)(s:B)(Q:Array Nat×Nat×Nat->B->Prop),d9 n p->1<=m->m+f=n->q+1<=m->Dn k p m->Ap k p m q->I s →
  (∀p' m' q' s',d9 n p'->m<=m'->m'<=n->q'+1<=m'->Dn k p' m'->Ap k p' m' q'->I s'->Q (p',m',q') s')->(kas_desc f p m q).kasWp cmp Q s
 |0,p,m,q,s,Q,hp,h1,h2,hq,dn,es,hi,fin=>fin p m q s hp (yT _) ⋯ hq dn es hi
 |f+1,p,m,q,s,Q,hp,h1,h2,hq,dn,es,hi,fin=>by
  calc hc _ _ _ s (hp.lt ⋯) (hp.lt ⋯) hi λs' gD=>?_;let sz:=hp.size
  cases c1:HT.lexLt (k (p.getD m 0)) (k (p.getD (m-1) 0)) with
  |true =>
   let st:kle (KA k p m) (KA k p (m-1)):=wk c1
   by_cases FP:q>0
   .rw[U_ FP]
    let e:=FO (k:=k) (p:=p) (m:=m) (q:=q) ⋯ hq es;calc wo hc f _ (m+1) 0 s' Q (hp.rev _ _) ⋯ ⋯ ⋯ ((dn.snoc h1 st).congr e) (λt a b=>?_) gD λp' m' q' iU a b c d e g i=>fin p' m' q' iU a ⋯ c d e g i;let:t=m+1-1:=by symm
    rw[this]
   .rw[U9 FP]
    calc wo hc f p (m+1) 0 s' Q hp ⋯ ⋯ ⋯ (dn.snoc h1 st) (λt a b=>?_) gD λp' m' q' iU a b c d e g i=>fin p' m' q' iU a ⋯ c d e g i;let:t=m+1-1:=by symm
    rw[this]
  |false =>
   refine hc _ _ _ s' (hp.lt ⋯) (hp.lt ⋯) gD λs2 nk=>?_
   cases c2:HT.lexLt (k (p.getD (m-1) 0)) (k (p.getD m 0)) with
   |true=>dsimp only;rw[U_ Y];exact fin p m q s2 hp (yT _) ⋯ hq dn es nk
   |false =>
    let eq:KA k p m=KA k p (m-1):=wj c1 c2;calc wo hc f p (m+1) (q+1) s2 Q hp ⋯ ⋯ ⋯ (dn.snoc h1 (by rw[eq];calc kle_refl _)) (λt a b=>?_) nk λp' m' q' iU a b c d e g i=>fin p' m' q' iU a ⋯ c d e g i;show KA k p t=KA k p m
    by_cases z:t=m
    .rw[z]
    .rw[es t ⋯ ⋯,eq]
theorem Dn.rev{p:Array Nat}{m:Nat}(h:Dn k p m)(hs:m<=p.size):Up k (kas_rev p 0 m) m:=λi j jx hj=>by
 rw[wm hs,wm hs,U_ ⟨VT _,⋯⟩,U_ ⟨VT _,hj⟩];calc h _ _ ⋯ ⋯
theorem FQ(hc:oY n k I cmp){p:Array Nat}(hp:d9 n p){m:Nat}{s:B}{Q:Nat×Array Nat->B->Prop}(h1:1<=m)(hm:m<=n)(dn:Dn k p m)(hi:I s)
  (fin:∀p' m' s',d9 n p'->1<=m'->m'<=n->Up k p' m'->I s'->Q (m',p') s'):(kas_tail3 m n p).kasWp cmp Q s:=by
 unfold kas_tail3;rw[KasT.kasWp_bind];let sz:=hp.size;calc FN hc (hp.rev 0 m) (n-m) m s _ h1 ⋯ (dn.rev ⋯) hi λm' s' a b c d=>?_;calc fin _ m' s' (hp.rev 0 m) ⋯ b c d
theorem FR(hc:oY n k I cmp){p:Array Nat}(hp:d9 n p){m:Nat}{s:B}{Q:Nat×Array Nat->B->Prop}(h1:1<=m)(hm:m+1<=n)(dn:Dn k p (m+1))(hi:I s)
  (fin:∀p' m' s',d9 n p'->1<=m'->m'<=n->Up k p' m'->I s'->Q (m',p') s'):(kas_descPart m n p).kasWp cmp Q s:=by
 unfold kas_descPart;rw[KasT.kasWp_bind];refine wo hc (n-(m+1)) p (m+1) 0 s _ hp ⋯ ⋯ ⋯ dn (λt a b=>?_) hi λp' m' q' s' a b c d e g i=>?_
 .let:t=m+1-1:=by symm
  rw[this]
 .let sz:=a.size
  dsimp only
  by_cases hq:q'>0
  .rw[U_ hq]
   exact FQ hc (a.rev _ _) ⋯ c (e.congr (FO ⋯ d g)) i fin
  .rw[U9 hq]
   calc FQ hc a ⋯ c e i fin
theorem Ob(hc:oY n k I cmp){p:Array Nat}(hp:d9 n p){s:B}{Q:Nat×Array Nat->B->Prop}(h1:1<=n)(hi:I s)
  (fin:∀p' m' s',d9 n p'->1<=m'->m'<=n->Up k p' m'->I s'->Q (m',p') s'):(kas_count n p).kasWp cmp Q s:=by
 unfold kas_count;rw[KasT.kasWp_bind];let sz:=hp.size
 let key:∀(f m:Nat)(s:B)(Q':Nat->B->Prop),1<=m->m+f=n->Up k p m->I s →
   (∀m' s',m<=m'->m'<=n->Up k p m'->(m'<n->HT.lexLt (KA k p m') (KA k p (m'-1))=θ)->I s'->Q' m' s')->(kas_asc p f m).kasWp cmp Q' s:=by
  ext f
  induction f with
  |zero=>ext m s Q' a b up hi fin;exact fin m s (yT _) ⋯ up (λz=>absurd z ⋯) hi
  |succ f ih =>
   ext m s Q' a b up hi fin;refine hc _ _ _ s (hp.lt ⋯) (hp.lt ⋯) hi λs' gD=>?_
   cases q:HT.lexLt (k (p.getD m 0)) (k (p.getD (m-1) 0)) with
   |true=>dsimp only;rw[U_ Y];exact fin m s' (yT _) ⋯ up (λ_=>q) gD
   |false =>
    exact ih (m+1) s' Q' ⋯ ⋯ (up.snoc a q) gD λm' iU a b c d e=>fin m' iU ⋯ b c d e
 refine key (n-1) 1 s _ (yT _) ⋯ Up.one hi λm s' a b up nx gD=>?_
 by_cases c1:m=n
 .subst c1
  rw[U_ (by simp)];exact fin p m s' hp a (yT _) up gD
 .rw[U9 c1⁻¹]
  let fG:m<n:=by symm
  let nx:=nx fG
  by_cases c2:m>1
  .rw[U_ c2]
   refine hc _ _ _ s' (hp.lt ⋯) (hp.lt ⋯) gD λs2 nk=>?_
   cases q:HT.lexLt (k (p.getD 0 0)) (k (p.getD (m-1) 0)) with
   |true=>dsimp only;exact fin p m s2 hp a b up nk
   |false =>
    let al:∀t,t<m->KA k p t=KA k p (m-1):=λt ht=>by
     refine FL (up t (m-1) ⋯ ⋯) (kle_trans q (up 0 t (VT _) ht))
    let e:∀t,KA k (kas_rev p 0 m) t=KA k p t:=λt=>by
     rw[wm ⋯];split
     .rename_i c;rw[al _ ⋯,al t c.2]
     .rfl
    calc FR hc (hp.rev 0 m) ⋯ ⋯ (Dn.congr (p:=p) ?_ e) nk fin;calc Dn.snoc (λi j jx hj=>?_) ⋯ (wk nx);rw[al i ⋯,al j hj];exact kle_refl _
  .rw[U9 c2]
   let:m=1:=by symm
   subst this;calc FR hc hp ⋯ ⋯ (Dn.one.snoc (yT _) (wk nx)) gD fin
theorem Aq(hc:oY n k I cmp){p:Array Nat}(hp:d9 n p){t:Nat}(ht:t<n)(up:Up k p t):∀(f l r:Nat)(s:B)(Q:Nat->B->Prop),l<=r->r<=t->r-l<=f →
  (∀i,i<l->kle (KA k p i) (KA k p t))->(∀i,r<=i->i<t->kle (KA k p t) (KA k p i))->I s →
  (∀l' s',l'<=t->(∀i,i<l'->kle (KA k p i) (KA k p t))->(∀i,l'<=i->i<t->kle (KA k p t) (KA k p i))->I s'->Q l' s')->(kas_place p t f l r).kasWp cmp Q s
 |0,l,r,s,Q,h1,h2,h3,lo,rD,hi,fin=>by
  let:l=r:=by symm
  subst this;exact fin l s h2 lo rD hi
 |f+1,l,r,s,Q,h1,h2,h3,lo,rD,hi,fin=>by
  unfold kas_place
  by_cases c:l ≥ r
  .rw[U_ c]
   let:l=r:=by symm
   subst this;exact fin l s h2 lo rD hi
  .rw[U9 c]
   refine hc _ _ _ s (hp.lt ht) (hp.lt ⋯) hi λs' gD=>?_
   cases q:HT.lexLt (k (p.getD t 0)) (k (p.getD ((l+r) / 2) 0)) with
   |true =>
    calc Aq hc hp ht up f l ((l+r) / 2) s' Q ⋯ ⋯ ⋯ lo (λi a b=>?_) gD fin;exact kle_trans (wk q) (up _ _ a b)
   |false =>
    calc Aq hc hp ht up f ((l+r) / 2+1) r s' Q ⋯ h2 ⋯ (λi a=>?_) rD gD fin;calc kle_trans (up i ((l+r) / 2) ⋯ ⋯) q
theorem FT(hc:oY n k I cmp):∀(f:Nat)(p:Array Nat)(t:Nat)(s:B)(Q:Array Nat->B->Prop),d9 n p->t+f=n->Up k p t->I s →
  (∀p' s',d9 n p'->Up k p' n->I s'->Q p' s')->(kas_bin f p t).kasWp cmp Q s
 |0,p,t,s,Q,hp,h2,up,hi,fin=>by
  let:t=n:=by symm
  subst this;exact fin p s hp up hi
 |f+1,p,t,s,Q,hp,h2,up,hi,fin=>by
  unfold kas_bin;rw[KasT.kasWp_bind];let sz:=hp.size;calc Aq hc hp ⋯ up t 0 t s _ (VT _) (yT _) ⋯ (λi a=>absurd a ⋯) (λi a b=>absurd b ⋯) hi λl s' hl lo rD gD=>?_;calc FT hc f _ (t+1) s' Q (hp.Oa _ _) ⋯ (λi j jx hj=>?_) gD fin;let kb:=λx=>N_ (k:=k) (p:=p) (src:=t) (d:=t-l) ⋯ ⋯ x;let el:t-(t-l)=l:=by symm
  rw[kb i,kb j,el]
  by_cases c1:i=l
  .subst c1
   rw[U_ Y]
   by_cases c2:j=i
   .rw[U_ c2];exact kle_refl _
   .rw[U9 c2,U_ ⟨⋯,⋯⟩]
    exact rD (j-1) ⋯ ⋯
  .rw[U9 c1]
   by_cases c2:j=l
   .subst c2
    rw[U_ Y,U9 ⋯];exact lo i ⋯
   .rw[U9 c2]
    by_cases c3:l<i/\i<=t
    .rw[U_ c3,U_ ⟨⋯,⋯⟩]
     exact up _ _ ⋯ ⋯
    .rw[U9 c3]
     by_cases c4:l<j/\j<=t
     .rw[U_ c4];exact up _ _ ⋯ ⋯
     .rw[U9 c4];calc up _ _ jx ⋯
theorem Oc(hc:oY n k I cmp){s:B}{Q:Array Nat->B->Prop}(h1:1<=n)(hi:I s)(fin:∀p s',d9 n p->Up k p n->I s'->Q p s'):(kas_sort n).kasWp cmp Q s:=by
 unfold kas_sort;rw[KasT.kasWp_bind];refine Ob hc ⟨q1n _⟩ h1 hi λp m s' a b c d e=>?_
 by_cases q:m<n
 .rw[U_ q]
  let:max m 1=m:=by symm
  rw[this];exact FT hc (n-m) p m s' Q a ⋯ d e fin
 .rw[U9 q]
  let:m=n:=by symm
  subst this;calc fin p s' a d e
end
end L2
namespace L2
open PySem PySem.Spec PyProof.Rows
theorem FU{δ0:aG}{bL:aG->Prop}{g:WG}{b:WS}{K:KS}(I:Nat->aG->Prop):∀(items:-D)(i:Nat)(δ:aG),I i δ →
  (∀j d δ (L:aG->Prop),items[j]?=U d->I (i+j) δ->(∀δ',I (i+j+1) δ'->L δ')->bL δ/\g (.p d) δ fun δ1=>b {nx:=fun δ2=>L (δ0.trim δ2),ct:=fun δ2=>L (δ0.trim δ2),bk:=K.nx,rt:=K.rt} δ1) →
  (∀δ,I (i+↑items) δ->bL δ/\K.nx δ)->kW δ0 bL g b K items δ
 |[],i,δ,h,_,fin=>fin δ h
 |d::r,i,δ,h,st,fin=>by
  unfold kW;calc st 0 d δ (fun δ'=>kW δ0 bL g b K r δ') Y h fun δ' hi=>?_;refine FU I r (i+1) _ hi (λj e δ L hj hI hL=>?_) fun δ hI=>?_
  .let e:i+1+j=i+(j+1):=by symm
   rw[e] at hI hL;exact st (j+1) _ δ L hj⁻¹ hI hL
  .exact fin δ (by rw[Eg];let e:i+1+↑r=i+(↑r+1):=by symm
                   rw[e] at hI;calc hI)
theorem qy{δ0:aG}{bL:aG->Prop}{g:WG}{b:WS}{K:KS}{items:-D}{δ:aG}(I:Nat->aG->Prop)(h0:I 0 δ)
  (st:∀j d δ (L:aG->Prop),items[j]?=U d->I j δ->(∀δ',I (j+1) δ'->L δ')->bL δ/\g (.p d) δ fun δ1=>b {nx:=fun δ2=>L (δ0.trim δ2),ct:=fun δ2=>L (δ0.trim δ2),bk:=K.nx,rt:=K.rt} δ1)
  (fin:∀δ,I ↑items δ->bL δ/\K.nx δ):kW δ0 bL g b K items δ :=
 FU I items 0 δ h0 (λj d δ L hj hI hL=>by rw[VJ] at hI hL;calc st j d δ L hj hI hL) fun δ hI=>by rw[VJ] at hI;calc fin δ hI
def uu(δ0:aG)(bL:aG->Prop)(g:WG)(t:WT)(f:WE)(d:D)(acc:-D)(δ:aG)(L:-D->aG->Prop):Prop :=
 bL δ/\g (.p d) δ fun δ1=>t δ1 λb δ2=>if b=θ then f δ2 λx δ3=>kj x δ3 λe δ4=>↑acc<1000/\L (acc++[e]) (δ0.trim δ4) else L acc (δ0.trim δ2)
theorem FW{δ0:aG}{bL:aG->Prop}{g:WG}{t:WT}{f:WE}{K:-D->aG->Prop}(I:Nat->-D->aG->Prop):∀(items:-D)(i:Nat)(acc:-D)(δ:aG),I i acc δ →
  (∀j d acc δ (L:-D->aG->Prop),items[j]?=U d->I (i+j) acc δ->(∀cG δ',I (i+j+1) cG δ'->L cG δ')->uu δ0 bL g t f d acc δ L) →
  (∀acc δ,I (i+↑items) acc δ->bL δ/\K acc δ)->ju δ0 bL g t f K items acc δ
 |[],i,acc,δ,h,_,fin=>fin acc δ h
 |d::r,i,acc,δ,h,st,fin=>by
  unfold ju;calc st 0 d acc δ (λcG δ'=>ju δ0 bL g t f K r cG δ') Y h λcG δ' hi=>?_;refine FW I r (i+1) cG _ hi (λj e acc δ L hj hI hL=>?_) λacc δ hI=>?_
  .let e:i+1+j=i+(j+1):=by symm
   rw[e] at hI hL;exact st (j+1) _ acc δ L hj⁻¹ hI hL
  .exact fin acc δ (by rw[Eg];let e:i+1+↑r=i+(↑r+1):=by symm
                       rw[e] at hI;calc hI)
theorem wq{δ0:aG}{bL:aG->Prop}{g:WG}{t:WT}{f:WE}{K:-D->aG->Prop}{items:-D}{δ:aG}(I:Nat->-D->aG->Prop)(h0:I 0 [] δ)
  (st:∀j d acc δ (L:-D->aG->Prop),items[j]?=U d->I j acc δ->(∀cG δ',I (j+1) cG δ'->L cG δ')->uu δ0 bL g t f d acc δ L)
  (fin:∀acc δ,I ↑items acc δ->bL δ/\K acc δ):ju δ0 bL g t f K items [] δ :=
 FW I items 0 [] δ h0 (λj d acc δ L hj hI hL=>by rw[VJ] at hI hL;calc st j d acc δ L hj hI hL) λacc δ hI=>by rw[VJ] at hI;calc fin acc δ hI
theorem rE{δ0:aG}{bL:aG->Prop}{g:WG}{t:WT}{f:WE}{K:-D->aG->Prop}{items:-D}(p:D->Bool)(fn:D->D)(hl:↑items<=1000)(hc:bL δ0)
  (st:∀d∈items,∀acc (L:-D->aG->Prop),↑acc<1000->(p d=θ->L (acc++[fn d]) δ0)->(p d=ι->L acc δ0)->uu δ0 bL g t f d acc δ0 L)
  (fin:K ((items.filter p).map fn) δ0):ju δ0 bL g t f K items [] δ0:=by
 refine wq (λi acc δ=>δ=δ0/\acc=((items.take i).filter p).map fn) ⟨Y,Y⟩ ?_ ?_
 .ext j d acc δ L hj ⟨rfl,rfl⟩ hL
  let fG:=(qW.mp hj).1;let hm:d∈items:=Vw hj
  let hn:↑(((items.take j).filter p).map fn)<1000:=by
   rw[pV];let:=List.length_filter_le p (items.take j);rw[Vn] at this;symm
  let e:items.take (j+1)=items.take j++[d]:=by rw[Yl,hj];rfl
  refine st d hm _ L hn (λq=>hL _ _ ⟨Y,?_⟩) (λq=>hL _ _ ⟨Y,?_⟩)
  .rw[e,q0p,Vq];simp[q3F,q]
  .rw[e,q0p,Vq];simp[q3F,q]
 .ext acc δ ⟨rfl,rfl⟩
  rw[VO (yT _)];calc⟨hc,fin⟩
theorem k9{δ0:aG}{bL:aG->Prop}{g:WG}{t:WT}{f:WE}{K:-D->aG->Prop}{items:-D}(fn:D->D)(hl:↑items<=1000)(hc:bL δ0)
  (st:∀d∈items,∀acc (L:-D->aG->Prop),↑acc<1000->L (acc++[fn d]) δ0->uu δ0 bL g t f d acc δ0 L)
  (fin:K (items.map fn) δ0):ju δ0 bL g t f K items [] δ0 :=
 rE (λ_=>θ) fn hl hc (λd hd acc L ha h _=>st d hd acc L ha (h Y)) (by rw[List.filter_eq_self.mpr λ_ _=>Y];calc fin)
end L2
namespace LJ
open PySem L2
theorem FX:bootBuiltins "range" = U (.type "range"):=by decide +kernel
theorem Od:bootBuiltins "sum" = U (.builtin "sum"):=by decide +kernel
theorem Oe:bootBuiltins "max" = U (.builtin "max"):=by decide +kernel
theorem Of:bootBuiltins "min" = U (.builtin "min"):=by decide +kernel
theorem wt:bootBuiltins "sorted" = U (.builtin "sorted"):=by decide +kernel
structure BT(mg:J->Option L):Prop where
 len:mg "len" = Z
 range:mg "range" = Z
 list:mg "list" = Z
 tuple:mg "tuple" = Z
 set:mg "set" = Z
 sorted:mg "sorted" = Z
 min:mg "min" = Z
 max:mg "max" = Z
 sum:mg "sum" = Z
 all:mg "all" = Z
 any:mg "any" = Z
 enumerate:mg "enumerate" = Z
 zip:mg "zip" = Z
 isinstance:mg "isinstance" = Z
 int:mg "int" = Z
 bool:mg "bool" = Z
 str:mg "str" = Z
 repr:mg "repr" = Z
end LJ
namespace L2
open PySem PySem.Spec PyProof.Rows
variable[aV]
def wu(X:Cx)(f:L)(g:-D->(-D->Prop)->Prop):Prop :=
 hU X f λxs H Q=>∃F ds K,aN F H/\iX F H ds xs/\g ds K/\∀zs vs a,K zs->H a=Z->aj F zs vs->Q (.ref a) (upd H a (.lst vs))
def rF(fa:WA)(op:-D->(-D->Prop)->Prop):WE:=fun δ K=>fa δ λxs δ1=>kU xs δ1 λds=>op ds λzs=>K (.o ↑δ1.mu) ⟨δ1.sl,δ1.mu++[U (.lst zs)]⟩
def wx:-D->(-D->Prop)->Prop
 |[.lst ds],K=>K ds
 |[.tup ds],K=>K ds
 |_,_=>False
def wy:-D->(-D->Prop)->Prop
 |[.lst ds],K=>match intsOf ds with
  |some ns=>↑ns<64/\K ((sortI ns).map D.int)
  |none=>False
 |_,_=>False
section
variable{X:Cx}{fa:WA}{pos:y}
theorem Ar{F H:Hp}{ad:-O}{δ:aG}{σ:St}{p:O}(S:SR F ad δ σ H):dB F (ad++[p]) (.o ↑δ.mu) (.ref p) :=
 ⟨p,by rw[<-S.cD,Mf (yT _),VB];rfl,Y⟩
theorem FY{r:-V->Hp->VK->Prop}{op:-D->(-D->Prop)->Prop}(hr:∀xs H Q,(∃F ds K,aN F H/\iX F H ds xs/\op ds K/\∀zs vs a,K zs->H a=Z->aj F zs vs->Q (.ref a) (upd H a (.lst vs)))->r xs H Q):∀σ H Q,tD (rF fa op) σ H Q->vt r (cf fa) σ H Q:=by
 ext σ H Q ⟨F,ad,δ,K,S,q,k⟩;calc⟨F,ad,δ,_,S,q,λxs δ1 h1 vs F1 aS H1 E1 S1 V1=>hr _ _ _ ?_⟩;let⟨ds,h2,qa⟩:=vR S1 V1 h1;calc⟨F1,ds,_,S1.sub,qa,h2,λzs us a hz hp is=>?_⟩;let oi:∀{jn},eN F1 jn (.lst zs) (.lst us):=λ{jn}=>⟨us,Y,is⟩;calc k _ _ hz _ _ _ _ (E1.trans (Ext.own S1 hp)) (S1.own hp oi) (Ar S1)
theorem Og{x:J}{p:y}{e:M}{es:-M}{id:String}{o:-D->(-D->Prop)->Prop}(hc:wu X (.builtin id) o)(hg:Gl X x)(hm:X.mg x=Z)(hv:bootBuiltins x=U (.builtin id))(ha:JA X (e::es) (cf fa))(hn:x≠"__name__" := by decide)(dX:b8 x:=by decide)
  (he:cF X e es:=by rfl) (dg:cR X pos es:=by rfl):JE X (.Call (.Name x p) (e::es) [] pos) (tD (rF fa o)) :=
 (vv hc hg hm hv ha hn dX he dg).weak (FY λ_ _ _ h=>h)
theorem Oh{x:J}{p:y}{e:M}{es:-M}{T:String}{o:-D->(-D->Prop)->Prop}(hc:wu X (.type T) o)(hg:Gl X x)(hm:X.mg x=Z)(hv:bootBuiltins x=U (.type T))(ha:JA X (e::es) (cf fa))(hn:x≠"__name__" := by decide)(dX:b8 x:=by decide)
  (he:cF X e es:=by rfl) (dg:cR X pos es:=by rfl):JE X (.Call (.Name x p) (e::es) [] pos) (tD (rF fa o)) :=
 (pM hc hg hm hv ha hn dX he dg).weak (FY λ_ _ _ h=>h)
theorem Oi:wu X (.type "list") wx:=by
 ext pins s σ H xs us Q I r ⟨F,ds,K,sub,rd,q,md⟩;unfold wx at q;split at q
 .let⟨v,rfl,a,vs,rfl,h1,h2⟩:=dP rd
  exact yJ pins s σ H _ us Q I r ⟨a,vs,Y,.inl (bP.of h1),λl hl=>md _ _ _ q hl h2⟩
 .rename_i es
  let⟨v,rfl,h⟩:=dP rd;let h:Is F (.tup es) v:=h;erw[Is] at h;let⟨a,vs,rfl,h1,h2⟩:=h;exact yJ pins s σ H _ us Q I r ⟨a,vs,Y,.inr (b9.of (sub _ _ h1)),λl hl=>md _ _ _ q hl h2⟩
 .calc q.elim
theorem Ol:wu X (.builtin "sorted") wy:=by
 ext pins s σ H xs us Q I r ⟨F,ds,K,sub,rd,q,md⟩;unfold wy at q;split at q
 .rename_i es
  split at q
  .rename_i ns e
   let⟨v,rfl,a,vs,rfl,h1,h2⟩:=dP rd;rw[rm e] at h2;rw[qq h2] at h1;calc EM pins s σ H _ us Q I r ⟨a,ns,Y,bP.of h1,q.1,λl bU pm pw hl=>?_⟩;rw[FD pm pw];exact md _ _ _ q.2 hl rp
  .exact q.elim
 .calc q.elim
def As(f g:WE):WE:=fun δ K=>f δ λx δ1=>g δ1 λy δ2=>hZ x δ2 λd=>hZ y δ2 λe=>match d,e with
 |.lst a,.lst b=>↑a+↑b<=1000/\K (.o ↑δ2.mu) ⟨δ2.sl,δ2.mu++[U (.lst (a++b))]⟩
 |_,_=>False
theorem Om{a b:M}{f g:WE}(ha:JE X a (tD f))(hb:JE X b (tD g)):JE X (.BinOp a .Add b pos) (tD (As f g)) :=
 (sJ Ec ha hb).weak fun σ H Q ⟨F,ad,δ,K,S,q,k⟩↦⟨F,ad,δ,_,S,q,λx δ1 h1 v1 F1 aS H1 E1 S1 V1=>⟨F1,aS,δ1,_,S1,h1,λy δ2 h2 v2 F2 bV H2 E2 S2 V2=>by
  let⟨d,h3,rd⟩:=jM S2 (V1.ext E2) h2;let⟨e,h4,re⟩:=jM S2 V2 h3;split at h4
  .rename_i as bs
   let⟨a,us,rfl,g1,g2⟩:=rd;let⟨b,ws,rfl,g3,g4⟩:=re;let oi:∀{jn},eN F2 jn (.lst (as++bs)) (.lst (us++ws)):=λ{jn}=>⟨_,Y,rq g2 g4⟩;exact⟨a,b,us,ws,Y,Y,g1,g3,km (by rw[↑g2,↑g4];calc h4.1),λp hp=>k _ _ h4.2 _ _ _ _ ((E1.trans E2).trans (Ext.own S2 hp)) (S2.own hp oi) (Ar S2)⟩
  .calc h4.elim⟩⟩
theorem rG[jq]{st:R}:JS X st (dG lT):=⟨λpins s D σ H I q=>by let⟨F,ad,δ,K,S,q,k⟩:=q;calc q.elim⟩
end
end L2
namespace LJS
open PySem PySem.SetTable PyProof.Rows
section
variable{prog:l}{w:g}{A:q}{S:O}{ks:-Int}
end
end LJS
namespace L2
open PySem PySem.Spec PyProof.Rows
section
variable{X:Cx}
end
end L2
namespace LJS
open PySem PySem.SetTable PyProof.Rows
section
variable{t:SetTable}{f:Nat->Int}{h:Int}
end
section
variable{hk:Nat->Int}{ad:Nat->O}{t:SetTable}{es:Array (Int×L)}{js:-Nat}
end
section
variable{prog:l}{w:g}{A:q}{E:bw}{s:B}{ad:Nat->O}{ks:Nat->-Int}{js:-Nat}{S:O}
end
section
variable{prog:l}{w:g}{A:q}{R:Result->B->Prop}{I S:O}{fp wr:-O}{G:Array GenState->Array GenState->Prop}{n:Nat}{P:Nat->L->Prop}{St:Nat->B->Prop}
end
section
variable{prog:l}{w:g}{A:q}{E:bw}{s:B}
end
end LJS
namespace L2
open PySem PySem.Spec PyProof.Rows
variable[aV]
section
variable{X:Cx}{fa:WA}
theorem FZ{F:Hp}:∀{ps:-(Int×Int)}{vs:-V},aj F (ps.map λp=>D.tup [.int p.1,.int p.2]) vs->∃as:-O,vs=as.map V.ref/\↑as=↑ps/\∀(i:Nat)(a:O)(k:Int×Int),as[i]?=U a->ps[i]?=U k->F a=U (.tup [.int k.1,.int k.2])
 |[],vs,h=>by
  let h:vs=[]:=by simpa only [Xc,aj] using h
  subst h;exact⟨[],Y,Y,λi a k e=>by simp at e⟩
 |p::r,vs,h=>by
  rw[Ve] at h;erw[aj] at h;let⟨v,r',rfl,h1,h2⟩:=h;let⟨as,rfl,hl,g⟩:=FZ h2;erw[Is] at h1;let⟨a,us,rfl,e1,e2⟩:=h1;erw[aj,Is] at e2;let⟨_,_,rfl,rfl,_,_,rfl,rfl,rfl⟩:=e2;refine⟨a::as,Y,by rw[Eg,Eg,hl],λi b k eb ek=>?_⟩
  cases i with
  |zero =>
   cases(show U a=U b by simpa using eb)
   cases(show U p=U k by simpa using ek)
   exact e1
  |succ i=>calc g i b k eb⁻¹ ek⁻¹
end
end L2
namespace HT
open PySem PySem.Spec PyProof.Rows
section
variable{prog:l}{w:g}{A:q}{E:bw}{s:B}
theorem Oo{t b:O}{ws:-L}{Q:bw}(ht:IsTup s.heap t #[])(hb:IsTup s.heap b ws.toArray)(h:Q (.ref b) s):G (S prog w) A (binaryOp .Add (.ref t) (.ref b)) Q E s:=by
 let⟨⟨cls,dd,data,sl⟩,ho,hc,n,hd⟩:=id ht;let⟨⟨sR,oG,data2,oH⟩,iF,kh,n2,hd2⟩:=id hb;simp only at hc hd kh hd2;subst hc hd kh hd2
 exact q0C ⟨_,ho,Y⟩ ⟨_,iF,Y⟩ Zc Z5 Yf X9 (XU _ _)
  (tuple_addW0 t b #[] ws.toArray n n2 dd oG sl oH Y) ⟨ho,iF,h⟩
theorem Oq{t sl:O}{items:Array L}{vl vu:L}{lo hi:Option Int}{Q:bw}(ht:IsTup s.heap t items)(hs:s.heap.IsSliceOf sl vl vu .none)(pl:IsPart vl lo)(pu:IsPart vu hi)
  (hw:bI items.size 0 lo=0/\bI items.size items.size hi=items.size) (h:Q (.ref t) s):G (S prog w) A (getItem (.ref t) (.ref sl)) Q E s:=by
 let⟨os,pN,qU,sT⟩:=id hs;let yA:s.TypeIs (.ref sl) "slice" := ⟨os,pN,qU⟩;unfold getItem
 try with_reducible refine VH ?_
 first|refine s_ (Md ?_)|skip
 refine s_ (q0D ht.typeIs (by decide) ?_)
 refine s_ (Wm (name:=Xb "__getitem__") ht.typeIs VD
  (Xr VD ht.typeIs ZW ?_ (q0j _ _)))
 show G _ _ (YS (.ref t) >>= _) _ _ s;calc s_ (tupleItemsOf_ ht ?_);calc s_ (q0E yA ?_);rw[U_ (by decide)];calc s_ (DZ hs pl pu ?_);show G _ _ (if(((bI items.size 0 lo:Nat):Int)==0&&(1:Int)==1&&(bI items.size items.size hi-bI items.size 0 lo)==items.size)=θ then _ else _) _ _ s;rw[U_ (by rw[hw.1,hw.2];simp)];unfold Builtin.Tuple.tupleIsExact;calc s_ (s_ (q0E ht.typeIs (Md ?_)));rw[U_ (by decide)];calc s_ (Zs ?_);calc Md ⟨_,Y,Md h⟩
end
end HT
namespace L2
open PySem PySem.Spec PyProof.Rows
variable[aV]
section
variable{X:Cx}{e:M}{te:TE}{pos p2 p3 p4:y}
def Ot(K:Ee):V->Option Int->Option Int->Hp->VK->Prop:=λx lo hi H Q=>∃a xs,x=.ref a/\b9 K H a xs ∧
 (HT.bI ↑xs 0 lo=0/\HT.bI ↑xs ↑xs hi=↑xs->Q (.ref a) H)/\(¬ (HT.bI ↑xs 0 lo=0/\HT.bI ↑xs ↑xs hi=↑xs)->∀p,H p=Z->Q (.ref p) (upd H p (.tup (dz xs lo hi))))
theorem Ou:oJ X (Ot X.K):=by
 ext pins s σ H x v vl vu lo hi sl Q I rx hs pl pu h;let⟨a,xs,rfl,hx,q1,q2⟩:=h
 by_cases hw:HT.bI ↑xs 0 lo=0/\HT.bI ↑xs ↑xs hi=↑xs
 .cases rx
  let⟨au,r,ht,hz⟩:=I.tuple hx;let hlen:au.toArray.size=↑xs:=by rw[Ef];exact r.length.symm
  calc⟨"tuple",_,VD.lookup,ht.typeIs,?_⟩;exact HT.Oq ht hs pl pu (by rw[hlen];calc hw) ⟨.ref a,H,I,Y,q1 hw⟩
 .calc LR pins s σ H _ v vl vu lo hi sl Q I rx hs pl pu ⟨a,xs,Y,hx,hw,q2 hw⟩
theorem Ov:d8 X (binaryOp .Add) (λx y H Q=>∃a b ys,x=.ref a/\y=.ref b/\b9 X.K H a []/\b9 X.K H b ys/\Q (.ref b) H):=by
 ext pins s σ H x y v u Q I rx ry h;let⟨a,b,ys,rfl,rfl,ha,hb,q⟩:=h;cases rx
 cases ry
 let⟨au,r1,p1,_⟩:=I.tuple ha;let⟨bH,r2,p2,_⟩:=I.tuple hb;let:au=[]:=r1.fI.mpr Y;subst this;calc HT.Oo p1 p2 ⟨.ref b,H,I,Y,q⟩
theorem Ox:d8 X (compareOp .Is) (λx y H Q=>∃a b,x=.bl a/\y=.bl b/\Q (.bl (a==b)) H):=by
 ext pins s σ H x y v u Q I rx ry h;let⟨a,b,rfl,rfl,q⟩:=h;cases rx
 cases ry
 calc Md ⟨.bl (a==b),H,I,by cases a<;>cases b<;>rfl,q⟩
theorem Oy:d8 X (compareOp .IsNot) (λx y H Q=>∃a b,x=.bl a/\y=.bl b/\Q (.bl (!(a==b))) H):=by
 ext pins s σ H x y v u Q I rx ry h;let⟨a,b,rfl,rfl,q⟩:=h;cases rx
 cases ry
 calc Md ⟨.bl (!(a==b)),H,I,by cases a<;>cases b<;>rfl,q⟩
def cQ:D->D->(D->Prop)->Prop
 |.int i,.int j,K=>K (.int (i+j))
 |.lst a,.lst b,K=>↑a+↑b<=1000/\K (.lst (a++b))
 |.tup a,.tup b,K=>↑a+↑b<=1000/\K (.tup (a++b))
 |.str a,.str b,K=>↑a+↑b<=1000/\K (.str (a++b))
 |_,_,_=>False
theorem rH:fg X (binaryOp .Add) cQ:=by
 ext pins s σ H x y v u Q I rx ry ⟨F,d,e,K,sub,rd,re,q,md⟩;unfold cQ at q;split at q
 .exact wa pins s σ H x y v u Q I rx ry ⟨F,_,_,K,sub,rd,re,q,md⟩
 .exact wa pins s σ H x y v u Q I rx ry ⟨F,_,_,K,sub,rd,re,q,md⟩
 .rename_i as bs
  by_cases c:as=[]
  .subst c
   let dP:Is F (.tup []) x:=rd;let ip:Is F (.tup bs) y:=re;let Oz:=ip;erw[Is] at dP ip;let⟨a,us,rfl,h1,h2⟩:=dP;let⟨b,ws,rfl,h3,h4⟩:=ip;let:us=[]:=by simpa only [aj] using h2
   subst this;exact Ov pins s σ H _ _ v u Q I rx ry ⟨a,b,ws,Y,Y,b9.of (sub _ _ h1),b9.of (sub _ _ h3),md _ _ _ q.2 (λ_ _ e=>e) (uf sub Oz)⟩
  .exact wa pins s σ H x y v u Q I rx ry ⟨F,_,_,K,sub,rd,re,⟨⟨c,q.1⟩,q.2⟩,md⟩
 .exact wa pins s σ H x y v u Q I rx ry ⟨F,_,_,K,sub,rd,re,q,md⟩
 .calc q.elim
def qz:D->Option Int->Option Int->(D->Prop)->Prop
 |.lst ds,lo,hi,K=>K (.lst (cutD ds lo hi))
 |.tup ds,lo,hi,K=>K (.tup (cutD ds lo hi))
 |_,_,_,_=>False
def gx(f:WE)(l h:WO):WE:=fun δ K=>f δ λx δ1=>l δ1 λlo δ2=>h δ2 λhi δ3=>hZ x δ3 λd=>qz d lo hi λz=>K (.p z) δ3
theorem OA{ds:-D}{lo hi:Option Int}(h:HT.bI ↑ds 0 lo=0/\HT.bI ↑ds ↑ds hi=↑ds):cutD ds lo hi=ds:=by
 unfold cutD;rw[h.1,h.2,YV,q0O,VO (yT _)]
theorem F0{e:M}{f:WE}{lo hi:Option M}{l h:WO}{pos p2:y}(he:JE X e (tD f))(hl:PO X lo (wd l))(hh:PO X hi (wd h)):JE X (.Subscript e (.Slice lo hi Z p2) pos) (tD (gx f l h)) :=
 (yB (gN.or Ou) he hl hh).weak fun σ H Q ⟨F,ad,δ,K,S,q,k⟩=>⟨F,ad,δ,_,S,q,λx δ1 h1 v F1 aS H1 E1 S1 V1=>⟨F1,aS,δ1,_,S1,h1,λlo δ2 h2 F2 bV H2 E2 S2=>⟨F2,bV,δ2,_,S2,h2,λhi δ3 h3 F3 mU H3 E3 S3=>by
  let⟨d,h4,rd⟩:=jM S3 ((V1.ext E2).ext E3) h3;let Au:=(E1.trans E2).trans E3;unfold qz at h4;split at h4
  .rename_i ds
   let⟨a,vs,rfl,g1,g2⟩:=rd;calc .inl ⟨a,vs,Y,bP.of g1,λp hp=>?_⟩;exact k _ _ h4 _ _ _ _ (Au.trans (Ext.al S3 (dh hp))) (S3.al (dh hp)) (ue S3.sub hp (Fw g2 _ _))
  .rename_i ds
   let dP:Is F3 (.tup ds) v:=rd;let OB:=dP;erw[Is] at dP;let⟨a,vs,rfl,g1,g2⟩:=dP;refine .inr ⟨a,vs,Y,b9.of (S3.sub _ _ g1),λhw=>?_,λ_ p hp=>?_⟩
   .rw[↑g2] at hw
    rw[OA hw] at h4;exact k _ _ h4 _ _ _ _ Au S3 OB
   .exact k _ _ h4 _ _ _ _ (Au.trans (Ext.al S3 (dh hp))) (S3.al (dh hp)) (zZ S3.sub hp (Fw g2 _ _))
  .calc h4.elim⟩⟩⟩
def k_:D->D->(D->Prop)->Prop
 |.bl a,.bl b,K=>K (.bl (a==b))
 |d,e,K=>jU d e K
def wz:D->D->(D->Prop)->Prop
 |.bl a,.bl b,K=>K (.bl (!(a==b)))
 |d,e,K=>z_ d e K
theorem F7:fg X (compareOp .Is) k_:=by
 ext pins s σ H x y v u Q I rx ry ⟨F,d,e,K,sub,rd,re,q,md⟩;unfold k_ at q;split at q
 .rename_i a b
  exact Ox pins s σ H x y v u Q I rx ry ⟨a,b,rd,re,md _ _ _ q (λ_ _ e=>e) Y⟩
 .calc NO pins s σ H x y v u Q I rx ry ⟨F,_,_,K,sub,rd,re,q,md⟩
theorem OC:fg X (compareOp .IsNot) wz:=by
 ext pins s σ H x y v u Q I rx ry ⟨F,d,e,K,sub,rd,re,q,md⟩;unfold wz at q;split at q
 .rename_i a b
  exact Oy pins s σ H x y v u Q I rx ry ⟨a,b,rd,re,md _ _ _ q (λ_ _ e=>e) Y⟩
 .calc NP pins s σ H x y v u Q I rx ry ⟨F,_,_,K,sub,rd,re,q,md⟩
end
end L2
namespace L2
open PySem PySem.Spec PyProof.Rows
variable[aV]{X:Cx}
def wA(_ j:Int):Prop:=j≠0/\j.natAbs<10 ^ 40
theorem OD:fg X (binaryOp .FloorDiv) (dO wA λi j=>.int (i.fdiv j)):=z6 (vm λi j _ _ _ _ _ hc q=>floordiv_int hc.1 q (.inl (PyProof.noPylong_of_log2 ((Nat.log2_lt (Int.natAbs_ne_zero.mpr hc.1)).mpr (Uq hc.2 (Vo (by decide:10 ^ 40<=2 ^ 200) (Nat.pow_le_pow_right (by decide) (by decide)))))))) λ_ _ _=>Y
end L2
open L2
open Lean in
local macro_rules
 |`(tactic|simp![$ls,*] $[$loc:location]?)=>do
  let t:=("Ze dep:2 bB:2 VT Nat.max_self Nat.max_zero Nat.zero_max Nat.reduceLeDiff az aU dN rF aq ak d1 d2 dC aa kU:2 hZ:3 kj:3 jN:2 aG.fix EU:2 bN c5 lS dT rf:1 jO oT eV rh kn zu di jr aR bC cz lU:1 iK:1 mS jQ fR gF kX dH cM mZ:3 oV zO m8 zP:2 cV aF t7 passes:4 jS:2 c6:1 mX:4 t6:1 bg:3 qr:4 cQ:4 qz:2 gx k_:1 wz:1 lT ni:1 gw:2 oI:1 dO:1 oEq oX oLt:2 jU z_ kY:2 cB:3 wx:2 uj:2 rB:1 we:1 iZ:1 c9 Ad As gU kZ jW fy:1 jV qv Am qw Ac iY uu aG.trim gv:2 vZ:3 Option.join_some Option.join_none Ve Xc List.cons_append XB V_ List.replicate_zero Zf X_ List.getElem?_nil Wi Wj Eg W9 ZY Yi List.take_nil List.any_nil Xj Bool.not_false Y6 Z7 q1X q1T VL Bool.true_eq_false Yu Xo true_and and_true and_self reduceCtorEq beq_self_eq_true VJ Nat.reduceAdd Nat.reduceLT Nat.reduceEqDiff Nat.reduceSub pV Eh".splitOn " ").map (·.splitOn ":")
  let m:List String->MacroM (Syntax.TSepArray [`Lean.Parser.Tactic.simpStar,`Lean.Parser.Tactic.simpErase,`Lean.Parser.Tactic.simpLemma] ","):=λl=>do
   let a←l.toArray.mapM λs=>`(Parser.Tactic.simpLemma|$(mkIdent s.toName):ident)
   pure ⟨(Syntax.SepArray.ofElems (sep:=",") ((a.push (←`(Parser.Tactic.simpLemma|↓reduceIte))).map (·.raw)++ls.getElems.map (·.raw))).elemsAndSeps⟩
  let a←m (t.map (·.head!))
  let d←m (t.flatMap fun|[x,n]=>(List.range n.toNat!).map λk=>s!"{x}.eq_{k+1}"|x=>x)
  if loc.isSome then `(tactic|simp only[$a,*] $[$loc]?) else `(tactic|first|((set_option backward.dsimp.useDefEqAttr false in dsimp only[$(⟨d.elemsAndSeps⟩),*]);try simp only[$a,*])|simp only[$a,*])
local macro_rules | `(tactic| simp! $[$l:location]?) => `(tactic| simp! [] $[$l]?)
set_option maxHeartbeats 8000000
namespace LJ
open PySem L2
variable[aV]
theorem F8{ns:-Int}{k:Int}(h0:0<=k)(h1:k<(↑ns:Int)):∃n,dY (ns.map D.int) k=U (.int n):=by
 let⟨i,rfl⟩:∃i:Nat,k=i:=⟨k.toNat,⋯⟩;let hi:i<↑ns:=by symm
 calc⟨ns[i],ji ?_⟩;rw[My,pU hi];rfl
theorem dj{α:Type}{x:α}{r:-α}:dY (x::r) 0=U x:=ji (j:=0) Y
theorem c_{α:Type}{x y:α}{r:-α}:dY (x::y::r) 1=U y:=ji (j:=1) Y
theorem at2{α:Type}{x y z:α}{r:-α}:dY (x::y::z::r) 2=U z:=ji (j:=2) Y
theorem uv{a b A B:Int}(h0:0<=a)(h1:a<=A)(h2:0<=b)(h3:b<=B):0<=a*b/\a*b<=A*B :=
 ⟨Int.mul_nonneg h0 h2,Int.mul_le_mul h1 h3 h2 (Int.le_trans h0 h1)⟩
noncomputable def iq:-Int:=[2147483629,2147483587,2147483579,2147483563,2147483549,2147483543,2147483497,2147483489,2147483477,2147483423,2147483399,2147483353,2147483323]
theorem Av(n:Int):∃q:Int,dY (iq.map D.int) (n%13)=U (.int q)/\0<q/\q<2147483648:=by
 let h0:0<=n%13:=V7 _ (by decide);let h1:n%13<13:=VC _ (by decide);generalize n%13=j at h0 h1;let⟨i,rfl⟩:∃i:Nat,j=i:=⟨j.toNat,⋯⟩;let hi:i<13:=by symm
 let hl:(iq.map D.int)[i]?=U (.int (iq[i]'(by show i<13;calc hi))):=by
  rw[My,pU (by show i<13;calc hi)];rfl
 calc⟨_,ji hl,?_⟩;let all:∀q∈iq,0<q/\q<2147483648:=by decide
 calc all _ (Wx _)
theorem OE:eK 3 1=U 1:=rfl
theorem F9:eK 3 2=U 2:=rfl
abbrev Sem(n m:Nat)(g:GD)(b:WS):Prop:=∀ys ar K',↑ys=n->g ys ar K'->b (iY ↑ar K') ⟨ys.map U++Ul m Z,ar.map U⟩
theorem aX{A B:WS}{K:KS}{δ:aG}(h:∀N:aG->Prop,N=B K->A {K with nx:=N} δ):az A B K δ:=h _ Y
theorem fS{t:WT}{G G':WS}{K:KS}{δ:aG}(h:∀A B:aG->Prop,A=G K->B=G' K->t δ λb δ1=>if b=θ then A δ1 else B δ1):bC t G G' K δ:=h _ _ Y Y
theorem uw{w:WI}{g:WG}{b:WS}{K:KS}{δ:aG}(h:∀g' b' K',g'=g->b'=b->K'=K->w δ λit δ1=>kW δ1 it.bL g' b' K' it.items δ1):fR w g b K δ:=h _ _ _ Y Y Y
theorem i0{f:WE}{g:WA}{δ:aG}{K:-DV->aG->Prop}(h:∀K',K'=(λx δ1=>g δ1 λxs δ2=>K (x::xs) δ2)->f δ K'):aq f g δ K:=h _ Y
inductive Aw (ys:-DV) (ar:-OV) (K:RV->-OV->Prop):Prop
 |mk (cell at_:Int) (_:ys=[.p (.int cell),.p (.int at_)]) (_:ar=[]) (_:0<=at_) (_:at_<2 ^ 30) (_:∀z:Int,K (.p (.int z)) [])
def Ax:WS:=(az (bC (dT (d2 (aa 0) (d2 (dC (.int 10)) (dC (.int 18)) (dO et λi j=>.int (i ^ j.toNat))) (oI λi j=>.bl (E (j<=i))))) (aR (aa 0)) di) (az (aU 2 (c5 (aq (dC (.int 2147483629)) (aq (dC (.int 2147483587)) (aq (dC (.int 2147483579)) (aq (dC (.int 2147483563)) (aq (dC (.int 2147483549)) (aq (dC (.int 2147483543)) (aq (dC (.int 2147483497)) (aq (dC (.int 2147483489)) ak)))))))))) (az (aU 2 (d2 (aa 2) (c5 (aq (dC (.int 2147483477)) (aq (dC (.int 2147483423)) (aq (dC (.int 2147483399)) (aq (dC (.int 2147483353)) (aq (dC (.int 2147483323)) ak)))))) cQ)) (az (aU 3 (d2 (d2 (d2 (d2 (d2 (d2 (aa 0) (dC (.int 1000000007)) (dO (λ_ j=>0<j) λi j=>.int (i%j))) (d2 (d2 (dC (.int 2)) (aa 1) gw) (dC (.int 69069)) cQ) gw) (d2 (aa 1) (dC (.int 40503)) gw) cQ) (dC (.int 977)) cQ) (dC (.int 3)) (dO et λi j=>.int (i ^ j.toNat))) (d2 (aa 2) (d2 (aa 1) (dC (.int 13)) (dO (λ_ j=>0<j) λi j=>.int (i%j))) bg) (dO (λ_ j=>0<j) λi j=>.int (i%j)))) (az (aU 4 (d2 (d2 (d2 (d2 (d2 (aa 3) (d2 (aa 1) (dC (.int 3)) cQ) gw) (d2 (aa 0) (dC (.int 65537)) (dO (λ_ j=>0<j) λi j=>.int (i%j))) cQ) (dC (.int 5)) cQ) (dC (.int 5)) (dO et λi j=>.int (i ^ j.toNat))) (d2 (aa 2) (d2 (d2 (aa 1) (dC (.int 5)) cQ) (dC (.int 13)) (dO (λ_ j=>0<j) λi j=>.int (i%j))) bg) (dO (λ_ j=>0<j) λi j=>.int (i%j)))) (az (aU 5 (d2 (d2 (d2 (d2 (aa 4) (d2 (aa 3) (dC (.int 1009)) (dO (λ_ j=>0<j) λi j=>.int (i%j))) cQ) (aa 1) cQ) (dC (.int 3)) (dO et λi j=>.int (i ^ j.toNat))) (d2 (aa 2) (d2 (d2 (aa 1) (dC (.int 7)) cQ) (dC (.int 13)) (dO (λ_ j=>0<j) λi j=>.int (i%j))) bg) (dO (λ_ j=>0<j) λi j=>.int (i%j)))) (aR (d2 (d2 (d2 (d2 (aa 3) (dC (.int 2147483647)) gw) (aa 4) cQ) (dC (.int 2147483647)) gw) (aa 5) cQ))))))))
theorem OF:Sem 2 4 Aw Ax:=by
 ext ys ar K'-⟨cell,k,rfl,rfl,h0,h1,fin⟩;unfold Ax;let ux:∀(z:Int)(sl:-(Option DV)),gR 0 K' (.p (.int z)) ⟨sl,[]⟩:=λz sl=>⟨[],Y,Y,fin z⟩;simp! at ⊢;calc⟨⟨by decide,by decide,by decide⟩,?_⟩;split
 .exact ux _ _
 let⟨q1,e1,p1,b1⟩:=Av k;let⟨q2,e2,p2,b2⟩:=Av (k+5);let⟨q3,e3,p3,b3⟩:=Av (k+7);erw[iq,Ve,Xc] at e1 e2 e3;erw[e1,e2,e3];let c0:0<=cell%1000000007:=V7 _ (by decide);let c1:cell%1000000007<1000000007:=VC _ (by decide);let m1:=uv c0 (Int.le_of_lt c1) (show(0:Int)<=2*k+69069 by symm) (show 2*k+69069<=2147552717 by symm);refine⟨by decide,.inl ⟨by decide,by decide⟩,.inl ⟨⋯,⋯⟩,.inr ⟨by decide,by decide⟩,⟨by decide,by decide,?cp1⟩,by decide,p1,?_⟩
 case cp1 =>
  generalize cell%1000000007*(2*k+69069)=m at m1 ⊢;symm
 generalize(cell%1000000007*(2*k+69069)+k*40503+977) ^ (3:Int).toNat=x1;let o0:0<=x1%q1:=V7 _ ⋯;let o1:x1%q1<q1:=VC _ p1;let d0:0<=cell%65537:=V7 _ (by decide);let d1:cell%65537<65537:=VC _ (by decide);let m2:=uv o0 (show x1%q1<=2147483648 by symm) (show(0:Int)<=k+3 by symm) (show k+3<=1073741827 by symm);refine⟨.inl ⟨⋯,⋯⟩,by decide,⟨by decide,by decide,?cp2⟩,by decide,p2,?_⟩
 case cp2 =>
  generalize x1%q1*(k+3)=m at m2 ⊢;symm
 let t0:0<=(x1%q1*(k+3)+cell%65537+5) ^ (5:Int).toNat%q2:=V7 _ ⋯;let t1:(x1%q1*(k+3)+cell%65537+5) ^ (5:Int).toNat%q2<q2:=VC _ p2;let u0:0<=x1%q1%1009:=V7 _ (by decide);let u1:x1%q1%1009<1009:=VC _ (by decide);generalize(x1%q1*(k+3)+cell%65537+5) ^ (5:Int).toNat%q2=m at t0 t1 ⊢;calc⟨by decide,⟨by decide,by decide,⋯⟩,by decide,p3,.inr ⟨by decide,by decide⟩,.inr ⟨by decide,by decide⟩,ux _ _⟩
noncomputable def i5(ns:-Int)(k z:Int):OV:=.lst [.lst (ns.map D.int),.int k,.int z]
structure bF(n:Int)(o:OV):Prop where
 out:∃ns k z,o=i5 ns k z/\↑ns<=63/\0<=k/\k<=n
theorem bF.mono{n m:Int}{o:OV}(h:bF n o)(l:n<=m):bF m o:=by
 let⟨ns,k,z,e,h1,h2,h3⟩:=h.out;calc⟨ns,k,z,e,h1,h2,⋯⟩
inductive wB (ys:-DV) (ar:-OV) (K:RV->-OV->Prop):Prop
 |mk (n) (o) (_:ys=[.o 0]) (_:ar=[o]) (_:bF n o) (_:∀o',bF n o'->K (.a 0) [o'])
def Az:WS:=(az (jW (dC (.int 0)) (aa 0) (dC (.int 2))) (aR (aa 0)))
theorem OG:Sem 1 0 wB Az:=by
 ext ys ar K'-⟨n,o,rfl,rfl,P,fin⟩;let⟨ns,k,z,rfl,h1,h2,h3⟩:=P.out;unfold Az i5;simp!;calc⟨[i5 ns k 0],Y,Y,fin _ ⟨ns,k,0,Y,h1,h2,h3⟩⟩
inductive fJ (ys:-DV) (ar:-OV) (K:RV->-OV->Prop):Prop
 |mk (n m:Int) (o:OV) (_:ys=[.o 0,.p (.int m)]) (_:ar=[o]) (_:bF n o) (_:n<2 ^ 30) (_:0<m) (_:m<10 ^ 40) (_:∀r o',0<=r->r<m->bF (n+1) o'->K (.p (.int r)) [o'])
def AA:WS:=(az (bC (dT (d2 (d2 (aa 0) (dC (.int 2)) bg) (aa 1) oLt)) (az (aU 2 (d2 (aa 0) (dC (.int 1)) bg)) (az (aU 3 (dC (.int 0))) (az (bC (dT (d2 (aa 2) (dN (aq (d2 (aa 0) (dC (.int 0)) bg) ak) cB) oLt)) (aU 3 (d2 (d2 (aa 0) (dC (.int 0)) bg) (aa 2) bg)) (bC (dT (d2 (dN (aq (d2 (aa 0) (dC (.int 0)) bg) ak) cB) (dC (.int 0)) (oI λi j=>.bl (E (j<i))))) (aU 3 (d2 (d2 (d2 (aa 0) (dC (.int 0)) bg) (d2 (d2 (d2 (aa 2) (dC (.int 5)) gw) (dC (.int 3)) cQ) (dN (aq (d2 (aa 0) (dC (.int 0)) bg) ak) cB) (dO (λ_ j=>0<j) λi j=>.int (i%j))) bg) (d2 (d2 (dC (.int 10)) (dC (.int 17)) (dO et λi j=>.int (i ^ j.toNat))) (aa 2) cQ) (dO (λ_ j=>0<j) λi j=>.int (i%j)))) di)) (az (jW (d2 (aa 2) (dC (.int 1)) cQ) (aa 0) (dC (.int 1))) (jW (aF 2 Aw (aq (aa 3) (aq (aa 2) ak))) (aa 0) (dC (.int 2))))))) di) (az (aU 4 (d2 (d2 (aa 0) (dC (.int 2)) bg) (aa 1) (dO (λ_ j=>0<j) λi j=>.int (i%j)))) (az (jW (d2 (d2 (aa 0) (dC (.int 2)) bg) (aa 1) (dO wA λi j=>.int (i.fdiv j))) (aa 0) (dC (.int 2))) (aR (aa 4)))))
theorem OH:Sem 2 3 fJ AA:=by
 ext ys ar K'-⟨n,m,o,rfl,rfl,P,hn,F_,Ux,fin⟩;let⟨ns,k,z,rfl,h1,h2,h3⟩:=P.out;unfold AA i5
 let last:∀(k' z':Int)(sl:-(Option DV)),0<=k'->k'<=n+1->gR 1 K' (.p (.int (z'%m))) ⟨sl,[U (.lst [.lst (ns.map D.int),.int k',.int (z'.fdiv m)])]⟩:=λk' z' sl a b =>
  ⟨[i5 ns k' (z'.fdiv m)],Y,Y,fin _ _ (V7 _ ⋯) (VC _ F_) ⟨ns,k',_,Y,h1,a,b⟩⟩
 let OI:∀z,wA z m:=λz=>⟨⋯,⋯⟩
 let rest:∀(k' z':Int)(s2 s3 s4:Option DV),0<=k'->k'<=n+1->(az (aU 4 (d2 (d2 (aa 0) (dC (.int 2)) bg) (aa 1) (dO (λ_ j=>0<j) λi j=>.int (i%j)))) (az (jW (d2 (d2 (aa 0) (dC (.int 2)) bg) (aa 1) (dO wA λi j=>.int (i.fdiv j))) (aa 0) (dC (.int 2))) (aR (aa 4)))) (iY 1 K') ⟨[U (.o 0),U (.p (.int m)),s2,s3,s4],[U (.lst [.lst (ns.map D.int),.int k',.int z'])]⟩:=λk' z' s2 s3 s4 a b=>by
  simp![at2,F9];exact⟨F_,OI _,last _ _ _ a b⟩
 calc aX λN hN=>?_;calc fS λA B hA hB=>?_;simp![at2] at ⊢;split
 .subst hA
  calc aX λN2 jX=>?_;simp![c_];subst jX;calc aX λN2 jX=>?_;simp!;subst jX;refine aX λN2 jX=>?_
  let go:∀(c:Int)(s4:Option DV),N2 ⟨[U (.o 0),U (.p (.int m)),U (.p (.int k)),U (.p (.int c)),s4],[U (.lst [.lst (ns.map D.int),.int k,.int z])]⟩:=λc s4=>by
   subst jX;simp![OE];calc⟨c,k,Y,Y,h2,⋯,λz'=>?_⟩;simp![F9];subst hN;exact rest _ _ _ _ _ ⋯ ⋯
  calc fS λA B hA hB=>?_;simp![dj] at ⊢;split
  .rename_i fG
   let⟨c,ec⟩:=F8 h2 (Wb fG);subst hA;simp![dj];rw[ec];exact go _ _
  .subst hB
   calc fS λA B hA hB=>?_;simp![dj] at ⊢;split
   .rename_i nq
    let nq:=Wb nq;let⟨c,ec⟩:=F8 (ns:=ns) (k:=(k*5+3)%(↑ns:Int)) (V7 _ ⋯) (VC _ nq);subst hA;simp![dj];calc⟨.inr ⟨by decide,by decide⟩,nq,?_⟩;rw[ec];exact⟨⟨by decide,by decide,by decide⟩,by show(0:Int)<10 ^ 17+k;symm,go _ _⟩
   .subst hB
    exact go _ _
 .subst hB hN
  calc rest _ _ _ _ _ ⋯ ⋯
noncomputable def dm(p:Int×Int):D:=.tup [.int p.1,.int p.2]
structure dW(many:Int)(ps:-(Int×Int)):Prop where
 ends:∀p∈ps,0<=p.1/\p.1<p.2/\p.2<many
 mN:ps.Nodup
 jC:↑ps<=66
theorem dW.sub{many:Int}{ps qs:-(Int×Int)}(h:dW many ps)(s:qs.Sublist ps):dW many qs :=
 ⟨λp hp=>h.ends p (s.subset hp),h.mN.sublist s,Vo s.length_le h.jC⟩
inductive AB (ys:-DV) (ar:-OV) (K:RV->-OV->Prop):Prop
 |mk (n kind many:Int) (o:OV) (_:ys=[.o 0,.p (.int kind),.p (.int many)]) (_:ar=[o]) (_:bF n o) (_:n+100<2 ^ 30) (_:1<=many) (_:many<=12) (_:∀ps o',dW many ps->bF (n+67) o'->K (.n (ps.map dm)) [o'])
def AD:WS:=(az (aU 3 (lS ak)) (az (fR (oV (aq (aa 2) ak)) (cz 4) (jr (qv (aa 3) (aq (gF (oV (aq (aa 4) ak)) [Z,U 4] (cz 0) dH (bN (aq (aa 0) (aq (aa 1) ak)))) ak)))) (az (bC (dT (d2 (aa 1) (dC (.int 1)) oEq)) (aR (kX (zO (aq (dC (.int 1)) (aq (aa 2) ak))) [Z,U 0] (cz 0) dH (bN (aq (aF 2 fJ (aq (aa 1) (aq (aa 0) ak))) (aq (aa 0) ak))))) di) (az (bC (dT (d2 (aa 1) (dC (.int 2)) oEq)) (az (aU 5 (gF (oV (aq (d2 (aa 2) (dC (.int 1)) (oI λi j=>.int (i-j))) ak)) [Z] (cz 0) dH (bN (aq (aa 0) (aq (d2 (aa 0) (dC (.int 1)) cQ) ak))))) (aR (As (aa 5) (gF (cM (aa 3)) [Z,U 2] (cz 0) (jO (dT (d2 (aa 0) (bN (aq (dC (.int 0)) (aq (d2 (aa 1) (dC (.int 1)) (oI λi j=>.int (i-j))) ak))) oEq)) (dT (d2 (aa 1) (dC (.int 2)) (oI λi j=>.bl (E (j<i)))))) (aa 0))))) di) (az (bC (dT (d2 (aa 1) (dC (.int 3)) oEq)) (aR (aa 3)) di) (az (bC (dT (d2 (aa 1) (dC (.int 4)) oEq)) (aR (kX (cM (aa 3)) [Z,U 0] (cz 0) (dT (d2 (aF 2 fJ (aq (aa 1) (aq (dC (.int 4)) ak))) (dC (.int 0)) oEq)) (aa 0))) di) (az (bC (dT (d2 (aa 1) (dC (.int 5)) oEq)) (az (aU 6 (aF 2 fJ (aq (aa 0) (aq (d2 (aa 2) (dC (.int 1)) cQ) ak)))) (aR (kX (cM (aa 3)) [Z,U 6,U 0] (cz 0) (jO (dT (d2 (d2 (d2 (aa 0) (dC (.int 0)) bg) (aa 1) oLt) (d2 (d2 (aa 0) (dC (.int 1)) bg) (aa 1) oLt) oEq)) (dT (d2 (aF 2 fJ (aq (aa 2) (aq (dC (.int 3)) ak))) (dC (.int 0)) (oI λi j=>.bl (E (j<i)))))) (aa 0)))) di) (aR (kX (cM (aa 3)) [Z,U 0] (cz 0) (dT (d2 (aF 2 fJ (aq (aa 1) (aq (dC (.int 2)) ak))) (dC (.int 0)) oEq)) (aa 0))))))))))
theorem sub_snoc{α:Type}{zs ps:-α}{i:Nat}{x:α}(h:zs.Sublist (ps.take i))(e:ps[i]?=U x):(zs++[x]).Sublist (ps.take (i+1))/\zs.Sublist (ps.take (i+1)):=by
 let:ps.take (i+1)=ps.take i++[x]:=by rw[Yl,e];rfl
 rw[this];calc⟨h.append (q0P _),h.trans (List.sublist_append_left _ _)⟩
theorem OJ{α:Type}{l:-α}{c:α}(h:l.Nodup)(hc:∀x∈l,x=c):↑l<=1:=by
 match l,h,hc with
 |[],_,_=>exact VT _
 |[_],_,_=>exact yT _
 |x::y::r,h,hc =>
  let:=(WY.mp h).1 y (Vc);calc absurd ((hc x Vc).trans (hc y (Us _ Vc)).symm) this
theorem AE{n:Int}{o:OV}{ps:-(Int×Int)}{t:WT}{K:-D->aG->Prop}{rest:-(Option DV)}{ev:Option OV}{bL:aG->Prop}(hc:∀sl o',bL ⟨sl,[U o',ev]⟩)(hw:↑ps<=66)(P:bF n o)(hn:n+70<2 ^ 30)
  (ht:∀(p:Int×Int)(i:Nat)(o':OV)(Q:Bool->aG->Prop),p∈ps->i<=66->bF (n+i) o'->(∀b la,bF (n+i+1) la->Q b ⟨U (.p (dm p))::rest,[U la,ev]⟩)->t ⟨U (.p (dm p))::rest,[U o',ev]⟩ Q)
  (hr:gv 2 rest rest=rest)
  (fin:∀(zs:-(Int×Int)) o',zs.Sublist ps->bF (n+↑ps) o'->K (zs.map dm) ⟨Z::rest,[U o',ev]⟩) :
  ju ⟨Z::rest,[U o,ev]⟩ bL (cz 0) t (aa 0) K (ps.map dm) [] ⟨Z::rest,[U o,ev]⟩:=by
 refine wq (λi acc δ=>∃(zs:-(Int×Int))(o':OV),zs.Sublist (ps.take i)/\acc=zs.map dm/\bF (n+i) o'/\δ=⟨Z::rest,[U o',ev]⟩) ⟨[],o,q0P _,Y,P.mono ⋯,Y⟩ ?_ ?_
 .ext j d acc δ L hj ⟨zs,o',hz,rfl,P',rfl⟩ hL
  rw[My] at hj;let⟨p,hp,rfl⟩:=Va.mp hj;let Uy:j<↑ps:=(qW.mp hp).1;calc⟨hc _ _,?_⟩;show t ⟨U (.p (dm p))::rest,[U o',ev]⟩ _;refine ht p j o' _ (Vw hp) ⋯ P' λb la nu=>?_
  let hlen:↑(zs.map dm)<1000:=by
   rw[pV];let:=hz.length_le;rw[Vn] at this;symm
  let P3:bF (n+((j+1:Nat):Int)) la:=nu.mono ⋯
  cases b with
  |true =>
   rw[U_ Y];calc⟨hlen,hL _ _ ⟨zs++[p],la,(sub_snoc hz hp).1,by rw[Vq];rfl,P3,?_⟩⟩;show(⟨Z::gv 2 rest rest,_⟩:aG)=_;rw[hr];rfl
  |false =>
   rw[U9 (by decide)];calc hL _ _ ⟨zs,la,(sub_snoc hz hp).2,Y,P3,?_⟩;show(⟨Z::gv 2 rest rest,_⟩:aG)=_;rw[hr];rfl
 .ext acc δ ⟨zs,o',hz,rfl,P',rfl⟩
  rw[pV] at P' hz;rw[VO (yT _)] at hz;calc⟨hc _ _,fin zs o' hz P'⟩
theorem OK:Sem 3 4 AB AD:=by
 ext ys ar K'-⟨n,kind,many,o,rfl,rfl,P,hn,m1,lR,fin⟩;let⟨mm,rfl⟩:∃mm:Nat,many=mm:=⟨many.toNat,⋯⟩;let AF:mm<=12:=by symm
 unfold AD;let cJ:dW mm (jk mm):=⟨λp hp=>zj hp,EG mm,EH mm AF⟩;calc aX λN hN=>?_;simp!;subst hN;calc aX λN hN=>?_;simp!;calc⟨⋯,?_⟩;refine qy (λi δ=>δ=⟨[U (.o 0),U (.p (.int kind)),U (.p (.int mm)),U (.o 1),Z,Z,Z],[U o,U (.lst ((jk i).map dm))]⟩) Y ?_ ?_
 .ext j d δ L hj rfl hL
  let⟨hj,rfl⟩:=oW hj;simp!;let e:(0+(j:Int))=j:=by symm
  rw[e];refine⟨⋯,?_⟩
  refine k9 (λd=>match d with
   |.int a=>dm (a,j)
   |_=>.non) (by rw[m9];symm) trivial ?_ ?_
  .ext d hd acc L' ha h
   let⟨i,hi⟩:=Ur.mp hd;let⟨hi,rfl⟩:=oW hi;simp!;exact⟨ha,h⟩
  .let e2:(jk j).map dm++(c7 0 (j:Int).toNat).map (λd=>match d with
    |.int a=>dm (a,j)
    |_=>.non)=(jk (j+1)).map dm:=by
    show _=(jk j++_).map dm;unfold c7;rw[Vq,Vv,Vv];congr 1;calc Xm λa _=>?_;simp[Z8]
   simp!;let Uz:=EH j ⋯;calc⟨by rw[m9];symm,?_⟩;rw[e2];exact hL _ Y
 .ext δ rfl
  calc⟨trivial,?_⟩;subst hN;let eL:((mm:Int)).toNat=mm:=by symm
  rw[m9,eL];dsimp only
  let back:∀(ps:-(Int×Int))(o':OV)(sl:-(Option DV))(m:-(Option OV)),dW mm ps->bF (n+67) o'->gR 1 K' (.o (↑m+1)) ⟨sl,U o'::(m++[U (.lst (ps.map dm))])⟩:=λps o' sl m h1 h2=>by
   calc⟨[o'],Y,Y,?_⟩;show if ↑m+1<1 then _ else _;rw[U9 ⋯]
   let:(U o'::(m++[U (OV.lst (ps.map dm))]))[↑m+1]?=U (U (.lst (ps.map dm))):=by
    rw[X_,Mf (yT _),VB];rfl
   dsimp only;rw[this];exact .inl (fin ps o' h1 h2)
  calc aX λN hN=>?_;simp![aO] at ⊢;split
  .refine⟨⋯,?_⟩
   refine wq (λi acc δ=>∃(zs:-(Int×Int))(o':OV),↑zs=i/\(∀(q:Nat)(p:Int×Int),zs[q]?=U p->p.2=q+1/\0<=p.1/\p.1<p.2)/\acc=zs.map dm/\bF (n+i) o'/\δ=⟨[Z,U (.o 0)],[U o',U (.lst ((jk mm).map dm))]⟩) ⟨[],o,Y,λq p e=>by simp at e,Y,P.mono ⋯,Y⟩ ?_ ?_
   .ext j d acc δ L hj ⟨zs,o',hz,hq,rfl,P',rfl⟩ hL
    let⟨hj,rfl⟩:=oW hj;simp!;calc⟨n+j,1+j,o',Y,Y,P',⋯,⋯,⋯,λr la r0 r1 nu=>?_⟩;simp!;refine⟨⋯,hL _ _ ⟨zs++[(r,1+(j:Int))],la,by rw[Eh,hz];rfl,λq p e=>?_,by rw[Vq];rfl,nu.mono ⋯,Y⟩⟩
    by_cases c:q<↑zs
    .rw[Mc c] at e
     exact hq q p e
    .let hl:=(qW.mp e).1
     rw[Eh,VA] at hl;let:q=↑zs:=by symm
     subst this;rw[Mf (yT _),VB] at e;cases(show U (r,1+(j:Int))=U p by simpa using e)
     exact⟨by show 1+(j:Int)=_;symm,r0,r1⟩
   .ext acc δ ⟨zs,o',hz,hq,rfl,P',rfl⟩
    rw[m9] at hz P';calc⟨trivial,?_⟩;refine back zs o' _ [_] ⟨λp hp=>?_,?_,⋯⟩ (P'.mono ⋯)
    .let⟨q,oE⟩:=Ur.mp hp
     let:=hq q p oE;let hl:=(qW.mp oE).1;symm
    .refine XR.mpr λi j hi hj jx e=>?_
     let q1:=hq i _ (pU hi);let q2:=hq j _ (pU hj);rw[e] at q1;symm
  subst hN;calc aX λN hN=>?_;simp![aO] at ⊢;split
  .clear hN
   refine⟨⋯,?_⟩
   refine k9 (λd=>match d with
    |.int a=>dm (a,a+1)
    |_=>.non) (by rw[m9];symm) trivial ?_ ?_
   .ext d hd acc L' ha h
    let⟨i,hi⟩:=Ur.mp hd;let⟨hi,rfl⟩:=oW hi;simp!;exact⟨ha,h⟩
   .simp!
    refine rE (λd=>aO d (dm (0,mm-1))&&E ((2:Int)<mm)) id (by rw[pV];let:=cJ.jC;symm) Y ?_ ?_
    .ext d hd acc L' ha h h'
     let⟨p,hp,rfl⟩:=Vh.mp hd;erw[dm] at h h';simp![dm] at ⊢;split
     .rename_i q1
      split
      .rename_i q2
       exact⟨ha,h (by rw[q1,q2];rfl)⟩
      .rename_i q2
       exact h' (by rw[q1,q04 _ |>.mp q2];rfl)
     .rename_i q1
      exact h' (by rw[q04 _ |>.mp q1];rfl)
    .simp!
     let er:(c7 0 ((mm:Int)-1).toNat).map (λd=>match d with
       |D.int a=>dm (a,a+1)
       |x=>D.non)=((Vp (mm-1)).map λi:Nat=>((i:Int),(i:Int)+1)).map dm:=by
      unfold c7;rw[Vv,Vv];let:((mm:Int)-1).toNat=mm-1:=by symm
      rw[this];calc Xm λa _=>?_;simp[Z8]
     let ef:(((jk mm).map dm).filter λd=>aO d (dm (0,mm-1))&&E ((2:Int)<mm))=((jk mm).filter λp=>aO (dm p) (dm (0,mm-1))&&E ((2:Int)<mm)).map dm:=by
      rw[q1o];rfl
     rw[er,q1e,ef,<-Vq]
     let hf:∀p∈(jk mm).filter (λp=>aO (dm p) (dm (0,mm-1))&&E ((2:Int)<mm)),p=(0,(mm:Int)-1)/\(2:Int)<mm:=λp hp=>by
      let:=(W8.mp hp).2;simp[dm,aO,dZ] at this;let⟨a,b⟩:=p;simp at this ⊢;symm
     let h1:↑((jk mm).filter (λp=>aO (dm p) (dm (0,mm-1))&&E ((2:Int)<mm)))<=1:=OJ (cJ.mN.sublist YF) λp hp=>(hf p hp).1;refine⟨by rw[m9,pV];symm,back _ o _ [_] ⟨λp hp=>?_,?_,?_⟩ (P.mono ⋯)⟩
     .rcases Vs.mp hp with hp|hp
      .let⟨i,hi,rfl⟩:=Vh.mp hp
       let:=VP.mp hi;exact⟨⋯,⋯,by show(i:Int)+1<mm;symm⟩
      .exact cJ.ends p (W8.mp hp).1
     .refine Yh.mpr ⟨?_,cJ.mN.sublist YF,λa ha b hb e=>?_⟩
      .refine Xf.mpr (Yp.imp λ{a b} ne e=>ne ?_)
       let:=congrArg q3d e;exact Z6 this
      .subst e
       let⟨i,hi,rfl⟩:=Vh.mp ha;let:=hf _ hb;let h2:=congrArg q3d this.1;let h3:=congrArg Prod.snd this.1;simp at h2 h3;symm
     .rw[Eh,pV,VG];symm
  subst hN;calc aX λN hN=>?_;simp![aO] at ⊢;split
  .exact⟨[o],Y,Y,.inl (fin _ _ cJ (P.mono ⋯))⟩
  subst hN;calc aX λN hN=>?_;simp![aO] at ⊢;split
  .refine AE (λ_ _=>Y) cJ.jC P ⋯ (λp i o' Q hp hi P' hQ=>?_) Y λzs o' hz P'=>?_
   .simp![aO]
    calc⟨n+i,4,o',Y,Y,P',⋯,⋯,⋯,λr la r0 r1 nu=>?_⟩;simp!;exact hQ _ _ nu
   .exact back zs o' _ [_] (cJ.sub hz) (P'.mono (by let:=cJ.jC;symm))
  subst hN;calc aX λN hN=>?_;simp![aO] at ⊢;split
  .refine⟨n,mm+1,o,Y,Y,P,⋯,⋯,⋯,λhalf o1 r0 r1 P1=>?_⟩
   simp!;refine AE (n:=n+1) (λ_ _=>Y) cJ.jC P1 ⋯ (λp i o' Q hp hi P' hQ=>?_) Y λzs o' hz P'=>?_
   .simp![aO,dm,dj,c_] at ⊢
    split
    .refine⟨n+1+i,3,o',Y,Y,P',⋯,⋯,⋯,λr la r0 r1 nu=>?_⟩
     simp!;exact hQ _ _ nu
    .exact hQ _ _ (P'.mono ⋯)
   .exact back zs o' _ [_] (cJ.sub hz) (P'.mono (by let:=cJ.jC;symm))
  subst hN;simp![aO];refine AE (λ_ _=>Y) cJ.jC P ⋯ (λp i o' Q hp hi P' hQ=>?_) Y λzs o' hz P'=>?_
  .simp![aO]
   calc⟨n+i,2,o',Y,Y,P',⋯,⋯,⋯,λr la r0 r1 nu=>?_⟩;simp!;exact hQ _ _ nu
  .calc back zs o' _ [_] (cJ.sub hz) (P'.mono (by let:=cJ.jC;symm))
theorem Ga{α:Type}:∀{l:-α}{j:Nat}(h:j<↑l),q4Y (l[j]::l.eraseIdx j) l
 |x::r,0,h=>List.Perm.refl _
 |x::r,j+1,h=>by
  let hj:j<↑r:=by simpa using h
  show q4Y (r[j]::x::r.eraseIdx j) (x::r);calc(List.Perm.swap x r[j] _).trans ((Ga hj).cons x)
theorem Gb{α β:Type}(f:α->β):∀(l:-α)(j:Nat),(l.map f).eraseIdx j=(l.eraseIdx j).map f
 |[],_=>Y
 |_::_,0=>Y
 |x::r,j+1=>by
  show f x::(r.map f).eraseIdx j=f x::(r.eraseIdx j).map f;rw[Gb f r j]
noncomputable def aY(y:Int×Int×Int):D:=.tup [.int y.1,.int y.2.1,.int y.2.2]
noncomputable def aQ(m:Int)(ys:-(Int×Int×Int)):D:=.tup [.int m,.tup (ys.map aY)]
noncomputable def nv(y:Int×Int×Int):Int×Int:=(y.1,y.2.1)
theorem dW.perm{many:Int}{ps qs:-(Int×Int)}(h:dW many ps)(p:qs.Perm ps):dW many qs :=
 ⟨λx hx=>h.ends x (p.mem_iff.mp hx),p.nodup_iff.mpr h.mN,by rw[p.length_eq];calc h.jC⟩
inductive wC (ys:-DV) (ar:-OV) (K:RV->-OV->Prop):Prop
 |mk (n d4 most:Int) (o:OV) (_:ys=[.o 0,.p (.int d4),.p (.int most)]) (_:ar=[o]) (_:bF n o) (_:n+400<2 ^ 30) (_:1<=d4) (_:d4<=12) (_:0<=most) (_:most<=30) (_:∀m ws o',bz m ws->m<=d4->(↑ws:Int)<=most->bF (n+300) o'->K (.p (aQ m ws)) [o'])
def AG:WS:=(az (aU 3 (aF 2 fJ (aq (aa 0) (aq (dC (.int 8)) ak)))) (az (aU 4 (aF 2 fJ (aq (aa 0) (aq (dC (.int 4)) ak)))) (az (aU 5 (d2 (dC (.int 1)) (aF 2 fJ (aq (aa 0) (aq (aa 1) ak))) cQ)) (az (aU 6 (t7 3 AB (aq (aa 0) (aq (aa 3) (aq (aa 5) ak))))) (az (aU 7 (lS ak)) (az (fR (oV (aq (dN (aq (aa 2) (aq (dN (aq (aa 6) ak) cB) ak)) rB) ak)) (cz 8) (az (jQ (Am (aa 6) (aq (aF 2 fJ (aq (aa 0) (aq (dN (aq (aa 6) ak) cB) ak))) ak)) (mS 2 (iK (cz 9) (iK (cz 10) lU)))) (az (aU 11 (d2 (c5 (aq (dC (.int 7)) (aq (aF 2 fJ (aq (aa 0) (aq (dC (.int 3)) ak))) (aq (d2 (d2 (dC (.int 10)) (dC (.int 9)) (dO et λi j=>.int (i ^ j.toNat))) (aF 2 fJ (aq (aa 0) (aq (dC (.int 2)) ak))) (oI λi j=>.int (i-j))) (aq (aF 2 fJ (aq (aa 0) (aq (d2 (d2 (dC (.int 10)) (dC (.int 9)) (dO et λi j=>.int (i ^ j.toNat))) (dC (.int 1)) cQ) ak))) ak))))) (aa 4) bg)) (jr (jV (aa 7) (aq (bN (aq (aa 9) (aq (aa 10) (aq (aa 11) ak)))) ak)))))) (aR (bN (aq (aa 5) (aq (dN (aq (aa 7) ak) uj) ak))))))))))
theorem OL:Sem 3 9 wC AG:=by
 ext ys ar K'-⟨n,d4,most,o,rfl,rfl,P,hn,h1,OM,s0,UA,fin⟩;unfold AG;calc aX λN hN=>?_;simp!;calc⟨n,8,o,Y,Y,P,⋯,⋯,⋯,λkind o1 _ _ P1=>?_⟩;simp!;subst hN;calc aX λN hN=>?_;simp!;calc⟨n+1,4,o1,Y,Y,P1,⋯,⋯,⋯,λeX o2 p0 p4 P2=>?_⟩;simp!;subst hN;calc aX λN hN=>?_;simp!;calc⟨n+1+1,d4,o2,Y,Y,P2,⋯,⋯,⋯,λmm o3 m0 mh P3=>?_⟩;simp!;subst hN;calc aX λN hN=>?_;simp!;refine⟨n+1+1+1,kind,1+mm,o3,Y,Y,P3,⋯,⋯,⋯,λps o4 Gd P4=>?_⟩
 simp!;subst hN;calc aX λN hN=>?_;simp!;subst hN;calc aX λN hN=>?_;let UB:=Gd.jC;simp!;calc⟨⋯,?_⟩;let ek:(min most (↑ps:Int)).toNat=min most.toNat ↑ps:=by symm
 rw[ek];generalize hk:min most.toNat ↑ps=k
 refine qy (λi δ=>∃(qs:-(Int×Int))(ws:-(Int×Int×Int))(o':OV),↑qs+i=↑ps/\↑ws=i/\dW (1+mm) (ws.map nv++qs)/\(∀y∈ws,0<=y.2.2/\y.2.2<=1000000000)/\bF (n+70+4*i) o' ∧
  δ=⟨[U (.o 0),U (.p (.int d4)),U (.p (.int most)),U (.p (.int kind)),U (.p (.int eX)),U (.p (.int (1+mm))),U (.o 1),U (.o 2),Z,Z,Z,Z],[U o',U (.lst (qs.map dm)),U (.lst (ws.map aY))]⟩)
  ⟨ps,[],o4,⋯,Y,Gd,λy hy=>absurd hy Vf,P4.mono ⋯,Y⟩ ?_ ?_
 .ext j d δ L hj ⟨qs,ws,o',hq,hw,hp,hy,P',rfl⟩ hL
  let⟨hj,rfl⟩:=oW hj;let q0:0<↑qs:=by symm
  let ON:=hp.jC;rw[Eh,pV] at ON;calc⟨trivial,?_⟩;erw[cz,Wi,Wj];calc aX λN2 jX=>?_;simp!;calc⟨n+70+4*j,↑qs,o',Y,Y,P',⋯,⋯,⋯,λr o1 r0 r1 P1=>?_⟩;let⟨rn,rfl⟩:∃rn:Nat,r=rn:=⟨r.toNat,⋯⟩;let hr:rn<↑qs:=by symm
  let ix:seqIndex? (rn:Int) ↑qs=U rn:=M6 hr;let eq:(qs.map dm)[rn]?=U (.tup [.int qs[rn].1,.int qs[rn].2]):=by rw[My,pU hr];rfl
  simp![ix,eq];calc⟨⟨⋯,⋯⟩,?_⟩;subst jX;calc aX λN2 jX=>?_;erw[aU,d2,c5];calc i0 λK3 lb=>?_;simp!;subst lb;calc i0 λK3 lb=>?_;simp!;calc⟨n+70+4*j+1,3,o1,Y,Y,P1,⋯,⋯,⋯,λa1 o2 UC UD P2=>?_⟩;simp!;subst lb;calc i0 λK3 lb=>?_;simp!;calc⟨⟨by decide,by decide,by decide⟩,n+70+4*j+1+1,2,o2,Y,Y,P2,⋯,⋯,⋯,λa2 o3 UE UG P3=>?_⟩;simp!;subst lb;calc i0 λK3 lb=>?_;simp!;refine⟨⟨by decide,by decide,by decide⟩,n+70+4*j+1+1+1,10 ^ Zg 9+1,o3,Y,Y,P3,⋯,by decide,by decide,λa3 o4 UH OO P4=>?_⟩
  simp!;subst lb;simp!;let e9:(10:Int) ^ Zg 9=1000000000:=by decide
  rw[e9] at OO ⊢
  let⟨pr,OP,OQ,OR⟩:∃pr:Int,dY [D.int 7,D.int a1,D.int (1000000000-a2),D.int a3] eX=U (.int pr)/\0<=pr/\pr<=1000000000:=by
   let:eX=0\/eX=1\/eX=2\/eX=3:=by symm
   rcases this with rfl|rfl|rfl|rfl
   .exact⟨7,Y,⋯,⋯⟩
   .exact⟨a1,Y,⋯,⋯⟩
   .exact⟨1000000000-a2,Y,⋯,⋯⟩
   .exact⟨a3,Y,⋯,⋯⟩
  rw[OP];show N2 _;subst jX;simp!;refine⟨⋯,hL _ ⟨qs.eraseIdx rn,ws++[(qs[rn].1,qs[rn].2,pr)],o4,?_,?_,?_,?_,P4.mono ⋯,?_⟩⟩
  .rw[List.length_eraseIdx_of_lt hr];symm
  .rw[Eh,hw];rfl
  .refine hp.perm ?_
   rw[Vq,Xe];calc List.Perm.append_left _ ?_;exact Ga hr
  .ext y oK
   rcases Vs.mp oK with h|h
   .exact hy y h
   .rw[Vu.mp h];exact⟨OQ,OR⟩
  .rw[Vq,Gb];rfl
 .ext δ ⟨qs,ws,o',hq,hw,hp,hy,P',rfl⟩
  calc⟨trivial,?_⟩;subst hN;simp!;rw[m9] at hw P';calc⟨[o'],Y,Y,?_⟩;refine fin (1+mm) ws o' ⟨⋯,⋯,⋯,λy oK=>?_,?_⟩ ⋯ ⋯ (P'.mono ⋯)
  .let:=hp.ends (nv y) (Wl _ (Vh.mpr ⟨y,oK,Y⟩))
   let h2:=hy y oK;erw[nv] at this;symm
  .calc (Yh.mp hp.mN).1
end LJ
namespace L2
open PySem PySem.Spec PyProof.Rows
variable[aV]
section
variable{X:Cx}{fa:WA}
end
end L2
namespace LJ
open PySem L2
variable[aV]
noncomputable def Ge:D->Bool
 |.int _=>θ
 |_=>ι
noncomputable def wD:D->Int->Int->Bool
 |.int i,lo,hi=>E (lo<=i)&&E (i<=hi)
 |_,_,_=>ι
noncomputable def wF:D->Int->Bool
 |.tup ds,n=>(↑ds:Int)==n
 |_,_=>ι
theorem gW{K:RV->-OV->Prop}{d:D}{sl:-(Option DV)}(h:K (.p d) []):gR 0 K (.p d) ⟨sl,[]⟩:=⟨[],Y,Y,h⟩
inductive AH (ys:-DV) (ar:-OV) (K:RV->-OV->Prop):Prop
 |mk (d) (_:ys=[.p d]) (_:ar=[]) (_:K (.p (.bl (Ge d))) [])
def AI:WS:=(aR (kn (d1 (aa 0) (c9 "int")) (zu (d1 (aa 0) (c9 "bool")))))
theorem OS:Sem 1 0 AH AI:=by
 ext ys ar K'-⟨d,rfl,rfl,k⟩;unfold AI;simp!;cases d<;>erw[cS,bu]<;>calc gW k
inductive ny (ys:-DV) (ar:-OV) (K:RV->-OV->Prop):Prop
 |mk (d) (lo) (hi) (_:ys=[.p d,.p (.int lo),.p (.int hi)]) (_:ar=[]) (_:K (.p (.bl (wD d lo hi))) [])
def AJ:WS:=(aR (kn (aF 1 AH (aq (aa 0) ak)) (Ac (aa 1) (aa 0) (aa 2) (oI λi j=>.bl (E (i<=j))) (oI λi j=>.bl (E (i<=j))))))
theorem OT:Sem 3 0 ny AJ:=by
 ext ys ar K'-⟨d,lo,hi,rfl,rfl,k⟩;unfold AJ;simp!;calc⟨d,Y,Y,?_⟩;cases d<;>simp![Ge,wD] at k ⊢ <;> first|exact gW k|skip
 rename_i i
 by_cases c:lo<=i
 .rw[Vk c] at k ⊢
  erw[Bool.true_and] at k;exact gW k
 .rw[Vd c] at k ⊢
  erw[ZP] at k;calc gW k
inductive wG (ys:-DV) (ar:-OV) (K:RV->-OV->Prop):Prop
 |mk (d) (n) (_:ys=[.p d,.p (.int n)]) (_:ar=[]) (_:K (.p (.bl (wF d n))) [])
def AK:WS:=(aR (kn (d1 (aa 0) (c9 "tuple")) (d2 (dN (aq (aa 0) ak) cB) (aa 1) oEq)))
theorem OU:Sem 2 0 wG AK:=by
 ext ys ar K'-⟨d,n,rfl,rfl,k⟩;unfold AK;simp!;cases d<;>simp![cS,bu,wF,aO] at k ⊢ <;> calc gW k
theorem jY{K:RV->-OV->Prop}{d:D}{sl:-(Option DV)}{mu:-(Option OV)}(h:K (.p d) []):gR 0 K (.p d) ⟨sl,mu⟩:=⟨[],Y,Y,h⟩
theorem AL:∀{ds:-D}{d:D},d∈ds->dep d<=bB ds
 |a::r,d,h=>by
  erw[bB];rcases Um.mp h with rfl|h
  .omega
  .let:=AL h;symm
theorem nA:bu "NoneType" "bool" = ι:=rfl
theorem nB:bu "NoneType" "int" = ι:=rfl
theorem nD:bu "NoneType" "str" = ι:=rfl
theorem nE:bu "NoneType" "tuple" = ι:=rfl
theorem nG:bu "NoneType" "list" = ι:=rfl
theorem lY:bu "bool" "bool" = θ:=rfl
theorem lZ:bu "bool" "int" = θ:=rfl
theorem l3:bu "bool" "str" = ι:=rfl
theorem l4:bu "bool" "tuple" = ι:=rfl
theorem l5:bu "bool" "list" = ι:=rfl
theorem lg:bu "int" "bool" = ι:=rfl
theorem lh:bu "int" "int" = θ:=rfl
theorem lj:bu "int" "str" = ι:=rfl
theorem lq:bu "int" "tuple" = ι:=rfl
theorem lr:bu "int" "list" = ι:=rfl
theorem kr:bu "str" "bool" = ι:=rfl
theorem ku:bu "str" "int" = ι:=rfl
theorem kx:bu "str" "str" = θ:=rfl
theorem ky:bu "str" "tuple" = ι:=rfl
theorem kz:bu "str" "list" = ι:=rfl
theorem nH:bu "tuple" "bool" = ι:=rfl
theorem nJ:bu "tuple" "int" = ι:=rfl
theorem nK:bu "tuple" "str" = ι:=rfl
theorem nL:bu "tuple" "tuple" = θ:=rfl
theorem nM:bu "tuple" "list" = ι:=rfl
theorem nN:bu "list" "bool" = ι:=rfl
theorem nP:bu "list" "int" = ι:=rfl
theorem nQ:bu "list" "str" = ι:=rfl
theorem nR:bu "list" "tuple" = ι:=rfl
theorem nU:bu "list" "list" = θ:=rfl
theorem AM:∀{as:-D}{d:D},d∈c8 as as->∃a,d=.tup [a,a]/\a∈as
 |[],d,h=>nomatch h
 |x::r,d,h=>by
  erw[c8] at h;rcases Um.mp h with rfl|h
  .exact⟨x,Y,Vc⟩
  .let⟨a,e,m⟩:=AM h
   calc⟨a,e,Us _ m⟩
theorem AN:∀l:-D,bB (l.map λ_=>D.bl θ)<=55
 |[]=>VT _
 |_::r=>by
  rw[Ve];let:=AN r;erw[bB,dep];symm
end LJ
namespace L2
open PySem PySem.Spec PyProof.Rows
variable[aV]
def Gf:-D->(D->Prop)->Prop:=λds K=>∃ps:-(Int×Int),ds=[.lst (ps.map λp=>.tup [.int p.1,.int p.2])]/\↑ps<=30/\(∀p∈ps,0<=p.1/\p.1<p.2/\p.2<12)/\ps.Nodup/\K (.int ↑ps)
section
variable{X:Cx}{fa:WA}
theorem OW{a:M}{p1 p2 q1 q2:y}(hc:X.calm=θ)(hu:X.A.units+64<cLine)(Ae:Gl X "len")(hl:X.mg "len" = Z)(Af:bootBuiltins "len" = U (.builtin "len"))(qt:Gl X "set")(hr:X.mg "set" = Z)(qu:bootBuiltins "set" = U (.type "set"))(ha:JA X [a] (cf fa))
  (he:starEach [a] X.env=[(ι,eval a X.env)]:=by rfl) (Ag:starEach [.Call (.Name "set" p2) [a] [] q2] X.env=[(ι,eval (.Call (.Name "set" p2) [a] [] q2) X.env)]:=by rfl):JE X (.Call (.Name "len" p1) [.Call (.Name "set" p2) [a] [] q2] [] q1) (tD (dN fa Gf)) :=
 (vv (M1) Ae hl Af (mM (pM (MW hc hu) qt hr qu ha (he:=he)) cY) (he:=Ag)).weak fun σ H Q ⟨F,ad,δ,K,S,q,k⟩=>⟨F,ad,δ,_,S,q,λxs δ1 h1 vs F1 aS H1 E1 S1 V1=>by
  let⟨ds,⟨ps,rfl,fq,bd,mN,h2⟩,qa⟩:=vR S1 V1 h1;let⟨v,rfl,a,vs,rfl,g1,g2⟩:=dP qa;let⟨as,rfl,hl,g⟩:=FZ g2;calc⟨a,as,ps,Y,bP.of g1,hl,λi b k' e1 e2=>S1.sub _ _ (g i b k' e1 e2),bd,mN,fq,λp hp=>⟨p,↑ps,Y,b7,⋯,?_⟩⟩;let s1:aN H1 (upd H1 p (kR p ↑ps)):=dh hp
  calc k _ _ h2 _ _ _ _ (E1.trans (Ext.al S1 s1)) (S1.al s1) Y⟩
end
end L2
namespace LJ
open PySem L2
variable[aV]
theorem rJ{i lo hi:Int}(h:lo<=i)(h':i<=hi):wD (.int i) lo hi=θ:=by
 show(E (lo<=i)&&E (i<=hi))=θ;rw[Vk h,Vk h'];rfl
inductive AO (ys:-DV) (ar:-OV) (K:RV->-OV->Prop):Prop
 |mk (m i j:Int) (_:ys=[.p (.int m),.p (.int i),.p (.int j)]) (_:ar=[]) (_:0<=i) (_:i<j) (_:j<m) (_:K (.p (.bl θ)) [])
def AQ:WS:=(aR (kn (aF 3 ny (aq (aa 1) (aq (dC (.int 0)) (aq (d2 (aa 0) (dC (.int 1)) (oI λi j=>.int (i-j))) ak)))) (aF 3 ny (aq (aa 2) (aq (d2 (aa 1) (dC (.int 1)) cQ) (aq (d2 (aa 0) (dC (.int 1)) (oI λi j=>.int (i-j))) ak))))))
theorem OX:Sem 3 0 AO AQ:=by
 ext ys ar K'-⟨m,i,j,rfl,rfl,h1,h2,h3,k⟩;unfold AQ;simp!;calc⟨.int i,0,m-1,Y,Y,?_⟩;rw[rJ h1 ⋯];simp!;calc⟨.int j,i+1,m-1,Y,Y,?_⟩;rw[rJ ⋯ ⋯];simp!;calc gW k
structure Gg(m:Int)(y:Int×Int×Int):Prop where
 low:0<=y.1
 up:y.1<y.2.1
 most:y.2.1<m
 pr:0<=y.2.2/\y.2.2<=1000000000
inductive AR (ys:-DV) (ar:-OV) (K:RV->-OV->Prop):Prop
 |mk (m) (y) (_:Gg m y) (_:ys=[.p (.int m),.p (aY y)]) (_:ar=[]) (_:K (.p (.bl θ)) [])
def AS:WS:=(az (bC (eV (dT (aF 2 wG (aq (aa 1) (aq (dC (.int 3)) ak))))) (aR (dC (.bl ι))) di) (aR (kn (aF 3 AO (aq (aa 0) (aq (d2 (aa 1) (dC (.int 0)) bg) (aq (d2 (aa 1) (dC (.int 1)) bg) ak)))) (aF 3 ny (aq (d2 (aa 1) (dC (.int 2)) bg) (aq (dC (.int 0)) (aq (dC (.int 1000000000)) ak)))))))
theorem OY:Sem 2 0 AR AS:=by
 ext ys ar K'-⟨m,y,W,rfl,rfl,k⟩;unfold AS;calc aX λN hN=>?_;simp!;calc⟨aY y,3,Y,Y,?_⟩;rw[show wF (aY y) 3=θ from Y];simp!;subst hN;simp![aY,dj,c_,at2];calc⟨m,_,_,Y,Y,W.low,W.up,W.most,?_⟩;simp!;calc⟨_,0,1000000000,Y,Y,?_⟩;rw[rJ W.pr.1 W.pr.2];simp!;calc gW k
theorem bz.way{m:Int}{ws:-(Int×Int×Int)}(W:bz m ws){y:Int×Int×Int}(h:y∈ws):Gg m y :=
 let⟨a,b,c,d,e⟩:=W.ends y h
 ⟨a,⋯,⋯,d,e⟩
inductive AU (ys:-DV) (ar:-OV) (K:RV->-OV->Prop):Prop
 |mk (m) (ws) (_:bz m ws) (_:ys=[.p (.int m),.p (.tup (ws.map aY))]) (_:ar=[]) (_:K (.p (.bl θ)) [])
def AV:WS:=(az (bC (oT (eV (dT (d1 (aa 1) (c9 "tuple")))) (dT (d2 (dN (aq (aa 1) ak) cB) (dC (.int 30)) (oI λi j=>.bl (E (j<i)))))) (aR (dC (.bl ι))) di) (az (bC (eV (dT (dN (aq (gF (cM (aa 1)) [Z,U 0] (cz 0) dH (aF 2 AR (aq (aa 1) (aq (aa 0) ak)))) ak) ni))) (aR (dC (.bl ι))) di) (aR (d2 (dN (aq (gF (cM (aa 1)) [Z] (cz 0) dH (gx (aa 0) gU (kZ (dC (.int 2))))) ak) Gf) (dN (aq (aa 1) ak) cB) oEq))))
theorem OZ:Sem 2 0 AU AV:=by
 ext ys ar K'-⟨m,ws,W,rfl,rfl,k⟩;let i7:=W.fq;let lR:=W.lR;unfold AV;calc aX λN hN=>?_;simp![cS,show bu "tuple" "tuple" = θ from rfl];rw[U9 (by rw[Vd ⋯];decide)];subst hN;calc aX λN hN=>?_;simp!;refine k9 (λ_=>.bl θ) (by rw[pV];symm) trivial ?_ ?_
 .ext d hd acc L ha h
  let⟨y,hy,rfl⟩:=Vh.mp hd;simp!;calc⟨m,y,W.way hy,rfl,rfl,?_⟩;simp!;exact⟨ha,h⟩
 rw[show(ws.map aY).map (λ_=>D.bl θ)=(ws.map λ_=>θ).map D.bl by rw[Vv,Vv];rfl];simp![FE];rw[show(ws.map λ_=>θ).all id=θ from Wk.mpr λb hb=>by let⟨_,_,rfl⟩:=Vh.mp hb;rfl];simp!;subst hN;simp!
 refine k9 (λd=>match d with
  |.tup [a,b,_]=>.tup [a,b]
  |_=>.non) (by rw[pV];symm) trivial ?_ ?_
 .ext d hd acc L ha h
  let⟨y,hy,rfl⟩:=Vh.mp hd;let ec:cutD [D.int y.1,D.int y.2.1,D.int y.2.2] Z (U 2)=[D.int y.1,D.int y.2.1]:=by unfold cutD;rfl
  simp![aY,ec] at h ⊢;exact⟨ha,h⟩
 simp!;refine⟨ws.map nv,by rw[Vv,Vv];rfl,by rw[pV];calc i7,λp hp=>?_,W.unlike,?_⟩
 .let⟨y,hy,rfl⟩:=Vh.mp hp
  let Y:=W.way hy;let:=Y.most;exact⟨Y.low,Y.up,by show y.2.1<12;symm⟩
 rw[pV];simp![aO];calc gW k
inductive AW (ys:-DV) (ar:-OV) (K:RV->-OV->Prop):Prop
 |mk (m) (ws) (_:bz m ws) (_:ys=[.p (aQ m ws)]) (_:ar=[]) (_:K (.p (.bl θ)) [])
def AX:WS:=(az (bC (eV (dT (aF 2 wG (aq (aa 0) (aq (dC (.int 2)) ak))))) (aR (dC (.bl ι))) di) (aR (kn (aF 3 ny (aq (d2 (aa 0) (dC (.int 0)) bg) (aq (dC (.int 1)) (aq (dC (.int 12)) ak)))) (aF 2 AU (aq (d2 (aa 0) (dC (.int 0)) bg) (aq (d2 (aa 0) (dC (.int 1)) bg) ak))))))
theorem O3:Sem 1 0 AW AX:=by
 ext ys ar K'-⟨m,ws,W,rfl,rfl,k⟩;unfold AX;calc aX λN hN=>?_;simp!;calc⟨aQ m ws,2,Y,Y,?_⟩;rw[show wF (aQ m ws) 2=θ from Y];simp!;subst hN;simp![aQ,dj,c_];calc⟨.int m,1,12,Y,Y,?_⟩;rw[rJ W.m1 W.lR];simp!;calc⟨m,ws,W,Y,Y,?_⟩;simp!;calc gW k
noncomputable def bT(ns:-Int):D:=.lst (ns.map D.int)
noncomputable def l6(fs:-Int)(i j:Nat):-Int:=fs.map λx=>if x=max (fs.getD i 0) (fs.getD j 0) then min (fs.getD i 0) (fs.getD j 0) else x
theorem Gh(fs:-Int)(i j:Nat):↑(l6 fs i j)=fs.length:=by unfold l6;rw[pV]
theorem uy{ns:-Int}{i:Nat}(h:i<↑ns):dY (ns.map D.int) (i:Int)=U (.int (ns.getD i 0)):=by
 calc ji ?_;rw[My,pU h,Mg,pU h];rfl
theorem eY{K:RV->-OV->Prop}{d:D}{sl:-(Option DV)}{mu:-(Option OV)}(h:K (.p d) []):gR 0 K (.p d) ⟨sl,mu⟩:=⟨[],Y,Y,h⟩
inductive uz (ys:-DV) (ar:-OV) (K:RV->-OV->Prop):Prop
 |mk (fs:-Int) (i j:Nat) (_:ys=[.p (bT fs),.p (.int i),.p (.int j)]) (_:ar=[]) (_:i<fs.length) (_:j<fs.length) (_:fs.length<=12) (_:K (.p (bT (l6 fs i j))) [])
def AY:WS:=(az (aU 3 (dN (aq (d2 (aa 0) (aa 1) bg) (aq (d2 (aa 0) (aa 2) bg) ak)) we)) (az (aU 4 (dN (aq (d2 (aa 0) (aa 1) bg) (aq (d2 (aa 0) (aa 2) bg) ak)) rB)) (aR (gF (cM (aa 0)) [Z,U 4,U 3] (cz 0) dH (rh (dT (d2 (aa 0) (aa 2) oEq)) (aa 1) (aa 0))))))
theorem O4:Sem 3 2 uz AY:=by
 ext ys ar K'-⟨fs,i,j,rfl,rfl,hi,hj,OM,k⟩;let a1:=uy hi;let a2:=uy hj;unfold AY bT;calc aX λN hN=>?_;simp![a1,a2];subst hN;calc aX λN hN=>?_;simp![a1,a2];subst hN;simp!
 refine k9 (λd=>match d with
  |.int x=>.int (if x=max (fs.getD i 0) (fs.getD j 0) then min (fs.getD i 0) (fs.getD j 0) else x)
  |_=>.non) (by rw[pV];symm) trivial ?_ ?_
 .ext d hd acc L ha h
  let⟨x,_,rfl⟩:=Vh.mp hd;simp!;cases q:aO (.int x) (.int (max (fs.getD i 0) (fs.getD j 0)))
  .let:¬ x=max (fs.getD i 0) (fs.getD j 0):=λz=>by rw[z,gb] at q;cases q
   erw[this,Xo] at h;exact⟨ha,h⟩
  .let:x=max (fs.getD i 0) (fs.getD j 0):=by erw[aO] at q;exact Wr q
   erw[this,Yu] at h;exact⟨ha,h⟩
 .refine eY ?_
  let e:(fs.map D.int).map (λd=>match d with
   |.int x=>D.int (if x=max (fs.getD i 0) (fs.getD j 0) then min (fs.getD i 0) (fs.getD j 0) else x)
   |_=>.non)=(l6 fs i j).map D.int:=by
   unfold l6;rw[Vv,Vv];rfl
  rw[e];calc k
noncomputable def fz(ws:-(Int×Int×Int))(n:Int):Nat×Nat:=((ws.getD n.toNat (0,0,0)).1.toNat,(ws.getD n.toNat (0,0,0)).2.1.toNat)
noncomputable def lu(ws:-(Int×Int×Int))(fs:-Int)(ns:-Int):-Int:=ns.foldl (λfs n=>l6 fs (fz ws n).1 (fz ws n).2) fs
theorem Gi(ws:-(Int×Int×Int)):∀(ns:-Int)(fs:-Int),↑(lu ws fs ns)=fs.length
 |[],fs=>Y
 |n::r,fs=>by
  show↑(lu ws (l6 fs _ _) r)=_;rw[Gi ws r,Gh]
noncomputable def AZ(m:Int)(ws:-(Int×Int×Int))(ns:-Int):-Int:=lu ws (bX m.toNat) ns
def Nums(ws:-(Int×Int×Int))(ns:-Int):Prop:=∀n∈ns,0<=n/\n<(↑ws:Int)
theorem nV{m:Int}{ws:-(Int×Int×Int)}(W:bz m ws){n:Int}(h0:0<=n)(h1:n<(↑ws:Int)):∃y,ws.getD n.toNat (0,0,0)=y/\y∈ws/\dY (ws.map aY) n=U (aY y)/\∃i j:Nat,y.1=i/\y.2.1=j/\i<m.toNat/\j<m.toNat/\i<j:=by
 let⟨k,rfl⟩:∃k:Nat,n=k:=⟨n.toNat,⋯⟩;let hk:k<↑ws:=by symm
 refine⟨ws[k],?_,Wx hk,ji ?_,?_⟩
 .rw[Vt,Mg,pU hk];rfl
 .rw[My,pU hk];rfl
 .let⟨a,b,c,_,_⟩:=W.ends _ (Wx hk)
  calc⟨ws[k].1.toNat,ws[k].2.1.toNat,⋯,⋯,⋯,⋯,⋯⟩
inductive A0 (ys:-DV) (ar:-OV) (K:RV->-OV->Prop):Prop
 |mk (m:Int) (ws:-(Int×Int×Int)) (ns:-Int) (_:bz m ws) (_:Nums ws ns) (_:((ys=[.p (aQ m ws),.p (bT ns)]/\ar=[]/\K (.p (bT (AZ m ws ns))) [])\/(ys=[.p (aQ m ws),.o 0]/\ar=[.lst (ns.map D.int)]/\K (.p (bT (AZ m ws ns))) [.lst (ns.map D.int)])))
def wH:WS:=(az (aU 2 (Ad (aq (d2 (aa 0) (dC (.int 0)) bg) ak))) (az (fR (cM (aa 1)) (cz 3) (az (aU 4 (d2 (d2 (aa 0) (dC (.int 1)) bg) (aa 3) bg)) (aU 2 (aF 3 uz (aq (aa 2) (aq (d2 (aa 4) (dC (.int 0)) bg) (aq (d2 (aa 4) (dC (.int 1)) bg) ak))))))) (aR (aa 2))))
theorem O5:Sem 2 3 A0 wH:=by
 ext ys ar K'-⟨m,ws,ns,W,hn,h⟩;let m1:=W.m1;let lR:=W.lR;let il:↑(bX m.toNat)=m.toNat:=by unfold bX;simp
 let core:∀(x:DV)(mu:-(Option OV))(bL:aG->Prop)(K:KS),(∀sl,bL ⟨sl,mu⟩)->(∀fs,fs=AZ m ws ns->K.nx ⟨[U (.p (aQ m ws)),U x,U (.p (bT fs)),Z,Z],mu⟩)->((∃d,x=.p d)\/∃k,x=.o k/\k<↑mu) →
   kW ⟨[U (.p (aQ m ws)),U x,U (.p (bT (bX m.toNat))),Z,Z],mu⟩ bL (cz 3) (az (aU 4 (d2 (d2 (aa 0) (dC (.int 1)) bg) (aa 3) bg)) (aU 2 (aF 3 uz (aq (aa 2) (aq (d2 (aa 4) (dC (.int 0)) bg) (aq (d2 (aa 4) (dC (.int 1)) bg) ak)))))) K (ns.map D.int) ⟨[U (.p (aQ m ws)),U x,U (.p (bT (bX m.toNat))),Z,Z],mu⟩:=by
  ext x mu bL K hc hK hx;refine qy (λi δ=>δ=⟨[U (.p (aQ m ws)),U x,U (.p (bT (lu ws (bX m.toNat) (ns.take i)))),Z,Z],mu⟩) Y ?_ ?_
  .ext j d δ L hj rfl hL
   rw[My] at hj;let⟨n,qA,rfl⟩:=Va.mp hj;let⟨n0,n1⟩:=hn n (Vw qA);let⟨y,ey,hy,ea,i,k,e1,e2,h1,h2,_⟩:=nV W n0 n1;calc⟨hc _,?_⟩;erw[cz,Wi,Wj];calc aX λN hN=>?_;simp![c_,aQ,ea];subst hN;simp![dj,c_,aY];let hlen:↑(lu ws (bX m.toNat) (ns.take j))=m.toNat:=by rw[Gi,il]
   refine⟨lu ws (bX m.toNat) (ns.take j),i,k,by rw[e1,e2],Y,⋯,⋯,⋯,?_⟩
   let ej:l6 (lu ws (bX m.toNat) (ns.take j)) i k=lu ws (bX m.toNat) (ns.take (j+1)):=by
    let:ns.take (j+1)=ns.take j++[n]:=by rw[Yl,qA];rfl
    rw[this];unfold lu;rw[q0Q];show _=l6 _ (fz ws n).1 (fz ws n).2
    let:fz ws n=(i,k):=by
     unfold fz;rw[ey,e1,e2,Vt,Vt]
    rw[this]
   rw[ej]
   let eq:(aG.trim ⟨[U (.p (aQ m ws)),U x,U (.p (bT (bX m.toNat))),Z,Z],mu⟩ ⟨[U (.p (aQ m ws)),U x,U (.p (bT (lu ws (bX m.toNat) (ns.take (j+1))))),U (.p (.int n)),U (.p (aY y))],mu⟩)=⟨[U (.p (aQ m ws)),U x,U (.p (bT (lu ws (bX m.toNat) (ns.take (j+1))))),Z,Z],mu⟩:=by
    unfold aG.trim;rw[Ze];rcases hx with⟨d,rfl⟩|⟨q,rfl,this⟩
    .rfl
    .erw[gv,vZ,this,Yu]
   let:=hL _ Y;rw[<-eq] at this;exact this
  .ext δ rfl
   rw[pV,VO (yT _)];exact⟨hc _,hK _ Y⟩
 let rg:c7 0 m.toNat=(bX m.toNat).map D.int:=uk m.toNat;rcases h with⟨rfl,rfl,k⟩|⟨rfl,rfl,k⟩
 .unfold wH
  calc aX λN hN=>?_;simp![dj,aQ];calc⟨⟨⋯,⋯⟩,?_⟩;subst hN;rw[rg];calc aX λN hN=>uw λg' b' K2 hg hb' hK=>?_;simp![bT];subst hg hb' hK;calc core (.p (bT ns)) [] _ _ (λ_=>trivial) (λfs e=>?_) (.inl ⟨_,Y⟩);subst e;show N _;subst hN;simp!;exact eY k
 .unfold wH
  calc aX λN hN=>?_;simp![dj,aQ];calc⟨⟨⋯,⋯⟩,?_⟩;subst hN;rw[rg];calc aX λN hN=>uw λg' b' K2 hg hb' hK=>?_;simp!;subst hg hb' hK;calc core (.o 0) [U (.lst (ns.map D.int))] _ _ (λ_=>Y) (λfs e=>?_) (.inr ⟨0,Y,Nat.zero_lt_one⟩);subst e;show N _;subst hN;simp!;calc⟨[.lst (ns.map D.int)],Y,Y,k⟩
theorem Gk{n:Nat}{z:Int}(h:z∈bX n):0<=z/\z<(n:Int):=by
 unfold bX at h;let⟨i,hi,rfl⟩:=Vh.mp h;let:=VP.mp hi;simp;symm
theorem Gm(n:Nat):(bX n).Nodup:=by
 unfold bX;calc Xf.mpr (Yp.imp λ{a b} ne e=>ne ?_);calc Z6 e
theorem rK{H:Hp}{a:O}{o:HO}(h:H a=Z):aN H (upd H a o):=λb u e=>by rw[bf (dF e h)];calc e
structure wI(H:Hp)(p c:O)(at_ z:Int):Prop where
 lst:H p=U (.lst [.ref c,.int at_,.int z])
 cells:∃ns:-Int,H c=U (.lst (ns.map V.int))/\↑ns<=63
 pos:0<=at_
theorem wI.ne{H:Hp}{p c:O}{k z:Int}(P:wI H p c k z):c≠p:=by
 let⟨ns,h,_⟩:=P.cells;ext e;subst e;rw[P.lst] at h;let h':=Vm h;injection h' with q9
 cases ns with
 |nil=>cases q9
 |cons n r=>injection q9 with h1 _;cases h1
theorem O6{ns:-Int}{k:Int}(h0:0<=k)(h1:k<(↑ns:Int)):∃n,dY (ns.map V.int) k=U (.int n):=by
 let⟨i,rfl⟩:∃i:Nat,k=i:=⟨k.toNat,⋯⟩;let hi:i<↑ns:=by symm
 calc⟨ns[i],ji ?_⟩;rw[My,pU hi];rfl
def Gn(K:Ee):Sp:=λvs H Q _=>∃(a:O)(ns:-Int),vs=[.ref a]/\bP K H a (ns.map V.int)/\↑ns<=63/\∀(p c:O)(H':Hp),aN H H'->H p=Z->wI H' p c 0 0->Q (.ref p) H'
def uA(K:Ee):Sp:=λvs H Q _=>∃(a:O)(ns:-Int),vs=[.ref a]/\bP K H a (ns.map V.int)/\↑ns<=63/\aV.ok H/\∀H',Q (.bl θ) H'
theorem A1(ns:-Int)(lo hi:Option Int):dz (ns.map V.int) lo hi=((ns.drop (HT.bI ↑ns 0 lo)).take (HT.bI ↑ns ↑ns hi-HT.bI ↑ns 0 lo)).map V.int:=by
 unfold dz;rw[pV,Z9,Z_]
theorem O7{H:Hp}{p c a:O}{n:Nat}(hT:aV.ok H)(N:wI H p c 0 0):∃(F:Hp)(ns:-Int),↑ns<=63/\SR F [p] ⟨Z::U (.o 0)::Ul n Z,[U (.lst [.lst (ns.map D.int),.int 0,.int 0])]⟩ (U (.ref a)::U (.ref p)::Ul n Z) H:=by
 let⟨ns,hc,hn⟩:=N.cells;let ne:=N.ne
 let cn:∀{b:O},((∃ps,H b=U (.tbl ps))\/∃vs,H b=U (.lst vs))->aV.cs b=Z:=λ{b} h=>by
  cases q:aV.cs b with
  |none=>rfl
  |some o =>
   let⟨vs,rfl⟩:=aV.ct q;let:=aV.co hT _ _ q;rcases h with⟨_,h⟩|⟨_,h⟩<;>rw[this] at h<;>cases h
 refine⟨upd aV.cs c (.lst (ns.map V.int)),ns,hn,⟨λb o e=>?_,λb ⟨k,ov,e1,e2⟩=>?_,Y,λk l a ov ow e1 e2 _ _=>?_,λk ov e=>?_,λi x e=>?_,by simp,hT,⟨λb hb=>by
  let⟨ps,q⟩:=aV.tb hT hb;rw[bf λz=>by subst z;rw[hc] at q;cases q]
  calc cn (ZL ⟨ps,q⟩),λb o e=>by rw[bf λz=>by subst z;rw[cn (ZM ⟨_,hc⟩)] at e;cases e];calc e⟩⟩⟩
 .by_cases z:b=c
  .subst z;rw[b7] at e;cases e;exact hc
  .rw[bf z] at e;exact aV.co hT _ _ e
 .cases k with
  |zero=>cases(show U p=U b by simpa using e1);rw[bf (Xx ne)];exact cn (ZM ⟨_,N.lst⟩)
  |succ k=>simp at e1
 .cases k with
  |zero =>
   cases l with
   |zero=>rfl
   |succ l=>simp at e2
  |succ k=>simp at e1
 .cases k with
  |zero =>
   cases(show OV.lst [.lst (ns.map D.int),.int 0,.int 0]=ov by simpa using e)
   calc⟨p,_,Y,N.lst,_,Y,?_⟩;calc .cons ?_ (.cons Y (.cons Y .nil));erw[Is];exact⟨c,_,Y,b7,rp⟩
  |succ k=>simp at e
 .cases i with
  |zero=>simp at e
  |succ i =>
   cases i with
   |zero =>
    cases(show DV.o 0=x by simpa using e)
    exact⟨_,Y,p,Y,Y⟩
   |succ i =>
    exfalso;let e:(Ul n (Z:Option DV))[i]?=U (U x):=by simpa using e
    rw[X8] at e;split at e<;>cases e
theorem O8{B:WS}{F:Hp}{ad:-O}{δ:aG}{σ:St}{H:Hp}{Q:VK}(S:SR F ad δ σ H)(h:B ⟨λ_=>False,λx _=>x=.p (.bl θ),λ_=>False,λ_=>False⟩ δ)(q:∀H',Q (.bl θ) H'):dG B {nx:=λ_ H'=>Q .non H',rt:=Q} σ H :=
 ⟨F,ad,δ,_,S,h,⟨fun δ' h=>h.elim,fun δ' h=>h.elim,fun δ' h=>h.elim,λx δ' h v F' aE σ' H' E' S' V=>by
  let h:x=.p (.bl θ):=h;subst h;let V:v=.bl θ:=V;subst V
  calc q H',trivial⟩⟩
end LJ
namespace L2
open PySem PySem.Spec PyProof.Rows
def A3(Ts:-(O×Array L))(H:Hp):Prop:=∀b,(∃ps,Ts.lookup b=U ps/\H b=U (.tbl ps))\/(Ts.lookup b=Z/\(H b=Z\/(∃o xs,H b=U (.frz o (.lst xs)))\/∃xs,H b=U (.tup xs)))
noncomputable def dQ(cs H:Hp):Hp:=λb=>match cs b with
 |none=>H b
 |some _=>Z
theorem A4{cs H:Hp}{b:O}{u:HO}(h:dQ cs H b=U u):cs b=Z/\H b=U u:=by
 unfold dQ at h
 cases q:cs b with
 |none=>rw[q] at h;exact⟨Y,h⟩
 |some o=>rw[q] at h;cases h
noncomputable def kA(cs H:Hp):Hp:=λb=>match cs b with
 |none=>H b
 |some o=>U o
theorem oZ{cs H:Hp}{b:O}(h:cs b=Z):kA cs H b=H b:=by unfold kA;rw[h]
theorem wJ{cs H:Hp}{b:O}{o:HO}(h:cs b=U o):kA cs H b=U o:=by unfold kA;rw[h]
structure Cs(P:l)(w:g)(cs:Hp)(h:I):Prop where
 ct:∀{b:O}{o:HO},cs b=U o->∃xs,o=.tup xs
 ok:∀{b:O}{xs:-V},cs b=U (.tup xs)->↑xs<=sizeLine/\∃au:-L,Vals xs au/\IsTup h b au.toArray
theorem Cs.no{P:l}{w:g}{cs:Hp}{h:I}(C:Cs P w cs h){b:O}{u:Q}(e:h.get? b=U u)(n:u.cls≠.type "tuple"):cs b=Z:=by
 cases q:cs b with
 |none=>rfl
 |some o =>
  let⟨xs,rfl⟩:=C.ct q;let⟨_,au,_,hI⟩:=C.ok q;let⟨o,e1,r⟩:=hI;rw[e] at e1;cases e1;calc absurd r.1 n
theorem O9{P:l}{w:ω}{K:Ee}{mg mb:J->Option L}{CX:kg}{k:Nat}{fa a:O}{fd:FuncData}{x:J}{sp:Sp}{s₁:B}{vs:-L}{ns:-Int}(Ts:-(O×Array L)){cs:Hp}(hC:Cs P w cs s₁.heap)
  (hT:∀b ps,Ts.lookup b=U ps->s₁.heap.get? b=U {cls:=.none,data:=.fields ps}/\isCodeTable s₁.heap b/\K.lookup b=Z)
  (KX:K.In s₁.heap) (uB:s₁.heap.Ns mainGlobals mg) (hb:s₁.heap.Ns builtinsNs mb) (O_:∀x:J,x≠"__name__" -> mb x=bootBuiltins x) (A5:s₁.heap.NoLimit) (hg:s₁.gens = #[])
  (ha:s₁.heap.get? a=U {cls:=.type "list",data:=.seq vs.toArray}) (hi:IntsAre vs ns) (hl:↑ns<=sizeLine) (hr:bc k callerA)
  (hB:∃bm ob,mg "__builtins__" = U (.ref bm)/\bm≠builtinsNs/\s₁.heap.get? bm=U ob/\ob.cls=.type "module" /\ ob.dict=U builtinsNs/\ob.data=.plain)
  (F:∀base:I,K.In base->base.Ns mainGlobals mg->(∀b ps,Ts.lookup b=U ps->base.BuiltinsAt mg b)->bY P w K mg base CX k fa fd [x] sp) (uC:∀(s:B)(u:L),BindsTo s fd ⟨[u],[]⟩ [(x,u)])
  (oF:∀H:Hp,A3 Ts H->aN cs H->bP K H a (ns.map V.int)->sp [.ref a] H (λv _=>v=.bl θ) λ_ _ _=>False)
  (A6:∀H e s',CX [] H s₁ (λ_ _ _=>False) e s'->False) :
  codeAny (S P w) callerA (.call (.ref fa) ⟨[.ref a],[]⟩) (λr s'=>r=.ok (.ret (.bool θ))/\OldK s₁.heap s'.heap/\s'.os=s₁.os/\AllBare s'.gens) s₁:=by
 let rv:=Ed hi;let A7:=↑hi
 let aT:Ts.lookup a=Z:=by
  cases q:Ts.lookup a with
  |none=>rfl
  |some ps =>
   let:=(hT a ps q).1;rw[ha] at this;let z:=congrArg Obj.cls (Vm this);cases(show X1 "list" = VM from z)
 let aC:cs a=Z:=hC.no ha (show X1 "list" ≠ X1 "tuple" by decide)
 let tC:∀{b ps},Ts.lookup b=U ps->cs b=Z:=λ{b ps} t=>hC.no (hT b ps t).1 nofun
 let core:∀H:Hp,A3 Ts H->aN cs H->bP K H a (ns.map V.int)->d7 P w H s₁.heap->(∀b,Ts.lookup b=Z->cs b=Z->H b≠Z->b=a)->(H a≠Z->K.lookup a=Z) →
   codeAny (S P w) callerA (.call (.ref fa) ⟨[.ref a],[]⟩) (λr s'=>r=.ok (.ret (.bool θ))/\OldK s₁.heap s'.heap/\s'.os=s₁.os/\AllBare s'.gens) s₁:=by
  ext H hO rL hS ba Pd hK
  let hA:∀b,Ts.lookup b=Z->dQ cs H b≠Z->b=a:=λb t n=>by
   cases q:dQ cs H b with
   |none=>exact absurd q n
   |some u=>exact Pd b t (A4 q).1 (by rw[(A4 q).2];simp)
  let gX:∀{b:O}{o:Q},s₁.heap.get? b=U o->dQ cs H b=Z->(gh s₁.heap (dQ cs H)).get? b=U o:=λe n=>JO e n
  let mG:∀{b:O}{o:Q}{es:Array DictEntry}{ep:Nat},s₁.heap.get? b=U o->o.data=.dict es ep->dQ cs H b=Z:=λ{b o es ep} e d=>by
   cases q:dQ cs H b with
   |none=>rfl
   |some u =>
    cases t:Ts.lookup b with
    |some ps =>
     let:=(hT b ps t).1;rw[e] at this;cases this;cases d
    |none =>
     let e':b=a:=hA b t (by rw[q];simp);subst e';rw[ha] at e;cases e;let d':Data.seq vs.toArray _=Data.dict es ep:=d;cases d'
  let wK:∀{b:O}{m:J->Option L},s₁.heap.Ns b m->(gh s₁.heap (dQ cs H)).Ns b m:=λ{b m} ⟨o,es,ep,e,d,r⟩=>⟨o,es,ep,gX e (mG e d),d,r⟩
  let Gp:K.In (gh s₁.heap (dQ cs H)):=λb o e=>gX (KX b o e) (by
   cases q:dQ cs H b with
   |none=>rfl
   |some u =>
    cases t:Ts.lookup b with
    |some ps=>rw[(hT b ps t).2.2] at e;cases e
    |none =>
     let e':b=a:=hA b t (by rw[q];simp);subst e'
     rw[hK (by rw[(A4 q).2];simp)] at e;cases e)
  let Pe:∀b ps,Ts.lookup b=U ps->(gh s₁.heap (dQ cs H)).BuiltinsAt mg b:=λb ps t=>by
   let⟨bm,ob,b1,b2,b3,b4,b5,b6⟩:=hB;refine⟨bm,ob,b1,b2,λz=>?_,λz=>?_,gX b3 ?_,b4,b5,b6⟩
   .let⟨o,es,ep,e1,e2,_⟩:=uB
    rw[z,e1] at b3;cases b3;rw[e2] at b6;cases b6
   .let:=(hT b ps t).1
    rw[z,this] at b3;cases b3;cases b6
   .cases q:dQ cs H bm with
    |none=>rfl
    |some u =>
     cases t':Ts.lookup bm with
     |some cW =>
      let:=(hT bm cW t').1;rw[b3] at this;cases this;cases b6
     |none =>
      let e':bm=a:=hA bm t' (by rw[q];simp);rw[e',ha] at b3;cases b3;cases b6
  let hM:Mod K mg (gh s₁.heap (dQ cs H)):=⟨Gp,wK uB,⟨mb,wK hb,O_⟩,let⟨mc,h1,h2⟩:=A5;⟨mc,wK h1,h2⟩⟩
  let e0:iS P w K mg (gh s₁.heap (dQ cs H)) callerA [] s₁ H:=⟨Y,hM,λb o e=>⟨(Dp e).1,by
   let z:=(Dp e).2;unfold dQ at z
   cases q:cs b with
   |none=>rw[q] at z;exact .inl z
   |some u =>
    let⟨xs,rfl⟩:=hC.ct q
    calc .inr ⟨xs,rL b _ q⟩⟩,Zo (JN _ _),trivial,λb hb=>absurd (show b∈([]:-O) from hb) (by simp),ba,.of_eq hg⟩
  refine Yd ((F _ Gp (wK uB) Pe).run callerA [] s₁ H ⟨[.ref a],[]⟩ [.ref a] [.ref a] _ _ hr e0 (uC s₁ (.ref a)) (.cons Y .nil) (oF H hO rL hS)) λr s' h=>?_
  cases r with
  |error e=>exact(A6 H e s' h).elim
  |ok fl =>
   cases fl with
   |next=>exact VW h
   |brk=>exact VW h
   |cont=>exact VW h
   |ret u =>
    let⟨v,H',os,bare,un,uD,r',q⟩:=h;let q':v=.bl θ:=q;subst q';obtain rfl:u=XJ θ:=r'
    let all:∀b o,s₁.heap.get? b=U o->asItWas s₁.heap s'.heap b o/\∃o',s'.heap.get? b=U o':=λb o e=>by
     rcases hO b with⟨ps,t,z⟩|⟨t,z|⟨ob,xs,z⟩|⟨xs,z⟩⟩
     .let⟨more,z2⟩:=un.gg b ps z
      let e2:s'.heap.get? b=U {cls:=.none,data:=.fields (ps++more)}:=uD b _ z2;let e1:=(hT b ps t).1;rw[e] at e1;cases e1;exact⟨.inr (.inl ⟨(hT b ps t).2.1,Y,ps,more,Y,e2⟩),_,e2⟩
     .let e2:=un.keep b o e z (by ext z;calc absurd (show b∈([]:-O) from z) (by simp)) (by simp)
      exact⟨.inl e2,_,e2⟩
     .let z2:=un.gf b ob _ z
      let⟨e1,_⟩:=ba b _ z;let⟨e2,_⟩:=uD b _ z2;rw[e] at e1;cases e1;exact⟨.inl e2,_,e2⟩
     .let e2:=un.fL b xs o z e (by simp)
      exact⟨.inl e2,_,e2⟩
    exact⟨Y,⟨λb o e=>(all b o e).1,λb o e=>(all b o e).2⟩,os,bare⟩
 let o7:∀(H:Hp) b ps,Ts.lookup b=U ps->aZ P w H s₁.heap b (.tbl ps):=λH b ps t=>(hT b ps t).1
 let one:∀{b:O}{R:Prop},(∀o,cs b=U o->R)->(cs b=Z->R)->R:=λ{b R} f g=>by
  cases q:cs b with
  |none=>exact g q
  |some o=>exact f o q
 let Gq:∀{H:Hp}{b:O}{o u:HO},cs b=U o->kA cs H b=U u->aZ P w (kA cs H) s₁.heap b u:=λ{H b o u} q z=>by
  rw[wJ q] at z;cases z;let⟨xs,rfl⟩:=hC.ct q;exact hC.ok q
 let cO:∀{H:Hp}{b:O}{o:HO},cs b=U o->(∃ps,Ts.lookup b=U ps/\kA cs H b=U (.tbl ps))\/(Ts.lookup b=Z/\(kA cs H b=Z\/(∃o xs,kA cs H b=U (.frz o (.lst xs)))\/∃xs,kA cs H b=U (.tup xs))):=λ{H b o} q=>by
  let⟨xs,rfl⟩:=hC.ct q;refine .inr ⟨?_,.inr (.inr ⟨xs,wJ q⟩)⟩
  cases t:Ts.lookup b with
  |none=>rfl
  |some ps=>rw[tC t] at q;cases q
 cases hk:K.lookup a with
 |some o =>
  let e:=KX a o hk;rw[ha] at e;cases e
  refine core (kA cs λb=>(Ts.lookup b).map HO.tbl) (λb=>one (λo q=>cO q) λq=>?_) (λb o q=>wJ q) (.inr ⟨_,vs.toArray,_,hk,Y,Y,Y,by rw[Ef,A7];calc hl,by simpa using rv⟩) (λb u z=>one (λo q=>Gq q z) λq=>?_) (λb t q z=>?_) λz=>?_
  .rw[oZ q]
   cases t:Ts.lookup b with
   |some ps=>exact .inl ⟨ps,Y,Y⟩
   |none=>exact .inr ⟨Y,.inl Y⟩
  .rw[oZ q] at z
   let⟨ps,t,rfl⟩:=Va.mp (show(Ts.lookup b).map HO.tbl=U u from z);exact o7 _ b ps t
  .rw[oZ q] at z
   exact absurd (show(Ts.lookup b).map HO.tbl=Z by rw[t];rfl) z
  .rw[oZ aC] at z
   exact absurd (show(Ts.lookup a).map HO.tbl=Z by rw[aT];rfl) z
 |none =>
  refine core (kA cs λb=>if b=a then U (.frz {cls:=.type "list",data:=.seq vs.toArray} (.lst (ns.map V.int))) else(Ts.lookup b).map HO.tbl) (λb=>one (λo q=>cO q) λq=>?_) (λb o q=>wJ q) (.inl (.inr ⟨{cls:=.type "list",data:=.seq vs.toArray},(oZ aC).trans (U_ Y)⟩)) (λb u z=>one (λo q=>Gq q z) λq=>?_) (λb t q z=>?_) λ_=>hk
  .rw[oZ q]
   by_cases hb:b=a
   .subst hb
    exact .inr ⟨aT,.inr (.inl ⟨_,_,U_ Y⟩)⟩
   .cases t:Ts.lookup b with
    |some ps=>exact .inl ⟨ps,Y,U9 hb⟩
    |none=>exact .inr ⟨Y,.inl (U9 hb)⟩
  .rw[oZ q] at z
   by_cases hb:b=a
   .let z':=(U_ hb).symm.trans z
    cases z'
    subst hb;exact⟨ha,by rw[pV];calc hl,vs,_,rv,ha⟩
   .let z':=(U9 hb).symm.trans z
    let⟨ps,t,rfl⟩:=Va.mp z';exact o7 _ b ps t
  .rw[oZ q] at z
   by_cases hb:b=a
   .exact hb
   .calc absurd ((U9 hb).trans (by rw[t];rfl)) z
theorem Pf{l:q1p}{n k:Nat}{q:ψ}{loose:-J}{XP:(J->Option L)->I->Prop}{YP:ω->I->Prop}{d:DefRec}{K:ω->Ee}{CX:ω->kg}{sp:ω->Sp}{x:J}{Ts:ω->-(O×Array L)}{cs:ω->Hp}
  (hn:l.most=U n) (qR:n<=sizeLine) (pR:d.params.defaults=[]) (hr:bc k callerA)
  (hY:∀(w:ω)(h:I),YP w h->(K w).In h)
  (hT:∀(w:ω)(h:I),YP w h->∀b ps,(Ts w).lookup b=U ps->h.get? b=U {cls:=.none,data:=.fields ps}/\isCodeTable h b/\(K w).lookup b=Z)
  (hC:∀(w:ω)(h:I),YP w h->Cs l.prog w (cs w) h)
  (F:∀(w:ω)(mg:J->Option L)(fa:O)(h:I),(K w).In h->h.Ns mainGlobals mg->mg d.name=U (.ref fa) →
   ∃fd:FuncData,(∀(s:B)(u:L),BindsTo s fd ⟨[u],[]⟩ [(x,u)]) ∧
    ∀base:I,(K w).In base->base.Ns mainGlobals mg->(∀b ps,(Ts w).lookup b=U ps->base.BuiltinsAt mg b)->bY l.prog w (K w) mg base (CX w) k fa fd [x] (sp w))
  (oF:∀(w:ω)(H:Hp)(a:O)(ns:-Int),↑ns<=n->A3 (Ts w) H->aN (cs w) H->bP (K w) H a (ns.map V.int)->sp w [.ref a] H (λv _=>v=.bl θ) λ_ _ _=>False)
  (A6:∀(w:ω)(H:Hp)(s:B)(e:L)(s':B),CX w [] H s (λ_ _ _=>False) e s'->False) :
  PySem.W.WalkO q loose XP YP l.row.toRowW d [] (λf vs=>q0k f vs):=by
 calc Att.ie hn pR λw s₀ s₁ mg mb fa o pm cd doc a vs ns G Y ho hd gi mK pS hints hlen hg=>?_;let KX:=hY w _ Y;let⟨fd,hb,hF⟩:=F w mg fa _ KX G.T.g mK;calc O9 (Ts w) (hC w _ Y) (hT w _ Y) KX G.T.g G.T.b G.T.builtins G.T.nolimit hg pS hints (Vo hlen qR) hr G.T.bmain hF hb (λH hO rL hS=>oF w H a ns hlen hO rL hS) λH e s'=>A6 w H s₁ e s'
section
variable{X:Cx}{pins:aM}{σ:St}{H:Hp}{s:B}{h':I}
theorem Inv.grow{T c f:O}{ps more:Array L}{oc of:HO}{t':Nat}(I:Inv X pins σ H s)(hT:H T=U (.tbl ps))(k:∀b u,b≠T->s.heap.get? b=U u->h'.get? b=U u)(Gs:h'.get? T=U {cls:=.none,data:=.fields (ps++more)})
  (hc:⇑s<=c) (hf:⇑s<=f) (A8:c≠f) (Pg:∀H2,aZ X.prog X.w H2 h' c oc) (Ph:∀H2,aZ X.prog X.w H2 h' f of) :
  Inv X pins σ (upd (upd (upd H T (.tbl (ps++more))) c oc) f of) {s with heap:=h',toks:=t'}:=by
 let tl:T<⇑s:=(I.ba T _ hT).lt;let cT:c≠T:=WR (Uq tl hc);let fT:f≠T:=WR (Uq tl hf);let UI:H c=Z:=I.ba.fresh hc;let Pj:H f=Z:=I.ba.fresh hf
 let old:∀b,b<⇑s->b≠T->upd (upd (upd H T (.tbl (ps++more))) c oc) f of b=H b:=λb hb nT=>by
  rw[bf (U8 (Uq hb hf)),bf (U8 (Uq hb hc)),bf nT]
 let atT:upd (upd (upd H T (.tbl (ps++more))) c oc) f of T=U (.tbl (ps++more)):=by
  rw[bf (Xx fT),bf (Xx cT),b7]
 let lt:∀b u,H b=U u->b<⇑s:=λb u e=>(I.ba b u e).lt
 let eE:∀b u,H b=U u->(∀qs,u≠.tbl qs)->upd (upd (upd H T (.tbl (ps++more))) c oc) f of b=U u:=λb u e n=>by
  rw[old b (lt b u e) (λz=>by subst z;rw[hT] at e;cases e;calc n _ Y)];exact e
 refine I.un (t':=t') ⟨λb o e n _ _=>k b o (λz=>by subst z;rw[hT] at n;cases n) e,λb o e n _ _=>⟨o.slots,k b o (λz=>by subst z;rw[hT] at n;cases n) e⟩,λb o e n _=>?_,λb o e _=>?_,λb xs e=>eE b _ e (λ_ z=>by cases z),λb o u e=>eE b _ e (λ_ z=>by cases z),λb qs e=>?_,λb xs o q e _=>k b o (λz=>by subst z;rw[hT] at q;cases q) e⟩ λb u e=>?_
 .rw[old b (Me e) (λz=>by subst z;rw[hT] at n;cases n)];exact n
 .by_cases z:b=T
  .subst z;exact⟨_,Gs⟩
  .exact⟨o,k b o z e⟩
 .by_cases z:b=T
  .subst z;rw[hT] at e;cases e;exact⟨more,atT⟩
  .exact⟨#[],by rw[old b (lt b _ e) z,e];simp⟩
 .by_cases z1:b=f
  .subst z1;rw[b7] at e;cases e;exact Ph _
  .rw[bf z1] at e
   by_cases z2:b=c
   .subst z2;rw[b7] at e;cases e;exact Pg _
   .rw[bf z2] at e
    by_cases z3:b=T
    .subst z3;rw[b7] at e;cases e;exact Gs
    .rw[bf z3] at e
     refine aZ.gK (I.ba b u e) (λd v hd q=>?_) (λd q=>eE d _ q (λ_ z=>by cases z)) (λd xs q=>eE d _ q (λ_ z=>by cases z))
     .refine k d v (λy=>?_) q
      subst y;rcases hd with y|y
      .exact z3 y.symm
      .rw[hT] at y;cases y
noncomputable def l7(c:O)(q:J):HO:=.ext λh=>∃o vs tq,h.get? c=U o/\o.data=.fields vs/\vs[1]?=U (.str q tq)
theorem Pk{P:l}{w:g}{H:Hp}{h:I}{c:O}{q:J}(e:h.CodeRec (.ref c) q):aZ P w H h c (l7 c q):=by
 let⟨c',o,vs,tq,z,ho,hd,hq⟩:=e;cases z
 calc⟨⟨o,vs,tq,ho,hd,hq⟩,⟨o,ho⟩,λh1 h2 ⟨o,vs,tq,e1,e2,e3⟩ k↦⟨o,vs,tq,k o e1,e2,e3⟩⟩
theorem Pl{P:l}{w:g}{H:Hp}{h:I}{c:O}{q:J}(x:aZ P w H h c (l7 c q)):h.CodeRec (.ref c) q:=by
 let⟨⟨o,vs,tq,ho,hd,hq⟩,_⟩:=x;calc⟨c,o,vs,tq,Y,ho,hd,hq⟩
end
end L2
namespace L2
open PySem PySem.Spec PyProof.Rows PySem.W
section
variable{X:Cx}{pins:aM}{σ:St}{H:Hp}{s:B}{params:Arguments}{body:M}{scope:o}{pos:y}{ir:-(J×O)}{cc T:O}{ps:Array L}{E:bw}{Q:bw}
noncomputable def i8(f:O)(name qual:J)(params:Arguments)(body:M)(scope:o)(ir:-(J×O))(pm cd:L):HO:=.ext λh=>∃uE,h.get? f=U {cls:=.type "function",data:=.func (kla_fn name qual params body scope ir pm cd uE)}
def eF(H:Hp)(T:O)(pos:y)(qual:J):Prop:=∃ps,H T=U (.tbl ps)/\TriplesOk ps.toList/\(codeAmong pos ps.toList=Z\/∃c,codeAmong pos ps.toList=U (.ref c)/\H c=U (l7 c qual))
theorem Pm(I:Inv X pins σ H s)(hT:eF H T pos (X.env.qual++"<lambda>"))(A9:defaultsOf params X.env=([],[]))(oN:closureFor scope X.env=pure ir)(jy:X.env.code=.ref cc)(C:CodeHd s.heap cc T)(Pn:mainGlobals≠T)(hg:s.heap.Ns mainGlobals X.mg)(hb:s.heap.BuiltinsAt X.mg T)
  (h:∀f H' s' c,Inv X pins σ H' s'->eF H' T pos (X.env.qual++"<lambda>")->(∀b o,H b=U o->b≠T->H' b=U o)->H f=Z->H' f=U (i8 f "<lambda>" (X.env.qual++"<lambda>") params body scope ir ((X.mg "__name__").getD .none) (.ref c))->H' c=U (l7 c (X.env.qual++"<lambda>"))->Q (.ref f) s') :
  G (S X.prog X.w) X.A (eval (.Lambda params body scope pos) X.env) Q E s:=by
 let⟨ps,hP,ht,hf⟩:=hT;let A_:s.heap.get? T=U {cls:=.none,data:=.fields ps}:=I.ba T _ hP;calc kla_eval A9 ?_;rcases hf with Gu|⟨c,hf,wL⟩
 .refine kla_makeFunction oN I.ok.glob hg jy C A_ ht Gu Pn hb λc' uE h' tk hx wM fG Ba Po=>?_
  let hsz:⇑s<=h'.objs.size:=WB (YL wM fG);let tl:T<⇑s:=Me A_;let Pp:T≠h'.objs.size:=U8 (Uq tl hsz);let Pq:T≠c':=U8 (Uq tl wM);let A8:c'≠h'.objs.size:=U8 fG;let Gv:(ps ++ #[rawInt pos.line,rawInt pos.col,Vx c']).toList=ps.toList++[rawInt pos.line,rawInt pos.col,Vx c']:=by simp
  let atT:upd (upd (upd H T (.tbl (ps ++ #[rawInt pos.line,rawInt pos.col,.ref c']))) c' (l7 c' (X.env.qual++"<lambda>"))) h'.objs.size (i8 h'.objs.size "<lambda>" (X.env.qual++"<lambda>") params body scope ir ((X.mg "__name__").getD .none) (.ref c')) T=U (.tbl (ps ++ #[rawInt pos.line,rawInt pos.col,.ref c'])):=by
   rw[bf Pp,bf Pq,b7]
  let atC:upd (upd (upd H T (.tbl (ps ++ #[rawInt pos.line,rawInt pos.col,.ref c']))) c' (l7 c' (X.env.qual++"<lambda>"))) h'.objs.size (i8 h'.objs.size "<lambda>" (X.env.qual++"<lambda>") params body scope ir ((X.mg "__name__").getD .none) (.ref c')) c'=U (l7 c' (X.env.qual++"<lambda>")):=by
   rw[bf A8,b7]
  refine h h'.objs.size _ _ c' (I.grow (t':=tk) (oc:=l7 c' (X.env.qual++"<lambda>")) (of:=i8 h'.objs.size "<lambda>" (X.env.qual++"<lambda>") params body scope ir ((X.mg "__name__").getD .none) (.ref c')) hP (λb u nb e=>vB _ (hx b u nb e)) (vB _ Po) wM hsz A8 (λ_=>Pk (Ba.push _)) λ_=>?_) ⟨_,atT,?_,.inr ⟨c',?_,atC⟩⟩ (λb o e nb=>?_) (I.ba.fresh hsz) b7 atC
  .exact⟨⟨uE,Uo _ Y⟩,⟨_,Uo _ Y⟩,λh1 h2 ⟨v,e⟩ k↦⟨v,k _ e⟩⟩
  .rw[Gv];exact TriplesOk_snoc _ _ _ _ ht
  .rw[Gv];exact codeAmong_snoc _ ht Gu
  .let bl:b<⇑s:=(I.ba b o e).lt
   rw[bf (U8 (Uq bl hsz)),bf (U8 (Uq bl wM)),bf nb];exact e
 .refine kla_makeFunctionHit oN I.ok.glob hg jy C A_ ht hf hb λuE h' tk hk hsz=>?_
  let hn:H h'.objs.size=Z:=I.ba.fresh hsz;refine h h'.objs.size _ _ c (I.laid (a:=h'.objs.size) (o:=i8 h'.objs.size "<lambda>" (X.env.qual++"<lambda>") params body scope ir ((X.mg "__name__").getD .none) (.ref c)) (t':=tk) (λb u e=>vB _ (hk b u e)) hsz ?_) ⟨ps,?_,ht,.inr ⟨c,hf,?_⟩⟩ (λb o e _=>?_) hn b7 ?_
  .exact⟨⟨uE,Uo _ Y⟩,⟨_,Uo _ Y⟩,λh1 h2 ⟨v,e⟩ k↦⟨v,k _ e⟩⟩
  .rw[bf (dF hP hn)];exact hP
  .rw[bf (dF wL hn)];exact wL
  .rw[bf (dF e hn)];exact e
  .rw[bf (dF wL hn)];calc wL
end
structure LD where
 A:q
 cl:-(J×O)
 f:O
 cd:L
 s:B
 H:Hp
@[reducible] noncomputable def nW (X:Cx) (qual:J) (scope:o) (Nb:-J) (d:LD):Cx where
 prog:=X.prog
 w:=X.w
 K:=X.K
 mg:=X.mg
 base:=X.base
 A:=d.A.deeper (envX qual scope ⇑d.s d.f d.cd d.cl)
 N:=Nb
 s₀:=d.s
 H₀:=d.H
 env:=envX qual scope ⇑d.s d.f d.cd d.cl
 outer:=X.stack
 stack:=envX qual scope ⇑d.s d.f d.cd d.cl::X.stack
 ex:=[]
 fn:=λ_=>ι
 calm:=true
 pn:=[]
 xe:=λ_ _=>False
noncomputable def wN(N:-J)(vE scope:o)(x:J)(Nb:-J)(cp:-(Option Nat)):Bool :=
 jj N vE scope (x::Nb) (Z::cp)&&(scope.names.all λy=>E (y.2≠.cell))&&E (scope.names.lookup x=U .local)&&cp.all (·.isSome)
section
variable{X:Cx}{pins:aM}{σ:St}{H:Hp}{s:B}{params:Arguments}{body:M}{scope:o}{cl:-(J×O)}{E:bw}{Q:VK}{name qual x:J}{f c:O}{pm:L}{A:q}{v:V}{u:L}{Nb:-J}{cp:-(Option Nat)}{t:TE}
theorem Pr(I:Inv X pins σ H s)(hf:H f=U (i8 f name qual params body scope cl pm (.ref c)))(hc:H c=U (l7 c qual))(hA:A.frames=U X.stack)(hh:A.handled=Z)(hd:A.depth<recursionLimit)
  (hk:scope.kind=.function) (ho:wN X.N X.env.scope scope x Nb cp=θ) (Pt:scope.isCoroutine=ι) (Bb:scope.isGenerator=ι)
  (qB:∀y c,cl.lookup y=U c->X.env.cells.lookup y=U c) (wO:∀y∈scope.names,y.2=.free->∃c,cl.lookup y.1=U c)
  (hb:∀(ct:L),bindArgs (kla_fn name qual params body scope cl pm (.ref c) ct) ⟨[u],[]⟩=pure [(x,u)]) (r:RelV v u)
  (J:JE (nW X qual scope (x::Nb) ⟨A,cl,f,.ref c,s,H⟩) body t) (h:t (U v::hW cp σ) H Q):G (ς X.prog X.w) A (call (.ref f) [u]) (EP X pins σ Q) E s:=by
 unfold wN at ho;erw[Vy,Wk,WL] at ho;let⟨⟨⟨ho,Gw⟩,hx⟩,cps⟩:=ho;let S:=x1w hk ho;let⟨⟨ct,Pu⟩,_⟩:=I.ba f _ hf;let gi:=Pl (I.ba c _ hc);calc q0d (kla_callFunE hd Pu Y Pt Bb Y gi ?_);rw[hb ct];calc Md (wpAny_newFunctionEnv (λy hy=>Gw y hy) (λy hy=>by rw[Vu.mp hy];calc hx) (λh₁ uB tF=>?_) hk);let uF:∀b o,s.heap.get? b=U o->h₁.get? b=U o:=λb o e=>tF.extBut b o (U8 (Me e)) (vB _ e);calc⟨I.nolimit.keeps uF,?_⟩;let e0:=I.pJ;show codeAny _ _ (.expr body (envX qual scope ⇑s f (.ref c) cl)) _ _;let mG:∀b:O,b∉(nW X qual scope (x::Nb) ⟨A,cl,f,.ref c,s,H⟩).ex:=λb z=>absurd (show b∈([]:-O) from z) (by simp)
 let mem:∀{y:π}{k:NameKind},scope.names.lookup y=U k->(y,k)∈scope.names:=λe=>VV e
 let I1:Inv (nW X qual scope (x::Nb) ⟨A,cl,f,.ref c,s,H⟩) [] (U v::hW cp σ) H {s with heap:=h₁,toks:=s.toks+↑[(x,u)]}:=by
  refine⟨⟨e0.mod,hk,Y,Y,yT _,λy z d h1 h2=>I.ok.inj y z d (qB y d h1) (qB z d h2),λy hy=>?_,λy d z _=>(by cases z),λ_=>hh,ZQ hA,.inr ⟨Y,Y⟩,λb z=>absurd z (mG b),e0.bs,e0.mq,λb _ _=>mG b,λb z=>absurd z (mG b),e0.eR,e0.ou⟩,
   Y,e0.bare,Un.kept uF,⟨_,uB,λi y w h1 h2 h3=>?_⟩,λy d hy=>?_,e0.ba.fresh (yT _),λy d hy=>I.de y d (qB y d hy),λp hp=>absurd (show p∈([]:aM) from hp) (by simp),e0.ba.kept uF,?_⟩
  .let hy:scope.names.lookup y=U .cell\/scope.names.lookup y=U .free:=hy
   rcases hy with hy|hy
   .exact absurd Y (Gw _ (mem hy))
   .exact wO _ (mem hy) Y
  .cases i with
   |zero =>
    cases(show U x=U y by simpa using h1)
    cases(show v=w by simpa using h2)
    exact⟨u,r,.inl ⟨hx,by simp⟩⟩
   |succ j =>
    let h1:Nb[j]?=U y:=by simpa using h1
    let h2:(hW cp σ)[j]?=U (U w):=by simpa using h2
    unfold hW at h2;rw[My] at h2;let⟨o,q1,q2⟩:=Va.mp h2
    match o,q2 with
    |none,q2=>cases q2
    |some i',q2 =>
     let q2:(σ[i']?).join=U w:=q2;let⟨n1,n2⟩:=S.tu (j+1) i' y q1⁻¹ h1⁻¹
     let hs:σ[i']?=U (U w):=by
      cases q:σ[i']? with
      |none=>rw[q] at q2;cases q2
      |some z=>rw[q] at q2;cases(show z=U w from q2);rfl
     let kd:=S.free _ (mem n2) Y;let⟨m,hn,hl⟩:=I.loc;let⟨u',rv,lk⟩:=hl i' y w n1 hs (by rcases kd with z|z;calc .inr (.inl z);calc .inr (.inr z));calc⟨u',rv,?_⟩;rcases lk with⟨z,_⟩|⟨_,d,e1,o,e2,e3⟩
     .rcases kd with k|k<;>(rw[show X.env.kindOf y=U .local from z] at k;cases k)
     .let⟨d',e4⟩:=wO _ (mem n2) Y
      let:=qB _ _ e4;rw[e1] at this;cases this;exact .inr ⟨.inr n2,d,e4,o,uF _ _ e2,e3⟩
  .let⟨z,o,e2,e3⟩:=I.cell y d (qB y d hy)
   exact⟨z,o,uF _ _ e2,e3⟩
  .let:=S.len
   show↑(U v::hW cp σ)=↑(x::Nb);unfold hW;rw[Eg,pV];simpa using this
 calc kla_codeExpr (WV (J [] _ _ H Q I1 h) (λu' s' hs=>?_) λe s' hs=>hs.elim);let⟨w,H',J',rv,q⟩:=hs;calc I.after ⟨w,H',J'.os,J'.bare,J'.base,J'.ba,rv,q⟩
end
def lz(h:I)(k:LK)(v:L):Prop:=∃a o xs n,v=.ref a/\h.get? a=U o/\o.cls=.type "tuple" /\ o.data=.seq xs n/\IntsAre xs.toList k
section
variable{prog:l}{w:g}{A:q}{E:bw}{s:B}{Q:Bool->B->Prop}
theorem Gx{fin:Bool}:∀{us ws:-L}{ks ls:LK}(i:Nat),IntsAre us ks->IntsAre ws ls->fin=μ (↑us<↑ws)->Q (HT.lexLt ks ls) s->KatLex prog w A θ fin Q (us.zip ws) i s
 |_,_,_,_,i,.nil,.nil,hf,h=>by
  rw[Y3];subst hf;exact h
 |_,_,_,_,i,.nil,.cons m u r,hf,h=>by
  rw[Y3];let:fin=θ:=by rw[hf];simp
  subst this;exact h
 |_,_,_,_,i,.cons n t r,.nil,hf,h=>by
  rw[q0i];let:fin=ι:=by rw[hf];simp
  subst this;exact h
 |_,_,_,_,i,.cons n t r,.cons m u r',hf,h=>by
  rw[YQ];refine kat_cons (q0W (kat_go (λe=>?_) λe=>?_))
  .let e:n=m:=Wr e
   subst e;rw[HT.qS,U_ Y] at h;exact kat_yes (Gx (i+1) r r' (by rw[hf];simp) h)
  .let e:¬ n=m:=λz=>by subst z;simp at e
   rw[HT.qS,U9 e] at h;refine kat_no ?_
   cases q:(θ&&i==0) with
   |true=>exact oneLt_int h
   |false=>calc kat_one _ _ (ZV h)
theorem Pw{k l:LK}{x y:L}(hx:lz s.heap k x)(hy:lz s.heap l y)(h:Q (HT.lexLt k l) s):G (S prog w) A (keyLt' (tuples' θ) x y) Q E s:=by
 let⟨a,o,xs,n,rfl,h1,_,h2,h3⟩:=hx;let⟨b,o',ys,n',rfl,g1,_,g2,g3⟩:=hy;calc kat_lt h1 h2 g1 g2 (Gx 0 h3 g3 (by rw[Vb,Vb]) h)
theorem Gy{h:I}:∀{keys:-L}{ks:-LK},(∀k∈ks,k≠[])->↑keys=↑ks->(∀(i:Nat)(k:LK)(v:L),ks[i]?=U k->keys[i]?=U v->lz h k v)->∃fs,KatTups h keys fs/\fs.length=↑keys/\∀v∈fs,∃n t,v=XD n t
 |[],[],_,_,_=>⟨[],.nil,Y,λv hv=>nomatch hv⟩
 |[],_::_,_,hl,_=>by simp at hl
 |_::_,[],_,hl,_=>by simp at hl
 |v::keys,k::ks,hX,hl,ht=>by
  let⟨fs,t,hf,hi⟩:=Gy (h:=h) (keys:=keys) (ks:=ks) (λk hk=>hX k (Us _ hk)) hl⁻¹ λi k v e1 e2=>ht (i+1) k v e1⁻¹ e2⁻¹;let⟨a,o,xs,n,rfl,h1,hc,h2,h3⟩:=ht 0 k v Y Y;let hk:=hX k Vc;generalize hx:xs.toList=xl at h3
  cases h3 with
  |nil=>exact absurd Y hk
  |cons m t' r =>
   let h0:xs[0]?=U (.int m t'):=by rw[<-Vz,hx];rfl
   calc⟨.int m t'::fs,.cons h1 hc h2 h0 t,by rw[Eg,Eg,hf],λv hv=>?_⟩;rcases Um.mp hv with rfl|hv
   .exact⟨m,t',Y⟩
   .calc hi v hv
theorem Px{M:Model}{keys:-L}{ks:-LK}{Q:SortKind->B->Prop}(h0:0<↑keys)(hX:∀k∈ks,k≠[])(hl:↑keys=↑ks)(ht:∀(i:Nat) (k:LK) (v:L),ks[i]?=U k->keys[i]?=U v->lz s.heap k v)(h:Q (tuples' θ) s):
  G M A (keyKind' keys.toArray) Q E s:=by
 let⟨fs,t,hf,hi⟩:=Gy hX hl ht;refine kat_kind (T:=.type "int") t ⋯ (λv hv=>?_) (by decide) ?_
 .let⟨n,t',rfl⟩:=hi v hv
  exact .now
 .calc h
theorem getD_some{α:Type}{l:-α}{i:Nat}{d:α}(h:i<↑l):l[i]?=U (l.getD i d):=by
 rw[pU h,Mg,pU h];rfl
theorem Py{a kS:O}{e1:Nat}{vs keys:-L}{ks:-LK}{P:q4Z->B->Prop}(hv:↑keys=↑vs)(oO:↑vs<64)(hX:∀k∈ks,k≠[])(hl:↑keys=↑ks)(ht:∀(i:Nat) (k:LK) (v:L),ks[i]?=U k->keys[i]?=U v->lz s.heap k v)
  (fin:∀st (p:Array Nat),(arrOf st).map (·.2)=VZ (p.toList.map λi=>vs.getD i VM)->failedOf st=Z->d9 ↑vs p->Up (λi=>ks.getD i []) p ↑vs->ρ (S prog w) A (ksk_tail a ι e1 (.ref kS) st) P E s) :
  ρ (S prog w) A (ksk_end a ι vs.toArray e1 (.ref kS) (VZ keys)) P E s:=by
 unfold ksk_end
 try dsimp only
 erw[VL,Xo]
 by_cases h2:vs.toArray.size<2
 .rw[U_ h2,U_ h2]
  calc s_ (Md ?_);rw[StateT.run_pure];refine s_ (Md ?_)
  try dsimp only
  rw[Ef] at h2;refine fin _ (Vp ↑vs).toArray ?_ Y ⟨q1n _⟩ λi j jx hj=>?_
  .let Pz:arrOf (SortSt.mk' general' (keys.toArray.zip vs.toArray) #[] 7 Z)=(VZ (Vp ↑vs)).map (kas_item (keys.toArray.zip vs.toArray)):=by
    let e:=kas_range (keys.toArray.zip vs.toArray);rw[show(keys.toArray.zip vs.toArray).size=↑vs by simp[hv]] at e;rw[e]
   exact kat_snds hv Pz
  .let:i=j:=by symm
   subst this;exact kle_refl _
 .rw[U9 h2,U9 h2]
  rw[Ef] at h2;refine s_ (Px ⋯ hX hl ht ?_)
  refine s_ (WV (kat_run (κ:=tuples' θ) (E:=E) (Q:=λf9 s'=>s'=s/\∃p:Array Nat,arrOf f9=p.map (kas_item (keys.toArray.zip vs.toArray))/\failedOf f9=Z/\d9 ↑vs p/\Up (λi=>ks.getD i []) p ↑vs)
   (G:=λp s'=>s'=s/\d9 ↑vs p/\Up (λi=>ks.getD i []) p ↑vs) hv ⋯ oO (λp f9 s' a1 a2 a3 a4=>⟨a4.1,p,a2,a3,a4.2.1,a4.2.2⟩) ?_) ?_ λ_ _ x=>x)
  .refine Oc (k:=λi=>ks.getD i []) (I:=λs'=>s'=s) (λi j C s' hi hj e hC=>?_) ⋯ Y λp s' a1 a2 a3=>⟨a3,a1,a2⟩
   subst e;exact Pw (ht i _ _ (getD_some ⋯) (getD_some ⋯)) (ht j _ _ (getD_some ⋯) (getD_some ⋯)) (hC _ Y)
  .ext ⟨⟨⟩,f9⟩ s' ⟨rfl,p,a1,a2,a3,a4⟩
   try dsimp only
   calc fin f9 p (kat_snds hv a1) a2 a3 a4
end
theorem bS.at{X:Cx}{pins:aM}{H H':Hp}{b:O}(f:bS X pins H b)(h:H' b=Z):bS X pins H' b:=⟨h,f.2⟩
section
variable{X:Cx}{pins:aM}{σ:St}{H:Hp}{s:B}{A:q}{E:bw}{a:O}{vs:-L}{f:L}
theorem Inv.jz{h':Α}{t':Nat}{b:O}(I:Inv X pins σ H s)(fb:bS X pins H b)(k:∀c o,c≠b->s.heap.get? c=U o->h'.get? c=U o):Inv X pins σ H {s with heap:=h',toks:=t'} :=
 I.turned k fb.1 fb.2.1 fb.2.2.2.1 fb.2.2.2.2.1 fb.2.2.2.2.2
theorem Inv.nX{b:O}{o:Q}(I:Inv X pins σ H s)(fb:bS X pins H b)(e:s.heap.get? b=U o)(hc:∀v,o.data≠.cell v):Inv X ((b,o)::pins) σ H s :=
 I.fH λp hp=>by
  rcases Um.mp hp with rfl|hp
  .exact⟨e,fb.1,fb.2.1,fb.2.2.1,hc⟩
  .calc I.pin p (Vg _ hp)
theorem Inv.gY{p:O×Q}(I:Inv X (p::pins) σ H s):Inv X pins σ H s:=I.fH λq hq=>I.pin q (Vg _ (Us _ hq))
theorem bS.cons{b:O}{p:O×Q}(f:bS X pins H b)(n:p.1≠b):bS X (p::pins) H b :=
 ⟨f.1,f.2.1,f.2.2.1,f.2.2.2.1,f.2.2.2.2.1,λq hq=>by
  rcases Vs.mp hq with z|z
  .exact f.2.2.2.2.2 q (Wl _ z)
  .rcases Um.mp z with rfl|z
   .exact n
   .calc f.2.2.2.2.2 q (Vg _ z)⟩
theorem wQ{c:String}{xs:Array L}{n:Nat}:∀v,(seqObj c xs n).data≠.cell v:=λv z=>by cases z
theorem PA{P:-V->Hp->Prop}{n0:Nat}{R:q4Z->B->Prop}(I:Inv X pins σ H s)(fa:bS X pins H a)(ha:s.heap.get? a=U (seqObj "list" vs.toArray n0))(oO:↑vs<64)(p0:P [] H)
  (qC:∀(df:aM)(v:L)(kvs:-V)(H':Hp)(s':B),vs[↑kvs]?=U v->Inv X df σ H' s'->P kvs H'->G (S X.prog X.w) A (call f [v]) (EP X df σ λk jL=>P (kvs++[k]) jL) (λ_ _=>False) s')
  (fin:∀kvs H',↑kvs=↑vs->P kvs H'->∃ks:-LK,↑ks=↑vs/\(∀k∈ks,k≠[])/\(∀(i:Nat)(k:LK),ks[i]?=U k->∃t,kvs[i]?=U (.ref t)/\H' t=U (.tup (k.map V.int))) ∧
   ∀(p:Array Nat)(s':B)(c:Nat),d9 ↑vs p->Up (λi=>ks.getD i []) p ↑vs->Inv X pins σ H' s'->bS X pins H' a->s'.heap.get? a=U (seqObj "list" (VZ (p.toList.map λi=>vs.getD i VM)) c)->R (.done (.ret .none)) s') :
  G (S X.prog X.w) A (ksk_tree a f ι) R E s:=by
 unfold ksk_tree;calc s_ (listItems_at ha Y ?_);calc s_ (Y8 ha Y ?_ (by rw[Ef,Ws];symm) (VT _));let sb:=VU s.heap a (VF λ_=>(#[]:Array L));let⟨e1,oq⟩:∃e1,(s.heap.update a (VF λ_=>(#[]:Array L))).get? a=U (seqObj "list" #[] e1):=⟨_,ZC ha λ_ => #[]⟩;let I1:Inv X pins σ H {s with heap:=s.heap.update a (VF λ_=>(#[]:Array L))}:=I.jz (t':=s.toks) fa λc o n e=>(sb.2 c n).trans e;calc s_ (seqEpoch_at oq Y ?_);calc s_ (q1H ?_ (by show ↑vs<=_;rw[Ws];symm));calc s_ (q1Y ?_ (VT _));calc VH ?_;generalize UJ:s.heap.update a (VF λ_=>(#[]:Array L))=g0 at oq I1
 show G _ _ (ksk_rest a f ι vs.toArray e1 (.ref (g0.push (seqObj "tuple" vs.toArray 0)).objs.size)) R E {s with heap:=(g0.push (seqObj "tuple" vs.toArray 0)).push (seqObj "list" #[] 0)};let I2:Inv X pins σ H {s with heap:=(g0.push (seqObj "tuple" vs.toArray 0))}:=I1.kept (h':=g0.push (seqObj "tuple" vs.toArray 0)) (t':=s.toks) λb u e=>vB _ e;let iF:(g0.push (seqObj "tuple" vs.toArray 0)).get? a=U (seqObj "list" #[] e1):=vB _ oq;generalize g0.push (seqObj "tuple" vs.toArray 0)=g1 at I2 iF;let fk:bS X pins H g1.objs.size:=I2.h_ (yT _) (I2.ba.fresh (yT _));let I3:Inv X pins σ H {s with heap:=g1.push (seqObj "list" #[] 0)}:=I2.kept (h':=g1.push (seqObj "list" #[] 0)) (t':=s.toks) λb u e=>vB _ e
 let uG:g1.objs.size≠a:=WR (Me iF);let I4:=(I3.nX fk (Uo _ Y) wQ).nX (fa.cons (p:=(g1.objs.size,seqObj "list" #[] 0)) uG) (vB _ iF) wQ;generalize g1.objs.size=kS at I4 uG fk;unfold ksk_rest;refine s_ (Zs ?_)
 first
  |rw[List.forIn_toArray]
  |(rw[<-YK];erw[List.toList_toArray])
  |rw[<-YK]
 refine s_ (ksk_fold (λi s'=>∃H' kvs ks e,Inv X ((a,seqObj "list" #[] e1)::(kS,seqObj "list" (VZ ks) e)::pins) σ H' s'/\P kvs H'/\Vals kvs ks/\↑kvs=i) vs 0 _ ⟨H,[],[],0,I4,p0,.nil,Y⟩ ?step ?done)
 case step =>
  ext j x s' hx ⟨H',kvs,ks,e,J,pk,rv,hl⟩;rw[VJ] at hl;let hj:j<↑vs:=(qW.mp hx).1;calc s_ (q0a (WV (qC _ x kvs H' s' (by rw[hl];calc hx) J pk) (λu s2 hs=>?_) λ_ _ z=>z.elim));let⟨k,H2,J2,r2,p2⟩:=hs
  try dsimp only
  let pa:=J2.pin (a,seqObj "list" #[] e1) (Vg _ (.head _));let o8:=J2.pin (kS,seqObj "list" (VZ ks) e) (Vg _ (.tail _ (.head _)));let lk:↑ks=j:=by rw[<-↑rv];exact hl
  calc s_ (Y8 o8.1 Y ?_ (by rw[Ef,Ws];symm) (Vo (Zo (Zv ..)) (by rw[Ef,Ws];symm)));let s1:=VU s2.heap kS (VF (·.push u));let ea:(VZ ks).push u=VZ (ks++[u]):=by simp
  let⟨c2,kh⟩:∃c2,(s2.heap.update kS (VF (·.push u))).get? kS=U (seqObj "list" (VZ (ks++[u])) c2):=⟨_,by rw[<-ea];calc ZC o8.1 (·.push u)⟩;let J3:=J2.gY.gY;let J4:Inv X pins σ H2 {s2 with heap:=s2.heap.update kS (VF (·.push u))}:=J3.jz (t':=s2.toks) (fk.at o8.2.1) λc o n e=>(s1.2 c n).trans e;calc Md ⟨Y,H2,kvs++[k],ks++[u],c2,?_,p2,rv.append (.cons r2 .nil),by rw[Eh,hl,VJ];rfl⟩;exact(J4.nX (fk.at o8.2.1) kh wQ).nX ((fa.at pa.2.1).cons uG) ((s1.2 a uG.symm).trans pa.1) wQ
 case done =>
  ext s' ⟨H',kvs,ks,e,J,pk,rv,hl⟩;rw[VJ] at hl;let pa:=J.pin (a,seqObj "list" #[] e1) (Vg _ (.head _));let o8:=J.pin (kS,seqObj "list" (VZ ks) e) (Vg _ (.tail _ (.head _)));let lk:↑ks=↑vs:=by rw[<-↑rv];exact hl
  let⟨kk,k1,k2,k3,k4⟩:=fin kvs H' hl pk
  try dsimp only
  calc s_ (listItems_at o8.1 Y ?_);refine Py (ks:=kk) lk oO k2 (by rw[lk,k1]) (λi k v e1 e2=>?_) λst p Bc hf hp up=>?_
  .let⟨t,e3,e4⟩:=k3 i k e1
   let⟨u,e5,e6⟩:=rv.get e3;rw[e2] at e5;cases e5;cases e6
   let⟨au,r',it,_⟩:=J.tuple (b9.of e4);let⟨o,o1,o2,n,o3⟩:=it;exact⟨t,o,_,n,Y,o1,o2,o3,by simpa using intsAre_of r'⟩
  .let hz:↑(p.toList.map λi=>vs.getD i VM)=↑vs:=by rw[pV,Vb,hp.size]
   unfold ksk_tail
   try dsimp only
   rw[Bc];calc s_ (Y8 o8.1 Y ?_ (by rw[Ef,Ws];symm) (VT _));calc s_ (ZS ?_);let s1:=VU s'.heap kS (VF λ_=>(#[]:Array L));let na:(s'.heap.update kS (VF λ_=>(#[]:Array L))).get? a=U (seqObj "list" #[] e1):=(s1.2 a uG.symm).trans pa.1;calc s_ (seqEpoch_at na Y ?_);erw[VL,Xo];calc s_ (Y8 na Y ?_ (VT _) (Vo (Zo (by rw[Ef,hz])) (by rw[Ws];symm)));rw[hf];erw[bne_self_eq_false,VL,Xo];let J1:Inv X pins σ H' {s' with heap:=s'.heap.update kS (VF λ_=>(#[]:Array L))}:=J.gY.gY.jz (t':=s'.toks) (fk.at o8.2.1) λc o n e=>(s1.2 c n).trans e;let s2:=VU (s'.heap.update kS (VF λ_=>(#[]:Array L))) a (VF λ_=>VZ (p.toList.map λi=>vs.getD i VM))
   let J2:Inv X pins σ H' {s' with heap:=(s'.heap.update kS (VF λ_=>(#[]:Array L))).update a (VF λ_=>VZ (p.toList.map λi=>vs.getD i VM))}:=J1.jz (t':=s'.toks) (fa.at pa.2.1) λc o n e=>(s2.2 c n).trans e;let⟨c2,kh⟩:∃c2,((s'.heap.update kS (VF λ_=>(#[]:Array L))).update a (VF λ_=>VZ (p.toList.map λi=>vs.getD i VM))).get? a=U (seqObj "list" (VZ (p.toList.map λi=>vs.getD i VM)) c2):=⟨_,ZC na λ_=>VZ (p.toList.map λi=>vs.getD i VM)⟩;calc Md (k4 p _ c2 hp up J2 (fa.at pa.2.1) kh)
end
section
variable{prog:l}{w:g}{A:q}{E:bw}{s:B}
theorem PB{Q:-L->B->Prop}{r:O}{a b c:Int}{t u v:Tok}{n:Nat}(hh:A.handled=Z)(hr:IsRange s.heap r a b c t u v)(qD:Builtin.Range.small a b c=θ)
  (hn:Xq a b c=n) (hlen:n<=2 ^ 24)
  (hQ:∀h' tk cG,(∀b o,s.heap.get? b=U o->h'.get? b=U o)->ItemsOf (λi v=>∃t,v=.int (a+i*c) t) cG n->Q cG.toList {s with heap:=h',toks:=tk}):G (S prog w) A (collect (.ref r)) Q E s:=by
 let key:∀R:Result->B->Prop,(∀h' tk cG c',(∀b o,s.heap.get? b=U o->h'.get? b=U o)->h'.get? ⇑s=U {cls:=.type "list",dict:=none,data:=.seq cG c',slots := #[]}->ItemsOf (λi v=>∃t,v=.int (a+i*c) t) cG n->R (.ok (.ret (.ref ⇑s))) {s with heap:=h',toks:=tk})->codeAny (S prog w) A (.builtin "proto.collect" ⟨[.ref r],[]⟩) R s:=by
  ext R hR;calc XY F.entry_proto_collect ?_;rw[XI F.plain_proto_collect _];show G _ A.in1 (newList [] >>= λl=>again (.builtin "list.__iadd__" ⟨[l,.ref r],[]⟩)) _ _ s;calc s_ (WK ?_);calc Md ⟨q1N q0R _,XY F.entry_list_iadd ?_⟩;rw[XI q0R _];show G _ A.in1 (Builtin.List.listExtendWith (.ref ⇑s) (.ref r) (.ref ⇑s)) _ _ _;let PC:(s.heap.push {cls:=.type "list",data:=.seq ([]:-L).toArray}).get? ⇑s=U {cls:=.type "list",data:=.seq #[] 0}:=Uo _ Y;refine wpAny_extend_range (R:=R) (s:={s with heap:=s.heap.push {cls:=.type "list",data:=.seq ([]:-L).toArray}}) hh (vB _ hr) qD hn hlen ⇑s (.ref ⇑s) 0 PC λh' tk cG c' hk Bd qE=>?_
  exact hR h' tk cG c' (λb o e=>hk b o (U8 (Me e)) (vB _ e)) Bd qE
 unfold collect;calc s_ (q1v (key _ λh' tk cG c' hk Bd qE=>?_));show G _ A (load ⇑s >>= _) _ _ _;calc s_ (wpAny_load Bd ?_);calc Md (hQ h' tk cG hk qE)
end
section
variable{X:Cx}{pins:aM}{σ:St}{H:Hp}{s:B}{E:bw}
theorem Inv.uH{a:O}{o:HO}(I:Inv X pins σ H s)(fa:bS X pins H a)(ha:⇑X.s₀<=a)(new:aZ X.prog X.w (upd H a o) s.heap a o):Inv X pins σ (upd H a o) s:=by
 let⟨f0,f1,f2,_,f4,f5⟩:=fa;let ne:∀{b u},H b=U u->b≠a:=λe z=>by rw[z,f0] at e;cases e
 refine⟨I.ok,I.os,I.bare,⟨I.base.keep,I.base.slot,λb u e n hx=>?_,I.base.there,λb xs e=>?_,λb u v e=>?_,λb ps e=>?_,I.base.fL⟩,I.loc,I.cell,?_,λx c e=>?_,λp hp=>?_,λb u e=>?_,I.len⟩
 .rw[bf (U8 (Uq (Me e) ha))];exact I.base.free b u e n hx
 .let:=I.base.eQ b xs e
  rw[bf (ne this)];exact this
 .let:=I.base.gf b u v e
  rw[bf (ne this)];exact this
 .let⟨more,this⟩:=I.base.gg b ps e
  exact⟨more,by rw[bf (ne this)];calc this⟩
 .rw[bf (Xx f1)];exact I.free
 .rw[bf (f4 x c e)];exact I.de x c e
 .let⟨e1,e2,e3⟩:=I.pin p hp
  exact⟨e1,by rw[bf (f5 p hp)];calc e2,e3⟩
 .by_cases z:b=a
  .subst z;rw[b7] at e;cases e;exact new
  .rw[bf z] at e
   refine(I.ba b u e).gK (λc v _ q=>q) (λc q=>?_) λc xs q=>?_
   .rw[bf (ne q)];exact q
   .rw[bf (ne q)];calc q
theorem PD{xs:-V}{vs:-L}(r:Vals xs vs){p:-Nat}(hp:∀i∈p,i<↑vs):Vals (p.map λi=>xs.getD i .non) (p.map λi=>vs.getD i VM):=by
 induction p with
 |nil=>exact .nil
 |cons i q ih =>
  calc .cons ?_ (ih λj hj=>hp j (Us _ hj));let hi:=hp i Vc;let⟨u,e1,e2⟩:=r.get (getD_some (l:=xs) (d:=V.non) (by rw[↑r];calc hi));let:=getD_some (l:=vs) (d:=VM) hi;rw[this] at e1;cases e1;calc e2
theorem d9.mem{n:Nat}{p:Array Nat}(h:d9 n p){i:Nat}(hi:i∈p.toList):i<n:=by
 let:=(YW.mp h.perm).mem_iff.mp hi;simpa using this
theorem PE{l q:O}{P:-V->Hp->Prop}{xs:-V}{Q:bw}(I:Inv X pins σ H s)
  (col:∀Q':-L->B->Prop,(∀h' tk vs,(∀b o,s.heap.get? b=U o->h'.get? b=U o)->Vals xs vs->Q' vs {s with heap:=h',toks:=tk})->G (S X.prog X.w) X.A.in1 (collect (.ref l)) Q' E s)
  (oO:↑xs<64) (p0:P [] H)
  (qC:∀(df:aM)(x:V)(u:L)(kvs:-V)(H':Hp)(s':B),xs[↑kvs]?=U x->RelV x u->Inv X df σ H' s'->P kvs H'->G (S X.prog X.w) X.A.in1.in1 (call (.ref q) [u]) (EP X df σ λk jL=>P (kvs++[k]) jL) (λ_ _=>False) s')
  (fin:∀kvs H',↑kvs=↑xs->P kvs H'->∃ks:-LK,↑ks=↑xs/\(∀k∈ks,k≠[])/\(∀(i:Nat)(k:LK),ks[i]?=U k->∃t,kvs[i]?=U (.ref t)/\H' t=U (.tup (k.map V.int))) ∧
   ∀(p:Array Nat)(s':B)(a:O),d9 ↑xs p->Up (λi=>ks.getD i []) p ↑xs->H' a=Z->Inv X pins σ (upd H' a (.lst (p.toList.map λi=>xs.getD i .non))) s'->Q (.ref a) s') :
  G (S X.prog X.w) X.A (call (.builtin "sorted") [.ref l] [(Xb "key",.ref q)]) Q E s:=by
 calc call_function_entry_kw kind_sorted plain_sorted entry_sorted (ksk_s1 _ _) ?_;unfold Builtin.«sorted»;calc s_ (m:=checkCount "sorted" 1 1 _) (Md ?_);calc s_ (col _ λh' tk vs kp rv=>?_);let lv:↑vs=↑xs:=rv.length.symm;calc s_ (q1Y ?_ (by rw[Ws];symm));let I1:Inv X pins σ H {s with heap:=h',toks:=tk}:=I.kept kp;let fa:bS X pins H h'.objs.size:=I1.h_ (yT _) (I1.ba.fresh (yT _));let PF:⇑X.s₀<=h'.objs.size:=I1.sz;let I2:Inv X pins σ H {s with heap:=h'.push (seqObj "list" vs.toArray 0),toks:=tk}:=I1.kept (h':=h'.push (seqObj "list" vs.toArray 0)) (t':=tk) λb u e=>vB _ e
 let vg:(h'.push (seqObj "list" vs.toArray 0)).get? h'.objs.size=U (seqObj "list" vs.toArray 0):=Uo _ Y;refine s_ (VH (wpAny_call_entry_kw slot_list_sort ⟨_,vg,Y⟩ entry_list_sort ?body (ksk_l1 _ _)))
 case body =>
  show G (S X.prog X.w) X.A.in1.in1 (Builtin.«list.sort» ⟨[.ref h'.objs.size],[(Xb "key",.ref q)]⟩) _ _ _;rw[ksk_t1];refine PA (P:=P) I2 fa vg ⋯ p0 (λdf v kvs H' s' hv J pk=>?_) λkvs H' hl pk=>?_
  .let hi:↑kvs<↑xs:=by rw[<-lv];exact(qW.mp hv).1
   let⟨u,e1,e2⟩:=rv.get (pU hi);rw[hv] at e1;cases e1;exact qC df _ v kvs H' s' (pU hi) e2 J pk
  .let⟨ks,k1,k2,k3,k4⟩:=fin kvs H' ⋯ pk
   calc⟨ks,⋯,k2,k3,λp s' c hp up J fj e=>⟨_,Y,?_⟩⟩;rw[lv] at hp up;calc Md ⟨_,Y,k4 p s' h'.objs.size hp up fj.1 (J.uH fj PF ?_)⟩;let hz:↑(p.toList.map λi=>xs.getD i V.non)=↑xs:=by rw[pV,Vb,hp.size]
   calc⟨by rw[hz,Ws];symm,_,c,PD rv λi hi=>by rw[lv];calc hp.mem hi,e⟩
end
theorem aj.at{H:Hp}{ds:-D}{vs:-V}{i:Nat}{d:D}{v:V}(h:aj H ds vs)(e1:ds[i]?=U d)(e2:vs[i]?=U v):Is H d v:=by
 let⟨d',e3,h'⟩:=h.get e2;rw[e1] at e3;cases e3;calc h'
theorem aj.uI{H:Hp}:∀{ds:-D}{vs:-V},↑vs=↑ds->(∀(i:Nat)(d:D),ds[i]?=U d->∃v,vs[i]?=U v/\Is H d v)->aj H ds vs
 |[],[],_,_=>.nil
 |[],_::_,h,_=>by simp at h
 |_::_,[],h,_=>by simp at h
 |d::ds,v::vs,h,g=>by
  let⟨v',e,h1⟩:=g 0 d Y;cases(show U v=U v' from e)
  calc .cons h1 (aj.uI h⁻¹ λi d e=>by simpa using g (i+1) d e⁻¹)
structure jZ where
 T:O
 pos:y
 qual:J
theorem eF.same{H H':Hp}{T:O}{pos:y}{q:J}(h:eF H T pos q)(s:aN H H'):eF H' T pos q:=by
 let⟨ps,e,t,c⟩:=h;calc⟨ps,s _ _ e,t,c.imp id λ⟨c,e1,e2⟩↦⟨c,e1,s _ _ e2⟩⟩
theorem eF.keep{H H':Hp}{T T':O}{pos:y}{q:J}(h:eF H T pos q)(ne:T≠T')(hT:∃ps,H T'=U (.tbl ps))(s:∀b o,H b=U o->b≠T'->H' b=U o):eF H' T pos q:=by
 let⟨ps,e,t,c⟩:=h;calc⟨ps,s _ _ e ne,t,c.imp id λ⟨c,e1,e2⟩=>⟨c,e1,s _ _ e2 λz=>?_⟩⟩;let⟨qs,hT⟩:=hT;rw[z,hT] at e2;cases e2
theorem eF.put{H:Hp}{T a:O}{pos:y}{q:J}{o o':HO}(h:eF H T pos q)(ha:H a=U o)(hk:(∃vs,o=.lst vs)\/(∃ws,o=.dK ws)\/(∃ws,o=.dT ws)\/∃C dx ws,o=.ins C dx ws):eF (upd H a o') T pos q:=by
 let⟨ps,e,t,c⟩:=h
 let ne:∀{b u},H b=U u->(∀vs,u≠.lst vs)->(∀ws,u≠.dK ws)->(∀ws,u≠.dT ws)->(∀C dx ws,u≠.ins C dx ws)->b≠a:=λ{b u} e n1 n2 n3 n4 z=>by
  subst z;rw[ha] at e;cases e;rcases hk with⟨_,z⟩|⟨_,z⟩|⟨_,z⟩|⟨_,_,_,z⟩
  .exact n1 _ z
  .exact n2 _ z
  .exact n3 _ z
  .exact n4 _ _ _ z
 calc⟨ps,by rw[bf (ne e (λ_ z=>by cases z) (λ_ z=>by cases z) (λ_ z=>by cases z) λ_ _ _ z=>by cases z)];calc e,t,c.imp id λ⟨c,e1,e2⟩=>⟨c,e1,?_⟩⟩;rw[bf (ne e2 (λ_ z=>by cases z) (λ_ z=>by cases z) (λ_ z=>by cases z) λ_ _ _ z=>by cases z)];calc e2
structure CC where
 cs:Hp
 ct:∀{a:O}{o:HO},cs a=U o->∃vs,o=.tup vs
@[reducible] noncomputable def iw (ls:-jZ) (C:CC):aV where
 ad:=ls.map (·.T)
 ok:=λH=>(∀l∈ls,eF H l.T l.pos l.qual)/\aN C.cs H
 same:=λh s=>⟨λl hl=>(h.1 l hl).same s,h.2.trans s⟩
 put:=λh ha hk=>⟨λl hl=>(h.1 l hl).put ha hk,λb o e=>by
  let:=h.2 b o e
  rw[bf λz=>by
   subst z;let⟨vs,rfl⟩:=C.ct e;rw[ha] at this;cases this
   rcases hk with⟨_,z⟩|⟨_,z⟩|⟨_,z⟩|⟨_,_,_,z⟩<;>cases z]
  calc this⟩
 tb:=λh ha=>by
  let⟨l,hl,rfl⟩:=Vh.mp ha;let⟨ps,e,_⟩:=h.1 l hl;exact⟨ps,e⟩
 cs:=C.cs
 ct:=C.ct
 co:=λh=>h.2
@[reducible] noncomputable def Be (ls:-jZ):aV:=iw ls ⟨λ_=>Z,λh=>nomatch h⟩
variable[aV]
structure Bf(T:O)(pos:y)(q:J):Prop where
 mem:T∈aV.ad
 get:∀H:Hp,aV.ok H->eF H T pos q
 put:∀H H':Hp,aV.ok H->eF H' T pos q->(∀b o,H b=U o->b≠T->H' b=U o)->aV.ok H'
omit [aV] in
theorem PG {ls:-jZ} {l:jZ} (hl:l∈ls) (nd:∀a∈ls,∀b∈ls,a.T=b.T->a=b) {C:CC}:@Bf (iw ls C) l.T l.pos l.qual:=by
 letI:aV:=iw ls C;refine⟨WQ hl,λH h=>h.1 l hl,λH H' h t k=>⟨λl' fQ=>?_,λb o e=>?_⟩⟩
 .by_cases z:l'.T=l.T
  .rw[nd _ fQ _ hl z];exact t
  .let⟨ps,e,_⟩:=h.1 l hl
   exact(h.1 l' fQ).keep z ⟨ps,e⟩ k
 .refine k b o (h.2 b o e) λz=>?_
  let⟨ps,e2,_⟩:=h.1 l hl;let⟨vs,rfl⟩:=C.ct e;rw[<-z,h.2 b _ e] at e2;cases e2
structure PH(X:Cx)(T:O):Prop where
 code:∃cc,X.env.code=.ref cc/\CodeHd X.base cc T
 ng:mainGlobals≠T
 blt:X.base.BuiltinsAt X.mg T
section
variable{F H H':Hp}{ad:-O}{δ:aG}{σ:St}
theorem SR.Bg(S:SR F ad δ σ H)(k:∀b o,H b=U o->b∉aV.ad->H' b=U o)(tk:aV.ok H'):SR (Nw F H H') ad δ σ H':=by
 let sm:=Nw.same (H':=H') S.sub;let nF:∀{a o},F a=U o->a∉aV.ad:=λ{a o} e t=>by rw[S.nt a t] at e;cases e
 let nO:∀{i a ov},ad[i]?=U a->δ.mu[i]?=U (U ov)->a∉aV.ad:=λ{i a ov} e1 e2 t=>by
  let⟨a',o,e3,e4,h⟩:=S.mu i ov e2;rw[e1] at e3;cases e3;let⟨ps,q⟩:=aV.tb S.tab t;rw[e4] at q;cases q;exact h.kind _ Y
 refine⟨λa o e=>?_,λa l=>?_,S.cD,S.inj,λi ov e=>?_,λi x e=>?_,S.len,tk,S.nt.up sm λa ha=>?_⟩
 .unfold Nw at e
  cases q:H a with
  |none=>rw[q] at e;exact e
  |some u=>rw[q] at e;exact k a o (S.sub a o e) (nF e)
 .let⟨i,ov,e1,e2⟩:=l
  let⟨a',o,e3,e4,_⟩:=S.mu i ov e2;rw[e1] at e3;cases e3;unfold Nw;rw[e4];exact S.off a ⟨i,ov,e1,e2⟩
 .let⟨a,o,e1,e2,h⟩:=S.mu i ov e
  exact⟨a,o,e1,k a o e2 (nO e1 e),h.same sm⟩
 .let⟨v,e1,h⟩:=S.sl i x e
  exact⟨v,e1,h.same sm⟩
 .let⟨ps,q⟩:=aV.tb S.tab ha
  unfold Nw;rw[q];calc S.nt a ha
theorem Ext.Bg(S:SR F ad δ σ H)(k:∀b o,H b=U o->b∉aV.ad->H' b=U o)(tk:aV.ok H'):Ext F ad δ.mu H (Nw F H H') ad δ.mu H' where
 same:=Nw.same S.sub
 new:=λa o e=>by
  unfold Nw at e
  cases q:H a with
  |none=>exact .inr (.inl Y)
  |some u=>rw[q] at e;exact .inl e
 keep:=λa o e _ t=>k a o e t
 pre:=λ_ _ e=>e
 b_:=λ_ l=>.inl l
 iI:=λa o e=>by
  by_cases t:a∈aV.ad
  .let⟨ps,q⟩:=aV.tb tk t
   exact⟨_,q⟩
  .calc⟨o,k a o e t⟩
theorem SR.uJ{sl:-(Option DV)}{mu:-(Option OV)}{τ:St}{d:D}{v:V}(S:SR F ad ⟨sl,mu⟩ τ H)(h:Is F d v):SR F ad ⟨U (.p d)::sl,mu⟩ (U v::τ) H:=by
 refine⟨S.sub,S.off,S.cD,S.inj,S.mu,λi x e=>?_,by let:=S.len;erw[Eg];calc congrArg (· + 1) this,S.tab,S.nt⟩
 cases i with
 |zero=>cases(show U (U (DV.p d))=U (U x) from e);exact⟨v,Y,h⟩
 |succ i=>calc S.sl i x e
theorem Ext.o9{F' H':Hp}{aE:-O}{cZ:-(Option OV)}{a:O}{o:HO}(S:SR F ad δ σ H)(e:Ext F ad δ.mu H F' aE cZ H')(h:H a=U o)(n1:∀vs,o≠.lst vs)(n2:∀ws,o≠.dK ws)(n3:∀ps,o≠.tbl ps)(n4:∀ws,o≠.dT ws)(n5:∀C dx ws,o≠.ins C dx ws:=by ext _ _ _ z;cases z):H' a=U o:=by
 refine e.keep a o h (λ⟨i,ov,e1,e2⟩=>?_) λt=>?_
 .let⟨a',u,e3,e4,q⟩:=S.mu i ov e2
  rw[e1] at e3;cases e3;rw[h] at e4;cases e4;rcases q.kd with⟨_,z⟩|⟨_,z⟩|⟨_,z⟩|⟨_,_,_,z⟩
  .exact n1 _ z
  .exact n2 _ z
  .exact n4 _ z
  .exact n5 _ _ _ z
 .let⟨ps,q⟩:=aV.tb S.tab t
  rw[h] at q;calc n3 _ (Vm q)
end
def PJ(cp:-(Option Nat))(fb:WE)(δ:aG)(ds:-D)(key:D->LK):Prop :=
 ∀d∈ds,key d≠[]/\fb ⟨U (.p d)::cV cp δ.sl,δ.mu⟩ λy δ'=>y=.p (.tup ((key d).map D.int))/\δ'.mu=δ.mu
def sortBy(cp:-(Option Nat))(fb:WE)(δ:aG)(ds:-D)(K:-D->Prop):Prop :=
 ↑ds<64/\∃key:D->LK,PJ cp fb δ ds key/\∀out:-D,out.Perm ds->(out.map key).Pairwise kle->K out
section
variable{X:Cx}{params:Arguments}{body:M}{scope:o}{fA:y}{x:J}{Nb:-J}{cp:-(Option Nat)}{fb:WE}{T:O}
structure jA(X:Cx)(params:Arguments)(body:M)(scope:o)(fA:y)(T:O)(x:J)(Nb:-J)(cp:-(Option Nat))(fb:WE):Prop where
 env:PH X T
 tbl:Bf T fA (X.env.qual++"<lambda>")
 PK:defaultsOf params X.env=([],[])
 kind:scope.kind=.function
 names:wN X.N X.env.scope scope x Nb cp=θ
 co:scope.isCoroutine=ι
 gen:scope.isGenerator=ι
 bind:∀(cl:-(J×O))(pm cd ct u:L),bindArgs (kla_fn "<lambda>" (X.env.qual++"<lambda>") params body scope cl pm cd ct) ⟨[u],[]⟩=pure [(x,u)]
 room:∃k,bc (k+3) X.A/\∀d:LD,bc k (d.A.deeper (envX (X.env.qual++"<lambda>") scope ⇑d.s d.f d.cd d.cl))->JE (nW X (X.env.qual++"<lambda>") scope (x::Nb) d) body (tD fb)
theorem PL{pins:aM}{σ:St}{H:Hp}{s:B}{E:bw}{l:O}{F:Hp}{ad:-O}{δ:aG}{ds:-D}{xs:-V}{iT pos:Ε}{Q:VK}(L:jA X params body scope fA T x Nb cp fb)
  (I:Inv X pins σ H s) (S:SR F ad δ σ H) (hx:aj F ds xs)
  (col:∀(s:B)(H':Hp),Inv X pins σ H' s->(∀b o,H b=U o->b∉aV.ad->H' b=U o)->∀Q':-ν->B->Prop,(∀h' tk vs,(∀b o,s.heap.get? b=U o->h'.get? b=U o)->Vals xs vs->Q' vs {s with heap:=h',toks:=tk})->G (ς X.prog X.w) X.A.in1 (collect (.ref l)) Q' E s)
  (hs:sortBy cp fb δ ds λout=>∀a F' H' us,Ext F ad δ.mu H F' ad δ.mu H'->SR F' ad δ σ H'->H' a=Z->aj F' out us->Q (.ref a) (upd H' a (.lst us))) :
  G (ς X.prog X.w) X.A (evalAll ((backToKw pos (keywordEach [⟨U "key",.Lambda params body scope fA,iT⟩] X.env)).map (·.2))) (λkvs s₂=>G (ς X.prog X.w) X.A (call (.builtin "sorted") [.ref l] (((backToKw pos (keywordEach [⟨U "key",.Lambda params body scope fA,iT⟩] X.env)).filterMap (·.1)).zip kvs)) (EP X pins σ Q) E s₂) E s:=by
 let⟨oO,key,hk,K⟩:=hs;let⟨k,uK,J⟩:=L.room;let⟨cc,jy,hC⟩:=L.env.code;show G _ _ (evalAll [do let v <- eval (.Lambda params body scope fA) X.env;standAt pos;pure v]) _ _ _;calc evalAll_cons (s_ ?_);let Bh:=L.names;unfold wN at Bh;erw[Vy,Wk,WL] at Bh;let SC:=x1w L.kind Bh.1.1.1;let⟨cl,oN,qB,wO⟩:=Ei (scope:=scope) (env:=X.env) λy hy e=>I.ok.has y.1 (SC.free y hy e);calc Pm I (L.tbl.get H S.tab) L.PK oN jy (hC.keeps I.bk) L.env.ng (I.mod.glob.keeps I.bk) (L.env.blt.keeps I.bk) λf H1 s1 c I1 t1 k1 Pj hf hc=>?_;calc s_ (Yt (Md ?_));calc evalAll_nil ?_;show G _ _ (call (.builtin "sorted") [.ref l] [(Xb "key",.ref f)]) _ _ _
 let kT:∀b o,H b=U o->b∉aV.ad->H1 b=U o:=λb o e t=>k1 b o e λz=>t (by rw[z];calc L.tbl.mem);let ot:=L.tbl.put H H1 S.tab t1 k1;let S1:=S.Bg kT ot;let E1:=Ext.Bg S kT ot;let lx:=↑hx
 refine PE (xs:=xs) (P:=λkvs H'=>∃F',Ext F ad δ.mu H F' ad δ.mu H'/\SR F' ad δ σ H'/\H' f=U (i8 f "<lambda>" (X.env.qual++"<lambda>") params body scope cl ((X.mg "__name__").getD .none) (.ref c))/\H' c=U (l7 c (X.env.qual++"<lambda>"))/\∀(i:Nat)(d:D)(kv:V),ds[i]?=U d->kvs[i]?=U kv->Is F' (.tup ((key d).map D.int)) kv)
  I1 (col s1 H1 I1 kT) ⋯ ⟨_,E1,S1,hf,hc,λi d kv _ e=>by simp at e⟩ (λdf v u kvs H' s' hv rv I' ⟨F',E',S',Bi,ka,Bj⟩=>?_) λkvs H' hl ⟨F',E',S',Bi,ka,Bj⟩=>?_
 .let hi:↑kvs<↑ds:=by rw[<-lx];exact(qW.mp hv).1
  let hd:=pU hi;let PM:Is F' ds[↑kvs] v:=aj.at (hx.same E'.same) hd hv;let⟨UK,PN⟩:=hk _ (Wx hi);let r2:bc (k+1) X.A.in1.in1:=(bc.in1 (bc.in1 (k:=k+2) uK));calc Pr I' Bi ka (by rw[show X.A.in1.in1.frames=X.A.frames from Y];calc I'.ok.frames) r2.hd r2.depth L.kind L.names L.co L.gen qB wO (λct=>L.bind cl _ _ ct u) rv (J ⟨X.A.in1.in1,cl,f,.ref c,s',H'⟩ (r2.deeper _)) ?_;calc⟨F',ad,_,_,(S'.qh (cp:=cp)).uJ PM,PN,λy δ' ⟨ey,em⟩ w F2 bV H2 E2 S2 V2=>?_⟩;subst ey
  let ea:bV=ad:=by
   let l2:↑bV=↑ad:=by rw[S2.cD,em,S'.cD]
   refine YZ λi=>?_
   by_cases hi:i<↑ad
   .rw[pU hi];exact E2.pre i _ (pU hi)
   .rw[W6 ⋯,W6 ⋯]
  subst ea;let⟨Ds,cZ⟩:=δ';let em:cZ=δ.mu:=em;subst em;refine⟨F2,E'.trans E2,SR.back S' E2 S2,E2.o9 S' Bi (λ_ z=>by cases z) (λ_ z=>by cases z) (λ_ z=>by cases z) (λ_ z=>by cases z),E2.o9 S' ka (λ_ z=>by cases z) (λ_ z=>by cases z) (λ_ z=>by cases z) (λ_ z=>by cases z),λi d kv e1 e2=>?_⟩
  by_cases nk:i<↑kvs
  .rw[Mc nk] at e2
   exact Is.same E2.same (Bj i d kv e1 e2)
  .let:i=↑kvs:=by
    let:=(qW.mp e2).1;rw[Eh,VA] at this;symm
   subst this;rw[Mf (yT _),VB] at e2;cases(show U w=U kv from e2)
   rw[hd] at e1;cases e1;exact V2
 .refine⟨ds.map key,by rw[pV];symm,λk lW=>?_,λi k' e=>?_,λp s' a hp up ha I'=>?_⟩
  .let⟨d,hd,rfl⟩:=Vh.mp lW
   exact(hk d hd).1
  .rw[My] at e
   let⟨d,hd,rfl⟩:=Va.mp e;let hi:i<↑kvs:=by rw[hl,lx];exact(qW.mp hd).1
   let is:=Bj i d _ hd (pU hi);erw[Is] at is;let⟨t,us,e1,e2,e3⟩:=is;calc⟨t,by rw[pU hi,e1],?_⟩;rw[<-qq e3];exact S'.sub _ _ e2
  .let pm:(p.toList.map λi=>ds.getD i .non).Perm ds:=by
    let h1:=(YW.mp hp.perm).map λi=>ds.getD i .non
    let h2:(Vp ↑xs).map (λi=>ds.getD i D.non)=ds:=by
     calc YZ λi=>?_;rw[My]
     by_cases hi:i<↑ds
     .rw[Xk ⋯,q1f,pU hi,Mg,pU hi];rfl
     .rw[W6 (by rw[VG];symm),W6 ⋯];rfl
    rw[show(Vp ↑xs).toArray.toList=Vp ↑xs from Y,h2] at h1;exact h1
   refine⟨.ref a,_,I',Y,K _ pm ?_ a _ _ _ E' S' ha ?_⟩
   .rw[Vv,XR]
    ext i j hi hj jx;rw[pV,Vb,hp.size] at hi hj;let:=up i j (WB jx) hj;unfold KA at this;rw[WU,WU]
    let gp:∀{i:Nat}(h:i<↑p.toList),p.getD i 0=p.toList[i]:=λ{i} h=>by
     let h':i<p.size:=by rw[<-Vb];exact h
     simp[q4w,h']
    let gk:∀{i:Nat},i<↑ds->(ds.map key).getD i []=key (ds.getD i .non):=λ{i} h=>by
     rw[Mg,My,pU h,Mg,pU h];rfl
    let pi:=hp.lt hi;let pj:=hp.lt hj;dsimp only at this;rw[gk ⋯,gk ⋯,gp (by rw[Vb,hp.size];calc hi),gp (by rw[Vb,hp.size];calc hj)] at this;exact this
   .refine aj.uI ?_ λi d e=>?_
    .rw[pV,pV]
    .rw[My] at e ⊢
     let⟨z,e1,rfl⟩:=Va.mp e;rw[e1];let hz:=hp.mem (Vw e1);calc⟨_,Y,aj.at (hx.same E'.same) (getD_some ⋯) (getD_some ⋯)⟩
end
structure gZ(mg:J->Option L)(base:I)(fd:FuncData)(T:O)(pos:y)(q:J):Prop where
 code:∃cc,fd.code=.ref cc/\CodeHd base cc T
 ng:mainGlobals≠T
 blt:base.BuiltinsAt mg T
 tbl:Bf T pos q
theorem f_.Bk{P:l}{w:ω}{K:Ee}{mg:J->Option L}{base:I}{x qual:J}{st:R}{f:O}{fd:FuncData}{N ps:-J}{k:Nat}{G:GD}(F:f_ K x qual st f fd)(S:mF N ps (cH st))
  (eA:∀(bq:L)(A:q)(outer:-t)(s:ο)(H:Hp)(E:XK),fd.code=bq->bc k (A.deeper (envOfC qual (cH st) ⇑s f bq)) →
   ∃B:WS,dU (eT eM P w K mg base N qual (cH st) f bq A outer s H E).kc (fN st) (dG B)/\∀ys ar K',↑ys=↑ps->G ys ar K'->B (iY ↑ar K') ⟨ys.map U++Ul (↑N-↑ps) Z,ar.map U⟩) :
  bY P w K mg base eM (k+1) f fd ps (mW G ↑ps):=by
 let⟨oc,od,kV,doc,pm,an,bq,ct,mH,rfl,lk,gi⟩:=F.ex;calc DW lk gi S (λvs H Q E h=>h.1) λA outer s H vs Q E hr h=>?_;let⟨hl,Fz,ad,ys,ar,K',S0,g,kk⟩:=h;let⟨B,jb,hb⟩:=eA bq A outer s H E Y hr
 let hy:↑ys=↑ps:=by
  let:=S0.len;rw[pV] at this;rw[<-hl,this];show _=↑(ys.map U);rw[pV]
 refine⟨_,jb.kc,Fz,ad,⟨ys.map U++Ul (↑N-↑ps) Z,ar.map U⟩,iY ↑ar K',by rw[<-hl];calc S0.start,hb ys ar K' hy g,⟨fun δ' h F' aE σ' H' E' S'=>?_,fun δ' h=>h.elim,fun δ' h=>h.elim,λy δ' h v F' aE σ' H' E' S' V=>?_,trivial⟩⟩
 .exact v3 (σ':=σ') S0 E' S' (x:=.p .non) (v:=.non) Y h kk
 .calc v3 (σ':=σ') S0 E' S' V h kk
section
variable{X:Cx}{params:Arguments}{body a e:M}{scope:o}{fA p1 p2 q1 q2 iT:y}{x:J}{Nb:-J}{cp:-(Option Nat)}{fb f:WE}{fa:WA}{T:O}
def Bl(fa:WA)(cp:-(Option Nat))(fb:WE):WE:=fun δ K=>fa δ λxs δ1=>match xs with
 |[.p (.int j)]=>(0<=j/\j<=60)/\sortBy cp fb δ1 (c7 0 j.toNat) λout=>K (.o ↑δ1.mu) ⟨δ1.sl,δ1.mu++[U (.lst out)]⟩
 |_=>False
theorem PQ(L:jA X params body scope fA T x Nb cp fb)(hc:X.calm=θ)(Bm:Gl X "sorted")(hs:X.mg "sorted" = Z)(Bo:bootBuiltins "sorted" = U (.builtin "sorted"))(qt:Gl X "range")(hr:X.mg "range" = Z)(qu:bootBuiltins "range" = U (.type "range"))(ha:JA X [a] (cf fa))
  (he:starEach [a] X.env=[(ι,eval a X.env)]) (M:aG->-D->Prop)
  {pins:aM} {s:B} {σ:St} {H:Hp} {Q:VK} {F:Hp} {ad:-O} {δ:aG} (I:Inv X pins σ H s) (S:SR F ad δ σ H)
  (q:fa δ λxs δ1=>match xs with
   |[.p (.int j)]=>(0<=j/\j<=60)/\sortBy cp fb δ1 (c7 0 j.toNat) (M δ1)
   |_=>False)
  (fin:∀δ1 out,M δ1 out->∀a F' aE H' us,Ext F ad δ.mu H F' aE δ1.mu H'->SR F' aE δ1 σ H'->H' a=Z->aj F' out us->Q (.ref a) (upd H' a (.lst us))) :
  G (ς X.prog X.w) X.A (eval (.Call (.Name "sorted" p1) [.Call (.Name "range" p2) [a] [] q2] [⟨U "key",.Lambda params body scope fA,iT⟩] q1) X.env) (EP X pins σ Q) X.xe s:=by
 calc Xy (mx I Bm hs Bo ?_);calc callWith_kw ?_;refine bE ((mM (pM EI qt hr qu ha (he:=he)) cY) q1 pins s σ H (λvs H2=>∃(r:O)(j:Int)(F1:Hp)(aS:-O)(δ1:aG)(H1:Hp),vs=[.ref r]/\H2=upd H1 r (.rng 0 j)/\H1 r=Z/\Ext F ad δ.mu H F1 aS δ1.mu H1/\SR F1 aS δ1 σ H1/\(0<=j/\j<=60)/\sortBy cp fb δ1 (c7 0 j.toNat) (M δ1)) I ?_) λus s1 PR=>?_
 .refine⟨F,ad,δ,_,S,q,λxs δ1 h1 vs F1 aS H1 E1 S1 V1=>?_⟩
  split at h1
  .rename_i j
   let⟨v,r,e,W1,W2⟩:=V1;let W2:r=[]:=W2;let W1:v=.int j:=W1;subst W2 W1 e;exact⟨j,Y,λrr Ah=>⟨rr,j,F1,aS,δ1,H1,Y,Y,Ah,E1,S1,h1.1,h1.2⟩⟩
  .exact h1.elim
 .let⟨vs,H2,I2,r2,r,j,F1,aS,δ1,H1,ev,eH,PS,E1,S1,hj,Gz⟩:=PR
  subst ev eH;let⟨u,rfl,rx⟩:=vals1 r2;cases rx
  let sm:aN H1 (upd H1 r (.rng 0 j)):=dh PS;let S2:=S1.al sm;let E2:=Ext.al S1 sm;let⟨n,rfl⟩:∃n:Nat,j=n:=⟨j.toNat,⋯⟩;rw[Vt,uk] at Gz;refine PL L I2 S2 (ds:=(bX n).map D.int) (xs:=(bX n).map V.int) rp (λs' H' I' kp Q' hQ=>?_) ?_
  .let PT:H' r=U (.rng 0 (n:Int)):=kp r _ b7 λt=>by
    let⟨ps,z⟩:=aV.tb S2.tab t;rw[b7] at z;cases z
   let⟨t,u,v,e⟩:=(show ∃t u v,s'.heap.get? r=U {cls:=.type "range",data:=.fields #[.int 0 t,.int (n:Int) u,.int 1 v]} from I'.ba r _ PT);let hsz:Xq 0 (n:Int) 1=n:=by rw[Z4];split<;>symm
   calc PB (n:=n) (by rw[Wz];calc I'.ok.hd hc) e (q13 ⋯ ⋯ ⋯ ⋯) hsz ⋯ λh' tk acc PU it=>hQ h' tk _ PU ?_;refine zk ?_ λi u e=>?_
   .rw[Vb,it.1,bX,pV,VG]
   .rw[Vz] at e
    let⟨t',e2⟩:=it.2 i u e;let hi:i<n:=by rw[<-it.1];exact(XH.mp e).1
    calc⟨t',e2.trans ?_⟩;rw[bX,Mg,My,Xk hi];show XD (0+(i:Int)*1) t'=XD (i:Int) t';rw[q0L,q1b]
  .let⟨oO,key,hk,hK⟩:=Gz
   calc⟨oO,key,hk,λout pm pw a F' H' us E' S' hn is=>fin δ1 out (hK out pm pw) a F' aS H' us ((E1.trans E2).trans E') S' hn is⟩
theorem PV(L:jA X params body scope fA T x Nb cp fb)(hc:X.calm=θ)(Bm:Gl X "sorted")(hs:X.mg "sorted" = Z)(Bo:bootBuiltins "sorted" = U (.builtin "sorted"))(qt:Gl X "range")(hr:X.mg "range" = Z)(qu:bootBuiltins "range" = U (.type "range"))(ha:JA X [a] (cf fa))
  (he:starEach [a] X.env=[(ι,eval a X.env)]:=by rfl):JE X (.Call (.Name "sorted" p1) [.Call (.Name "range" p2) [a] [] q2] [⟨U "key",.Lambda params body scope fA,iT⟩] q1) (tD (Bl fa cp fb)) :=
 ⟨λpins s σ H Q I ⟨F,ad,δ,K,S,q,k⟩↦PQ L hc Bm hs Bo qt hr qu ha he (fun δ1 out=>K (.o ↑δ1.mu) ⟨δ1.sl,δ1.mu++[U (OV.lst out)]⟩) I S q fun δ1 out hM a F' aE H' us E' S' hn is=>by
  let oi:∀{jn},eN F' jn (.lst out) (.lst us):=λ{jn}=>⟨us,Y,is⟩
  calc k _ _ hM _ _ _ _ (E'.trans (Ext.own S' hn)) (S'.own hn oi) (Ar S')⟩
end
end L2
namespace L2
open PySem PySem.Spec PyProof.Rows PySem.W
section
variable{prog:l}{w:g}{A:q}{E:bw}{s:B}{Q:Bool->B->Prop}
end
section
variable{X:Cx}{pins:aM}{σ:St}{H:Hp}{s:B}{A:q}{E:bw}{a:O}{vs:-L}{ks:-LK}{κ:SortKind}
end
section
variable[aV]{X:Cx}
end
end L2
namespace LJ
open PySem L2 PySem.W
theorem PW{ls:-jZ}{b:O}{ps:Array L}:(ls.map λl=>(l.T,(#[]:Array L))).lookup b=U ps->(∃l∈ls,l.T=b)/\ps = #[]:=by
 induction ls with
 |nil=>ext h;cases h
 |cons l ls ih =>
  ext h;rw[Ve,Vi] at h
  cases q:b==l.T with
  |true =>
   rw[q] at h;exact⟨⟨l,Vc,(Wr q).symm⟩,(Vm h).symm⟩
  |false =>
   rw[q] at h;let⟨⟨l',h1,h2⟩,h3⟩:=ih h;calc⟨⟨l',Us _ h1,h2⟩,h3⟩
theorem Bp{ls:-jZ}{l:jZ}(h:l∈ls):(ls.map λl=>(l.T,(#[]:Array L))).lookup l.T=U #[]:=by
 induction ls with
 |nil=>cases h
 |cons l' ls ih =>
  rw[Ve,Vi]
  cases q:l.T==l'.T with
  |true=>rfl
  |false =>
   rcases Um.mp h with rfl|h
   .simp at q
   .calc ih h
theorem PX{l:OpenLaw}{q:ψ}{loose:-J}{XP:(J->Option L)->I->Prop}{d:DefRec}{K:Params->Frag}{as:-O}{e:∀P,as=(K P).map (·.1)}{ts:-O}{kk:Nat}(ls:-jZ)(C:CC)(Bq:ls.map (·.T)=ts)(hn:l.most=U 63)(pR:d.params.defaults=[])(hr:bc kk callerA)
  (rL:∀(w:g)(h:I),(K w.params).In h->Cs l.prog w C.cs h) (gi:∀(w:g)(h:I),(K w.params).In h->∀t∈ls,∃cc,CodeHd h cc t.T) (Br:∀P,noTabs (K P)=θ)
  (F:∀(w:g)(mg:J->Option L)(fa:O)(h:I),(K w.params).In h->h.Ns mainGlobals mg->mg d.name=U (.ref fa) →
   ∃fd:FuncData,(∀(s:B)(u:L),BindsTo s fd ⟨[u],[]⟩ [("script",u)])/\∀base:I,(K w.params).In base->base.Ns mainGlobals mg->(∀t∈ls,base.BuiltinsAt mg t.T)->bY l.prog w (K w.params) mg base eM kk fa fd ["script"] (@uA (iw ls C) (K w.params))) :
  WalkO q loose XP (kmHook K as e ts).says l.row.toRowW d [] (λf vs=>q0k f vs) :=
 L2.Pf (n:=63) (k:=kk) (x:="script") (K:=λw=>K w.params) (CX:=λ_=>eM) (sp:=λw=>@uA (iw ls C) (K w.params)) (cs:=λ_=>C.cs) (Ts:=λ_=>ls.map λl=>(l.T,#[])) hn (by decide) pR hr (λw h Y=>km_in_of Y)
  (λw h Y b ps hl=>by
   let⟨⟨t,ht,rfl⟩,rfl⟩:=PW hl;let e1:h.get? t.T=U (tabObj #[]):=km_tabs_of Y t.T (by rw[<-Bq];calc WQ ht);refine⟨e1,?_,?_⟩
   .let⟨cc,o,vs,_,_,_,_,_,_,_,c1,c2,c3,c4,_⟩:=gi w h (km_in_of Y) t ht
    exact⟨cc,o,vs,c1,c2,c3,c4⟩
   .cases z:(K w.params).lookup t.T with
    |none=>rfl
    |some o =>
     let e2:=km_in_of Y t.T o z;rw[e1] at e2;cases e2;let h2:=Wk.mp (Br w.params) (t.T,tabObj #[]) (mem_of_lookupK z)
     calc absurd (show ι=θ from h2) Vl)
  (λw h Y=>rL w h (km_in_of Y))
  (λw mg fa h KX G mK=>by
   let⟨fd,hb,hF⟩:=F w mg fa h KX G mK
   calc⟨fd,hb,λbase k1 k2 k3=>hF base k1 k2 λt ht=>k3 t.T #[] (Bp ht)⟩)
  (λw H a ns hl hO hQ hS=>by
   letI:aV:=iw ls C;calc⟨a,ns,rfl,hS,hl,⟨λt ht=>?_,hQ⟩,λ_=>rfl⟩;rcases hO t.T with⟨ps,z1,z2⟩|⟨z1,_⟩
   .rw[Bp ht] at z1;cases z1
    exact⟨#[],z2,trivial,.inl rfl⟩
   .rw[Bp ht] at z1;cases z1)
  λ_ _ _ _ _ z=>z
theorem PY{l:OpenLaw}{q:ψ}{loose:-J}{XP:(J->Option L)->I->Prop}{d:DefRec}{K:Params->Frag}{as:-O}{e:∀P,as=(K P).map (·.1)}{ts:-O}{kk:Nat}(ls:-jZ)(Bq:ls.map (·.T)=ts)(hn:l.most=U 63)(pR:d.params.defaults=[])(hr:bc kk callerA)
  (gi:∀(w:g)(h:I),(K w.params).In h->∀t∈ls,∃cc,CodeHd h cc t.T) (Br:∀P,noTabs (K P)=θ)
  (F:∀(w:g)(mg:J->Option L)(fa:O)(h:I),(K w.params).In h->h.Ns mainGlobals mg->mg d.name=U (.ref fa) →
   ∃fd:FuncData,(∀(s:B)(u:L),BindsTo s fd ⟨[u],[]⟩ [("script",u)])/\∀base:I,(K w.params).In base->base.Ns mainGlobals mg->(∀t∈ls,base.BuiltinsAt mg t.T)->bY l.prog w (K w.params) mg base eM kk fa fd ["script"] (@uA (Be ls) (K w.params))) :
  WalkO q loose XP (kmHook K as e ts).says l.row.toRowW d [] (λf vs=>q0k f vs) :=
 PX ls ⟨λ_=>Z,λh=>nomatch h⟩ Bq hn pR hr (λ_ _ _=>⟨λh=>(nomatch h),λh=>(nomatch h)⟩) gi Br F
end LJ
namespace LJ
open PySem L2
variable[aV]
inductive uL (ys:-DV) (ar:-OV) (K:RV->-OV->Prop):Prop
 |mk (m:Int) (ws:-(Int×Int×Int)) (_:bz m ws) (_:ys=[.p (aQ m ws)]) (_:ar=[]) (_:K (.p .non) [])
def Bs:WS:=(bC (eV (dT (aF 1 AW (aq (aa 0) ak)))) lT di)
theorem PZ:Sem 1 0 uL Bs:=by
 ext ys ar K'-⟨m,ws,W,rfl,rfl,k⟩;unfold Bs;simp!;calc⟨m,ws,W,Y,Y,?_⟩;simp!;calc eY k
inductive Bt (ys:-DV) (ar:-OV) (K:RV->-OV->Prop):Prop
 |mk (y:Int×Int×Int) (_:ys=[.p (aY y)]) (_:ar=[]) (_:K (.p (.tup [.int y.2.2,.int y.1,.int y.2.1])) [])
def Bu:WS:=(aR (bN (aq (d2 (aa 0) (dC (.int 2)) bg) (aq (d2 (aa 0) (dC (.int 0)) bg) (aq (d2 (aa 0) (dC (.int 1)) bg) ak)))))
theorem P8:Sem 1 0 Bt Bu:=by
 ext ys ar K'-⟨y,rfl,rfl,k⟩;unfold Bu;simp![aY,dj,c_,at2];calc eY k
noncomputable def o_(ws:-(Int×Int×Int))(n:Int):LK:=[(ws.getD n.toNat (0,0,0)).2.2,(ws.getD n.toNat (0,0,0)).1,(ws.getD n.toNat (0,0,0)).2.1]
structure aP(ws:-(Int×Int×Int))(ns:-Int):Prop where
 perm:ns.Perm (bX ↑ws)
 up:(ns.map (o_ ws)).Pairwise kle
theorem aP.nums{ws:-(Int×Int×Int)}{ns:-Int}(h:aP ws ns):Nums ws ns:=λn hn=>Gk (h.perm.mem_iff.mp hn)
theorem aP.len{ws:-(Int×Int×Int)}{ns:-Int}(h:aP ws ns):↑ns=↑ws:=by rw[h.perm.length_eq];unfold bX;simp
theorem P9{m:Int}{ws:-(Int×Int×Int)}(W:bz m ws){a b:Int}(ha:0<=a/\a<(↑ws:Int))(hb:0<=b/\b<(↑ws:Int))(e:o_ ws a=o_ ws b):a=b:=by
 let⟨i,rfl⟩:∃i:Nat,a=i:=⟨a.toNat,⋯⟩;let⟨j,rfl⟩:∃j:Nat,b=j:=⟨b.toNat,⋯⟩;let hi:i<↑ws:=by symm
 let hj:j<↑ws:=by symm
 unfold o_ at e;rw[Vt,Vt,Mg,pU hi,Mg,pU hj] at e;erw[q05,List.cons.injEq,and_true] at e
 let q:(ws.map λy=>(y.1,y.2.1))[i]'(by rw[pV];calc hi)=(ws.map λy=>(y.1,y.2.1))[j]'(by rw[pV];calc hj):=by
  rw[WU,WU,e.2.1,e.2.2]
 let:=(Yr W.unlike).mp q;rw[this]
theorem GA{m:Int}{ws:-(Int×Int×Int)}(W:bz m ws):∀{as bs:-Int},as.Perm bs->(∀x∈as,0<=x/\x<(↑ws:Int))->(as.map (o_ ws)).Pairwise kle->(bs.map (o_ ws)).Pairwise kle->as=bs
 |[],bs,p,_,_,_=>(List.nil_perm.mp p).symm
 |a::as,[],p,_,_,_=>absurd p.length_eq (by simp)
 |a::as,b::bs,p,hm,h1,h2=>by
  rw[Ve,WY] at h1 h2
  let e:a=b:=by
   rcases Um.mp (p.mem_iff.mp Vc) with z|z
   .exact z
   .rcases Um.mp (p.mem_iff.mpr (Vc (a:=b) (l:=bs))) with y|y
    .exact y.symm
    .let q1:=h1.1 _ (WQ y)
     let q2:=h2.1 _ (WQ z);exact P9 W (hm a Vc) (hm b (Us _ y)) (FL q1 q2)
  subst e;rw[GA W (p.cons_inv) (λx hx=>hm x (Us _ hx)) h1.2 h2.2]
theorem P_{out:-D}{l:-Int}(h:out.Perm (l.map D.int)):∃ns:-Int,out=ns.map D.int/\ns.Perm l:=by
 refine⟨out.map λd=>match d with
  |.int n=>n
  |_=>0,?_,?_⟩
 .rw[Vv]
  calc(q1e out).symm.trans (Xm λd hd=>?_);let⟨n,_,rfl⟩:=Vh.mp (h.mem_iff.mp hd);rfl
 .let:=h.map λd=>match d with
   |.int n=>n
   |_=>0
  rw[Vv] at this;calc this.trans (List.Perm.of_eq ((Xm λn _=>Y).trans (q1e l)))
inductive Bv (ys:-DV) (ar:-OV) (K:RV->-OV->Prop):Prop
 |mk (m:Int) (ws:-(Int×Int×Int)) (_:bz m ws) (_:ys=[.p (aQ m ws)]) (_:ar=[]) (_:∀ns,aP ws ns->K (.n (ns.map D.int)) [])
def Bw:WS:=(az (jr (aF 1 uL (aq (aa 0) ak))) (az (aU 1 (d2 (aa 0) (dC (.int 1)) bg)) (aR (Bl (aq (dN (aq (aa 1) ak) cB) ak) [U 1] (aF 1 Bt (aq (d2 (aa 1) (aa 0) bg) ak))))))
theorem Qa:Sem 1 1 Bv Bw:=by
 ext ys ar K'-⟨m,ws,W,rfl,rfl,k⟩;let i7:=W.fq;unfold Bw;calc aX λN hN=>?_;simp!;calc⟨m,ws,W,Y,Y,?_⟩;simp!;subst hN;calc aX λN hN=>?_;simp![c_,aQ];subst hN;simp![Bl]
 refine⟨⟨⋯,⋯⟩,by rw[m9];symm,λd=>match d with
  |.int n=>o_ ws n
  |_=>[],λd hd=>?_,λout pm pw=>?_⟩
 .let⟨i,hi⟩:=Ur.mp hd
  let⟨hi,rfl⟩:=oW hi;let e0:(0+(i:Int))=i:=by symm
  rw[e0];let⟨y,ey,hy,ea,_⟩:=nV W (n:=(i:Int)) ⋯ ⋯;calc⟨(by ext z;cases z),?_⟩;simp![ea];calc⟨y,Y,Y,?_⟩;simp!;unfold o_;rw[ey];rfl
 .rw[Vt,uk] at pm
  let⟨ns,rfl,pn⟩:=P_ pm;calc⟨[],Y,Y,.inl (k ns ⟨pn,?_⟩)⟩;rw[Vv] at pw;calc pw
noncomputable def nY(ws:-(Int×Int×Int))(st:-Int×-Int)(n:Int):-Int×-Int :=
 if st.2.getD (fz ws n).1 0=st.2.getD (fz ws n).2 0 then st else(st.1++[n],l6 st.2 (fz ws n).1 (fz ws n).2)
noncomputable def jB(ws:-(Int×Int×Int))(fs ns:-Int):-Int×-Int:=ns.foldl (nY ws) ([],fs)
noncomputable def lA(m:Int)(ws:-(Int×Int×Int))(ns:-Int):-Int:=sortI (jB ws (bX m.toNat) ns).1
theorem Qb(ws:-(Int×Int×Int))(st:-Int×-Int)(n:Int):↑(nY ws st n).2=↑st.2:=by
 unfold nY;split
 .rfl
 .calc Gh _ _ _
theorem uM(ws:-(Int×Int×Int)):∀(ns:-Int)(st:-Int×-Int),∃l,(ns.foldl (nY ws) st).1=st.1++l/\l.Sublist ns/\↑(ns.foldl (nY ws) st).2=↑st.2
 |[],st=>⟨[],by simp,.slnil,Y⟩
 |n::r,st=>by
  let⟨l,h1,h2,h3⟩:=uM ws r (nY ws st n);rw[Zu];rw[Qb] at h3;unfold nY at h1 h3 ⊢;split at h1
  .rename_i q
   rw[U_ q] at h3 ⊢;exact⟨l,h1,h2.cons _,h3⟩
  .rename_i q
   rw[U9 q] at h3 ⊢;calc⟨n::l,by rw[h1,Xe];rfl,h2.cons₂ _,h3⟩
theorem qF{a b:Int}:aO (.int a) (.int b)=E (a=b):=by
 cases q:aO (.int a) (.int b)
 .exact (Vd λz=>by rw[z,gb] at q;cases q).symm
 .erw[aO] at q
  calc(Vk (Wr q)).symm
inductive Bx (ys:-DV) (ar:-OV) (K:RV->-OV->Prop):Prop
 |mk (m:Int) (ws:-(Int×Int×Int)) (_:bz m ws) (_:ys=[.p (aQ m ws)]) (_:ar=[]) (_:∀ns,aP ws ns->K (.n ((lA m ws ns).map D.int)) [])
def By:WS:=(az (aU 1 (aF 1 Bv (aq (aa 0) ak))) (az (aU 2 (lS ak)) (az (aU 3 (aF 2 A0 (aq (aa 0) (aq (aa 2) ak)))) (az (fR (cM (aa 1)) (cz 4) (az (aU 5 (d2 (d2 (aa 0) (dC (.int 1)) bg) (aa 4) bg)) (bC (dT (d2 (d2 (aa 3) (d2 (aa 5) (dC (.int 0)) bg) bg) (d2 (aa 3) (d2 (aa 5) (dC (.int 1)) bg) bg) oX)) (az (jr (jV (aa 2) (aq (aa 4) ak))) (aU 3 (aF 3 uz (aq (aa 3) (aq (d2 (aa 5) (dC (.int 0)) bg) (aq (d2 (aa 5) (dC (.int 1)) bg) ak)))))) di))) (aR (rF (aq (aa 2) ak) wy))))))
theorem Qc:Sem 1 5 Bx By:=by
 ext ys ar K'-⟨m,ws,W,rfl,rfl,k⟩;let i7:=W.fq;let m1:=W.m1;let lR:=W.lR;unfold By;calc aX λN hN=>?_;simp!;calc⟨m,ws,W,Y,Y,λns ho=>?_⟩;simp!;subst hN;calc aX λN hN=>?_;simp!;subst hN;calc aX λN hN=>?_;simp!;calc⟨m,ws,[],W,λn hn=>absurd hn Vf,.inr ⟨Y,Y,?_⟩⟩;simp!;subst hN;calc aX λN hN=>uw λg' b' K2 hg hb' hK=>?_;simp!;subst hg hb' hK;let il:↑(bX m.toNat)=m.toNat:=by unfold bX;simp
 let hlen:=ho.len
 let inv:∀i,↑(jB ws (bX m.toNat) (ns.take i)).2=m.toNat/\↑(jB ws (bX m.toNat) (ns.take i)).1<=30:=λi=>by
  let⟨l,h1,h2,h3⟩:=uM ws (ns.take i) ([],bX m.toNat);calc⟨h3.trans il,?_⟩;let:(jB ws (bX m.toNat) (ns.take i)).1=l:=h1;rw[this];let:=h2.length_le;rw[Vn] at this;symm
 refine qy (λi δ=>δ=⟨[U (.p (aQ m ws)),U (.p (.lst (ns.map D.int))),U (.o 0),U (.p (bT (jB ws (bX m.toNat) (ns.take i)).2)),Z,Z],[U (.lst ((jB ws (bX m.toNat) (ns.take i)).1.map D.int))]⟩) Y ?_ ?_
 .ext i d δ L hi rfl hL
  rw[My] at hi;let⟨n,GB,rfl⟩:=Va.mp hi;let⟨n0,n1⟩:=ho.nums n (Vw GB);let⟨y,ey,hy,ea,a,b,e1,e2,h1,h2,_⟩:=nV W n0 n1;let en:fz ws n=(a,b):=by unfold fz;rw[ey,e1,e2,Vt,Vt]
  let⟨hf,hl⟩:=inv i
  let step:jB ws (bX m.toNat) (ns.take (i+1))=nY ws (jB ws (bX m.toNat) (ns.take i)) n:=by
   let:ns.take (i+1)=ns.take i++[n]:=by rw[Yl,GB];rfl
   rw[this];unfold jB;rw[q0Q];rfl
  let lB:=hL _ Y;rw[step] at lB;generalize jB ws (bX m.toNat) (ns.take i)=st at hf hl lB;let⟨acc,fs⟩:=st;dsimp only at hf hl lB ⊢;unfold nY at lB;rw[en] at lB;dsimp only at lB;calc⟨trivial,?_⟩;erw[cz,Wi,Wj];calc aX λN2 jX=>?_;simp![c_,aQ,ea];subst jX;let a1:=uy (ns:=fs) (i:=a) ⋯;let a2:=uy (ns:=fs) (i:=b) ⋯;calc fS λAy Bn hA hB=>?_;simp![dj,c_,aY,e1,e2,bT,a1,a2,qF]
  by_cases q:fs.getD a 0=fs.getD b 0
  .rw[Vk q]
   simp!;subst hB;rw[U_ q] at lB;simp!;exact lB
  .rw[Vd q]
   simp!;subst hA;rw[U9 q] at lB;calc aX λN2 jX=>?_;simp!;calc⟨⋯,?_⟩;subst jX;simp![dj,c_];calc⟨fs,a,b,Y,Y,⋯,⋯,⋯,?_⟩;simp!;rw[Vq] at lB;exact lB
 .ext δ rfl
  calc⟨trivial,?_⟩;let⟨hf,hl⟩:=inv ↑ns;rw[pV,VO (yT _)] at *;show N _;subst hN;simp![wy,ud];calc⟨⋯,[],Y,Y,.inl (k ns ho)⟩
theorem uN{us:-Int}{n:Int}:((us.map D.int).any λe=>aO e (.int n))=E (n∈us):=by
 cases q:(us.map D.int).any λe=>aO e (.int n)
 .refine (Vd λz=>?_).symm
  let:=WJ.mp q (.int n) (WQ z);exact this (gb _)
 .let⟨e,he,h⟩:=q06.mp q
  let⟨z,hz,rfl⟩:=Vh.mp he;rw[qF] at h;rw[<-Wb h];calc(Vk hz).symm
theorem rM:∀us:-Int,bB (us.map D.int)<=55
 |[]=>by simp[bB]
 |n::r=>by
  let:=rM r;erw[Ve,bB,dep];symm
noncomputable def i9(ws:-(Int×Int×Int))(us:-Int):-(Int×Int×Int):=us.map λu=>ws.getD u.toNat (0,0,0)
noncomputable def nZ(ws:-(Int×Int×Int))(sh:-Int):-Int:=(bX ↑ws).filter λn=>E (n∉sh)
noncomputable def l8(us:-Int)(i:Int):Int:=us.getD i.toNat 0
structure eG(ws:-(Int×Int×Int))(us:-Int):Prop where
 up:us.Pairwise (· < ·)
 nums:Nums ws us
theorem GC(n:Nat):(bX n).Pairwise (· < ·):=by
 unfold bX;rw[Xf];calc List.pairwise_lt_range.imp λh=>by symm
theorem uO(ws:-(Int×Int×Int))(sh:-Int):eG ws (nZ ws sh):=⟨(GC _).filter _,λn hn=>Gk (W8.mp hn).1⟩
theorem eG.nd{ws:-(Int×Int×Int)}{us:-Int}(S:eG ws us):us.Nodup:=S.up.imp λh=>by symm
theorem sub_len{ws:-(Int×Int×Int)}{us:-Int}:↑(i9 ws us)=↑us:=by unfold i9;rw[pV]
theorem Qd{us:-Int}{i:Int}(h:0<=i/\i<(↑us:Int)):l8 us i∈us:=by
 let hi:i.toNat<↑us:=by symm
 unfold l8;rw[Mg,pU hi];calc Wx hi
theorem eG.lt{ws:-(Int×Int×Int)}{us:-Int}(S:eG ws us){i j:Int}(hi:0<=i)(jx:i<j)(hj:j<(↑us:Int)):l8 us i<l8 us j:=by
 let h1:i.toNat<↑us:=by symm
 let h2:j.toNat<↑us:=by symm
 unfold l8;rw[Mg,Mg,pU h1,pU h2];calc XR.mp S.up i.toNat j.toNat h1 h2 ⋯
theorem getD_mem{ws:-(Int×Int×Int)}{n:Int}(h:0<=n/\n<(↑ws:Int)):ws.getD n.toNat (0,0,0)∈ws:=by
 let hi:n.toNat<↑ws:=by symm
 rw[Mg,pU hi];calc Wx hi
theorem rN{m:Int}{ws:-(Int×Int×Int)}{us:-Int}(W:bz m ws)(S:eG ws us):bz m (i9 ws us):=by
 let hl:↑us<=↑ws:=by
  let h:us.Sublist (bX ↑ws):=by
   let e:us=(bX ↑ws).filter λn=>E (n∈us):=by
    calc List.Perm.eq_of_pairwise (le:=(· < ·)) (λa b _ _ h1 h2=>by symm) S.up ((GC _).filter _) ?_;calc(List.perm_ext_iff_of_nodup S.nd ((Gm _).filter _)).mpr λa=>?_;rw[W8,WL];calc⟨λh=>⟨?_,h⟩,λh=>h.2⟩;let⟨h1,h2⟩:=S.nums a h;unfold bX;exact Vh.mpr ⟨a.toNat,VP.mpr ⋯,⋯⟩
   rw[e];exact YF
  let:=h.length_le;unfold bX at this;simpa using this
 refine⟨W.m1,W.lR,by rw[sub_len];calc Vo hl W.fq,λy hy=>?_,?_⟩
 .let⟨u,hu,rfl⟩:=Vh.mp hy
  exact W.ends _ (getD_mem (S.nums u hu))
 .unfold i9
  rw[Vv];calc Xf.mpr (S.nd.imp_of_mem λ{a b} ha hb ne e=>ne ?_);let⟨a0,a1⟩:=S.nums a ha;let⟨b0,b1⟩:=S.nums b hb;let h1:a.toNat<↑ws:=by symm
  let h2:b.toNat<↑ws:=by symm
  let e:((ws.map λy=>(y.1,y.2.1))[a.toNat]'(by rw[pV];calc h1))=(ws.map λy=>(y.1,y.2.1))[b.toNat]'(by rw[pV];calc h2):=by
   erw[Z8,Mg,pU h1,pU h2,q05] at e;rw[WU,WU];exact e
  let:=(List.getElem?_inj (i:=a.toNat) (j:=b.toNat) (by rw[pV];calc h1) W.unlike).mp (by rw[pU (by rw[pV];calc h1),pU (by rw[pV];calc h2),e]);symm
theorem Qe(ws:-(Int×Int×Int))(ns fs:-Int):∀i∈(jB ws fs ns).1,i∈ns:=λi hi=>by
 let⟨l,e,s,_⟩:=uM ws ns ([],fs);unfold jB at hi;rw[e,XB] at hi;calc s.subset hi
theorem GF{m:Int}{ws:-(Int×Int×Int)}(ns:-Int):∀i∈lA m ws ns,i∈ns:=λi hi=>Qe ws ns _ i ((sortI_perm _).mem_iff.mp hi)
theorem wR{m:Int}{ws:-(Int×Int×Int)}(ns:-Int):↑(lA m ws ns)<=↑ns:=by
 unfold lA jB;let⟨l,e,s,_⟩:=uM ws ns ([],bX m.toNat);rw[NU,e,XB];calc s.length_le
theorem Qf{m:Int}{ws:-(Int×Int×Int)}{ns:-Int}(o:aP ws ns):(lA m ws ns).Nodup:=by
 unfold lA jB;let⟨l,e,s,_⟩:=uM ws ns ([],bX m.toNat);calc(sortI_perm _).nodup_iff.mpr ?_;rw[e,XB];calc s.nodup (o.perm.nodup_iff.mpr (Gm _))
theorem Qg{us:-Int}{n:Int}(h:0<=n/\n<(↑us:Int)):dY (us.map D.int) n=U (.int (l8 us n)):=by
 let:=uy (ns:=us) (i:=n.toNat) ⋯
 rwa [show((n.toNat:Nat):Int)=n by symm] at this
end LJ
namespace L2
open PySem PySem.Spec PyProof.Rows
variable[aV]
noncomputable def dr{α:Type}(kvs:-(Key×α))(k:Key):Option α:=(kvs.find? λkv=>E (kv.1=k)).map (·.2)
noncomputable def putD{α:Type}(kvs:-(Key×α))(k:Key)(d:α):-(Key×α) :=
 if(kvs.any λkv=>E (kv.1=k))=θ then kvs.map (λkv=>if kv.1=k then(kv.1,d) else kv) else kvs++[(k,d)]
section
omit [aV]
variable{α:Type}{R:α->V->Prop}
theorem fc.val(k:Key):∀{h9:-(Key×α)}{ws:-(Key×V)},fc R h9 ws->(dr h9 k=Z/\eB ws k=Z)\/∃d v,dr h9 k=U d/\eB ws k=U v/\R d v
 |[],_,h=>by let h:_=[]:=h;subst h;exact .inl ⟨Y,Y⟩
 |kd::r,_,⟨v,t,e,h1,h2⟩=>by
  subst e
  by_cases c:kd.1=k
  .refine .inr ⟨kd.2,v,?_,vI c,h1⟩
   unfold dr;rw[List.find?_cons_of_pos c⁻¹];rfl
  .rw[vJ c]
   let e:dr (kd::r) k=dr r k:=by unfold dr;rw[List.find?_cons_of_neg c⁻¹]
   rw[e];calc fc.val k h2
theorem fc.length{κ:Type}:∀{h9:-(κ×α)}{ws:-(κ×V)},fc R h9 ws->↑ws=↑h9
 |[],_,h=>by let h:_=[]:=h;subst h;rfl
 |kd::r,_,⟨v,t,e,h1,h2⟩=>by subst e;rw[Eg,Eg,↑h2]
theorem fc.any(k:Key):∀{h9:-(Key×α)}{ws:-(Key×V)},fc R h9 ws->(ws.any λkv=>E (kv.1=k))=h9.any λkv=>E (kv.1=k)
 |[],_,h=>by let h:_=[]:=h;subst h;rfl
 |kd::r,_,⟨v,t,e,h1,h2⟩=>by subst e;rw[Xj,Xj,h2.any k]
theorem fc.iW(k:Key){d:α}{v:V}(hd:R d v):∀{h9:-(Key×α)}{ws:-(Key×V)},fc R h9 ws->fc R (h9.map λkv=>if kv.1=k then(kv.1,d) else kv) (ws.map λkv=>if kv.1=k then(kv.1,v) else kv)
 |[],_,h=>by let h:_=[]:=h;subst h;rfl
 |kd::r,_,⟨u,t,e,h1,h2⟩=>by
  subst e
  by_cases c:kd.1=k
  .rw[Ve,Ve,U_ c,U_ c]
   exact⟨v,_,Y,hd,h2.iW k hd⟩
  .rw[Ve,Ve,U9 c,U9 c]
   calc⟨u,_,Y,h1,h2.iW k hd⟩
theorem fc.snoc{k:Key}{d:α}{v:V}(hd:R d v):∀{h9:-(Key×α)}{ws:-(Key×V)},fc R h9 ws->fc R (h9++[(k,d)]) (ws++[(k,v)])
 |[],_,h=>by let h:_=[]:=h;subst h;exact⟨v,[],Y,hd,Y⟩
 |kd::r,_,⟨u,t,e,h1,h2⟩=>by subst e;calc⟨u,_,Y,h1,h2.snoc hd⟩
theorem fc.put{h9:-(Key×α)}{ws:-(Key×V)}{k:Key}{d:α}{v:V}(h:fc R h9 ws)(hd:R d v):fc R (putD h9 k d) (putK ws k v):=by
 unfold putD putK;rw[h.any k];split
 .exact h.iW k hd
 .calc h.snoc hd
end
def j2(x:DV)(δ:aG)(K:Nat->(-(Key×D)->OV)->-(Key×D)->Prop):Prop:=match x with
 |.o k=>match δ.mu[k]? with
  |some (some (.dct kvs))=>K k OV.dct kvs
  |some (some (.ac a kvs))=>K k (OV.ac a) kvs
  |_=>False
 |_=>False
theorem GG{F H:Hp}{ad:-O}{δ:aG}{σ:St}{x:DV}{v:V}{K:Nat->(-(Key×D)->OV)->-(Key×D)->Prop}(S:SR F ad δ σ H)(V1:dB F ad x v)(h:j2 x δ K):∃k B kvs a ws,x=.o k/\K k B kvs/\v=.ref a/\ad[k]?=U a/\H a=U (.dK ws)/\vQ F kvs ws/\δ.mu[k]?=U (U (B kvs))/\∀{F' es us},vQ F' es us->eN F' a (B es) (.dK us):=by
 unfold j2 at h;split at h
 .rename_i k
  split at h
  .rename_i kvs e
   let⟨a,e1,rfl⟩:=V1;let⟨a',o,e2,e3,ws,rfl,h4⟩:=S.mu k _ e;rw[e1] at e2;cases e2;exact⟨k,_,kvs,a,ws,Y,h,Y,e1,e3,h4,e,λi=>⟨_,Y,i⟩⟩
  .rename_i b kvs e
   let⟨a,e1,rfl⟩:=V1;let⟨a',o,e2,e3,z,ws,rfl,h4⟩:=S.mu k _ e;rw[e1] at e2;cases e2;exact⟨k,_,kvs,a,ws,Y,h,Y,e1,e3,h4,e,λi=>⟨z,_,Y,i⟩⟩
  .exact h.elim
 .calc h.elim
def j3(x:DV)(P:Int->Prop):Prop:=match x with
 |.p (.int i)=>P i
 |_=>False
theorem GH{F:Hp}{ad:-O}{x:DV}{v:V}{P:Int->Prop}(hv:dB F ad x v)(h:j3 x P):∃i,v=kV (.inl i)/\P i:=by
 unfold j3 at h;split at h
 .rename_i i;exact⟨i,hv,h⟩
 .calc h.elim
def Bz:WE:=fun δ K=>K (.o ↑δ.mu) ⟨δ.sl,δ.mu++[U (.dct [])]⟩
def n6(neg:Bool)(fi fo:WE):WE:=fun δ K=>fi δ λx δ1=>fo δ1 λy δ2=>j3 x λi=>j2 y δ2 λ_ _ kvs=>K (.p (.bl (neg != (dr kvs (.inl i)).isSome))) δ2
def BA(fv fo fi:WE):WS:=λK δ=>fv δ λz δ1=>fo δ1 λx δ2=>fi δ2 λy δ3=>kj z δ3 λd δ4=>j3 y λi=>j2 x δ4 λk B kvs=>↑kvs<1000/\K.nx ⟨δ4.sl,δ4.mu.set k (U (B (putD kvs (.inl i) d)))⟩
section
variable{X:Cx}{o i e v:M}{fo fi fv fk fe:WE}{pos:y}
theorem Qh:JE X (.Dict [] [] pos) (tD Bz):=kQ.weak fun σ H Q ⟨F,ad,δ,K,S,q,k⟩ p hp=>by
 let oi:∀{jn},eN F jn (.dct []) (.dK []):=λ{jn}=>⟨[],Y,Y⟩;calc k _ _ q _ _ _ _ (Ext.own S hp) (S.own hp oi) ⟨p,?_,Y⟩;rw[<-S.cD,Mf (yT _),VB];rfl
theorem Qi{neg:Bool}(td:TE)(hn:∀σ H (Q:VK),(tD fi σ H λy H1=>tD fo σ H1 λx H2=>∃a o,x=.ref a/\jK H2 a y o/\Q (.bl (neg != o.isSome)) H2)->td σ H Q):∀σ H Q,tD (n6 neg fi fo) σ H Q->td σ H Q:=fun σ H Q ⟨F,ad,δ,K,S,q,k⟩=>hn σ H Q ⟨F,ad,δ,_,S,q,λx δ1 h1 v F1 aS H1 E1 S1 V1=>⟨F1,aS,δ1,_,S1,h1,λy δ2 h2 u F2 bV H2 E2 S2 V2=>by
  let⟨i,rfl,h3⟩:=GH (V1.ext E2) h2;let⟨k0,B,kvs,a,ws,rfl,h4,rfl,e1,e2,i1,m1,k6⟩:=GG S2 V2 h3;refine⟨a,_,Y,jK.k e2,?_⟩
  let es:(eB ws (Y0 i:Key)).isSome=(dr kvs (.inl i)).isSome:=by
   rcases i1.val (.inl i) with⟨z1,z2⟩|⟨d,v,z1,z2,_⟩
   .rw[z1,z2];rfl
   .rw[z1,z2];rfl
  rw[es]
  calc k _ _ h4 _ _ _ _ (E1.trans E2) S2 Y⟩⟩
theorem Qj{t:TE}{f:WE}(h:∀σ H Q,tD f σ H Q->t σ H Q):∀σ H Q,cP (dT f) σ H Q->tB t σ H Q:=fun σ H Q ⟨F,ad,δ,K,S,q,k⟩↦h σ H _ ⟨F,ad,δ,_,S,q,λx δ1 h1 v F1 aS H1 E1 S1 V1=>by
  let⟨b,rfl,h2⟩:=tR V1 h1
  calc⟨b,Y,k _ _ h2 _ _ _ E1 S1⟩⟩
theorem Qk(hu:X.A.units+64<cLine)(hi:JE X i (tD fi))(ho:JE X o (tD fo))(hm:behindInMarks .In o=ι:=by rfl):JT X (.Compare i [.In] [o] pos) (cP (dT (n6 ι fi fo))) :=
 (JX (MQ ⋯ hi ho) hm).weak (Qj (Qi (tL (tD fi) (tD fo)) fun σ H Q h=>by erw[q1I] at h;calc h))
theorem Ql[jq]{pos':Ε}(hu:X.A.units+64<cLine)(ho:JE X o (tD fo))(hi:JE X i (tD fi))(hv:JE X v (tD fv))(hs:swapsWith v (U (.Subscript o i pos')) pos.line X.env=pure ι:=by rfl):JS X (.Assign [.Subscript o i pos'] v pos) (dG (BA fv fo fi)) :=
 (MR ⋯ ho hi hv hs).weak λD σ H ⟨F,ad,δ,K,S,q,k⟩=>⟨F,ad,δ,_,S,q,λz δ1 h1 w F1 aS H1 E1 S1 V1=>⟨F1,aS,δ1,_,S1,h1,λx δ2 h2 u F2 bV H2 E2 S2 V2=>⟨F2,bV,δ2,_,S2,h2,λy δ3 h3 t F3 mU H3 E3 S3 V3=>by
  let⟨d,δ4,F4,h4,E4,S4,i4⟩:=qe S3 ((V1.ext E2).ext E3) h3;let⟨i,rfl,h5⟩:=GH V3 h4;let⟨k0,B,kvs,a,ws,rfl,h6,rfl,e1,e2,i1,m1,k6⟩:=GG S4 ((V2.ext E3).ext E4) h5;let oi:=k6 (F':=F4) (us:=putK ws (.inl i) w) (i1.put i4);refine⟨a,_,Y,kP.k e2 (pX (by rw[↑i1];calc WB h6.1)),?_⟩
  calc k.nx _ h6.2 _ _ _ _ ((((E1.trans E2).trans E3).trans E4).trans (Ext.put S4 m1 e1)) (S4.put m1 e1 oi)⟩⟩⟩
end
end L2
namespace LJ
open PySem L2
variable[aV]
theorem Qm{kvs:-(Key×D)}{k l:Key}{d:D}(h:dr kvs k=Z):dr (putD kvs k d) l=if l=k then U d else dr kvs l:=by
 let na:(kvs.any λkv=>E (kv.1=k))=ι:=by
  cases q:kvs.any λkv=>E (kv.1=k) with
  |false=>rfl
  |true =>
   let⟨kv,h1,h2⟩:=q06.mp q;unfold dr at h;rw[Option.map_eq_none_iff] at h;exact absurd h2 (q0b.mp h kv h1)
 unfold putD;rw[na,U9 Vl];unfold dr;rw[List.find?_append]
 cases q:kvs.find? λkv=>E (kv.1=l) with
 |some kv =>
  let e:=Zt q;let e:kv.1=l:=by simpa using e
  rw[U9]
  .rfl
  .ext z
   subst z;let hm:=List.mem_of_find?_eq_some q;let:=WJ.mp na kv hm;exact this e⁻¹
 |none =>
  by_cases c:l=k
  .subst c
   rw[U_ Y];simp
  .rw[U9 c]
   simp[show ¬ k=l fromλz=>c z.symm]
theorem Qn{kvs:-(Key×D)}{k:Key}{d:D}:↑(putD kvs k d)<=↑kvs+1:=by
 unfold putD;split
 .rw[pV];symm
 .rw[Eh];simp
inductive BB (ys:-DV) (ar:-OV) (K:RV->-OV->Prop):Prop
 |mk (m:Int) (ws:-(Int×Int×Int)) (ns:-Int) (_:bz m ws) (_:Nums ws ns) (_:ns.Nodup) (_:↑ns<=900) (_:ys=[.p (aQ m ws),.p (bT ns)]) (_:ar=[]) (_:K (.p .non) [])
def BC:WS:=(az (jr (aF 1 uL (aq (aa 0) ak))) (az (bC (eV (dT (d1 (aa 1) (c9 "list")))) lT di) (az (aU 2 (d2 (dN (aq (d2 (aa 0) (dC (.int 1)) bg) ak) cB) (dC (.int 1)) (oI λi j=>.int (i-j)))) (az (aU 3 Bz) (fR (m8 (aq (aa 1) ak)) (mS 2 (iK (cz 4) (iK (cz 5) lU))) (az (bC (oT (eV (dT (aF 3 ny (aq (aa 5) (aq (dC (.int 0)) (aq (aa 2) ak)))))) (dT (n6 ι (aa 5) (aa 3)))) lT di) (BA (dC (.bl θ)) (aa 3) (aa 5))))))))
theorem Qo:Sem 2 4 BB BC:=by
 ext ys ar K'-⟨m,ws,ns,W,hn,nd,hl,rfl,rfl,k⟩;unfold BC;calc aX λN hN=>?_;simp!;calc⟨m,ws,W,Y,Y,?_⟩;show N _;subst hN;calc aX λN hN=>?_;simp!;rw[show bT ns=.lst (ns.map D.int) from Y];simp![cS,bu,q2k];subst hN;calc aX λN hN=>?_;simp![c_,aQ];subst hN;calc aX λN hN=>?_;simp![Bz];subst hN
 let il:∀(j:Nat)(d:D),(lX 0 (ns.map D.int))[j]?=U d->∃n:Int,ns[j]?=U n/\d=D.tup [.int (j:Int),.int n]:=λj d hd=>by
  let⟨e,h1,h2⟩:=v7 hd;rw[My] at h1;let⟨n,h3,rfl⟩:=Va.mp h1;exact⟨n,h3,by rw[h2,VJ]⟩
 let el:↑(lX 0 (ns.map D.int))=↑ns:=by rw[v5,pV]
 erw[fR,m8,aq,aa,ak,Zf,X_,mZ];refine qy (λi δ=>∃kvs:-(Key×D),↑kvs<=i/\(∀n:Int,(dr kvs (.inl n)).isSome=E (n∈ns.take i))/\δ=⟨[U (.p (.tup [.int m,.tup (ws.map aY)])),U (.p (.lst (ns.map D.int))),U (.p (.int (↑ws-1))),U (.o 0),Z,Z],[U (.dct kvs)]⟩) ?_ ?_ ?_
 .refine⟨[],yT _,λn=>by simp[dr],?_⟩
  erw[pV]
 .ext j d δ L hj ⟨kvs,kl,kv,rfl⟩ hL
  let⟨n,qA,rfl⟩:=il j d hj;let⟨n0,n1⟩:=hn n (Vw qA);let jl:j<↑ns:=(qW.mp qA).1
  let ff:(dr kvs (.inl n)).isSome=ι:=by
   rw[kv n];calc Vd λhm=>?_;let⟨i,hi,ei⟩:=List.mem_iff_getElem.mp hm;rw[Vn] at hi;rw[List.getElem_take] at ei;let e2:ns[j]=n:=(qW.mp qA).2;let:=(Yr (h₀:=by symm) (h₁:=jl) nd).mp (ei.trans e2.symm);symm
  let fn:dr kvs (.inl n)=Z:=by
   cases q:dr kvs (.inl n) with
   |none=>rfl
   |some d=>rw[q] at ff;cases ff
  let wb:wD (.int n) 0 (↑ws-1)=θ:=by
   show(E (0<=n)&&E (n<=(↑ws:Int)-1))=θ;rw[Vk n0,Vk ⋯];rfl
  calc⟨trivial,?_⟩;erw[mS,iK,lU,cz,hZ,Wi,Wj,Eg,W9];calc⟨trivial,?_⟩;calc aX λN hN=>?_;simp!;calc⟨.int n,0,↑ws-1,Y,Y,?_⟩;simp![wb,n6,j3,j2,ff,q1I];subst hN;simp![BA,j3,j2];refine⟨⋯,hL _ ⟨putD kvs (.inl n) (.bl θ),?_,λl=>?_,?_⟩⟩
  .let:=Qn (kvs:=kvs) (k:=.inl n) (d:=.bl θ);symm
  .rw[Qm fn,Yl,qA]
   by_cases c:l=n
   .subst c
    rw[U_ Y];exact(Vk (by simp)).symm
   .rw[U9 (λz=>c (q25 z)),kv l]
    simp[c]
  .simp!
 .ext δ ⟨kvs,_,_,rfl⟩
  calc⟨trivial,eY k⟩
end LJ
namespace L2
open PySem PySem.Spec PyProof.Rows PySem.W
section
open PySem.SeqAt
open PySem.AutoSeq1 (wpAny_loadPart')
open PySem.MeetsSeq PySem.MeetsSeq2 PySem.MeetsSeq3
end
section
variable{prog:l}{w:g}{A:q}{E:bw}{s:B}{Q:Bool->B->Prop}
end
section
variable[aV]{X:Cx}
end
end L2
namespace LJ
open PySem L2
variable[aV]
end LJ
namespace L2
open PySem
variable[aV]
section
variable{F F' H H':Hp}{ad aE:-O}{δ δ':aG}{σ σ':St}
end
section
variable{X:Cx}{UL lN kI oB:R}{i n:Nat}{G:GD}{fa:WA}{t:WT}{B:TS}{E:XK}
end
end L2
namespace LJ
open PySem L2
variable[aV]
end LJ
namespace LJ
open PySem L2
abbrev Wy:=Int×Int×Int
section
variable{S S':Wy->Prop}{a b c:Int}
end
variable[aV]
theorem BE:∀us:-Int,bB (us.map D.int)=0
 |[]=>by simp[bB]
 |u::r=>by rw[Ve];erw[bB,dep];rw[BE r];rfl
inductive BF (ys:-DV) (ar:-OV) (K:RV->-OV->Prop):Prop
 |mk (m:Int) (ws:-(Int×Int×Int)) (ns:-Int) (_:bz m ws) (_:Nums ws ns) (_:ns.Nodup) (_:↑ns<=900) (_:ys=[.p (aQ m ws),.p (bT ns)]) (_:ar=[]) (_:K (.p (.int (ns.map λn=>(ws.getD n.toNat (0,0,0)).2.2).sum)) [])
def BG:WS:=(az (jr (aF 2 BB (aq (aa 0) (aq (aa 1) ak)))) (aR (dN (aq (gF (cM (aa 1)) [Z,U 0] (cz 0) dH (d2 (d2 (d2 (aa 1) (dC (.int 1)) bg) (aa 0) bg) (dC (.int 2)) bg)) ak) nh)))
theorem Qq:Sem 2 0 BF BG:=by
 ext ys ar K'-⟨m,ws,ns,W,hn,nd,hl,rfl,rfl,k⟩;unfold BG;calc aX λN hN=>?_;simp!;calc⟨m,ws,ns,W,hn,nd,hl,Y,Y,?_⟩;show N _;subst hN;unfold bT;simp!
 refine k9 (λd=>match d with
  |.int n=>.int (ws.getD n.toNat (0,0,0)).2.2
  |_=>.non) (by rw[pV];symm) trivial ?_ ?_
 .ext d hd acc L ha h
  let⟨n,me,rfl⟩:=Vh.mp hd;let⟨n0,n1⟩:=hn n me;let⟨y,ey,hy,ea,_⟩:=nV W n0 n1;simp![c_,at2,aQ,ea,aY];erw[ey] at h;exact⟨ha,h⟩
 .let e:intsOf ((ns.map D.int).map λd=>match d with
   |.int n=>D.int (ws.getD n.toNat (0,0,0)).2.2
   |_=>.non)=U (ns.map λn=>(ws.getD n.toNat (0,0,0)).2.2):=by
   rw[Vv];let:=ud (ns.map λn=>(ws.getD n.toNat (0,0,0)).2.2);rw[Vv] at this;exact this
  simp![nh,e];calc⟨⟨λx hx=>?_,⋯⟩,eY k⟩;let⟨n,me,rfl⟩:=Vh.mp hx;let⟨n0,n1⟩:=hn n me;let⟨y,ey,hy,_⟩:=nV W n0 n1;rw[ey];calc⟨(W.ends y hy).2.2.2.1,(W.ends y hy).2.2.2.2⟩
end LJ
namespace PySem
open Sem (wp)
structure ZG(z TI TO i j:O)(fp gp:-O):Prop where
 a1:TI≠z
 a2:TO≠z
 a3:i≠z
 a4:j≠z
 a5:TI≠TO
 a6:TI≠i
 a7:TI≠j
 a8:TO≠i
 a9:TO≠j
 b1:i≠j
 f1:z∉fp
 f2:TO∉fp
 f3:j∉fp
 g1:z∉gp
 g2:TO∉gp
 g3:i∉gp
theorem bk{a:O}{h h':I}(hs:XN a h h'){b:O}{o:Q}(n:b≠a)(e:h.get? b=U o):h'.get? b=U o:=(hs.2 b n).trans e
section
variable{prog:l}{w:g}{A:q}{E:bw}{s:B}{z TI TO i j:O}{fp gp:-O}{n m k:Nat}{P P':Nat->L->Prop}{St j4:Nat->I->Prop}{a b:L}
theorem Qr{Q:bw}(D:Draws prog w A i fp n P St)(D':Draws prog w A j gp m P' j4)(Z:ZG z TI TO i j fp gp)
  (hz:IsZip s.heap z TI TO .none) (hI:IsPair s.heap TI (.ref i) (.ref j)) (hO:IsPair s.heap TO a b) (st:St k s.heap) (f9:j4 k s.heap) (hk:k<n) (lW:k<m)
  (hQ:∀x y h' tk,P k x->P' k y->IsZip h' z TI TO (rawInt ⇑s)->IsPair h' TO x y->St (k+1) h'->j4 (k+1) h'->IsPair h' ⇑s x y →
   (∀c o,c≠z->c≠TO->c≠i->c≠j->s.heap.get? c=U o->h'.get? c=U o)->Q (.ref ⇑s) {s with heap:=h',toks:=tk}) :
  G (S prog w) A (Builtin.«zip.__next__» ⟨[.ref z],[]⟩) (λfin s'=>∃v,fin=.done (.ret v)/\Q v s') E s:=by
 show G _ _ (field (.ref z) 2 >>= _) _ _ _;calc s_ (Wd hz Y (x:=.bool ι) Y ?_);show G _ _ (field (.ref z) 3 >>= _) _ _ _;calc s_ (Wd hz Y (x:=.ref TI) Y (s_ (WD hI Y ?_)));show G _ _ (Wf (.ref z) >>= _) _ _ _;calc s_ ?_;unfold Wf;calc s_ (Wd hz Y (x:=.none) Y (Md ?_));erw[Yu];calc s_ (Zs (s_ (Wd hz Y (x:=.ref TO) Y (s_ (WZ hz (by simp) λk1 z1 s1=>?_)))));let z1:IsZip k1 z TI TO .ellipsis:=z1;calc s_ ?_;erw[q07,q1q,Zz,ZR];calc s_ (s_ (Y9 ?_));show G _ _ (V9 (.ref i) >>= _) _ _ _;refine s_ (D.item k {s with heap:=k1} _ _ hk (D.frame k _ _ st λc hc o e=>bk s1 (λy=>Z.f1 (y▸hc)) e) λx k2 t2 px kI s2=>Md ?_)
 let o2:IsPair k2 TO a b:=bk s2 Z.a8 (bk s1 Z.a2 hO);calc s_ (WD o2 Y (s_ (Yz o2 λk3 o3 s3=>?_)));let o3:IsPair k3 TO x b:=o3;calc s_ (ZS (Md (s_ (s_ (Y9 ?_)))));show G _ _ (V9 (.ref j) >>= _) _ _ _;let qG:j4 k k3:=D'.frame k _ _ f9 λc hc o e=>bk s3 (λy=>Z.g2 (y▸hc)) (bk s2 (λy=>Z.g3 (y▸hc)) (bk s1 (λy=>Z.g1 (y▸hc)) e));let oB:St (k+1) k3:=D.frame _ _ _ kI λc hc o e=>bk s3 (λy=>Z.f2 (y▸hc)) e;calc s_ (D'.item k {s with heap:=k3,toks:=t2} _ _ lW qG λy k4 t4 py Qs s4=>Md ?_);let o4:IsPair k4 TO x b:=bk s4 Z.a9 o3;refine s_ (WD o4 Y (s_ (Yz o4 λk5 o5 s5=>?_)))
 let o5:IsPair k5 TO x y:=o5;calc s_ (ZS (Md (Md (s_ (WD o5 Y (s_ (q1H ?_)))))));let sz:k5.objs.size=⇑s:=by rw[s5.1,s4.1,s3.1,s2.1,s1.1]
 let z5:IsZip k5 z TI TO .ellipsis:=bk s5 Z.a2.symm (bk s4 Z.a4.symm (bk s3 Z.a2.symm (bk s2 Z.a3.symm z1)));let kp:∀c o,c≠z->c≠TO->c≠i->c≠j->s.heap.get? c=U o->k5.get? c=U o:=λc o c1 c2 c3 c4 e=>bk s5 c2 (bk s4 c4 (bk s3 c2 (bk s2 c3 (bk s1 c1 e))));let t5:St (k+1) k5:=D.frame _ _ _ oB λc hc o e=>bk s5 (λy=>Z.f2 (y▸hc)) (bk s4 (λy=>Z.f3 (y▸hc)) e);let Qt:j4 (k+1) k5:=D'.frame _ _ _ Qs λc hc o e=>bk s5 (λy=>Z.g2 (y▸hc)) e;let zl:z<k5.objs.size:=Me z5;show G _ _ (XS (.ref z) (.ref k5.objs.size) >>= _) _ _ _;calc s_ ?_;unfold XS;refine s_ (WZ (show IsZip (k5.push {cls:=.type "tuple",data:=.seq #[x,y]}) z TI TO .ellipsis from vB _ z5) (by simp) λk7 z7 s7=>?_)
 let z7:IsZip k7 z TI TO (rawInt k5.objs.size):=z7;calc WZ z7 (by simp) λk8 z8 s8=>?_;let z8:IsZip k8 z TI TO (rawInt k5.objs.size):=z8;let up:∀c o,c≠z->k5.get? c=U o->k8.get? c=U o:=λc o c1 e=>bk s8 c1 (bk s7 c1 (vB _ e));let p8:IsPair k8 k5.objs.size x y:=bk s8 (WR zl) (bk s7 (WR zl) (Uo _ Y));rw[sz] at z8 p8;calc Md ⟨_,Y,?_⟩;show Q (.ref k5.objs.size) _;rw[sz];calc hQ x y k8 t4 px py z8 (up _ _ Z.a2 o5) (D.frame _ _ _ t5 λc hc o e=>up c o (λy=>Z.f1 (y▸hc)) e) (D'.frame _ _ _ Qt λc hc o e=>up c o (λy=>Z.g1 (y▸hc)) e) p8 λc o c1 c2 c3 c4 e=>up c o c1 (kp c o c1 c2 c3 c4 e)
theorem Qu{Q:Fin->B->Prop}(D:Draws prog w A i fp n P St)(D':Draws prog w A j gp m P' j4)(Z:ZG z TI TO i j fp gp)
  (hz:IsZip s.heap z TI TO .none) (hI:IsPair s.heap TI (.ref i) (.ref j)) (hO:IsPair s.heap TO a b) (st:St k s.heap) (f9:j4 k s.heap) (hk:k=n\/(k<n/\k=m))
  (hE:∀h' e tk,(∀c o,c≠z->c≠TO->c≠i->c≠j->s.heap.get? c=U o->h'.get? c=U o)->(∃o,h'.get? e=U o/\o.cls=.type "StopIteration")->E (.ref e) {s with heap:=h',toks:=tk}) :
  G (S prog w) A (Builtin.«zip.__next__» ⟨[.ref z],[]⟩) Q E s:=by
 show G _ _ (field (.ref z) 2 >>= _) _ _ _;calc s_ (Wd hz Y (x:=.bool ι) Y ?_);show G _ _ (field (.ref z) 3 >>= _) _ _ _;calc s_ (Wd hz Y (x:=.ref TI) Y (s_ (WD hI Y ?_)));show G _ _ (Wf (.ref z) >>= _) _ _ _;calc s_ ?_;unfold Wf;calc s_ (Wd hz Y (x:=.none) Y (Md ?_));erw[Yu];calc s_ (Zs (s_ (Wd hz Y (x:=.ref TO) Y (s_ (WZ hz (by simp) λk1 z1 s1=>?_)))));let z1:IsZip k1 z TI TO .ellipsis:=z1;calc s_ ?_;erw[q07,q1q,Zz,ZR];calc s_ (s_ (Y9 ?_));show G _ _ (V9 (.ref i) >>= _) _ _ _;let lN:St k k1:=D.frame k _ _ st λc hc o e=>bk s1 (λy=>Z.f1 (y▸hc)) e
 rcases hk with rfl|⟨hk,rfl⟩
 .refine s_ (D.done {s with heap:=k1} _ _ lN λk2 e s2 he=>?_)
  let⟨oe,ho,hc⟩:=he;let z2:IsZip k2 z TI TO .ellipsis:=s2 _ _ Z.a3.symm z1;let ez:e≠z:=λx=>by subst x;rw[z2] at ho;cases ho;simp at hc
  exact WZ z2 (by simp) λk3 _ s3=>hE k3 e _ (λc o c1 _ c3 _ x=>bk s3 c1 (s2 _ _ c3 (bk s1 c1 x))) ⟨oe,bk s3 ez ho,hc⟩
 .refine s_ (D.item k {s with heap:=k1} _ _ hk lN λx k2 t2 px kI s2=>Md ?_)
  let o2:IsPair k2 TO a b:=bk s2 Z.a8 (bk s1 Z.a2 hO);calc s_ (WD o2 Y (s_ (Yz o2 λk3 o3 s3=>?_)));calc s_ (ZS (Md (s_ (s_ (Y9 ?_)))));show G _ _ (V9 (.ref j) >>= _) _ _ _;let qG:j4 k k3:=D'.frame k _ _ f9 λc hc o e=>bk s3 (λy=>Z.g2 (y▸hc)) (bk s2 (λy=>Z.g3 (y▸hc)) (bk s1 (λy=>Z.g1 (y▸hc)) e));calc s_ (D'.done {s with heap:=k3,toks:=t2} _ _ qG λk4 e s4 he=>?_);let⟨oe,ho,hc⟩:=he;let z4:IsZip k4 z TI TO .ellipsis:=s4 _ _ Z.a4.symm (bk s3 Z.a2.symm (bk s2 Z.a3.symm z1));let ez:e≠z:=λx=>by subst x;rw[z4] at ho;cases ho;simp at hc
  calc WZ z4 (by simp) λk5 _ s5=>hE k5 e _ (λc o c1 c2 c3 c4 x=>bk s5 c1 (s4 _ _ c4 (bk s3 c2 (bk s2 c3 (bk s1 c1 x))))) ⟨oe,bk s5 ez ho,hc⟩
theorem Qv{Q:Option L->B->Prop}(D:Draws prog w A.in1 i fp n P St)(D':Draws prog w A.in1 j gp m P' j4)(Z:ZG z TI TO i j fp gp)
  (hz:IsZip s.heap z TI TO .none) (hI:IsPair s.heap TI (.ref i) (.ref j)) (hO:IsPair s.heap TO a b) (st:St k s.heap) (f9:j4 k s.heap) (hk:k<n) (lW:k<m)
  (hQ:∀x y h' tk,P k x->P' k y->IsZip h' z TI TO (rawInt ⇑s)->IsPair h' TO x y->St (k+1) h'->j4 (k+1) h'->IsPair h' ⇑s x y →
   (∀c o,c≠z->c≠TO->c≠i->c≠j->s.heap.get? c=U o->h'.get? c=U o)->Q (U (.ref ⇑s)) {s with heap:=h',toks:=tk}):G (S prog w) A (pyNext (.ref z)) Q E s:=by
 let hT:s.TypeIs (.ref z) "zip" := ⟨_,hz,Y⟩;unfold pyNext;calc s_ (q0a (Wm (name:=Xb "__next__") hT YB (Xr YB hT q08 (Qr D D' Z hz hI hO st f9 hk lW λx y h' tk a1 a2 a3 a4 a5 a6 a7 a8=>Md (hQ x y h' tk a1 a2 a3 a4 a5 a6 a7 a8)) (q0S _))))
theorem Qw{Q:Option L->B->Prop}(D:Draws prog w A.in1 i fp n P St)(D':Draws prog w A.in1 j gp m P' j4)(Z:ZG z TI TO i j fp gp)
  (hz:IsZip s.heap z TI TO .none) (hI:IsPair s.heap TI (.ref i) (.ref j)) (hO:IsPair s.heap TO a b) (st:St k s.heap) (f9:j4 k s.heap) (hk:k=n\/(k<n/\k=m))
  (hQ:∀h' tk,(∀c o,c≠z->c≠TO->c≠i->c≠j->s.heap.get? c=U o->h'.get? c=U o)->Q η {s with heap:=h',toks:=tk}):G (S prog w) A (pyNext (.ref z)) Q E s:=by
 let hT:s.TypeIs (.ref z) "zip" := ⟨_,hz,Y⟩;unfold pyNext;calc s_ (q0a (Wm (name:=Xb "__next__") hT YB (Xr YB hT q08 (Qu D D' Z hz hI hO st f9 hk λh' e tk kp he=>?_) (q0S _))));let⟨o,ho,hc⟩:=he;calc s_ (wpAny_isInstance (T:="StopIteration") (b:=true) ⟨o,ho,hc⟩ isSubtype_stop (Md (hQ _ _ kp)))
end
def d5(h:I)(t:Bool)(l:O)(xs:Array L):Prop:=match t with
 |true=>h.IsTuple l xs
 |false=>h.IsList l xs
noncomputable abbrev i_(t:Bool)(l:O)(k:Nat):Q:={cls:=.type (match t with|true=>"tuple_iterator" | false=>"list_iterator"),data:=.fields #[.ref l,.int k 0]}
def fB(h:I)(t:Bool)(it l:O)(k:Nat):Prop:=match t with
 |true=>h.IsTupleIter it l k
 |false=>h.IsListIter it l k
theorem d5.lt{h:I}{t:Bool}{l:O}{xs:Array L}(x:d5 h t l xs):l<h.objs.size:=by
 cases t<;>(let⟨o,e,_⟩:=x;calc Me e)
theorem d5.at{h h':I}{t:Bool}{l:O}{xs:Array L}(x:d5 h t l xs)(k:∀o,h.get? l=U o->h'.get? l=U o):d5 h' t l xs:=by
 cases t with
 |true=>exact Heap.IsTuple.at x k
 |false=>calc Heap.IsList.at x k
theorem fB.at{h h':I}{t:Bool}{i l:O}{n:Nat}(x:fB h t i l n)(k:∀o,h.get? i=U o->h'.get? i=U o):fB h' t i l n:=by
 cases t with
 |true=>exact Heap.IsTupleIter.at x k
 |false=>calc Heap.IsListIter.at x k
theorem fB.obj{h:I}{t:Bool}{i l:O}{n:Nat}(x:fB h t i l n):∃o,h.get? i=U o/\∀v,o.data≠.cell v:=by
 cases t<;>(let⟨o,e,_,d⟩:=x;calc⟨o,e,λv z=>by rw[d] at z;cases z⟩)
theorem fB.new{h:I}{t:Bool}{i l:O}(e:h.get? i=U (i_ t l 0)):fB h t i l 0:=by
 cases t<;>calc⟨_,e,Y,Y⟩
section
variable{prog:l}{w:g}{A:q}{E:bw}{s:B}
theorem wU(hh:A.handled=Z)(t:Bool)(it l:O)(hX:l≠it)(items:Array L):Draws prog w A it [it,l] items.size (λi v=>items[i]?=U v) (λi h=>fB h t it l i/\d5 h t l items):=by
 cases t
 .exact Draws.list hh it l hX items
 .calc zL hh it l hX items
theorem GI{t:Bool}{l:O}{xs:Array L}{Q:bw}(hl:d5 s.heap t l xs)(h:Q (.ref ⇑s) {s with heap:=s.heap.push (i_ t l 0)}):G (S prog w) A (pyIter (.ref l)) Q E s:=by
 cases t
 .exact W_ hl h
 .calc Xz hl h
end
noncomputable abbrev wV(h:I)(t:Bool)(l:O):I:=h.push (i_ t l 0)
noncomputable abbrev wW(h:I)(t u:Bool)(l m:O):I:=(wV h t l).push (i_ u m 0)
noncomputable abbrev wX(h:I)(t u:Bool)(l m:O):I:=(wW h t u l m).push {cls:=.type "tuple",data:=.seq #[.ref h.objs.size,.ref (wV h t l).objs.size]}
noncomputable abbrev wY(h:I)(t u:Bool)(l m:O):I:=(wX h t u l m).push {cls:=.type "tuple",data:=.seq #[.none,.none]}
noncomputable abbrev rO(h:I)(t u:Bool)(l m:O):I:=(wY h t u l m).push {cls:=.type "zip",data:=.fields #[.none,.bool ι,.bool ι,.ref (wW h t u l m).objs.size,.ref (wX h t u l m).objs.size]}
theorem Qx(t u:Bool)(l m:O)(xs ys:Array L):
  Meets (Builtin.«zip.__new__» ⟨[.type "zip",.ref l,.ref m],[]⟩) (λ_ R s=>d5 s.heap t l xs/\d5 s.heap u m ys/\R (.ok (.ret (.ref (wY s.heap t u l m).objs.size))) {s with heap:=rO s.heap t u l m}) :=
 .of_wp λprog w A R s h=>by
  let⟨hp,g,d,tk,os⟩:=s;let⟨h1,h2,h⟩:=h;let zI:=sub_zip;let e1:d5 (q1d ⟨hp,g,d,tk,os⟩) t l xs:=h1;let e2:d5 (q1d ⟨hp.push (i_ t l 0),g,d,tk,os⟩) u m ys:=d5.at h2 λo e=>vB _ e
  wp_walk using GI e1,GI e2
  calc⟨_,Y,h⟩
section
variable{prog:l}{w:g}{A:q}{E:bw}{s:B}
theorem Qy{t u:Bool}{l m:O}{xs ys:Array L}{Q:bw}(h1:d5 s.heap t l xs)(h2:d5 s.heap u m ys)
  (h:∀h',IsZip h' (⇑s+4) (⇑s+2) (⇑s+3) .none->IsPair h' (⇑s+2) (.ref ⇑s) (.ref (⇑s+1)) →
   IsPair h' (⇑s+3) .none .none->fB h' t ⇑s l 0->fB h' u (⇑s+1) m 0->(∀c o,s.heap.get? c=U o->h'.get? c=U o)->Q (.ref (⇑s+4)) {s with heap:=h'}) :
  G (S prog w) A (call (.type "zip") [.ref l,.ref m]) Q E s:=by
 calc callType_new F.called_zip (by decide) (F.typeCall_zip_2 _ _) (F.newCall_zip_2 _ _) (λobj=>F.args_object_init_3 obj _ _) F.entry_zip_new (Qx t u l m xs ys) ⟨h1,h2,?_⟩;let z1:(wV s.heap t l).objs.size=⇑s+1:=VQ ..;let z2:(wW s.heap t u l m).objs.size=⇑s+2:=by rw[VQ,z1]
 let z3:(wX s.heap t u l m).objs.size=⇑s+3:=by rw[VQ,z2]
 let z4:(wY s.heap t u l m).objs.size=⇑s+4:=by rw[VQ,z3]
 let q5:(rO s.heap t u l m).get? (wY s.heap t u l m).objs.size=U _:=Uo _ Y;let q4:(rO s.heap t u l m).get? (wX s.heap t u l m).objs.size=U _:=vB _ (Uo _ Y);let q3:(rO s.heap t u l m).get? (wW s.heap t u l m).objs.size=U _:=vB _ (vB _ (Uo _ Y));let q2:(rO s.heap t u l m).get? (wV s.heap t l).objs.size=U (i_ u m 0):=vB _ (vB _ (vB _ (Uo _ Y)));let q1:(rO s.heap t u l m).get? ⇑s=U (i_ t l 0):=vB _ (vB _ (vB _ (vB _ (Uo _ Y))));show _/\_;rw[z2,z3,z4] at q5;rw[z1,z2] at q3;rw[z3] at q4;rw[z1] at q2;rw[z4];calc⟨⟨_,q5,Y⟩,h _ q5 q3 q4 (.new q1) (.new q2) λc o x=>vB _ (vB _ (vB _ (vB _ (vB _ x))))⟩
end
end PySem
namespace L2
open PySem PySem.Spec PyProof.Rows
def j5(K:Ee)(H:Hp)(t:Bool)(a:O)(xs:-V):Prop:=match t with
 |true=>b9 K H a xs
 |false=>bP K H a xs
section
variable{X:Cx}{pins:aM}{σ:St}{H:Hp}{s:B}
theorem Inv.sq{t:Bool}{a:O}{xs:-V}(I:Inv X pins σ H s)(h:j5 X.K H t a xs):∃au:-L,Vals xs au/\d5 s.heap t a au.toArray:=by
 cases t
 .let⟨au,r,p,_⟩:=I.list h;exact⟨au,r,p.isList⟩
 .let⟨au,r,⟨o,o1,o2,n,o3⟩,_⟩:=I.tuple h;calc⟨au,r,o,o1,o2,n,o3⟩
theorem Inv.lC{t:Bool}{a:O}{xs ys:-V}(I:Inv X pins σ H s)(h:j5 X.K H t a xs)(h':j5 X.K H t a ys):xs=ys:=by
 cases t
 .exact I.fM h h'
 .calc I.eS h h'
end
noncomputable def uP(K:Ee)(t u:Bool)(a b:O):It :=
 ⟨λi H=>∃xs ys x y,j5 K H t a xs/\j5 K H u b ys/\xs[i]?=U x/\ys[i]?=U y,
  λi H v H'=>∃T x y,v=.ref T/\H T=Z/\H'=upd H T (.tup [x,y])/\(∀xs,j5 K H t a xs->xs[i]?=U x)/\∀ys,j5 K H u b ys->ys[i]?=U y,
  λi H=>∃xs ys,j5 K H t a xs/\j5 K H u b ys/\((↑xs=i)\/(i<↑xs/\↑ys=i))⟩
structure BH(t u:Bool)(z TI TO i1 i2 l1 l2:O)(i:Nat)(h:I):Prop where
 hz:IsZip h z TI TO .none
 kB:IsPair h TI (.ref i1) (.ref i2)
 lD:∃x y,IsPair h TO x y
 h1:fB h t i1 l1 i
 h2:fB h u i2 l2 i
theorem Qz{P:l}{w:g}{K:Ee}{elts:-M}{x1}{tp:Ε}{t u:Bool}{z TI TO i1 i2 l1 l2:O}(D:ZG z TI TO i1 i2 [i1,l1] [i2,l2])(n1:l1≠i1)(n2:l2≠i2):
  Turn P w K (.Tuple elts x1 tp) (uP K t u l1 l2) [z,TI,TO,i1,i2] z (BH t u z TI TO i1 i2 l1 l2) where
 mem:=by simp
 obj:=λi h st b hb=>by
  let⟨hz,kB,⟨x,y,lD⟩,g1,g2⟩:=st;erw[Um,Vf,Xa] at hb;rcases hb with rfl|rfl|rfl|rfl|rfl
  .exact⟨_,hz,λv z=>by cases z⟩
  .exact⟨_,kB,λv z=>by cases z⟩
  .exact⟨_,lD,λv z=>by cases z⟩
  .exact g1.obj
  .exact g2.obj
 keep:=λi h h' st k=>by
  let⟨hz,kB,⟨x,y,lD⟩,g1,g2⟩:=st;exact⟨k z (by simp) _ hz,k TI (by simp) _ kB,⟨x,y,k TO (by simp) _ lD⟩,g1.at λo q=>k i1 (by simp) o q,g2.at λo q=>k i2 (by simp) o q⟩
 item:=by
  ext X hP hw hK hc i pins s σ H E I hf st hg;subst hP hw hK;let⟨hz,kB,⟨a,b,lD⟩,g1,g2⟩:=id st;let⟨xs,ys,x,y,rP,rQ,hx,hy⟩:=hg;let⟨au,rv,p⟩:=I.sq rP;let⟨bH,uQ,p2⟩:=I.sq rQ;let hh:X.A.in1.handled=Z:=by rw[Wz];exact I.ok.hd hc
  let lx:=(qW.mp hx).1;let ly:=(qW.mp hy).1;calc Qv (wU hh t i1 l1 n1 au.toArray) (wU hh u i2 l2 n2 bH.toArray) D hz kB lD ⟨g1,p⟩ ⟨g2,p2⟩ (by rw[Ef,<-↑rv];calc lx) (by rw[Ef,<-↑uQ];calc ly) λcu cv k1 tk pu pv z1 t1 a1 a2 QA wZ=>⟨_,Y,?_⟩;let⟨u',hu,ru⟩:=rv.get hx;let⟨v',hv,QB⟩:=uQ.get hy;let pu:au[i]?=U cu:=by simpa using pu
  let pv:bH[i]?=U cv:=by simpa using pv
  rw[hu] at pu;rw[hv] at pv;obtain rfl:=Vm pu;obtain rfl:=Vm pv;calc wpAny_letOwnedTupleGo_zip z1 λk2 z2 ee=>?_;let QC:⇑s≠z:=WR (Me hz);let QD:IsPair k2 ⇑s u' v':=(ee.2 _ QC).trans QA
  let QE:∀b o,b∉[z,TI,TO,i1,i2]->s.heap.get? b=U o->k2.get? b=U o:=λb o hb q=>by
   erw[Um,Vf,Xa,not_or] at hb;exact(ee.2 _ hb.1).trans (wZ b o hb.1 hb.2.2.1 hb.2.2.2.1 hb.2.2.2.2 q)
  let hn:H ⇑s=Z:=I.ba.fresh (yT _);refine⟨.ref ⇑s,upd H ⇑s (.tup [x,y]),I.fO (ch:=[z,TI,TO,i1,i2]) (t':=tk) hf QE (yT _) ?_,Y,⟨_,x,y,Y,hn,Y,λzs hy=>by rw[I.lC hy rP];calc hx,λzs oK=>by rw[I.lC oK rQ];calc hy⟩,⟨z2,?_,⟨u',v',(ee.2 _ D.a2).trans t1⟩,a1.1.at λo q=>(ee.2 _ D.a3).trans q,a2.1.at λo q=>(ee.2 _ D.a4).trans q⟩,λb hb=>?_⟩
  .exact⟨by show 2<=sizeLine;decide,[u',v'],.cons ru (.cons QB .nil),_,QD,Y,_,Y⟩
  .exact (ee.2 _ D.a1).trans (wZ TI _ D.a1 D.a5 D.a6 D.a7 kB)
  .let:b<⇑s:=by
    let⟨o1,q1,_⟩:=g1.obj;let⟨o2,q2,_⟩:=g2.obj;erw[Um,Vf,Xa] at hb;rcases hb with rfl|rfl|rfl|rfl|rfl
    .exact Me hz
    .exact Me kB
    .exact Me lD
    .exact Me q1
    .exact Me q2
   rw[bf (U8 this)];exact(hf b hb).1
 done:=by
  ext X hP hw hK hc i pins s σ H E I hf st hg;subst hP hw hK;let⟨hz,kB,⟨a,b,lD⟩,g1,g2⟩:=id st;let⟨xs,ys,rP,rQ,hx⟩:=hg;let⟨au,rv,p⟩:=I.sq rP;let⟨bH,uQ,p2⟩:=I.sq rQ;let hh:X.A.in1.handled=Z:=by rw[Wz];exact I.ok.hd hc
  let hl:=↑rv;let qV:=↑uQ;refine Qw (wU hh t i1 l1 n1 au.toArray) (wU hh u i2 l2 n2 bH.toArray) D hz kB lD ⟨g1,p⟩ ⟨g2,p2⟩ ?_ λk1 tk wZ=>⟨Y,I.jJ (t':=tk) (ch:=[z,TI,TO,i1,i2]) hf λb o hb q=>?_⟩
  .rw[Ef,Ef];symm
  .erw[Um,Vf,Xa,not_or] at hb
   exact wZ b o hb.1 hb.2.2.1 hb.2.2.2.1 hb.2.2.2.2 q
 self:=λA i s Q E st h=>q09 st.hz h
theorem QF(n l1 l2:Nat)(q1:l1<n)(q2:l2<n):ZG (n+4) (n+2) (n+3) n (n+1) [n,l1] [n+1,l2]:=by
 constructor<;>first|(show @Ne Nat _ _;symm)|(ext h;erw[Um,Vf,Xa] at h;rcases h with h|h<;>(let h:(_:Nat)=_:=h;symm))
section
variable{X:Cx}{elts:-M}{x1:Nat}{tp:y}
def QG(K:Ee)(ta:TA):TI:=fun σ H R=>ta σ H λvs H1=>∃a b t u,vs=[.ref a,.ref b]/\(∃xs,j5 K H1 t a xs)/\(∃ys,j5 K H1 u b ys)/\R (uP K t u a b) H1
theorem QH{a b:M}{ta:TA}{p pos:y}(hg:Gl X "zip")(hm:X.mg "zip" = Z)(ha:JA X [a,b] ta)(hs:starEach [a,b] X.env=[(ι,eval a X.env),(ι,eval b X.env)]:=by rfl)(ee:starEach [b] X.env=[(ι,eval b X.env)]:=by rfl):
  JI X (.Tuple elts x1 tp) (.Call (.Name "zip" p) [a,b] [] pos) (QG X.K ta):=by
 calc⟨λpins s σ H R I h=>?_⟩;calc Call_ (mx I hg hm MB (VY (bE (ha pos pins s σ H _ I h) λus s1 ⟨vs,H1,I1,r1,q1⟩=>?_) (by rw[hs,ee]) (by rw[ee];rfl)));let⟨l1,l2,t,u,e,⟨xs,rP⟩,⟨ys,rQ⟩,q⟩:=q1;subst e
 cases r1 with
 |cons r rr =>
  cases rr with
  |cons r' QI =>
   cases QI
   cases r
   cases r'
   let⟨au,rv,p⟩:=I1.sq rP;let⟨bH,uQ,p2⟩:=I1.sq rQ;let b1:l1<⇑s1:=p.lt;let b2:l2<⇑s1:=p2.lt;calc Qy p p2 λh' hz kB lD tG nk hk=>?_;let I2:Inv X pins σ H1 {s1 with heap:=h'}:=I1.kept (t':=s1.toks) hk;let D:=QF ⇑s1 l1 l2 b1 b2;calc q09 hz ?_;refine⟨_,_,_,_,H1,Y,I2,Qz D (U8 b1) (U8 (Wa b2)),⟨hz,kB,⟨_,_,lD⟩,tG,nk⟩,λb hb=>?_,q⟩
   let hb':⇑s1<=b:=by
    erw[Um,Vf,Xa] at hb;rcases hb with rfl|rfl|rfl|rfl|rfl
    .exact Xp _ _
    .exact Xp _ _
    .exact Xp _ _
    .exact yT _
    .exact Xp _ _
   calc I1.h_ hb' (I1.ba.fresh hb')
end
section
variable[aV]{X:Cx}{a b:M}{fa:WA}
def w4(fa:WA):WI:=fun δ K=>fa δ λxs δ1=>match xs with
 |[x,y]=>mZ x δ1 λi=>mZ y δ1 λj=>K ⟨c8 i.items j.items,fun δ'=>i.bL δ'/\j.bL δ'⟩ δ1
 |_=>False
theorem GJ{F H:Hp}{ad:-O}{δ:aG}{σ:St}{x:DV}{v:V}{K0:Ee}{K:mT->Prop}(S:SR F ad δ σ H)(hv:dB F ad x v)(h:mZ x δ K):∃a it t,v=.ref a/\K it/\(∃xs,j5 K0 H t a xs) ∧
  ∀(F':Hp)(aE:-O)(δ':aG)(σ':St)(H':Hp),aN F F'->(∀(k:Nat)(a:O),ad[k]?=U a->aE[k]?=U a)->SR F' aE δ' σ' H'->it.bL δ'->∃ws,j5 K0 H' t a ws/\aj F' it.items ws:=by
 let⟨a,it,e,hk,r⟩:=zQ S hv h;rcases r with⟨⟨vs,e1⟩,r⟩|⟨⟨vs,e1⟩,r⟩
 .exact⟨a,it,ι,e,hk,⟨vs,bP.of e1⟩,λF' aE δ' σ' H' s pre S' ck=>let⟨ws,q1,q2⟩:=r F' aE δ' σ' H' s pre S' ck;⟨ws,bP.of q1,q2⟩⟩
 .calc⟨a,it,θ,e,hk,⟨vs,b9.of e1⟩,λF' aE δ' σ' H' s pre S' ck=>let⟨ws,q1,q2⟩:=r F' aE δ' σ' H' s pre S' ck;⟨ws,b9.of q1,q2⟩⟩
theorem QJ{elts:-M}{x1:Nat}{tp p pos:Ε}(hg:Gl X "zip")(hm:X.mg "zip" = Z)(ha:JA X [a,b] (cf fa))(hs:starEach [a,b] X.env=[(ι,eval a X.env),(ι,eval b X.env)]:=by rfl)(ee:starEach [b] X.env=[(ι,eval b X.env)]:=by rfl):
  JI X (.Tuple elts x1 tp) (.Call (.Name "zip" p) [a,b] [] pos) (iL (w4 fa)):=(QH hg hm ha hs ee).weak fun σ H R ⟨F,ad,δ,K,S,q,k⟩=>⟨F,ad,δ,_,S,q,λxs δ1 h1 vs F1 aS H1 E1 S1 V1=>by
 match xs,h1,V1 with
 |[x,y],g1,⟨v,r,e,W1,w,r2,e2,W2,W3⟩ =>
  subst e;subst e2;let W4:r2=[]:=W3;subst W4;let⟨a,it,t,rfl,QK,QL,r⟩:=GJ (K0:=X.K) S1 W1 g1;let⟨b,jt,u,rfl,hk,ee,r'⟩:=GJ (K0:=X.K) S1 W2 QK;calc⟨a,b,t,u,Y,QL,ee,k _ _ hk _ _ _ _ E1 S1 λF' aE δ' σ' H' s pre S' ck=>?_⟩;let⟨ws,e1,e2⟩:=r F' aE δ' σ' H' s pre S' ck.1;let⟨zs,e3,e4⟩:=r' F' aE δ' σ' H' s pre S' ck.2;refine⟨⟨ws,zs,e1,e3,?_⟩,λi d ed=>?_⟩
  .rw[↑e2,↑e4,v8];symm
  .let⟨d1,d2,QM,QN,rfl⟩:=Fe ed
   let⟨w1,f1,g1⟩:=m_ e2 QM;let⟨w2,f2,g2⟩:=m_ e4 QN;calc⟨⟨ws,zs,w1,w2,e1,e3,f1,f2⟩,λy jL ⟨T,v1,v2,ey,hT,eh,QO,QP⟩=>?_⟩;subst eh ey;let q1:=QO ws e1;let q2:=QP zs e3;rw[f1] at q1;cases q1;rw[f2] at q2;cases q2;exact⟨dh hT,zR S'.sub hT g1 g2⟩
 |[],h1,_=>exact h1.elim
 |[_],h1,_=>exact h1.elim
 |_::_::_::_,h1,_=>calc h1.elim⟩
end
end L2
namespace LJ
open PySem L2
variable[aV]
theorem GL{ds:-D}{t:Nat}(h:t<=↑ds):cutD ds (U (t:Int)) Z=ds.drop t:=by
 unfold cutD;rw[HT.sS ↑ds 0 t,HT.yz,q1r h,VO (by rw[Ww];symm)]
theorem GN{ds:-D}{t:Nat}(h:t<=↑ds):cutD ds Z (U (t:Int))=ds.take t:=by
 unfold cutD;rw[HT.yz,HT.sS ↑ds ↑ds t,q1r h,YV,q0O]
theorem BI(y:Wy):cutD [D.int y.1,D.int y.2.1,D.int y.2.2] Z (U 2)=[D.int y.1,D.int y.2.1]:=rfl
theorem GP(ws:-Wy):bB (ws.map aY)<=55:=by
 let:∀ws:-Wy,bB (ws.map aY)<=2:=λws=>by
  induction ws with
  |nil=>simp[bB]
  |cons n r ih=>erw[Ve,bB,dep,aY];symm
 let:=this ws;symm
end LJ
namespace L2
open PySem PySem.Spec PyProof.Rows
variable[aV]
inductive RK where
 |p (d:D)|w (a:O)|n (ds:-D)|u (t:Bool) (fs:-FV)
abbrev GK:=-DV->-OV->(RK->-OV->-OV->Prop)->Prop
def uR(F' H H':Hp)(aE:-O)(cZ:-(Option OV))(v:V):RK->Prop
 |.p d=>Is F' d v
 |.w a=>v=.ref a
 |.u t fs=>∃b us,v=.ref b/\F' b=U (mO t us)/\cw F' fs us
 |.n ds=>∃b us,v=.ref b/\H b=Z/\H' b=U (.lst us)/\F' b=Z/\aj F' ds us/\¬ Lv aE cZ b
structure GQ(F:Hp)(ad:-O)(ar:-OV)(H:Hp)(r:RK)(ows news:-OV)(v:V)(F':Hp)(aE:-O)(H':Hp):Prop where
 ext:Ext F ad (ar.map U) H F' aE ((ows++news).map U) H'
 sr:SR F' aE ⟨[],(ows++news).map U⟩ [] H'
 len:↑ows=↑ar
 res:uR F' H H' aE ((ows++news).map U) v r
inductive kC (G:GK) (n:Nat) (vs:-V) (H:Hp) (Q:VK) (_:XK):Prop
 |mk (hl:↑vs=n) (F:Hp) (ad:-O) (ys:-DV) (ar:-OV) (K:RK->-OV->-OV->Prop) (S:SR F ad ⟨ys.map U,ar.map U⟩ (vs.map U) H) (g:G ys ar K) (k:∀r ows news,K r ows news->∀v F' aE H',GQ F ad ar H r ows news v F' aE H'->Q v H')
def n8(n:Nat)(K:RK->-OV->-OV->Prop)(x:DV)(δ:aG):Prop:=∃ows news gs,δ.mu=(ows++news).map U++gs/\↑ows=n/\match x with
 |.p d=>K (.p d) ows news
 |.w a=>K (.w a) ows news
 |.u t fs=>K (.u t fs) ows news
 |.o k=>↑(ows++news)<=k/\match δ.mu[k]? with
  |some (some (.lst ds))=>K (.n ds) ows news
  |_=>False
 |.t _ _=>False
noncomputable def ag(n:Nat)(K:RK->-OV->-OV->Prop):KS where
 nx:=n8 n K (.p .non)
 rt:=n8 n K
section
variable{F F' H H':Hp}{ad aE:-O}{σ σ':St}{δ:aG}{mu cZ:-(Option OV)}
theorem rR{α:Type}{l:-α}{n k:Nat}{a:α}(e:(l.take n)[k]?=U a):k<n/\l[k]?=U a:=by
 let hk:k<n:=by
  let:=(qW.mp e).1;rw[Vn] at this;symm
 rw[Vr hk] at e;calc⟨hk,e⟩
theorem SR.cut(m:Nat)(S:SR F ad δ σ H):SR F (ad.take m) ⟨[],δ.mu.take m⟩ [] H:=by
 refine⟨S.sub,λa x=>S.off a x.take,?_,λk l a w w' e1 e2 e3 e4=>S.inj k l a w w' (rR e1).2 (rR e2).2 (rR e3).2 (rR e4).2,λk ov e=>?_,λi x e=>by simp at e,Y,S.tab,S.nt⟩
 .show ↑(ad.take _)=↑(δ.mu.take _)
  rw[Vn,Vn,S.cD]
 .let⟨e1,e2⟩:=rR e
  let⟨a,o,e3,h⟩:=S.mu k ov e2;calc⟨a,o,by rw[Vr e1];calc e3,h⟩
theorem Ext.cut{m:Nat}(e:Ext F ad mu H F' aE cZ H')(hm:↑ad<=m):Ext F ad mu H F' (aE.take m) (cZ.take m) H' :=
 ⟨e.same,e.new,e.keep,λk a h=>by rw[Vr (Uq (qW.mp h).1 hm)];calc e.pre k a h,λa x=>e.b_ a x.take,e.iI⟩
theorem GR{ar:-OV}{x:DV}{v:V}{K:RK->-OV->-OV->Prop}{Q:VK}{sl:-(Option DV)}{τ:St}(S0:SR F ad ⟨sl,ar.map U⟩ τ H)(E:Ext F ad (ar.map U) H F' aE δ.mu H')(S:SR F' aE δ σ' H')(V:dB F' aE x v)
  (h:n8 ↑ar K x δ) (k:∀r ows news,K r ows news->∀v F' aE H',GQ F ad ar H r ows news v F' aE H'->Q v H'):Q v H':=by
 let⟨ows,news,gs,em,hl,h⟩:=h;let al:↑ad=↑ar:=by let:=S0.cD;rwa [pV] at this
 let tk:δ.mu.take ↑(ows++news)=(ows++news).map U:=by rw[em,List.take_left' (by rw[pV])]
 let E2:=E.cut (m:=↑(ows++news)) (by rw[al,Eh];symm);let S2:=S.cut ↑(ows++news);rw[tk] at E2 S2
 cases x with
 |p d=>exact k _ _ _ h _ _ _ _ ⟨E2,S2,hl,V⟩
 |w a=>exact k _ _ _ h _ _ _ _ ⟨E2,S2,hl,V⟩
 |u t fs=>exact k _ _ _ h _ _ _ _ ⟨E2,S2,hl,V⟩
 |t _ _=>exact h.elim
 |o i =>
  let⟨hi,h⟩:=h;split at h
  .rename_i ds ei
   let⟨a,e1,rfl⟩:=V;let⟨a',o,e2,e3,vs,rfl,h4⟩:=S.mu i _ ei;rw[e1] at e2;cases e2;refine k _ _ _ h _ _ _ _ ⟨E2,S2,hl,a,vs,Y,?_,e3,S.off a ⟨i,_,e1,ei⟩,h4,λ⟨j,ov,z1,z2⟩=>?_⟩
   .rcases E.b_ a ⟨i,_,e1,ei⟩ with⟨j,ov,z,_⟩|z
    .let hj:j<↑ows:=by rw[hl,<-al];exact(qW.mp z).1
     let mj:δ.mu[j]?=U (U ows[j]):=by
      rw[em,Mc (by rw[pV,Eh];symm),My,Mc hj,pU hj];rfl
     let:=S.inj i j a _ _ e1 (E.pre j a z) ei mj;rw[Eh] at hi;symm
    .exact z
   .have ⟨hj,z1⟩:=rR z1
    let mj:δ.mu[j]?=U (U ov):=by
     rw[em,Mc (by rw[pV];calc hj)];exact z2
    let:=S.inj i j a _ _ e1 z1 ei mj;symm
  .calc h.elim
end
theorem f_.BJ{P:l}{w:ω}{K:Ee}{mg:J->Option L}{base:I}{x qual:J}{st:R}{f:O}{fd:FuncData}{N ps:-J}{k:Nat}{G:GK}(F:f_ K x qual st f fd)(S:mF N ps (cH st))
  (eA:∀(bq:L)(A:q)(outer:-t)(s:ο)(H:Hp)(E:XK),bc k (A.deeper (envOfC qual (cH st) ⇑s f bq)) →
   ∃B:WS,dU (eT eM P w K mg base N qual (cH st) f bq A outer s H E).kc (fN st) (dG B)/\∀ys ar K',↑ys=↑ps->G ys ar K'->B (ag ↑ar K') ⟨ys.map U++Ul (↑N-↑ps) Z,ar.map U⟩) :
  bY P w K mg base eM (k+1) f fd ps (kC G ↑ps) :=
 F.vC S (λvs H Q E h=>h.1) λbq A outer s H vs Q E hr h=>by
  let⟨hl,Fz,ad,ys,ar,K',S0,g,kk⟩:=h;let⟨B,jb,hb⟩:=eA bq A outer s H E hr
  let hy:↑ys=↑ps:=by
   let:=S0.len;rw[pV] at this;rw[<-hl,this];rw[pV]
  refine⟨_,jb,Fz,ad,⟨ys.map U++Ul (↑N-↑ps) Z,ar.map U⟩,ag ↑ar K',by rw[<-hl];calc S0.start,hb ys ar K' hy g,⟨fun δ' h F' aE σ' H' E' S'=>?_,fun δ' h=>h.elim,fun δ' h=>h.elim,λy δ' h v F' aE σ' H' E' S' V=>?_,trivial⟩⟩
  .exact GR (σ':=σ') S0 E' S' (x:=.p .non) (v:=.non) Y h kk
  .calc GR (σ':=σ') S0 E' S' V h kk
def w5(mu:-(Option OV)):-(Nat×OV)->Prop
 |[]=>True
 |(k,ov)::r=>mu[k]?=U (U ov)/\w5 mu r
theorem GS{mu:-(Option OV)}:∀{es:-(Nat×OV)},w5 mu es->∀ko∈es,mu[ko.1]?=U (U ko.2)
 |(k,ov)::r,h,ko,hk=>by
  rcases Um.mp hk with rfl|hk
  .exact h.1
  .calc GS h.2 ko hk
section
variable{F F' H H':Hp}{ad aE:-O}{δ:aG}{σ σ':St}
theorem QQ{xs:-DV}{vs:-V}{r:-DV×-(Nat×OV)}{es:-(Nat×OV)}{G:GK}{n:Nat}{Q:VK}{E:XK}{K:RK->-OV->-OV->Prop}(S:SR F ad δ σ H)(V:cU F ad xs vs)(hn:↑vs=n)(hp:passes δ.mu xs 0=U r)(he:w5 δ.mu es)(nd:jS (r.2++es)=θ)(g:G r.1 ((r.2++es).map (·.2)) K)
  (fin:∀res ows news v F' aE H',K res ows news->Ext F ad δ.mu H F' aE (c6 δ.mu (r.2++es) ows++news.map U) H'->SR F' aE ⟨δ.sl,c6 δ.mu (r.2++es) ows++news.map U⟩ σ H'->uR F' H H' aE (c6 δ.mu (r.2++es) ows++news.map U) v res->Q v H'):kC G n vs H Q E:=by
 let⟨QR,w6,b0,c⟩:=rk S.mu hp V;let⟨_,c1,c2⟩:=c [] Y;let⟨BK,GU⟩:∃BK:-O,BK=es.map λko=>(ad[ko.1]?).getD 0:=⟨_,Y⟩;let⟨as,has⟩:∃as,as=QR++BK:=⟨_,Y⟩;let⟨bR,qH⟩:∃bR,bR=r.2++es:=⟨_,Y⟩;rw[<-qH] at nd g fin
 let b:∀(i:Nat)(ko:Nat×OV),bR[i]?=U ko->δ.mu[ko.1]?=U (U ko.2)/\∃a o,as[i]?=U a/\ad[ko.1]?=U a/\H a=U o/\eN F a ko.2 o:=λi ko e=>by
  rw[qH] at e
  by_cases hi:i<↑r.2
  .rw[Mc hi] at e
   let⟨z1,a,o,z2,z3⟩:=b0 i ko e;exact⟨z1,a,o,by rw[has,Mc (by rw[w6];calc hi)];calc z2,z3⟩
  .let hi:↑r.2<=i:=by symm
   rw[Mf hi] at e;let m:=GS he ko (Vw e);let⟨a,o,z1,z2⟩:=S.mu _ _ m;calc⟨m,a,o,?_,z1,z2⟩;rw[has,Mf (by rw[w6];calc hi),w6,GU,My,e];show U ((ad[ko.1]?).getD 0)=U a;rw[z1];rfl
 let al:↑as=↑bR:=by rw[has,qH,Eh,Eh,w6,GU,pV]
 let jw:∀(i:Nat)(a:O),as[i]?=U a->Lv ad δ.mu a/\∃ko,bR[i]?=U ko/\ad[ko.1]?=U a/\δ.mu[ko.1]?=U (U ko.2):=λi a e=>by
  let hi:i<↑bR:=by rw[<-al];exact(qW.mp e).1
  let⟨m1,a',o,e1,e2,_,_⟩:=b i _ (pU hi);rw[e] at e1;cases e1;exact⟨⟨_,_,e2,m1⟩,_,pU hi,e2,m1⟩
 let QS:∀(i:Nat)(ov:OV),((bR.map (·.2)).map U)[i]?=U (U ov)->∃ko,bR[i]?=U ko/\ko.2=ov:=λi ov e=>by
  let e:=tY e;rw[My] at e;let⟨ko,e1,e2⟩:=Va.mp e;exact⟨ko,e1,e2⟩
 refine⟨hn,F,as,r.1,bR.map (·.2),K,⟨S.sub,λa ⟨i,ov,e1,e2⟩↦S.off a (jw i a e1).1,by rw[al];rw[pV,pV],λi j a ov ow e1 e2 _ _=>?_,λi ov e=>?_,λi y e=>?_,?_,S.tab,S.nt⟩,g,λres ows news hk v F' aE H' P=>?_⟩
 .let⟨_,ko,k1,k2,k3⟩:=jw i a e1
  let⟨_,kp,p1,p2,p3⟩:=jw j a e2;let:ko.1=kp.1:=S.inj _ _ a _ _ k2 p2 k3 p3;exact zE nd i j ko.1 ko.2 kp.2 k1 (by rw[this];calc p1)
 .let⟨ko,e1,rfl⟩:=QS i ov e
  let⟨_,a,o,e2,_,e4,e5⟩:=b i ko e1;exact⟨a,o,e2,e4,e5⟩
 .let⟨v,e1,e2⟩:=c2 i y (tY e)
  calc⟨v,tZ e1,?_⟩;rw[XB] at e2;exact e2.pre λk a h _=>by rw[has,Mc (qW.mp h).1];exact h
 .show ↑(vs.map U)=↑(r.1.map U)
  rw[pV,pV,c1]
 .let X:=P.ext
  let T:=P.sr;let ol:↑ows=↑bR:=by rw[P.len,pV]
  let cD:↑aE=↑bR+↑news:=by
   let:=T.cD;rw[this];show↑((ows++news).map U)=_;rw[pV,Eh,ol]
  let t_:∀a,Lv as ((bR.map (·.2)).map U) a->Lv ad δ.mu a:=λa ⟨i,_,e,_⟩↦(jw i a e).1
  let UM:∀(i:Nat)(a:O),as[i]?=U a->Lv as ((bR.map (·.2)).map U) a:=λi a e=>by
   let⟨_,ko,k1,_⟩:=jw i a e;exact⟨i,ko.2,e,tZ (by rw[My,k1];rfl)⟩
  let pre:∀(i:Nat)(a:O),as[i]?=U a->aE[i]?=U a:=X.pre;let mo:∀(i:Nat)(ow:OV),ows[i]?=U ow->((ows++news).map U)[i]?=U (U ow):=λi ow e=>tZ (by rw[Mc (qW.mp e).1];calc e);let mn:∀(j:Nat)(w:OV),news[j]?=U w->((ows++news).map U)[↑bR+j]?=U (U w):=λj w e=>tZ (by rw[Mf ⋯,ol,Zh];calc e);let n9:↑(c6 δ.mu bR ows)=↑ad:=by rw[zF,S.cD]
  let jE:∀(l:Nat)(ow:OV),(c6 δ.mu bR ows++news.map U)[l]?=U (U ow)->(∃(i:Nat)(ko:Nat×OV),l<↑ad/\bR[i]?=U ko/\ko.1=l/\ows[i]?=U ow)\/(l<↑ad/\(∀ko∈bR,ko.1≠l)/\δ.mu[l]?=U (U ow))\/(↑ad<=l/\news[l-↑ad]?=U ow):=λl ow e=>by
   by_cases hl:l<↑ad
   .rw[Mc (by rw[n9];calc hl)] at e
    by_cases z:∃ko∈bR,ko.1=l
    .let⟨ko,hk,rfl⟩:=z
     let⟨i,hi⟩:=Ur.mp hk;let lV:i<↑ows:=by rw[ol];exact(qW.mp hi).1
     let:=zG (mu:=δ.mu) nd hi (pU lV) (qW.mp (b i ko hi).1).1;rw[e] at this;cases this
     exact .inl ⟨i,ko,hl,hi,Y,pU lV⟩
    .let z':∀ko∈bR,ko.1≠l:=λko hk q=>z ⟨ko,hk,q⟩
     rw[t8 _ _ _ _ z'] at e;exact .inr (.inl ⟨hl,z',e⟩)
   .rw[Mf (by rw[n9];symm),n9] at e
    exact .inr (.inr ⟨⋯,tY e⟩)
  let gn:∀(l:Nat)(a:O),↑ad<=l->(ad++aE.drop ↑bR)[l]?=U a->aE[↑bR+(l-↑ad)]?=U a:=λl a hl e=>by
   rw[Mf hl,q0q] at e;exact e
  let go:∀(l:Nat)(a:O),l<↑ad->(ad++aE.drop ↑bR)[l]?=U a->ad[l]?=U a:=λl a hl e=>by
   rw[Mc hl] at e;exact e
  let mY:∀(l:Nat)(ow:OV)(a:O),(ad++aE.drop ↑bR)[l]?=U a->(c6 δ.mu bR ows++news.map U)[l]?=U (U ow)->(Lv ad δ.mu a/\l<↑ad/\ad[l]?=U a/\∃w,δ.mu[l]?=U (U w))\/(↑ad<=l/\aE[↑bR+(l-↑ad)]?=U a/\((ows++news).map U)[↑bR+(l-↑ad)]?=U (U ow)):=λl ow a e1 e2=>by
   rcases jE l ow e2 with⟨i,ko,hl,hi,rfl,_⟩|⟨hl,_,q⟩|⟨hl,q⟩
   .exact .inl ⟨⟨_,_,go _ _ hl e1,(b i ko hi).1⟩,hl,go _ _ hl e1,_,(b i ko hi).1⟩
   .exact .inl ⟨⟨_,_,go _ _ hl e1,q⟩,hl,go _ _ hl e1,_,q⟩
   .exact .inr ⟨hl,gn l a hl e1,mn _ _ q⟩
  let alive:∀a,Lv ad δ.mu a->∃o,H a=U o/\a∉aV.ad:=λa ⟨k,ov,e1,e2⟩=>by
   let⟨a',o,e3,e4,h⟩:=S.mu k ov e2;rw[e1] at e3;cases e3;calc⟨o,e4,λt=>?_⟩;let⟨ps,q⟩:=aV.tb S.tab t;rw[e4] at q;exact h.kind ps (Vm q)
  let qm:∀a,Lv ad δ.mu a->F' a=Z:=λa l=>by
   cases q:F' a with
   |none=>rfl
   |some u =>
    rcases X.new a u q with y|y|⟨i,ov,y,_⟩
    .rw[S.off a l] at y;cases y
    .let⟨o,z,_⟩:=alive a l
     rw[y] at z;cases z
    .let⟨_,ko,k1,_⟩:=jw i a y
     let hi:i<↑ows:=by rw[ol];exact(qW.mp k1).1
     rw[T.off a ⟨i,ows[i],pre i a y,mo i _ (pU hi)⟩] at q;cases q
  let GV:∀(j:Nat)(a:O)(w:OV),aE[↑bR+j]?=U a->((ows++news).map U)[↑bR+j]?=U (U w)->¬ Lv ad δ.mu a:=λj a w e1 e2 l=>by
   rcases X.b_ a ⟨_,w,e1,e2⟩ with⟨i,ov,y,_⟩|y
   .let hi:i<↑ows:=by rw[ol,<-al];exact(qW.mp y).1
    let:=T.inj _ _ a _ _ e1 (pre i a y) e2 (mo i _ (pU hi));symm
   .let⟨o,z,_⟩:=alive a l
    rw[y] at z;cases z
  let ex:Ext F ad δ.mu H F' (ad++aE.drop ↑bR) (c6 δ.mu bR ows++news.map U) H':=by
   refine⟨X.same,λa o e=>?_,λa o e n t=>X.keep a o e (λz=>n (t_ a z)) t,λk a e=>by rw[Mc (qW.mp e).1];calc e,λa ⟨l,ow,e1,e2⟩=>?_,X.iI⟩
   .rcases X.new a o e with z|z|z
    .exact .inl z
    .exact .inr (.inl z)
    .exact .inr (.inr (t_ a z))
   .rcases mY l ow a e1 e2 with⟨z,_⟩|⟨_,z1,z2⟩
    .exact .inl z
    .rcases X.b_ a ⟨_,_,z1,z2⟩ with z|z
     .exact .inl (t_ a z)
     .exact .inr z
  let sr:SR F' (ad++aE.drop ↑bR) ⟨δ.sl,c6 δ.mu bR ows++news.map U⟩ σ H':=by
   refine⟨T.sub,λa ⟨l,ow,e1,e2⟩=>?_,?_,λk l a ov ow e1 e2 e3 e4=>?_,λl ow e=>?_,λi y e=>?_,S.len,T.tab,T.nt⟩
   .rcases mY l ow a e1 e2 with⟨z,_⟩|⟨_,z1,z2⟩
    .exact qm a z
    .exact T.off a ⟨_,_,z1,z2⟩
   .show ↑(ad++aE.drop ↑bR)=↑(c6 δ.mu bR ows++news.map U)
    rw[Eh,Eh,n9,Ww,cD,pV,Zh]
   .rcases mY k ov a e1 e3 with⟨z,_,y1,w1,y2⟩|⟨lW,z1,z2⟩
    .rcases mY l ow a e2 e4 with⟨_,_,y3,w2,y4⟩|⟨_,z1,z2⟩
     .exact S.inj k l a _ _ y1 y3 y2 y4
     .exact (GV _ _ _ z1 z2 z).elim
    .rcases mY l ow a e2 e4 with⟨z,_⟩|⟨fQ,z3,z4⟩
     .exact (GV _ _ _ z1 z2 z).elim
     .let:=T.inj _ _ a _ _ z1 z3 z2 z4
      symm
   .rcases jE l ow e with⟨i,ko,hl,hi,rfl,ho⟩|⟨hl,z,q⟩|⟨hl,q⟩
    .let⟨_,a,o,e1,e2,_,_⟩:=b i ko hi
     let⟨a',o',e3,e4,h5⟩:=T.mu i ow (mo i ow ho);rw[pre i a e1] at e3;cases e3;exact⟨a,o',by rw[Mc hl];calc e2,e4,h5⟩
    .let⟨a,o,e1,e2,h⟩:=S.mu l ow q
     let lv:Lv ad δ.mu a:=⟨l,ow,e1,q⟩;calc⟨a,o,by rw[Mc hl];calc e1,X.keep a o e2 (λ⟨i,_,y,_⟩=>?_) (alive a lv).choose_spec.2,h.same X.same⟩;let⟨_,ko,k1,k2,k3⟩:=jw i a y;exact z ko (Ur.mpr ⟨i,k1⟩) (S.inj _ _ a _ _ k2 e1 k3 q)
    .let⟨a,o,e1,e2,h⟩:=T.mu _ _ (mn _ _ q)
     exact⟨a,o,by rw[Mf hl,q0q];calc e1,e2,h⟩
   .let⟨v,e1,h⟩:=S.sl i y e
    exact⟨v,e1,h.ext ex⟩
  calc fin res ows news v F' _ H' hk ex sr ?_;let gT:=P.res
  cases res with
  |p d=>exact gT
  |w a=>exact gT
  |u t fs=>exact gT
  |n ds =>
   let⟨c,us,rfl,n1,n2,n3,n4,n5⟩:=gT;calc⟨c,us,Y,n1,n2,n3,n4,λ⟨l,ow,e1,e2⟩=>?_⟩;rcases mY l ow c e1 e2 with⟨z,_⟩|⟨_,z1,z2⟩
   .let⟨o,y,_⟩:=alive c z
    rw[n1] at y;cases y
   .calc n5 ⟨_,_,z1,z2⟩
end
def ai(δ:aG)(bR:-(Nat×OV))(K:DV->aG->Prop)(r:RK)(ows news:-OV):Prop:=match r with
 |.p d=>K (.p d) ⟨δ.sl,c6 δ.mu bR ows++news.map U⟩
 |.w a=>K (.w a) ⟨δ.sl,c6 δ.mu bR ows++news.map U⟩
 |.u t fs=>K (.u t fs) ⟨δ.sl,c6 δ.mu bR ows++news.map U⟩
 |.n ds=>K (.p (.lst ds)) ⟨δ.sl,c6 δ.mu bR ows++news.map U⟩
def aD(δ:aG)(bR:-(Nat×OV))(K:DV->aG->Prop)(r:RK)(ows news:-OV):Prop:=match r with
 |.n ds=>K (.o ↑(c6 δ.mu bR ows++news.map U)) ⟨δ.sl,c6 δ.mu bR ows++news.map U++[U (.lst ds)]⟩
 |_=>False
def rS(o:Bool)(n:Nat)(G:GK)(xs:-DV)(δ:aG)(K:DV->aG->Prop):Prop:=∃es,w5 δ.mu es/\match passes δ.mu xs 0 with
 |some r=>(jS (r.2++es)=θ/\↑r.1=n)/\G r.1 ((r.2++es).map (·.2)) (if o then aD δ (r.2++es) K else ai δ (r.2++es) K)
 |none=>False
section
variable{F F1 H H1:Hp}{ad aS:-O}{δ δ1:aG}{σ:St}{K:DV->aG->Prop}{Q:VK}{xs:-DV}{vs:-V}{n:Nat}{G:GK}{E:XK}{o:Bool}
theorem w9(kk:∀x δ',K x δ'->∀v F' aE H',Ext F ad δ.mu H F' aE δ'.mu H'->SR F' aE δ' σ H'->dB F' aE x v->Q v H')(h1:rS o n G xs δ1 K)(E1:Ext F ad δ.mu H F1 aS δ1.mu H1)(S1:SR F1 aS δ1 σ H1)(V1:cU F1 aS xs vs):kC G n vs H1 Q E:=by
 let⟨es,he,h1⟩:=h1;split at h1
 .rename_i r hp
  let⟨⟨nd,hn⟩,h1⟩:=h1;refine QQ S1 V1 (by rw[↑V1,<-rl hp,hn]) hp he nd h1 λres ows news v F2 bV H2 hk E2 S2 fx=>?_
  cases o with
  |false =>
   cases res with
   |p d=>exact kk _ _ hk _ _ _ _ (E1.trans E2) S2 fx
   |w a=>exact kk _ _ hk _ _ _ _ (E1.trans E2) S2 fx
   |u t fs=>exact kk _ _ hk _ _ _ _ (E1.trans E2) S2 fx
   |n ds =>
    let⟨a,us,rfl,n1,n2,n3,n4,n5⟩:=fx;calc kk _ _ hk _ _ _ _ (E1.trans (E2.adopt (o:=.lst us) n1 n3)) (S2.adopt n3 n2 n5) ?_;show Is _ (.lst ds) _;exact⟨a,us,Y,b7,n4.same (dh n3)⟩
  |true =>
   cases res with
   |p d=>exact hk.elim
   |w a=>exact hk.elim
   |u t fs=>exact hk.elim
   |n ds =>
    let⟨a,us,rfl,n1,n2,n3,n4,n5⟩:=fx;let oi:eN F2 a (.lst ds) (.lst us):=⟨us,Y,n4⟩;calc kk _ _ hk _ _ _ _ (E1.trans (E2.cx (ov:=.lst ds) n1 S2.cD)) (S2.cx n3 n2 n5 oi) ⟨a,?_,Y⟩;let:=S2.cD;rw[<-show ↑bV=↑(c6 δ1.mu (r.2++es) ows++news.map U) from this,Mf (yT _),VB];rfl
 .calc h1.elim
end
def ay(o:Bool)(n:Nat)(G:GK)(fa:WA):WE:=fun δ K=>fa δ λxs δ1=>rS o n G xs δ1 K
def aw(o:Bool)(C:O)(m:J)(n:Nat)(G:GK)(fo:WE)(fa:WA):WE:=fun δ K=>fo δ λx δ1=>(∃(a:O)(k:Nat)(fs:-(J×FV)),x=.w a/\δ1.mu[k]?=U (U (.ins a C fs))/\fs.lookup m=Z)/\fa δ1 λxs δ2=>rS o n G (x::xs) δ2 K
def aB(C:O)(n:Nat)(G:GK)(fa:WA):WE:=fun δ K=>fa δ λxs δ1=>∀a,rS ι n G (.w a::xs) ⟨δ1.sl,δ1.mu++[U (.ins a C [])]⟩ λx δ2=>x=.p .non/\K (.w a) δ2
theorem fc.look{α:Type}{R:α->V->Prop}{x:J}:∀{fs:-(J×α)}{ws:-(J×V)},fc R fs ws->(fs.lookup x=Z/\ws.lookup x=Z)\/∃f v,fs.lookup x=U f/\ws.lookup x=U v/\R f v
 |[],ws,h=>by let h:ws=[]:=h;subst h;exact .inl ⟨Y,Y⟩
 |(y,g)::r,ws,⟨v,t,e,h1,h2⟩=>by
  subst e;rw[Vi,Vi]
  cases q:x==y with
  |true=>exact .inr ⟨_,_,Y,Y,h1⟩
  |false=>calc fc.look h2
theorem iH.v{F:Hp}{ad:-O}{v:V}:∀{f:FV},iH F f v->dB F ad f.v v
 |.p _,h=>h
 |.w _,h=>h
noncomputable def lE(f:J)(v:FV):-(J×FV)->-(J×FV)
 |[]=>[(f,v)]
 |(g,x)::r=>if g=f then(g,v)::r else(g,x)::lE f v r
theorem oP.put{F:Hp}{x:J}{g:FV}{v:V}(hg:iH F g v):∀{fs:-(J×FV)}{ws:-(J×V)},oP F fs ws->oP F (lE x g fs) (cX x v ws)
 |[],ws,h=>by let h:ws=[]:=h;subst h;exact⟨v,[],Y,hg,Y⟩
 |(y,f)::r,ws,⟨u,t,e,h1,h2⟩=>by
  subst e;unfold lE cX;split
  .exact⟨v,t,Y,hg,h2⟩
  .calc⟨u,_,Y,h1,oP.put hg h2⟩
def af(C:O)(x:J)(f:WE):WE:=fun δ K=>f δ λy δ1=>∃(a:O)(k:Nat)(fs:-(J×FV))(v:FV),(y=.w a/\δ1.mu[k]?=U (U (.ins a C fs))/\fs.lookup x=U v)/\K v.v δ1
noncomputable def BL:OV->Option O
 |.al a _=>U a
 |.ac a _=>U a
 |.av a _=>U a
 |_=>Z
def ah(f:WE):WE:=fun δ K=>f δ λy δ1=>∃(a:O)(k:Nat)(ov:OV),(y=.w a/\δ1.mu[k]?=U (U ov)/\BL ov=U a)/\K (.o k) δ1
def toF(x:DV)(δ:aG)(K:FV->aG->Prop):Prop:=match x with
 |.p d=>K (.p d) δ
 |.w a=>K (.w a) δ
 |.o k=>match δ.mu[k]? with
  |some (some (.lst ds))=>∀a,K (.w a) ⟨δ.sl,δ.mu.set k (U (.al a ds))⟩
  |some (some (.dct kvs))=>∀a,K (.w a) ⟨δ.sl,δ.mu.set k (U (.ac a kvs))⟩
  |_=>False
 |.u _ _=>False
 |.t _ _=>False
def aA(C:O)(x:J)(fv fo:WE):WS:=λK δ=>fv δ λz δ1=>fo δ1 λy δ2=>toF z δ2 λg δ3=>∃(a:O)(k:Nat)(fs:-(J×FV)),(y=.w a/\δ3.mu[k]?=U (U (.ins a C fs))/\fs.length<1000)/\K.nx ⟨δ3.sl,δ3.mu.set k (U (.ins a C (lE x g fs)))⟩
section
variable{F H:Hp}{ad:-O}{δ:aG}{σ:St}
theorem GW{H:Hp}{a:O}{o:HO}(h:H a=U o):upd H a o=H:=by
 funext b
 by_cases c:b=a
 .subst c;rw[b7,h]
 .rw[bf c]
theorem GX{x:DV}{v:V}{K:FV->aG->Prop}(S:SR F ad δ σ H)(V:dB F ad x v)(h:toF x δ K):∃f δ',K f δ'/\Ext F ad δ.mu H F ad δ'.mu H/\SR F ad δ' σ H/\iH F f v:=by
 cases x with
 |p d=>exact⟨_,_,h,.refl,S,V⟩
 |w a=>exact⟨_,_,h,.refl,S,V⟩
 |u _ _=>exact h.elim
 |t _ _=>exact h.elim
 |o k =>
  let⟨a,e1,rfl⟩:=V;unfold toF at h;dsimp only at h;split at h
  .rename_i ds e
   let⟨a',o,e2,e3,vs,rfl,h4⟩:=S.mu k _ e;rw[e1] at e2;cases e2;let oi:eN F a (.al a ds) (.lst vs):=⟨Y,vs,Y,h4⟩;let E:=Ext.put (ov:=.al a ds) (o:=.lst vs) S e e1;let T:=S.put e e1 oi;rw[GW e3] at E T;exact⟨_,_,h a,E,T,Y⟩
  .rename_i ds e
   let⟨a',o,e2,e3,vs,rfl,h4⟩:=S.mu k _ e;rw[e1] at e2;cases e2;let oi:eN F a (.ac a ds) (.dK vs):=⟨Y,vs,Y,h4⟩;let E:=Ext.put (ov:=.ac a ds) (o:=.dK vs) S e e1;let T:=S.put e e1 oi;rw[GW e3] at E T;exact⟨_,_,h a,E,T,Y⟩
  .calc h.elim
theorem w_{k:Nat}{a C:O}{fs:-(J×FV)}(S:SR F ad δ σ H)(h:δ.mu[k]?=U (U (.ins a C fs))):∃dx ws,ad[k]?=U a/\H a=U (.ins C dx ws)/\oP F fs ws:=by
 let⟨a',o,e1,e2,rfl,dx,ws,rfl,h4⟩:=S.mu k _ h;calc⟨dx,ws,e1,e2,h4⟩
end
section
variable{X:Cx}{a b o v:M}{f fo fv:WE}{fa:WA}{C:O}{x m:J}{pos pos' apos p:y}{G:GK}{n k:Nat}{g:O}{fd:FuncData}{ps:-J}{e:M}{es:-M}
theorem gH(c:ib X.K C)(hx:cK X.K C x)(he:JE X a (tD f))(hb:attributeBase a x X.env (eval a X.env)=eval a X.env:=by rfl):JE X (.Attribute a x pos) (tD (af C x f)) :=
 (Lg he hb).weak fun σ H Q ⟨F,ad,δ,K,S,q,k⟩↦⟨F,ad,δ,_,S,q,λy δ1 h1 u F1 aS H1 E1 S1 V1=>by
  let⟨a,i,fs,w,⟨rfl,hi,hl⟩,h2⟩:=h1;let⟨dx,ws,e1,e2,e3⟩:=w_ S1 hi;rcases e3.look (x:=x) with⟨z,_⟩|⟨f,w',z1,z2,z3⟩
  .rw[z] at hl;cases hl
  .rw[z1] at hl;cases hl
   calc⟨a,C,dx,ws,w',V1,e2,c,hx,z2,k _ _ h2 _ _ _ _ E1 S1 z3.v⟩⟩
theorem uS(he:JE X a (tD f)):JE X a (tD (ah f)) :=
 he.weak fun σ H Q ⟨F,ad,δ,K,S,q,k⟩↦⟨F,ad,δ,_,S,q,λy δ1 h1 u F1 aS H1 E1 S1 V1=>by
  let⟨a,i,ov,⟨rfl,hi,ht⟩,h2⟩:=h1;let⟨a',o,e1,e2,e3⟩:=S1.mu i ov hi
  let:a'=a:=by
   cases ov with
   |al b ds=>cases ht;exact e3.1.symm
   |ac b ds=>cases ht;exact e3.1.symm
   |av b ds=>cases ht;exact e3.1.symm
   |lst _=>cases ht
   |dct _=>cases ht
   |dtt _=>cases ht
   |ins _ _ _=>cases ht
  subst this
  calc k _ _ h2 _ _ _ _ E1 S1 ⟨a',e1,V1⟩⟩
theorem uT[jq](c:ib X.K C)(hx:cK X.K C x)(ho:JE X o (tD fo))(hv:JE X v (tD fv))(hs:swapsWith v (U (.Attribute o x pos')) pos.line X.env=pure ι:=by rfl):JS X (.Assign [.Attribute o x pos'] v pos) (dG (aA C x fv fo)) :=
 (Lh ho hv hs).weak λD σ H ⟨F,ad,δ,K,S,q,k⟩↦⟨F,ad,δ,_,S,q,λz δ1 h1 u F1 aS H1 E1 S1 V1=>⟨F1,aS,δ1,_,S1,h1,λy δ2 h2 w F2 bV H2 E2 S2 V2=>by
  let⟨g,δ3,h3,E3,S3,ig⟩:=GX S2 (V1.ext E2) h2;let⟨a,i,fs,⟨rfl,hi,hl⟩,h4⟩:=h3;let⟨dx,ws,e1,e2,e3⟩:=w_ S3 hi;let oi:eN F2 a (.ins a C (lE x g fs)) (.ins C dx (cX x u ws)):=⟨Y,dx,_,Y,oP.put ig e3⟩
  calc⟨a,C,dx,ws,V2,e2,c,hx,by rw[↑e3];calc hl,k.nx _ h4 _ _ _ _ (((E1.trans E2).trans E3).trans (Ext.put S3 hi e1)) (S3.put hi e1 oi)⟩⟩⟩
theorem QT(o:Bool)(Fn:bY X.prog X.w X.K X.mg X.base eM k g fd ps (kC G n))(hr:bc k X.A)(hg:Gl X x)(hm:X.mg x=U (.ref g))(hk:V6 X.K (.ref g)=θ)(hb:Binds X.K fd ps [])
  (ha:JA X (e::es) (cf fa)) (dX:b8 x:=by decide) (he:cF X e es:=by rfl) (dg:cR X pos es:=by rfl) :
  JE X (.Call (.Name x p) (e::es) [] pos) (tD (ay o n G fa)):=(vq Fn hr hg hm hk hb .nil pW ha dX he dg).weak fun σ H Q ⟨F,ad,δ,K,S,q,kk⟩↦⟨F,ad,δ,_,S,q,λxs δ1 h1 vs F1 aS H1 E1 S1 V1=>by
   rw[mL];calc w9 kk h1 E1 S1 V1⟩
theorem QU{r:Bool}{E:XK}:∀σ H Q,tD (aw r C m n G fo fa) σ H Q->yt C m (kC G n) [] E (tD fo) (cf fa) σ H Q:=fun σ H Q ⟨F,ad,δ,K,S,q,kk⟩=>⟨F,ad,δ,_,S,q,λy δ1 h1 u F1 aS H1 E1 S1 V1=>by
  let⟨⟨a,i,fs,rfl,hi,hl⟩,h2⟩:=h1;let⟨dx,ws,e1,e2,e3⟩:=w_ S1 hi;rcases e3.look (x:=m) with⟨_,z⟩|⟨f,w',z1,z2,z3⟩
  .refine⟨a,dx,ws,V1,e2,z,F1,aS,δ1,_,S1,h2,λxs δ2 h3 vs F2 bV H2 E2 S2 V2=>?_⟩
   rw[mL];exact w9 kk h3 (E1.trans E2) S2 ⟨_,_,Y,V1.ext E2,V2⟩
  .rw[z1] at hl;cases hl⟩
theorem QV {pl:Sem Bool} (r:Bool) (c:ib X.K C) (hm:Meth X.K C m g) (Fn:bY X.prog X.w X.K X.mg X.base eM k g fd ps (kC G n)) (hr:bc k X.A) (hb:Binds X.K fd ps []) (ho:JE X o (tD fo)) (ha:JA X (e :: es) (cf fa))
  (iP:cF X e es:=by rfl) (dg:cR X pos es:=by rfl)
  (ht:eval (.Call (.Attribute o m apos) (e :: es) [] pos) X.env=(do
   let ov <- eval o X.env
   standAt apos.atName
   let (f,first) <- holding [ov] (getMethod ov m pl)
   callWith pos f first (backTo pos (starEach (e :: es) X.env)) (backToKw pos (keywordEach [] X.env))):=by rfl) :
  JE X (.Call (.Attribute o m apos) (e :: es) [] pos) (tD (aw r C m n G fo fa)):=(Ln ho c hm Fn hr hb .nil pW ha iP dg ht).weak QU
theorem QW {pl:Sem Bool} (r:Bool) (c:ib X.K C) (hm:Meth X.K C m g) (Fn:bY X.prog X.w X.K X.mg X.base eM k g fd ps (kC G n)) (hr:bc k X.A) (hb:Binds X.K fd ps []) (ho:JE X o (tD fo))
  (ht:eval (.Call (.Attribute o m apos) [] [] pos) X.env=(do
   let ov <- eval o X.env
   standAt apos.atName
   let (f,first) <- holding [ov] (getMethod ov m pl)
   callWith pos f first (backTo pos (starEach [] X.env)) (backToKw pos (keywordEach [] X.env))):=by rfl) :
  JE X (.Call (.Attribute o m apos) [] [] pos) (tD (aw r C m n G fo ak)):=(Lo ho c hm Fn hr hb .nil pW ht).weak fun σ H Q ⟨F,ad,δ,K,S,q,kk⟩↦⟨F,ad,δ,_,S,q,λy δ1 h1 u F1 aS H1 E1 S1 V1=>by
  let⟨⟨a,i,fs,rfl,hi,hl⟩,h2⟩:=h1;let⟨dx,ws,e1,e2,e3⟩:=w_ S1 hi;rcases e3.look (x:=m) with⟨_,z⟩ | ⟨f,w',z1,z2,z3⟩
  .exact⟨a,dx,ws,V1,e2,z,w9 (xs:=[.w a]) (vs:=[u]) kk (show rS r n G [.w a] δ1 K from h2) E1 S1 ⟨_,_,Y,V1,Y⟩⟩
  .rw[z1] at hl;cases hl⟩
theorem QX{F H F1 H1:Hp}{ad aS:-O}{δ δ1:aG}{σ:St}{K:DV->aG->Prop}{Q:VK}{E:XK}{xs:-DV}{vs:-V}(kk:∀x δ',K x δ'->∀v F' aE H',Ext F ad δ.mu H F' aE δ'.mu H'->SR F' aE δ' σ H'->dB F' aE x v->Q v H')
  (h1:∀a,rS ι n G (.w a::xs) ⟨δ1.sl,δ1.mu++[U (.ins a C [])]⟩ λx δ2=>x=.p .non/\K (.w a) δ2) (E1:Ext F ad δ.mu H F1 aS δ1.mu H1) (S1:SR F1 aS δ1 σ H1) (V1:cU F1 aS xs vs) {x dx:O} (nx:H1 x=Z) (xb:H1 dx=Z) (ne:dx≠x) :
  kC G n (.ref x::vs) (upd (upd H1 dx (.own x)) x (.ins C dx [])) (λv H2=>v=.non/\Q (.ref x) H2) E:=by
 let S2:=S1.al (dh (o:=.own x) xb);let E2:=Ext.al S1 (dh (o:=.own x) xb);let GY:upd H1 dx (.own x) x=Z:=by rw[bf λz=>ne z.symm];exact nx
 let oi:eN (Nw F1 H1 (upd H1 dx (.own x))) x (.ins x C []) (.ins C dx []):=⟨Y,dx,[],Y,Y⟩;let S3:=S2.own GY oi;let E3:=Ext.own (o:=.ins C dx []) (ov:=.ins x C []) S2 GY;calc w9 (K:=λy δ2=>y=.p .non/\K (.w x) δ2) (λy δ' h v F' aE H' X T V=>?_) (h1 x) ((E1.trans E2).trans E3) S3 ⟨_,_,Y,Y,(V1.ext E2).ext E3⟩;let⟨rfl,h⟩:=h;calc⟨V,kk _ _ h _ _ _ _ X T Y⟩
theorem QY(M:Mk X.K C g)(Fn:bY X.prog X.w X.K X.mg X.base eM k g fd ps (kC G n))(hr:bc (k+1) X.A)(hg:Gl X x)(hm:X.mg x=U (.ref C))(hb:Binds X.K fd ps [])
  (ha:JA X (e::es) (cf fa)) (dX:b8 x:=by decide) (he:cF X e es:=by rfl) (dg:cR X pos es:=by rfl) :
  JE X (.Call (.Name x p) (e::es) [] pos) (tD (aB C n G fa)):=(Lq M Fn hr hg hm hb .nil pW ha dX he dg).weak fun σ H Q ⟨F,ad,δ,K,S,q,kk⟩↦⟨F,ad,δ,_,S,q,λxs δ1 h1 vs F1 aS H1 E1 S1 V1 x dx nx xb ne=>by
   rw[mL];calc QX kk h1 E1 S1 V1 nx xb ne⟩
end
end L2
namespace LJ
open PySem L2
variable[aV]
theorem xc{f g:WE}{op:D->D->(D->Prop)->Prop}{δ:aG}{K:DV->aG->Prop}(h:∀K':DV->aG->Prop,K'=(λx δ1=>g δ1 λy δ2=>hZ x δ2 λd=>hZ y δ2 λe=>op d e λz=>K (.p z) δ2)->f δ K'):d2 f g op δ K:=h _ Y
noncomputable def dI(d:D):Int:=match d with
 |.int n=>n
 |_=>0
theorem xf(p:Int->Bool)(us:-Int):((us.map D.int).filter λd=>p (dI d)).map (λd=>d)=(us.filter p).map D.int:=by
 rw[List.map_id',q1o];rfl
inductive BM (ys:-DV) (ar:-OV) (K:RV->-OV->Prop):Prop
 |mk (m:Int) (ws:-(Int×Int×Int)) (sh:-Int) (_:bz m ws) (_:ys=[.p (aQ m ws),.p (bT sh)]) (_:ar=[]) (_:K (.p (bT (nZ ws sh))) [])
def BN:WS:=(aR (gF (oV (aq (dN (aq (d2 (aa 0) (dC (.int 1)) bg) ak) cB) ak)) [Z,U 1] (cz 0) (dT (d2 (aa 0) (aa 1) (kY θ))) (aa 0)))
theorem QZ:Sem 2 0 BM BN:=by
 ext ys ar K'-⟨m,ws,sh,W,rfl,rfl,k⟩;let i7:=W.fq;unfold BN bT;simp![aQ,c_];calc⟨⋯,?_⟩;rw[Vt,uk];refine rE (λd=>E (dI d∉sh)) (λd=>d) (by rw[pV];unfold bX;simp;symm) trivial ?_ ?_
 .ext d hd acc L ha h1 h2
  let⟨n,hn,rfl⟩:=Vh.mp hd;simp![uN];calc⟨rM sh,?_⟩;erw[dI] at h1 h2
  by_cases c:n∈sh
  .simp![Vk c]
   exact h2 (Vd (Y_ c))
  .simp![Vd c]
   exact⟨ha,h1 (Vk c)⟩
 .rw[xf λn=>E (n∉sh)]
  calc eY k
inductive BO (ys:-DV) (ar:-OV) (K:RV->-OV->Prop):Prop
 |mk (m:Int) (ws:-(Int×Int×Int)) (us:-Int) (_:bz m ws) (_:eG ws us) (_:ys=[.p (aQ m ws),.p (bT us)]) (_:ar=[]) (_:K (.p (aQ m (i9 ws us))) [])
def BP:WS:=(aR (bN (aq (d2 (aa 0) (dC (.int 0)) bg) (aq (dN (aq (gF (cM (aa 1)) [Z,U 0] (cz 0) dH (d2 (d2 (aa 1) (dC (.int 1)) bg) (aa 0) bg)) ak) uj) ak))))
theorem Q0:Sem 2 0 BO BP:=by
 ext ys ar K'-⟨m,ws,us,W,S,rfl,rfl,k⟩;let i7:=(rN W S).fq;rw[sub_len] at i7;unfold BP bT;simp![aQ,dj,c_];refine k9 (λd=>aY (ws.getD (dI d).toNat (0,0,0))) (by rw[pV];symm) trivial ?_ ?_
 .ext d hd acc L ha h
  let⟨n,hn,rfl⟩:=Vh.mp hd;let⟨n0,n1⟩:=S.nums n hn;let⟨y,ey,hy,ea,_⟩:=nV W n0 n1;simp![c_,aQ,ea];erw[dI,ey] at h;exact⟨ha,h⟩
 .rw[Vv]
  simp!;calc eY ?_;let e:i9 ws us=us.map λn=>ws.getD n.toNat (0,0,0):=Y;unfold aQ at k;rw[e,Vv] at k;calc k
inductive BQ (ys:-DV) (ar:-OV) (K:RV->-OV->Prop):Prop
 |mk (m:Int) (ws:-(Int×Int×Int)) (n p:Int) (_:bz m ws) (_:(0<=n/\n<(↑ws:Int))) (_:ys=[.p (aQ m ws),.p (.int n),.p (.int p)]) (_:ar=[]) (_:K (.p (aQ m (ws.set n.toNat ((ws.getD n.toNat (0,0,0)).1,(ws.getD n.toNat (0,0,0)).2.1,p)))) [])
def BR:WS:=(az (aU 3 (d2 (d2 (aa 0) (dC (.int 1)) bg) (aa 1) bg)) (aR (bN (aq (d2 (aa 0) (dC (.int 0)) bg) (aq (d2 (d2 (gx (d2 (aa 0) (dC (.int 1)) bg) gU (kZ (aa 1))) (bN (aq (bN (aq (d2 (aa 3) (dC (.int 0)) bg) (aq (d2 (aa 3) (dC (.int 1)) bg) (aq (aa 2) ak)))) ak)) cQ) (gx (d2 (aa 0) (dC (.int 1)) bg) (kZ (d2 (aa 1) (dC (.int 1)) cQ)) gU) cQ) ak)))))
theorem Q1:Sem 3 1 BQ BR:=by
 ext ys ar K'-⟨m,ws,n,p,W,hn,rfl,rfl,k⟩;let i7:=W.fq;let⟨y,ey,hy,ea,_⟩:=nV W hn.1 hn.2;let⟨t,rfl⟩:=Xt hn.1;let ht:t<↑ws:=by symm
 let f1:=GN (ds:=ws.map aY) (t:=t) (by rw[pV];symm);let f2:cutD (ws.map aY) (U ((t:Int)+1)) Z=(ws.map aY).drop (t+1):=GL (ds:=ws.map aY) (t:=t+1) (by rw[pV];symm);let l1:↑((ws.map aY).take t)=t:=by rw[Vn,pV];symm
 let l2:↑((ws.map aY).drop (t+1))=↑ws-(t+1):=by rw[Ww,pV]
 let e3:(ws.map aY).take t++[D.tup [.int y.1,.int y.2.1,.int p]]++(ws.map aY).drop (t+1)=(ws.set t (y.1,y.2.1,p)).map aY:=by
  rw[Ya,U_ ht,Vq,Ve,Z9,Z_,Xe];rfl
 rw[Vt] at ey k;rw[ey] at k;unfold aQ at k;rw[<-e3] at k;unfold BR aQ;generalize hA:(ws.map aY).take t=A at f1 l1 k;generalize hB:(ws.map aY).drop (t+1)=B at f2 l2 k;generalize ws.map aY=V at ea f1 f2 ⊢;calc aX λN hN=>?_;simp![c_,ea];subst hN;unfold aR bN;calc i0 λK2 uU=>?_;simp![dj];subst uU;dsimp only;calc i0 λK2 uU=>xc λK3 lb=>xc λK4 iy=>?_;simp![c_,f1];subst iy;dsimp only;calc i0 λK4 iy=>?_;simp![dj,c_,aY];subst iy;simp!;calc⟨⋯,?_⟩;subst lb;dsimp only;simp![c_,f2];calc⟨⋯,?_⟩;subst uU;simp!;calc eY k
noncomputable def uV(xs ys:-Int):D:=match xs.filter (λn=>E (n∉ys)) with
 |[]=>.non
 |n::_=>.int n
inductive xg (ys:-DV) (ar:-OV) (K:RV->-OV->Prop):Prop
 |mk (xs zs:-Int) (_:↑xs<=1000) (_:ys=[.p (bT xs),.p (bT zs)]) (_:ar=[]) (_:K (.p (uV xs zs)) [])
def BS:WS:=(az (aU 2 (gF (cM (aa 0)) [Z,U 1] (cz 0) (dT (d2 (aa 0) (aa 1) (kY θ))) (aa 0))) (aR (rh (dT (d2 (dN (aq (aa 2) ak) cB) (dC (.int 0)) (oI λi j=>.bl (E (j<i))))) (d2 (aa 2) (dC (.int 0)) bg) (dC .non))))
theorem Q2:Sem 2 1 xg BS:=by
 ext ys ar K'-⟨xs,zs,hl,rfl,rfl,k⟩;unfold BS bT;calc aX λN hN=>?_;simp!;refine rE (λd=>E (dI d∉zs)) (λd=>d) (by rw[pV];calc hl) trivial ?_ ?_
 .ext d hd acc L ha h1 h2
  let⟨n,hn,rfl⟩:=Vh.mp hd;simp![uN];calc⟨rM zs,?_⟩;erw[dI] at h1 h2
  by_cases c:n∈zs
  .simp![Vk c]
   exact h2 (Vd (Y_ c))
  .simp![Vd c]
   exact⟨ha,h1 (Vk c)⟩
 .rw[xf λn=>E (n∉zs)]
  subst hN;unfold uV at k;generalize xs.filter (λn=>E (n∉zs))=q at k ⊢
  cases q with
  |nil=>simp!;exact eY k
  |cons n r =>
   simp!;rw[U_ (Vk ⋯)];erw[dj];calc eY k
noncomputable def kD(xs ys:-Int):D:=.tup [uV xs ys,uV ys xs]
inductive BU (ys:-DV) (ar:-OV) (K:RV->-OV->Prop):Prop
 |mk (xs zs:-Int) (_:↑xs<=1000) (_:↑zs<=1000) (_:ys=[.p (bT xs),.p (bT zs)]) (_:ar=[]) (_:K (.p (kD xs zs)) [])
def BV:WS:=(aR (bN (aq (aF 2 xg (aq (aa 0) (aq (aa 1) ak))) (aq (aF 2 xg (aq (aa 1) (aq (aa 0) ak))) ak))))
theorem Q3:Sem 2 0 BU BV:=by
 ext ys ar K'-⟨xs,zs,h1,h2,rfl,rfl,k⟩;unfold BV;simp!;calc⟨xs,zs,h1,Y,Y,?_⟩;simp!;calc⟨zs,xs,h2,Y,Y,?_⟩;simp!;calc eY k
end LJ
namespace L2
open PySem PySem.Spec PyProof.Rows PySem.W
section
variable{X:Cx}
end
variable[aV]{X:Cx}
end L2
namespace L2
open PySem PySem.Spec PyProof.Rows
variable[aV]{X:Cx}{pins:aM}{σ:St}{F H:Hp}{s:B}
end L2
namespace LJ
open PySem L2
variable[aV]
abbrev bK:=-(Int×Int×Int)×-Int
noncomputable def eO(m:Int)(s:bK):D:=.tup [aQ m s.1,bT s.2]
noncomputable def kO(C a b:O)(m:Int)(s:bK):OV:=.ins a C [("town",.p (aQ m s.1)),("shut",.p (bT s.2)),("past",.w b)]
noncomputable def pO(b:O)(m:Int)(ps:-bK):OV:=.al b (ps.map (eO m))
structure bJ(m:Int)(s:bK):Prop where
 fU:bz m s.1
 sh:eG s.1 s.2
theorem bJ.len{m:Int}{s:bK}(h:bJ m s):↑s.2<=30:=by
 let:=(rN h.fU h.sh).fq
 rwa [sub_len] at this
noncomputable abbrev bQ(s:bK):-(Int×Int×Int):=i9 s.1 (nZ s.1 s.2)
noncomputable def bW(m:Int)(s:bK)(ns:-Int):-Int:=(lA m (bQ s) ns).map (l8 (nZ s.1 s.2))
theorem lF{K:RK->-OV->-OV->Prop}{d:D}{sl:-(Option DV)}{ows:-OV}{gs:-(Option OV)}(h:K (.p d) ows []):n8 ↑ows K (.p d) ⟨sl,ows.map U++gs⟩:=⟨ows,[],gs,by rw[mL],Y,h⟩
def xh(C:O):GK:=λys ar K=>∃(a:O)(m:Int)(ws:-(Int×Int×Int)),bz m ws/\ys=[.w a,.p (aQ m ws)]/\ar=[.ins a C []]/\∀b,K (.p .non) [kO C a b m (ws,[])] [pO b m []]
def BW(c_Keeper:O):WS:=(az (jr (aF 1 uL (aq (aa 1) ak))) (az (aA c_Keeper "town" (aa 1) (aa 0)) (az (aA c_Keeper "shut" (c5 ak) (aa 0)) (aA c_Keeper "past" (lS ak) (aa 0)))))
theorem Q4(C:O):∀ys ar K',↑ys=2->xh C ys ar K'->BW C (ag ↑ar K') ⟨ys.map U++Ul 0 Z,ar.map U⟩:=by
 ext ys ar K'-⟨a,m,ws,W,rfl,rfl,k⟩;unfold BW;calc aX λN hN=>?_;simp![af,ah,aA,toF,aw,ay,aB,ai,aD,FV.v,ag,mL,pT];calc⟨m,ws,W,Y,Y,?_⟩;simp![af,ah,aA,toF,aw,ay,aB,ai,aD,FV.v,ag,mL,pT];subst hN;calc aX λN hN=>?_;simp![af,ah,aA,toF,aw,ay,aB,ai,aD,FV.v,ag,mL,pT];calc⟨a,0,_,⟨Y,Y,by decide⟩,?_⟩;subst hN;calc aX λN hN=>?_;simp![af,ah,aA,toF,aw,ay,aB,ai,aD,FV.v,ag,mL,pT];calc⟨a,0,_,⟨Y,Y,by show 1<1000;decide⟩,?_⟩;subst hN;simp![af,ah,aA,toF,aw,ay,aB,ai,aD,FV.v,ag,mL,pT];ext b;calc⟨a,0,_,⟨Y,Y,by show 2<1000;decide⟩,?_⟩;calc⟨_,[pO b m []],[],Y,Y,k b⟩
def BX(C:O):GK:=λys ar K=>∃(a b:O)(m:Int)(s:bK),ys=[.w a]/\ar=[kO C a b m s]/\K (.p (aQ m s.1)) [kO C a b m s] []
def BY(c_Keeper:O):WS:=(aR (af c_Keeper "town" (aa 0)))
theorem Q5(C:O):∀ys ar K',↑ys=1->BX C ys ar K'->BY C (ag ↑ar K') ⟨ys.map U++Ul 0 Z,ar.map U⟩:=by
 ext ys ar K'-⟨a,b,m,s,rfl,rfl,k⟩;unfold BY;simp![af,ah,aA,toF,aw,ay,aB,ai,aD,FV.v,ag,mL,pT];calc⟨a,0,_,.p (aQ m s.1),⟨Y,Y,Y⟩,?_⟩;calc lF k
def BZ(C:O):GK:=λys ar K=>∃(a b:O)(m:Int)(s:bK),bJ m s/\ys=[.w a]/\ar=[kO C a b m s]/\K (.n (s.2.map D.int)) [kO C a b m s] []
def B1(c_Keeper:O):WS:=(aR (rF (aq (af c_Keeper "shut" (aa 0)) ak) wx))
theorem Q6(C:ξ):∀ys ar K',↑ys=1->BZ C ys ar K'->B1 C (ag ↑ar K') ⟨ys.map U++Ul 0 Z,ar.map U⟩:=by
 ext ys ar K'-⟨a,b,m,s,O,rfl,rfl,k⟩;let uW:=O.len;unfold B1;simp![af,ah,aA,toF,aw,ay,aB,ai,aD,FV.v,ag,mL,pT];calc⟨a,0,_,.p (bT s.2),⟨Y,Y,Y⟩,?_⟩;simp![af,ah,aA,toF,aw,ay,aB,ai,aD,FV.v,ag,mL,pT,bT];calc⟨[_],[],[U (.lst _)],Y,Y,yT _,k⟩
def rT(C:O):GK:=λys ar K=>∃(a b:O)(m:Int)(s:bK),bJ m s/\ys=[.w a]/\ar=[kO C a b m s]/\∀ns,aP (bQ s) ns->K (.n ((bW m s ns).map D.int)) [kO C a b m s] []
def B3(c_Keeper:O):WS:=(az (aU 1 (aF 2 BM (aq (af c_Keeper "town" (aa 0)) (aq (af c_Keeper "shut" (aa 0)) ak)))) (aR (kX (cM (aF 1 Bx (aq (aF 2 BO (aq (af c_Keeper "town" (aa 0)) (aq (aa 1) ak))) ak))) [Z,U 1] (cz 0) dH (d2 (aa 1) (aa 0) bg))))
theorem Q7(C:ξ):∀ys ar K',↑ys=1->rT C ys ar K'->B3 C (ag ↑ar K') ⟨ys.map U++Ul 1 Z,ar.map U⟩:=by
 ext ys ar K'-⟨a,b,m,s,O,rfl,rfl,k⟩;unfold B3;calc aX λN hN=>?_;simp![af,ah,aA,toF,aw,ay,aB,ai,aD,FV.v,ag,mL,pT];calc⟨a,0,_,.p (aQ m s.1),⟨Y,Y,Y⟩,a,0,_,.p (bT s.2),⟨Y,Y,Y⟩,?_⟩;simp![af,ah,aA,toF,aw,ay,aB,ai,aD,FV.v,ag,mL,pT];calc⟨m,s.1,s.2,O.fU,Y,Y,?_⟩;simp![af,ah,aA,toF,aw,ay,aB,ai,aD,FV.v,ag,mL,pT];subst hN;simp![af,ah,aA,toF,aw,ay,aB,ai,aD,FV.v,ag,mL,pT];calc⟨a,0,_,.p (aQ m s.1),⟨Y,Y,Y⟩,?_⟩;simp![af,ah,aA,toF,aw,ay,aB,ai,aD,FV.v,ag,mL,pT];calc⟨m,s.1,nZ s.1 s.2,O.fU,uO _ _,Y,Y,?_⟩;simp![af,ah,aA,toF,aw,ay,aB,ai,aD,FV.v,ag,mL,pT]
 let W2:bz m (bQ s):=rN O.fU (uO s.1 s.2);calc⟨m,bQ s,W2,Y,Y,λns ho=>?_⟩;simp![af,ah,aA,toF,aw,ay,aB,ai,aD,FV.v,ag,mL,pT]
 let fl:↑(lA m (bQ s) ns)<=30:=by
  let:=wR (m:=m) (ws:=bQ s) ns;let:=ho.len;let:=W2.fq;symm
 refine k9 (λd=>.int (l8 (nZ s.1 s.2) (dI d))) (by rw[pV];symm) trivial ?_ ?_
 .ext d hd acc L ha h
  let⟨n,hn,rfl⟩:=Vh.mp hd;let hr:=ho.nums n (GF ns n hn);rw[sub_len] at hr;simp![af,ah,aA,toF,aw,ay,aB,ai,aD,FV.v,ag,mL,pT,bT];rw[Qg hr];exact⟨ha,h⟩
 .refine⟨[_],[],[U (.lst _)],Y,Y,yT _,?_⟩
  let e:(q5d D.int (lA m (bQ s) ns)).map (λd=>D.int (l8 (nZ s.1 s.2) (dI d)))=(bW m s ns).map D.int:=by
   unfold bW;rw[Vv,Vv];rfl
  show K' (.n ((q5d D.int (lA m (bQ s) ns)).map (λd=>D.int (l8 (nZ s.1 s.2) (dI d))))) _ _;rw[e];calc k ns ho
noncomputable def wsum(ws:-(Int×Int×Int))(ns:-Int):Int:=(ns.map λn=>(ws.getD n.toNat (0,0,0)).2.2).sum
theorem B4{m:Int}{s:bK}{ns:-Int}(O:bJ m s)(ho:aP (bQ s) ns):Nums s.1 (bW m s ns)/\(bW m s ns).Nodup/\↑(bW m s ns)<=30:=by
 let S:=uO s.1 s.2;let W2:bz m (bQ s):=rN O.fU S
 let rg:∀i∈lA m (bQ s) ns,0<=i/\i<(↑(nZ s.1 s.2):Int):=λi hi=>by
  let hr:=ho.nums i (GF ns i hi)
  rwa [sub_len] at hr
 refine⟨λn hn=>?_,?_,?_⟩
 .let⟨i,hi,rfl⟩:=Vh.mp hn
  exact S.nums _ (Qd (rg i hi))
 .refine Xf.mpr ((Qf ho).imp_of_mem λ{i j} hi hj ne e=>ne ?_)
  let h1:=rg i hi;let h2:=rg j hj
  by_cases c:i<j
  .let:=S.lt h1.1 c h2.2;symm
  .by_cases c2:j<i
   .let:=S.lt h2.1 c2 h1.2;symm
   .omega
 .let h1:=wR (m:=m) (ws:=bQ s) ns
  let h2:=ho.len;let h3:=W2.fq;unfold bW;rw[pV];symm
def B5(C:O):GK:=λys ar K=>∃(a b:O)(m:Int)(s:bK),bJ m s/\ys=[.w a]/\ar=[kO C a b m s]/\∀ns,aP (bQ s) ns->K (.p (.int (wsum s.1 (bW m s ns)))) [kO C a b m s] []
def B6(c_Keeper:O):WS:=(aR (aF 2 BF (aq (af c_Keeper "town" (aa 0)) (aq (aw ι c_Keeper "forest" 1 (rT c_Keeper) (aa 0) ak) ak))))
theorem Q8(C:ξ):∀ys ar K',↑ys=1->B5 C ys ar K'->B6 C (ag ↑ar K') ⟨ys.map U++Ul 0 Z,ar.map U⟩:=by
 ext ys ar K'-⟨a,b,m,s,O,rfl,rfl,k⟩;unfold B6;simp![af,ah,aA,toF,aw,ay,aB,ai,aD,FV.v,ag,mL,pT];calc⟨a,0,_,.p (aQ m s.1),⟨Y,Y,Y⟩,⟨a,0,_,Y,Y,Y⟩,[(0,kO C a b m s)],⟨Y,trivial⟩,?_⟩;simp![af,ah,aA,toF,aw,ay,aB,ai,aD,FV.v,ag,mL,pT];calc⟨a,b,m,s,O,Y,Y,λns ho=>?_⟩;let⟨h1,h2,h3⟩:=B4 O ho;simp![af,ah,aA,toF,aw,ay,aB,ai,aD,FV.v,ag,mL,pT];calc⟨m,s.1,bW m s ns,O.fU,h1,h2,⋯,Y,Y,?_⟩;simp![af,ah,aA,toF,aw,ay,aB,ai,aD,FV.v,ag,mL,pT];calc lF (k ns ho)
def uX(C:O):GK:=λys ar K=>∃(a b:O)(m:Int)(s:bK)(n:Int),bJ m s/\(0<=n/\n<(↑s.1:Int))/\ys=[.w a,.p (.int n)]/\ar=[kO C a b m s]/\K (.p .non) [kO C a b m s] []
def B7(c_Keeper:O):WS:=(bC (eV (dT (aF 3 ny (aq (aa 1) (aq (dC (.int 0)) (aq (d2 (dN (aq (d2 (af c_Keeper "town" (aa 0)) (dC (.int 1)) bg) ak) cB) (dC (.int 1)) (oI λi j=>.int (i-j))) ak)))))) lT di)
theorem Q9(C:ξ):∀ys ar K',↑ys=2->uX C ys ar K'->B7 C (ag ↑ar K') ⟨ys.map U++Ul 0 Z,ar.map U⟩:=by
 ext ys ar K'-⟨a,b,m,s,n,O,hn,rfl,rfl,k⟩;unfold B7;simp![af,ah,aA,toF,aw,ay,aB,ai,aD,FV.v,ag,mL,pT];calc⟨a,0,_,.p (aQ m s.1),⟨Y,Y,Y⟩,?_⟩;simp![af,ah,aA,toF,aw,ay,aB,ai,aD,FV.v,ag,mL,pT,aQ,c_];calc⟨.int n,0,(↑s.1:Int)-1,Y,Y,?_⟩;simp![af,ah,aA,toF,aw,ay,aB,ai,aD,FV.v,ag,mL,pT];rw[rJ hn.1 ⋯];simp![af,ah,aA,toF,aw,ay,aB,ai,aD,FV.v,ag,mL,pT];calc lF k
def xi(C:O):GK:=λys ar K=>∃(a b:O)(m:Int)(s s':bK),bJ m s/\bJ m s'/\ys=[.w a,.p (aQ m s'.1),.p (bT s'.2)]/\ar=[kO C a b m s]/\∀ns bU,aP (bQ s) ns->aP (bQ s') bU->K (.p (kD (bW m s ns) (bW m s' bU))) [kO C a b m s'] []
def B8(c_Keeper:O):WS:=(az (aU 3 (aw ι c_Keeper "forest" 1 (rT c_Keeper) (aa 0) ak)) (az (aA c_Keeper "town" (aa 1) (aa 0)) (az (aA c_Keeper "shut" (aa 2) (aa 0)) (aR (aF 2 BU (aq (aa 3) (aq (aw ι c_Keeper "forest" 1 (rT c_Keeper) (aa 0) ak) ak)))))))
theorem Q_(C:ξ):∀ys ar K',↑ys=3->xi C ys ar K'->B8 C (ag ↑ar K') ⟨ys.map U++Ul 1 Z,ar.map U⟩:=by
 ext ys ar K'-⟨a,b,m,s,s',O,O',rfl,rfl,k⟩;unfold B8;calc aX λN hN=>?_;simp![af,ah,aA,toF,aw,ay,aB,ai,aD,FV.v,ag,mL,pT];calc⟨⟨a,0,_,Y,Y,Y⟩,[(0,kO C a b m s)],⟨Y,trivial⟩,?_⟩;simp![af,ah,aA,toF,aw,ay,aB,ai,aD,FV.v,ag,mL,pT];calc⟨a,b,m,s,O,Y,Y,λns ho=>?_⟩;simp![af,ah,aA,toF,aw,ay,aB,ai,aD,FV.v,ag,mL,pT];subst hN;calc aX λN hN=>?_;simp![af,ah,aA,toF,aw,ay,aB,ai,aD,FV.v,ag,mL,pT];calc⟨a,0,_,⟨Y,Y,by show 3<1000;decide⟩,?_⟩;subst hN;calc aX λN hN=>?_;simp![af,ah,aA,toF,aw,ay,aB,ai,aD,FV.v,ag,mL,pT];refine⟨a,0,_,⟨Y,Y,by show 3<1000;decide⟩,?_⟩
 subst hN;simp![af,ah,aA,toF,aw,ay,aB,ai,aD,FV.v,ag,mL,pT];calc⟨⟨a,0,_,Y,Y,Y⟩,[(0,kO C a b m s')],⟨Y,trivial⟩,?_⟩;simp![af,ah,aA,toF,aw,ay,aB,ai,aD,FV.v,ag,mL,pT];calc⟨a,b,m,s',O',Y,Y,λbU dS=>?_⟩;let⟨_,_,h3⟩:=B4 O ho;let⟨_,_,h4⟩:=B4 O' dS;simp![af,ah,aA,toF,aw,ay,aB,ai,aD,FV.v,ag,mL,pT];calc⟨bW m s ns,bW m s' bU,⋯,⋯,Y,Y,?_⟩;simp![af,ah,aA,toF,aw,ay,aB,ai,aD,FV.v,ag,mL,pT];calc lF (k ns bU ho dS)
def uY(C:O):GK:=λys ar K=>∃(a b:O)(m:Int)(s s':bK)(ps:-bK),bJ m s/\bJ m s'/\↑ps<900/\ys=[.w a,.p (aQ m s'.1),.p (bT s'.2)]/\ar=[kO C a b m s,pO b m ps]/\∀ns bU,aP (bQ s) ns->aP (bQ s') bU->K (.p (kD (bW m s ns) (bW m s' bU))) [kO C a b m s',pO b m (ps++[s])] []
def B9(c_Keeper:O):WS:=(az (jr (jV (ah (af c_Keeper "past" (aa 0))) (aq (bN (aq (af c_Keeper "town" (aa 0)) (aq (af c_Keeper "shut" (aa 0)) ak))) ak))) (aR (aw ι c_Keeper "set_to" 3 (xi c_Keeper) (aa 0) (aq (aa 1) (aq (aa 2) ak)))))
theorem Ra(C:ξ):∀ys ar K',↑ys=3->uY C ys ar K'->B9 C (ag ↑ar K') ⟨ys.map U++Ul 0 Z,ar.map U⟩:=by
 ext ys ar K'-⟨a,b,m,s,s',ps,O,O',hp,rfl,rfl,k⟩;unfold B9;calc aX λN hN=>?_;simp![af,ah,aA,toF,aw,ay,aB,ai,aD,FV.v,ag,mL,pT];calc⟨a,0,_,.w b,⟨Y,Y,Y⟩,b,1,pO b m ps,⟨Y,Y,Y⟩,?_⟩;simp![af,ah,aA,toF,aw,ay,aB,ai,aD,FV.v,ag,mL,pT,pO];calc⟨a,0,_,.p (aQ m s.1),⟨Y,Y,Y⟩,a,0,_,.p (bT s.2),⟨Y,Y,Y⟩,?_⟩;simp![af,ah,aA,toF,aw,ay,aB,ai,aD,FV.v,ag,mL,pT];calc⟨⋯,?_⟩;subst hN;simp![af,ah,aA,toF,aw,ay,aB,ai,aD,FV.v,ag,mL,pT];calc⟨⟨a,0,_,Y,Y,Y⟩,[(0,kO C a b m s)],⟨Y,trivial⟩,?_⟩;simp![af,ah,aA,toF,aw,ay,aB,ai,aD,FV.v,ag,mL,pT];refine⟨a,b,m,s,s',O,O',Y,Y,λns bU ho dS=>?_⟩
 simp![af,ah,aA,toF,aw,ay,aB,ai,aD,FV.v,ag,mL,pT];calc⟨[kO C a b m s',pO b m (ps++[s])],[],[],?_,Y,k ns bU ho dS⟩;let e:(ps++[s]).map (eO m)=ps.map (eO m)++[eO m s]:=Vq;unfold pO;rw[e];rfl
noncomputable def uZ(ws:-(Int×Int×Int))(n:Int):Int×Int×Int:=ws.getD n.toNat (0,0,0)
noncomputable def dR(ws:-(Int×Int×Int))(n p:Int):-(Int×Int×Int):=ws.set n.toNat ((uZ ws n).1,(uZ ws n).2.1,p)
theorem GZ{m:Int}{ws:-(Int×Int×Int)}{n p:Int}(W:bz m ws)(hn:0<=n/\n<(↑ws:Int))(hp:0<=p/\p<=1000000000):bz m (dR ws n p):=by
 let ht:n.toNat<↑ws:=by symm
 let ea:uZ ws n=ws[n.toNat]:=by unfold uZ;rw[Mg,pU ht];rfl
 refine⟨W.m1,W.lR,by unfold dR;rw[VS];calc W.fq,λy hy=>?_,?_⟩
 .rcases YY hy with h|h
  .exact W.ends y h
  .subst h
   let:=W.ends _ (getD_mem hn);exact⟨this.1,this.2.1,this.2.2.1,hp.1,hp.2⟩
 .let e:(dR ws n p).map (λy=>(y.1,y.2.1))=ws.map λy=>(y.1,y.2.1):=by
   unfold dR;let:=List.set_getElem_self (as:=ws.map λy=>(y.1,y.2.1)) (i:=n.toNat) (by rw[pV];calc ht);rw[WU] at this;rw[q2A,ea];exact this
  rw[e];calc W.unlike
def B_(C:O):GK:=λys ar K=>∃(a b:O)(m:Int)(s:bK)(ps:-bK)(n p:Int),bJ m s/\(0<=n/\n<(↑s.1:Int))/\(0<=p/\p<=1000000000)/\↑ps<900/\ys=[.w a,.p (.int n),.p (.int p)]/\ar=[kO C a b m s,pO b m ps]/\∀ns bU,aP (bQ s) ns->aP (bQ (dR s.1 n p,s.2)) bU->K (.p (kD (bW m s ns) (bW m (dR s.1 n p,s.2) bU))) [kO C a b m (dR s.1 n p,s.2),pO b m (ps++[s])] []
def Ca(c_Keeper:O):WS:=(az (jr (aw ι c_Keeper "need_way" 2 (uX c_Keeper) (aa 0) (aq (aa 1) ak))) (az (bC (eV (dT (aF 3 ny (aq (aa 2) (aq (dC (.int 0)) (aq (dC (.int 1000000000)) ak)))))) lT di) (aR (aw ι c_Keeper "changed" 3 (uY c_Keeper) (aa 0) (aq (aF 3 BQ (aq (af c_Keeper "town" (aa 0)) (aq (aa 1) (aq (aa 2) ak)))) (aq (af c_Keeper "shut" (aa 0)) ak))))))
theorem G0{ws:-(Int×Int×Int)}{n p:Int}{us:-Int}(S:eG ws us):eG (dR ws n p) us:=⟨S.up,λx hx=>by let:=S.nums x hx;unfold dR;rwa [VS]⟩
theorem Rb(C:ξ):∀ys ar K',↑ys=3->B_ C ys ar K'->Ca C (ag ↑ar K') ⟨ys.map U++Ul 0 Z,ar.map U⟩:=by
 ext ys ar K'-⟨a,b,m,s,ps,n,p,O,hn,hp,hl,rfl,rfl,k⟩;unfold Ca;calc aX λN hN=>?_;simp![af,ah,aA,toF,aw,ay,aB,ai,aD,FV.v,ag,mL,pT];calc⟨⟨a,0,_,Y,Y,Y⟩,[(0,kO C a b m s)],⟨Y,trivial⟩,?_⟩;simp![af,ah,aA,toF,aw,ay,aB,ai,aD,FV.v,ag,mL,pT];calc⟨a,b,m,s,n,O,hn,Y,Y,?_⟩;simp![af,ah,aA,toF,aw,ay,aB,ai,aD,FV.v,ag,mL,pT];subst hN;calc aX λN hN=>?_;simp![af,ah,aA,toF,aw,ay,aB,ai,aD,FV.v,ag,mL,pT];calc⟨.int p,0,1000000000,Y,Y,?_⟩;simp![af,ah,aA,toF,aw,ay,aB,ai,aD,FV.v,ag,mL,pT];rw[rJ hp.1 hp.2];simp![af,ah,aA,toF,aw,ay,aB,ai,aD,FV.v,ag,mL,pT]
 subst hN;simp![af,ah,aA,toF,aw,ay,aB,ai,aD,FV.v,ag,mL,pT];calc⟨⟨a,0,_,Y,Y,Y⟩,a,0,_,.p (aQ m s.1),⟨Y,Y,Y⟩,?_⟩;simp![af,ah,aA,toF,aw,ay,aB,ai,aD,FV.v,ag,mL,pT];calc⟨m,s.1,n,p,O.fU,hn,Y,Y,?_⟩;simp![af,ah,aA,toF,aw,ay,aB,ai,aD,FV.v,ag,mL,pT];calc⟨a,0,_,.p (bT s.2),⟨Y,Y,Y⟩,[(0,kO C a b m s),(1,pO b m ps)],⟨Y,Y,trivial⟩,?_⟩;simp![af,ah,aA,toF,aw,ay,aB,ai,aD,FV.v,ag,mL,pT];calc⟨a,b,m,s,(dR s.1 n p,s.2),ps,O,⟨GZ O.fU hn hp,G0 O.sh⟩,hl,Y,Y,λns bU ho dS=>?_⟩;simp![af,ah,aA,toF,aw,ay,aB,ai,aD,FV.v,ag,mL,pT];calc lF (k ns bU ho dS)
theorem G1{ws:-(Int×Int×Int)}{sh:-Int}{n:Int}(S:eG ws sh)(hn:0<=n/\n<(↑ws:Int))(h:n∉sh):eG ws (sortI (sh++[n])):=by
 let pm:=sortI_perm (sh++[n]);let nd:(sh++[n]).Nodup:=Yh.mpr ⟨S.nd,by simp,λx hx y hy e=>by rw[Vu] at hy;subst hy;subst e;calc h hx⟩;refine⟨?_,λx hx=>?_⟩
 .refine ((FA _).and (pm.nodup_iff.mpr nd)).imp λh=>?_
  let⟨h1,h2⟩:=h;symm
 .rcases Vs.mp (pm.mem_iff.mp hx) with h|h
  .exact S.nums x h
  .rw[Vu] at h;subst h;calc hn
def Cb(C:O):GK:=λys ar K=>∃(a b:O)(m:Int)(s:bK)(ps:-bK)(n:Int),bJ m s/\(0<=n/\n<(↑s.1:Int))/\n∉s.2/\↑ps<900/\ys=[.w a,.p (.int n)]/\ar=[kO C a b m s,pO b m ps]/\∀ns bU,aP (bQ s) ns->aP (bQ (s.1,sortI (s.2++[n]))) bU->K (.p (kD (bW m s ns) (bW m (s.1,sortI (s.2++[n])) bU))) [kO C a b m (s.1,sortI (s.2++[n])),pO b m (ps++[s])] []
def Cc(c_Keeper:O):WS:=(az (jr (aw ι c_Keeper "need_way" 2 (uX c_Keeper) (aa 0) (aq (aa 1) ak))) (az (bC (dT (d2 (aa 1) (af c_Keeper "shut" (aa 0)) (kY ι))) lT di) (aR (aw ι c_Keeper "changed" 3 (uY c_Keeper) (aa 0) (aq (af c_Keeper "town" (aa 0)) (aq (dN (aq (d2 (af c_Keeper "shut" (aa 0)) (c5 (aq (aa 1) ak)) cQ) ak) rz) ak))))))
theorem Rc(C:ξ):∀ys ar K',↑ys=2->Cb C ys ar K'->Cc C (ag ↑ar K') ⟨ys.map U++Ul 0 Z,ar.map U⟩:=by
 ext ys ar K'-⟨a,b,m,s,ps,n,O,hn,hs,hl,rfl,rfl,k⟩;let uW:=O.len;unfold Cc;calc aX λN hN=>?_;simp![af,ah,aA,toF,aw,ay,aB,ai,aD,FV.v,ag,mL,pT];calc⟨⟨a,0,_,Y,Y,Y⟩,[(0,kO C a b m s)],⟨Y,trivial⟩,?_⟩;simp![af,ah,aA,toF,aw,ay,aB,ai,aD,FV.v,ag,mL,pT];calc⟨a,b,m,s,n,O,hn,Y,Y,?_⟩;simp![af,ah,aA,toF,aw,ay,aB,ai,aD,FV.v,ag,mL,pT];subst hN;calc aX λN hN=>?_;simp![af,ah,aA,toF,aw,ay,aB,ai,aD,FV.v,ag,mL,pT];calc⟨a,0,_,.p (bT s.2),⟨Y,Y,Y⟩,?_⟩;simp![af,ah,aA,toF,aw,ay,aB,ai,aD,FV.v,ag,mL,pT,bT,uN,Vd hs];calc⟨rM s.2,?_⟩;subst hN;simp![af,ah,aA,toF,aw,ay,aB,ai,aD,FV.v,ag,mL,pT]
 calc⟨⟨a,0,_,Y,Y,Y⟩,a,0,_,.p (aQ m s.1),⟨Y,Y,Y⟩,a,0,_,.p (bT s.2),⟨Y,Y,Y⟩,?_⟩;simp![af,ah,aA,toF,aw,ay,aB,ai,aD,FV.v,ag,mL,pT,bT];calc⟨⋯,?_⟩;rw[show s.2.map D.int++[D.int n]=(s.2++[n]).map D.int by rw[Vq];rfl];erw[rz,ud];calc⟨by rw[Eh];simp;symm,[(0,kO C a b m s),(1,pO b m ps)],⟨Y,Y,trivial⟩,?_⟩;simp![af,ah,aA,toF,aw,ay,aB,ai,aD,FV.v,ag,mL,pT];calc⟨a,b,m,s,(s.1,sortI (s.2++[n])),ps,O,⟨O.fU,G1 O.sh hn hs⟩,hl,Y,Y,λns bU ho dS=>?_⟩;simp![af,ah,aA,toF,aw,ay,aB,ai,aD,FV.v,ag,mL,pT];calc lF (k ns bU ho dS)
noncomputable def j6(sh:-Int)(n:Int):-Int:=sh.filter λx=>E (x≠n)
theorem vd{ws:-(Int×Int×Int)}{sh:-Int}{n:Int}(S:eG ws sh):eG ws (j6 sh n):=⟨S.up.filter _,λx hx=>S.nums x (W8.mp hx).1⟩
def Cd(C:O):GK:=λys ar K=>∃(a b:O)(m:Int)(s:bK)(ps:-bK)(n:Int),bJ m s/\(0<=n/\n<(↑s.1:Int))/\n∈s.2/\↑ps<900/\ys=[.w a,.p (.int n)]/\ar=[kO C a b m s,pO b m ps]/\∀ns bU,aP (bQ s) ns->aP (bQ (s.1,j6 s.2 n)) bU->K (.p (kD (bW m s ns) (bW m (s.1,j6 s.2 n) bU))) [kO C a b m (s.1,j6 s.2 n),pO b m (ps++[s])] []
def Ce(c_Keeper:O):WS:=(az (jr (aw ι c_Keeper "need_way" 2 (uX c_Keeper) (aa 0) (aq (aa 1) ak))) (az (bC (dT (d2 (aa 1) (af c_Keeper "shut" (aa 0)) (kY θ))) lT di) (aR (aw ι c_Keeper "changed" 3 (uY c_Keeper) (aa 0) (aq (af c_Keeper "town" (aa 0)) (aq (gF (cM (af c_Keeper "shut" (aa 0))) [Z,U 1] (cz 0) (dT (d2 (aa 0) (aa 1) oX)) (aa 0)) ak))))))
theorem Rf(C:ξ):∀ys ar K',↑ys=2->Cd C ys ar K'->Ce C (ag ↑ar K') ⟨ys.map U++Ul 0 Z,ar.map U⟩:=by
 ext ys ar K'-⟨a,b,m,s,ps,n,O,hn,hs,hl,rfl,rfl,k⟩;let uW:=O.len;unfold Ce;calc aX λN hN=>?_;simp![af,ah,aA,toF,aw,ay,aB,ai,aD,FV.v,ag,mL,pT];calc⟨⟨a,0,_,Y,Y,Y⟩,[(0,kO C a b m s)],⟨Y,trivial⟩,?_⟩;simp![af,ah,aA,toF,aw,ay,aB,ai,aD,FV.v,ag,mL,pT];calc⟨a,b,m,s,n,O,hn,Y,Y,?_⟩;simp![af,ah,aA,toF,aw,ay,aB,ai,aD,FV.v,ag,mL,pT];subst hN;calc aX λN hN=>?_;simp![af,ah,aA,toF,aw,ay,aB,ai,aD,FV.v,ag,mL,pT];calc⟨a,0,_,.p (bT s.2),⟨Y,Y,Y⟩,?_⟩;simp![af,ah,aA,toF,aw,ay,aB,ai,aD,FV.v,ag,mL,pT,bT,uN,Vk hs];calc⟨rM s.2,?_⟩;subst hN;simp![af,ah,aA,toF,aw,ay,aB,ai,aD,FV.v,ag,mL,pT]
 calc⟨⟨a,0,_,Y,Y,Y⟩,a,0,_,.p (aQ m s.1),⟨Y,Y,Y⟩,a,0,_,.p (bT s.2),⟨Y,Y,Y⟩,?_⟩;simp![af,ah,aA,toF,aw,ay,aB,ai,aD,FV.v,ag,mL,pT,bT];refine rE (λd=>E (dI d≠n)) (λd=>d) (by rw[pV];symm) trivial ?_ ?_
 .ext d hd acc L ha h1 h2
  let⟨x,hx,rfl⟩:=Vh.mp hd;simp![af,ah,aA,toF,aw,ay,aB,ai,aD,FV.v,ag,mL,pT,qF];erw[dI] at h1 h2
  by_cases c:x=n
  .rw[Vk c];exact h2 (Vd (Y_ c))
  .rw[Vd c];exact⟨ha,h1 (Vk c)⟩
 .rw[xf λx=>E (x≠n)]
  calc⟨[(0,kO C a b m s),(1,pO b m ps)],⟨Y,Y,trivial⟩,?_⟩;simp![af,ah,aA,toF,aw,ay,aB,ai,aD,FV.v,ag,mL,pT];calc⟨a,b,m,s,(s.1,j6 s.2 n),ps,O,⟨O.fU,vd O.sh⟩,hl,Y,Y,λns bU ho dS=>?_⟩;simp![af,ah,aA,toF,aw,ay,aB,ai,aD,FV.v,ag,mL,pT];calc lF (k ns bU ho dS)
def Cf(C:O):GK:=λys ar K=>∃(a b:O)(m:Int)(s s':bK)(ps:-bK),bJ m s/\bJ m s'/\↑ps<900/\ys=[.w a]/\ar=[kO C a b m s,pO b m (ps++[s'])]/\∀ns bU,aP (bQ s) ns->aP (bQ s') bU->K (.p (kD (bW m s ns) (bW m s' bU))) [kO C a b m s',pO b m ps] []
def Cg(c_Keeper:O):WS:=(az (bC (dT (d2 (dN (aq (ah (af c_Keeper "past" (aa 0))) ak) cB) (dC (.int 0)) oEq)) lT di) (az (aU 1 (qw (ah (af c_Keeper "past" (aa 0))))) (aR (aw ι c_Keeper "set_to" 3 (xi c_Keeper) (aa 0) (aq (d2 (aa 1) (dC (.int 0)) bg) (aq (d2 (aa 1) (dC (.int 1)) bg) ak))))))
theorem Rg(C:ξ):∀ys ar K',↑ys=1->Cf C ys ar K'->Cg C (ag ↑ar K') ⟨ys.map U++Ul 1 Z,ar.map U⟩:=by
 ext ys ar K'-⟨a,b,m,s,s',ps,O,O',hl,rfl,rfl,k⟩;let e:(ps++[s']).map (eO m)=ps.map (eO m)++[eO m s']:=Vq;unfold Cg;calc aX λN hN=>?_;simp![af,ah,aA,toF,aw,ay,aB,ai,aD,FV.v,ag,mL,pT];calc⟨a,0,_,.w b,⟨Y,Y,Y⟩,b,1,_,⟨Y,Y,Y⟩,?_⟩;simp![af,ah,aA,toF,aw,ay,aB,ai,aD,FV.v,ag,mL,pT,pO,e];rw[qF,Vd ⋯,U9 (by decide)];subst hN;calc aX λN hN=>?_;simp![af,ah,aA,toF,aw,ay,aB,ai,aD,FV.v,ag,mL,pT];calc⟨a,0,_,.w b,⟨Y,Y,Y⟩,b,1,_,⟨Y,Y,Y⟩,?_⟩;simp![af,ah,aA,toF,aw,ay,aB,ai,aD,FV.v,ag,mL,pT];rw[show ↑ps+1-1=↑(ps.map (eO m)) by rw[pV];symm,YH]
 simp![af,ah,aA,toF,aw,ay,aB,ai,aD,FV.v,ag,mL,pT,List.dropLast_concat];subst hN;simp![af,ah,aA,toF,aw,ay,aB,ai,aD,FV.v,ag,mL,pT,eO,dj,c_];calc⟨⟨a,0,_,Y,Y,Y⟩,[(0,kO C a b m s)],⟨Y,trivial⟩,?_⟩;simp![af,ah,aA,toF,aw,ay,aB,ai,aD,FV.v,ag,mL,pT];calc⟨a,b,m,s,s',O,O',Y,Y,λns bU ho dS=>?_⟩;simp![af,ah,aA,toF,aw,ay,aB,ai,aD,FV.v,ag,mL,pT];calc⟨[kO C a b m s',pO b m ps],[],[],Y,Y,k ns bU ho dS⟩
end LJ
namespace LJT
open PySem L2 LJ
variable[aV]
mutual
noncomputable def gy:D->Bool
 |.lst ds=>E (↑ds<=1000)&&eI ds
 |.tup ds=>E (↑ds<=1000)&&eI ds
 |_=>θ
noncomputable def eI:-D->Bool
 |[]=>θ
 |d::r=>gy d&&eI r
end
theorem g5:∀{ds:-D},eI ds=θ->∀d∈ds,gy d=θ
 |[],_,d,h=>nomatch h
 |a::r,hn,d,h=>by
  erw[eI,Vy] at hn;rcases Um.mp h with rfl|h
  .exact hn.1
  .calc g5 hn.2 d h
inductive a_ (n:Nat) (ys:-DV) (ar:-OV) (K:RV->-OV->Prop):Prop
 |mk (d) (_:dep d<=n) (_:n<=50) (_:gy d=θ) (_:ys=[.p d,.p d]) (_:ar=[]) (_:K (.p (.bl θ)) [])
def aW(xj:GD):WS:=(az (bC (dT (d2 (aa 1) (dC .non) k_)) (aR (d2 (aa 0) (dC .non) k_)) di) (az (bC (oT (dT (d1 (aa 1) (c9 "bool"))) (dT (d1 (aa 0) (c9 "bool")))) (aR (kn (d1 (aa 1) (c9 "bool")) (kn (d1 (aa 0) (c9 "bool")) (d2 (aa 0) (aa 1) oEq)))) di) (az (bC (dT (d1 (aa 1) (c9 "int"))) (aR (kn (d1 (aa 0) (c9 "int")) (d2 (aa 0) (aa 1) oEq))) di) (az (bC (dT (d1 (aa 1) (c9 "str"))) (aR (kn (d1 (aa 0) (c9 "str")) (d2 (aa 0) (aa 1) oEq))) di) (az (bC (oT (dT (d2 (d1 (aa 1) (c9 "tuple")) (d1 (aa 0) (c9 "tuple")) oX)) (dT (d2 (d1 (aa 1) (c9 "list")) (d1 (aa 0) (c9 "list")) oX))) (aR (dC (.bl ι))) di) (az (bC (dT (d2 (dN (aq (aa 0) ak) cB) (dN (aq (aa 1) ak) cB) oX)) (aR (dC (.bl ι))) di) (aR (d2 (dC (.bl ι)) (gF (w4 (aq (aa 0) (aq (aa 1) ak))) [Z,Z] (mS 2 (iK (cz 0) (iK (cz 1) lU))) dH (aF 2 xj (aq (aa 0) (aq (aa 1) ak)))) (kY θ)))))))))
def iz(g:Nat->GD):Nat->GD
 |0=>λ_ _ _=>False
 |n+1=>g n
theorem Rh(g:GD){K':RV->-OV->Prop}(k:K' (.p (.bl θ)) []):aW g (iY 0 K') ⟨[U (.p .non),U (.p .non)],[]⟩:=by
 unfold aW;calc aX λN hN=>?_;simp![cS,nA,nB,nD,nE,nG,aO];calc jY k
theorem Ri(g:GD){K':RV->-OV->Prop}(b:Bool)(k:K' (.p (.bl θ)) []):aW g (iY 0 K') ⟨[U (.p (.bl b)),U (.p (.bl b))],[]⟩:=by
 unfold aW;calc aX λN hN=>?_;simp![cS,lY,lZ,l3,l4,l5,gb];subst hN;calc aX λN hN=>?_;simp![cS,lY,lZ,l3,l4,l5,gb];calc jY k
theorem same_int(g:GD){K':RV->-OV->Prop}(b:Int)(k:K' (.p (.bl θ)) []):aW g (iY 0 K') ⟨[U (.p (.int b)),U (.p (.int b))],[]⟩:=by
 unfold aW;calc aX λN hN=>?_;simp![cS,lg,lh,lj,lq,lr,gb];subst hN;calc aX λN hN=>?_;simp![cS,lg,lh,lj,lq,lr,gb];subst hN;calc aX λN hN=>?_;simp![cS,lg,lh,lj,lq,lr,gb];calc jY k
theorem same_str(g:GD){K':RV->-OV->Prop}(b:J)(k:K' (.p (.bl θ)) []):aW g (iY 0 K') ⟨[U (.p (.str b)),U (.p (.str b))],[]⟩:=by
 unfold aW;calc aX λN hN=>?_;simp![cS,kr,ku,kx,ky,kz,gb];subst hN;calc aX λN hN=>?_;simp![cS,kr,ku,kx,ky,kz,gb];subst hN;calc aX λN hN=>?_;simp![cS,kr,ku,kx,ky,kz,gb];subst hN;calc aX λN hN=>?_;simp![cS,kr,ku,kx,ky,kz,gb];calc jY k
theorem Rj{n:Nat}{K':RV->-OV->Prop}{ds:-D}(hd:dep (.lst ds)<=n)(hn:n<=50)(nd:gy (.lst ds)=θ)(k:K' (.p (.bl θ)) []):aW (iz a_ n) (iY 0 K') ⟨[U (.p (.lst ds)),U (.p (.lst ds))],[]⟩:=by
 unfold aW;calc aX λN hN=>?_;simp![cS,nA,nB,nD,nE,nG,lY,lZ,l3,l4,l5,lg,lh,lj,lq,lr,kr,ku,kx,ky,kz,nH,nJ,nK,nL,nM,nN,nP,nQ,nR,nU];subst hN;calc aX λN hN=>?_;simp![cS,nA,nB,nD,nE,nG,lY,lZ,l3,l4,l5,lg,lh,lj,lq,lr,kr,ku,kx,ky,kz,nH,nJ,nK,nL,nM,nN,nP,nQ,nR,nU];subst hN;calc aX λN hN=>?_;simp![cS,nA,nB,nD,nE,nG,lY,lZ,l3,l4,l5,lg,lh,lj,lq,lr,kr,ku,kx,ky,kz,nH,nJ,nK,nL,nM,nN,nP,nQ,nR,nU];subst hN;calc aX λN hN=>?_;simp![cS,nA,nB,nD,nE,nG,lY,lZ,l3,l4,l5,lg,lh,lj,lq,lr,kr,ku,kx,ky,kz,nH,nJ,nK,nL,nM,nN,nP,nQ,nR,nU];subst hN;calc aX λN hN=>?_;simp![cS,nN,nP,nQ,nR,nU]
 subst hN;erw[gb,Y6,VL,Xo];calc aX λN hN=>?_;simp![gb];subst hN;let⟨m,rfl⟩:∃m,n=m+1:=⟨n-1,by erw[dep] at hd;symm⟩;let Ci:bB ds<=m:=by erw[dep] at hd;symm
 let Cj:eI ds=θ:=by erw[gy,Vy] at nd;exact nd.2
 let u2:↑ds<=1000:=by erw[gy,Vy,WL] at nd;exact nd.1
 let zl:↑(c8 ds ds)<=1000:=by rw[v8];symm
 simp![w4];refine L2.k9 (λd=>.bl θ) zl trivial ?_ ?_
 .ext d pD acc L ha h
  let⟨a,rfl,ma⟩:=AM pD;simp!;calc⟨a,Vo (AL ma) Ci,⋯,g5 Cj a ma,Y,Y,?_⟩;simp!;exact⟨ha,h⟩
 .simp!
  let e1:((c8 ds ds).map λ_=>D.bl θ).any (λe=>aO e (.bl ι))=ι:=by
   rw[WJ];ext x hx;let⟨_,_,rfl⟩:=Vh.mp hx;simp[aO]
  let e2:bB ((c8 ds ds).map λ_=>D.bl θ)<=55:=AN _;calc⟨e2,by rw[e1];calc jY k⟩
theorem lG{n:Nat}{K':RV->-OV->Prop}{ds:-D}(hd:dep (.tup ds)<=n)(hn:n<=50)(nd:gy (.tup ds)=θ)(k:K' (.p (.bl θ)) []):aW (iz a_ n) (iY 0 K') ⟨[U (.p (.tup ds)),U (.p (.tup ds))],[]⟩:=by
 unfold aW;calc aX λN hN=>?_;simp![cS,nA,nB,nD,nE,nG,lY,lZ,l3,l4,l5,lg,lh,lj,lq,lr,kr,ku,kx,ky,kz,nH,nJ,nK,nL,nM,nN,nP,nQ,nR,nU];subst hN;calc aX λN hN=>?_;simp![cS,nA,nB,nD,nE,nG,lY,lZ,l3,l4,l5,lg,lh,lj,lq,lr,kr,ku,kx,ky,kz,nH,nJ,nK,nL,nM,nN,nP,nQ,nR,nU];subst hN;calc aX λN hN=>?_;simp![cS,nA,nB,nD,nE,nG,lY,lZ,l3,l4,l5,lg,lh,lj,lq,lr,kr,ku,kx,ky,kz,nH,nJ,nK,nL,nM,nN,nP,nQ,nR,nU];subst hN;calc aX λN hN=>?_;simp![cS,nA,nB,nD,nE,nG,lY,lZ,l3,l4,l5,lg,lh,lj,lq,lr,kr,ku,kx,ky,kz,nH,nJ,nK,nL,nM,nN,nP,nQ,nR,nU];subst hN;calc aX λN hN=>?_;simp![cS,nH,nJ,nK,nL,nM]
 subst hN;erw[gb,Y6,VL,Xo];calc aX λN hN=>?_;simp![gb];subst hN;let⟨m,rfl⟩:∃m,n=m+1:=⟨n-1,by erw[dep] at hd;symm⟩;let Ci:bB ds<=m:=by erw[dep] at hd;symm
 let Cj:eI ds=θ:=by erw[gy,Vy] at nd;exact nd.2
 let u2:↑ds<=1000:=by erw[gy,Vy,WL] at nd;exact nd.1
 let zl:↑(c8 ds ds)<=1000:=by rw[v8];symm
 simp![w4];refine L2.k9 (λd=>.bl θ) zl trivial ?_ ?_
 .ext d pD acc L ha h
  let⟨a,rfl,ma⟩:=AM pD;simp!;calc⟨a,Vo (AL ma) Ci,⋯,g5 Cj a ma,Y,Y,?_⟩;simp!;exact⟨ha,h⟩
 .simp!
  let e1:((c8 ds ds).map λ_=>D.bl θ).any (λe=>aO e (.bl ι))=ι:=by
   rw[WJ];ext x hx;let⟨_,_,rfl⟩:=Vh.mp hx;simp[aO]
  let e2:bB ((c8 ds ds).map λ_=>D.bl θ)<=55:=AN _;calc⟨e2,by rw[e1];calc jY k⟩
theorem fV(n:Nat):Sem 2 0 (a_ n) (aW (iz a_ n)):=by
 ext ys ar K'-⟨d,hd,hn,nd,rfl,rfl,k⟩
 .cases d with
  |tup ds=>exact lG hd hn nd k
  |non=>exact Rh _ k
  |bl b=>exact Ri _ b k
  |int b=>exact same_int _ b k
  |str b=>exact same_str _ b k
  |lst ds=>calc Rj hd hn nd k
end LJT
namespace LJ
open PySem L2
end LJ
namespace LJ
open PySem L2 PySem.Spec PySem.W PyProof.Rows
structure Ev where
 P:l
 w:g
 K:Ee
 mg:J->Option L
 base:I
section
variable[aV]
structure Fx(V:Ev)(k:Nat)(x:J)(ps:-J)(n:Nat)(G:GD):Prop where
 ex:∃f fd,Fn V.P V.w V.K V.mg V.base k x ps (mW G n) f fd
def Dx(V:Ev)(x:J)(st:R):Prop:=∃f fd,V.mg x=U (.ref f)/\f_ V.K x x st f fd
def xk(V:Ev)(x:J)(st:R)(T:O)(pos:y)(q:J):Prop:=∃f fd,(V.mg x=U (.ref f)/\f_ V.K x x st f fd)/\gZ V.mg V.base fd T pos q
def Ct(V:Ev)(x:J)(i:Int):Prop:=∃u,V.mg x=U u/\RelV (.int i) u
section
variable{X:Cx}{x:J}{ps:-J}{G:GD}{e:M}{es:-M}{fa:WA}{p pos:y}{j k n:Nat}
theorem cy(F:Fx ⟨X.prog,X.w,X.K,X.mg,X.base⟩ j x ps n G)(hr:bc k X.A)(ha:JA X (e::es) (cf fa))(hj:q0T j k=θ:=by rfl)(hg:Gl X x:=by rfl)(dX:b8 x:=by decide)(he:cF X e es:=by rfl)(dg:cR X pos es:=by rfl):
  JE X (.Call (.Name x p) (e::es) [] pos) (tD (aF n G fa)):=let⟨_,_,F⟩:=F.ex;Nv F.ok (hr.mono (Wv hj)) hg F.vO F.kp F.bd ha dX he dg
theorem Rk(F:Fx ⟨X.prog,X.w,X.K,X.mg,X.base⟩ j x ps n G)(hr:bc k X.A)(ha:JA X (e::es) (cf fa))(hj:q0T j k=θ:=by rfl)(hg:Gl X x:=by rfl)(dX:b8 x:=by decide)(he:cF X e es:=by rfl)(dg:cR X pos es:=by rfl):
  JE X (.Call (.Name x p) (e::es) [] pos) (tD (t7 n G fa)):=let⟨_,_,F⟩:=F.ex;Nx F.ok (hr.mono (Wv hj)) hg F.vO F.kp F.bd ha dX he dg
theorem G2{i:Int}(C:Ct ⟨X.prog,X.w,X.K,X.mg,X.base⟩ x i)(hg:Gl X x:=by rfl)(hd:b8 x:=by decide):JE X (.Name x pos) (tD (dC (.int i))):=let⟨_,a,b⟩:=C;Nc hg a b hd
end
theorem _root_.L2.gZ.env{mg:J->Option ν}{base:I}{fd:FuncData}{T:O}{lp:y}{q:J}{bq:ν}(L:gZ mg base fd T lp q)(h:fd.code=bq):∃cc,bq=.ref cc/\CodeHd base cc T:=let⟨cc,e1,e2⟩:=L.code;⟨cc,h.symm.trans e1,e2⟩
noncomputable def Rl:NameKind->Bool
 |.local=>θ
 |.cell=>θ
 |_=>ι
noncomputable def Rm:NameKind->Bool
 |.free=>ι
 |_=>θ
noncomputable def Rn:ScopeKind->Bool
 |.function=>θ
 |_=>ι
noncomputable def qI(N P:-J)(sc:o):Bool:=Rn sc.kind && !sc.isCoroutine && !sc.isGenerator&&E N.Nodup&&E (N.take ↑P=P)&&(P.all λx=>match sc.names.lookup x with
 |some k=>Rl k
 |none=>ι)&&sc.names.all λy=>Rm y.2
theorem fD{N P:-J}{sc:o}(h:qI N P sc=θ):mF N P sc:=by
 unfold qI at h;erw[Vy,Yk,WL,Wk] at h;let⟨⟨⟨⟨⟨⟨h1,h2⟩,h3⟩,h4⟩,h5⟩,h6⟩,h7⟩:=h;refine⟨?_,h2,h3,h4,h5,λx hx=>?_,λy hy z=>?_⟩
 .cases q:sc.kind<;>rw[q] at h1<;>first|rfl|cases h1
 .let:=h6 x hx
  split at this
  .rename_i k e
   rw[e];cases k<;>first|exact .inl Y|exact .inr Y|cases this
  .cases this
 .let:=h7 y hy
  rw[z] at this;cases this
def ja(x:J)(st:R)(ps:-J):Prop:=∀(kV doc pm:L)(an:Option O)(bq ct:L)(us:-L),↑us=↑ps->bindArgs (VE x x (iV st) (fN st) (cH st) .none kV doc pm an bq ct) ⟨us,[]⟩=pure (ps.zip us)
section
theorem Cm{us:-L}(h:↑us=1):∃a,us=[a]:=List.length_eq_one_iff.mp h
theorem Co{us:-L}(h:↑us=2):∃a b,us=[a,b]:=by
 cases us with
 |nil=>cases h
 |cons a r=>let⟨b,rfl⟩:=Cm (q2B h);calc⟨a,b,Y⟩
theorem G3{us:-L}(h:↑us=3):∃a b c,us=[a,b,c]:=by
 cases us with
 |nil=>cases h
 |cons a r=>let⟨b,c,rfl⟩:=Co (q2B h);calc⟨a,b,c,Y⟩
theorem pb{x:J}{st:R}{ps:-J}(h:∀(kV doc pm:L) (an:Option O) (bq ct a:L),bindArgs (VE x x (iV st) (fN st) (cH st) .none kV doc pm an bq ct) ⟨[a],[]⟩=pure (ps.zip [a]):=by intros;rfl)(hl:↑ps=1:=by rfl):ja x st ps:=λkV doc pm an bq ct us hu=>by
 let⟨a,rfl⟩:=Cm (hu.trans hl);calc h kV doc pm an bq ct a
theorem iA{x:J}{st:R}{ps:-J}(h:∀(kV doc pm:L) (an:Option O) (bq ct a b:L),bindArgs (VE x x (iV st) (fN st) (cH st) .none kV doc pm an bq ct) ⟨[a,b],[]⟩=pure (ps.zip [a,b]):=by intros;rfl)(hl:↑ps=2:=by rfl):ja x st ps:=λkV doc pm an bq ct us hu=>by
 let⟨a,b,rfl⟩:=Co (hu.trans hl);calc h kV doc pm an bq ct a b
theorem pd{x:J}{st:R}{ps:-J}(h:∀(kV doc pm:L) (an:Option O) (bq ct a b c:L),bindArgs (VE x x (iV st) (fN st) (cH st) .none kV doc pm an bq ct) ⟨[a,b,c],[]⟩=pure (ps.zip [a,b,c]):=by intros;rfl)(hl:↑ps=3:=by rfl):ja x st ps:=λkV doc pm an bq ct us hu=>by
 let⟨a,b,c,rfl⟩:=G3 (hu.trans hl);calc h kV doc pm an bq ct a b c
variable{V:Ev}{x:J}{st:R}{N ps:-J}{k:Nat}{G:GD}
theorem eZ(D:Dx V x st)(bd:ja x st ps)(h:∀{bq:L} {A:q} {outer:-t} {s:ο} {H:Hp} {E:XK} {f:O},bc k (A.deeper (envOfC x (cH st) ⇑s f bq))->N.Nodup->(A.deeper (envOfC x (cH st) ⇑s f bq)).units+64<cLine →
   ∃B:WS,dU (eT eM V.P V.w V.K V.mg V.base N x (cH st) f bq A outer s H E).kc (fN st) (dG B)/\∀ys ar K',↑ys=↑ps->G ys ar K'->B (iY ↑ar K') ⟨ys.map U++Ul (↑N-↑ps) Z,ar.map U⟩)(sc:qI N ps (cH st)=θ:=by decide +kernel):Fx V (k+1) x ps ↑ps G :=
 let⟨f,fd,a,F⟩:=D
 ⟨f,fd,F.Np (fD sc) λbq A outer s H E hr=>h hr (fD sc).nd hr.units,a,F.kp,F.binds bd⟩
theorem Ro{T:O}{lp:y}{q:J}(D:xk V x st T lp q)(bd:ja x st ps)(h:∀{bq:L} {A:Β} {outer:-t} {s:ο} {H:Hp} {E:XK} {f:O} {fd:FuncData},gZ V.mg V.base fd T lp q->fd.code=bq->bc k (A.deeper (envOfC x (cH st) ⇑s f bq))->N.Nodup->(A.deeper (envOfC x (cH st) ⇑s f bq)).units+64<cLine →
   ∃B:WS,dU (eT eM V.P V.w V.K V.mg V.base N x (cH st) f bq A outer s H E).kc (fN st) (dG B)/\∀ys ar K',↑ys=↑ps->G ys ar K'->B (iY ↑ar K') ⟨ys.map U++Ul (↑N-↑ps) Z,ar.map U⟩)(sc:qI N ps (cH st)=θ:=by decide +kernel):Fx V (k+1) x ps ↑ps G :=
 let⟨f,fd,⟨a,F⟩,LD⟩:=D
 ⟨f,fd,F.Bk (fD sc) λbq A outer s H E hc hr=>h LD hc hr (fD sc).nd hr.units,a,F.kp,F.binds bd⟩
end
end
section
variable{K:Ee}{h:I}{mg:J->Option L}
def Dk(K:Ee)(x:J)(st:R):Prop:=∃f fd,WC K mainGlobals x=U (U (.ref f))/\f_ K x x st f fd
inductive g6 (K:Ee):-(J×R)->Prop
 |nil:g6 K []
 |cons {x st r}:Dk K x st->g6 K r->g6 K ((x,st)::r)
theorem Cp{x:J}{st:R}{r:-(J×R)}{f:O}{od an:Option O}{sl:Array (Option L)}{oc kV dc pm cd ct:L}(a:WC K mainGlobals x=U (U (.ref f)))(l:K.lookup f=U ⟨oc,od,.func (VE x x (iV st) (fN st) (cH st) .none kV dc pm an cd ct),sl⟩)(q:XM K cd x=θ)(k:V6 K (.ref f)=θ)(h:g6 K r):g6 K ((x,st)::r) :=
 .cons ⟨f,_,a,vD l q k⟩ h
theorem g6.at{ds:-(J×R)}(h:g6 K ds)(i:Nat){x:J}{st:R}(e:ds[i]?=U (x,st)):Dk K x st:=by
 induction h generalizing i with
 |nil=>cases e
 |cons d _ ih=>cases i with
  |zero=>cases e;exact d
  |succ i=>calc ih i e
def xm(K:Ee)(x:J)(st:R)(T:O):Prop:=∃f fd,(WC K mainGlobals x=U (U (.ref f))/\f_ K x x st f fd)/\∃cc,fd.code=.ref cc/\q0_ K cc T=θ
inductive e_ (K:Ee):-(J×R×O)->Prop
 |nil:e_ K []
 |cons {x st T r}:xm K x st T->e_ K r->e_ K ((x,st,T)::r)
theorem u3{x:J}{st:R}{T:O}{r:-(J×R×O)}{f cc:O}{od an:Option O}{sl:Array (Option L)}{oc kV dc pm ct:L}(a:WC K mainGlobals x=U (U (.ref f)))(l:K.lookup f=U ⟨oc,od,.func (VE x x (iV st) (fN st) (cH st) .none kV dc pm an (.ref cc) ct),sl⟩)(q:XM K (.ref cc) x=θ)(k:V6 K (.ref f)=θ)(c:q0_ K cc T=θ)(h:e_ K r):e_ K ((x,st,T)::r) :=
 .cons ⟨f,_,⟨a,vD l q k⟩,cc,Y,c⟩ h
theorem e_.at{ds:-(J×R×O)}(h:e_ K ds)(i:Nat){x:J}{st:R}{T:O}(e:ds[i]?=U (x,st,T)):xm K x st T:=by
 induction h generalizing i with
 |nil=>cases e
 |cons d _ ih=>cases i with
  |zero=>cases e;exact d
  |succ i=>calc ih i e
theorem e_.code{ds:-(J×R×O)}(h:e_ K ds){hp:I}(X:K.In hp):∀T∈ds.map (·.2.2),∃cc,q1J hp cc T:=by
 induction h with
 |nil=>ext T hT;exact nomatch hT
 |cons d _ ih =>
  ext T hT;rcases Um.mp hT with rfl|hT
  .let⟨_,_,_,cc,_,e⟩:=d
   exact⟨cc,ZZ X e⟩
  .calc ih T hT
theorem Rp{x:J}{r:-J}(a:WC K mainGlobals x=U Z)(h:∀y∈r,WC K mainGlobals y=U Z):∀y∈x::r,WC K mainGlobals y=U Z:=λy hy=>by
 rcases Um.mp hy with rfl|hy
 .exact a
 .calc h y hy
theorem Rq{ls:-jZ}(nd:(ls.map (·.T)).Nodup):∀{a b:jZ},a∈ls->b∈ls->a.T=b.T->a=b:=by
 induction ls with
 |nil=>ext a b ha;exact nomatch ha
 |cons c r ih =>
  ext a b ha hb e;rw[Ve,XA] at nd;rcases Um.mp ha with rfl|ha'<;>rcases Um.mp hb with rfl|hb'
  .rfl
  .exact absurd (Vh.mpr ⟨b,hb',e.symm⟩) nd.1
  .exact absurd (Vh.mpr ⟨a,ha',e⟩) nd.1
  .calc ih nd.2 ha' hb' e
theorem Dk.v{P:l}{w:g}{base:I}{x:J}{st:R}(d:Dk K x st)(X:K.In h)(G:h.Ns mainGlobals mg):Dx ⟨P,w,K,mg,base⟩ x st :=
 let⟨f,fd,a,F⟩:=d
 ⟨f,fd,Yv X G a,F⟩
theorem xm.v{P:l}{w:g}{base:I}{x:J}{st:R}{ls:-jZ}{C:CC}{T:O}{lp:y}{q:J}(d:xm K x st T)(X:K.In h)(G:h.Ns mainGlobals mg)(KB:K.In base)(hB:∀t∈ls,base.BuiltinsAt mg t.T)(nd:(ls.map (·.T)).Nodup)(ng:∀t∈ls,mainGlobals≠t.T)(hl:⟨T,lp,q⟩∈ls):@xk (iw ls C) ⟨P,w,K,mg,base⟩ x st T lp q :=
 let⟨f,fd,⟨a,F⟩,cc,e1,e2⟩:=d
 letI:aV:=iw ls C
 ⟨f,fd,⟨Yv X G a,F⟩,⟨cc,e1,ZZ KB e2⟩,ng _ hl,hB _ hl,PG hl λa ha b hb e=>Rq nd ha hb e⟩
def Ck(K:Ee)(x:J)(i:Int):Prop:=∃u,WC K mainGlobals x=U (U u)/\RelV (.int i) u
theorem Ck.v{P:l}{w:g}{base:I}{x:J}{i:Int}(d:Ck K x i)(X:K.In h)(G:h.Ns mainGlobals mg):Ct ⟨P,w,K,mg,base⟩ x i :=
 let⟨u,a,r⟩:=d
 ⟨u,Yv X G a,r⟩
noncomputable def Cq:-J:=["len", "range", "list", "tuple", "set", "sorted", "min", "max", "sum", "all", "any", "enumerate", "zip", "isinstance", "int", "bool", "str", "repr"]
theorem Rr(X:K.In h)(G:h.Ns mainGlobals mg)(N:∀x∈Cq,WC K mainGlobals x=U Z):BT mg :=
 have n:∀i x,Cq[i]?=U x->mg x=Z:=λi x e=>PySem.W.mg_none_of X G (N x (Vw e))
 ⟨n 0 _ Y,n 1 _ Y,n 2 _ Y,n 3 _ Y,n 4 _ Y,n 5 _ Y,n 6 _ Y,n 7 _ Y,n 8 _ Y,n 9 _ Y,n 10 _ Y,n 11 _ Y,n 12 _ Y,n 13 _ Y,n 14 _ Y,n 15 _ Y,n 16 _ Y,n 17 _ Y⟩
end
end LJ
namespace L2
open PySem PySem.Spec PyProof.Rows
variable[aV]
section
variable{F F' H H':Hp}{ad aE:-O}{δ δ':aG}{σ σ':St}
end
section
variable{X:Cx}{a b e:M}{es:-M}{f:WE}{fa:WA}{t:WT}{pos:y}
end
end L2
namespace LJ
open PySem L2 PySem.Spec PySem.W PyProof.Rows
section
variable[aV]{X:Cx}{k j n:Nat}{x:J}{ps:-J}{p pos:y}{e:M}{es:-M}{fa:WA}{G:GD}
end
end LJ
namespace L2
open PySem PySem.Spec PyProof.Rows
variable[aV]{X:Cx}
end L2
namespace LJ
open PySem L2
variable[aV]
inductive Cr (ys:-DV) (ar:-OV) (K:RV->-OV->Prop):Prop
 |mk (m:Int) (s:bK) (n p:Int) (_:bJ m s) (_:(0<=n/\n<(↑s.1:Int))) (_:ys=[.p (eO m s),.p (.int n),.p (.int p)]) (_:ar=[]) (_:K (.p (eO m (dR s.1 n p,s.2))) [])
def Cu:WS:=(az (jQ (d2 (aa 0) (dC (.int 0)) bg) (mS 2 (iK (cz 3) (iK (cz 4) lU)))) (aR (bN (aq (bN (aq (aa 3) (aq (d2 (d2 (gx (aa 4) gU (kZ (aa 1))) (bN (aq (d2 (gx (d2 (aa 4) (aa 1) bg) gU (kZ (dC (.int 2)))) (bN (aq (aa 2) ak)) cQ) ak)) cQ) (gx (aa 4) (kZ (d2 (aa 1) (dC (.int 1)) cQ)) gU) cQ) ak))) (aq (d2 (aa 0) (dC (.int 1)) bg) ak)))))
theorem Rt:Sem 3 2 Cr Cu:=by
 ext ys ar K'-⟨m,⟨ws,sh⟩,n,p,O,hn,rfl,rfl,k⟩;let W:=O.fU;let i7:=W.fq;dsimp only at W i7 hn k;let⟨y,ey,hy,ea,_⟩:=nV W hn.1 hn.2;let⟨t,rfl⟩:=Xt hn.1;let ht:t<↑ws:=by symm
 let f1:=GN (ds:=ws.map aY) (t:=t) (by rw[pV];symm);let f2:cutD (ws.map aY) (U ((t:Int)+1)) Z=(ws.map aY).drop (t+1):=GL (ds:=ws.map aY) (t:=t+1) (by rw[pV];symm);let l1:↑((ws.map aY).take t)=t:=by rw[Vn,pV];symm
 let l2:↑((ws.map aY).drop (t+1))=↑ws-(t+1):=by rw[Ww,pV]
 let Ru:uZ ws (t:Int)=y:=ey
 let e3:(ws.map aY).take t++[D.tup [.int y.1,.int y.2.1,.int p]]++(ws.map aY).drop (t+1)=(dR ws t p).map aY:=by
  unfold dR;rw[Ru,Vt,Ya,U_ ht,Vq,Ve,Z9,Z_,Xe];rfl
 unfold eO aQ at k;rw[<-e3] at k;unfold Cu eO aQ;generalize hA:(ws.map aY).take t=A at f1 l1 k;generalize hB:(ws.map aY).drop (t+1)=B at f2 l2 k;generalize hV:ws.map aY=V at ea f1 f2 ⊢;calc aX λN hN=>?_;simp![dj];subst hN;unfold aR bN;calc i0 λK2 uU=>?_;simp![ea,f1,f2,aY,BI];calc⟨⋯,⋯,?_⟩;subst uU;simp![c_];calc eY k
inductive Turn (m:Int):-bK->bK->-bK->bK->D->Prop
 |back (ps:-bK) (s s':bK):Turn m (ps++[s']) s ps s' (.tup [.str "back"])
 |price (ps:-bK) (s:bK) (n p:Int) (hn:0<=n/\n<(↑s.1:Int)) (hp:0<=p/\p<=1000000000):Turn m ps s (ps++[s]) (dR s.1 n p,s.2) (.tup [.str "price",.int n,.int p])
 |free (ps:-bK) (s:bK) (n:Int) (hn:0<=n/\n<(↑s.1:Int)) (h:n∈s.2):Turn m ps s (ps++[s]) (s.1,j6 s.2 n) (.tup [.str "free",.int n])
 |close (ps:-bK) (s:bK) (n:Int) (hn:0<=n/\n<(↑s.1:Int)) (h:n∉s.2):Turn m ps s (ps++[s]) (s.1,sortI (s.2++[n])) (.tup [.str "close",.int n])
theorem Turn.ok{m:Int}{ps cW:-bK}{s s':bK}{d:D}(h:Turn m ps s cW s' d)(O:bJ m s)(Os:∀t∈ps,bJ m t):bJ m s'/\(∀t∈cW,bJ m t)/\↑cW<=↑ps+1:=by
 cases h with
 |back=>exact⟨Os _ (by simp),λt ht=>Os t (Wl _ ht),by simp;symm⟩
 |price _ _ n p hn hp=>exact⟨⟨GZ O.fU hn hp,G0 O.sh⟩,λt ht=>(Vs.mp ht).elim (Os t) λe=>by rw[Vu.mp e];calc O,by simp⟩
 |free _ _ n hn h=>exact⟨⟨O.fU,vd O.sh⟩,λt ht=>(Vs.mp ht).elim (Os t) λe=>by rw[Vu.mp e];calc O,by simp⟩
 |close _ _ n hn h=>calc⟨⟨O.fU,G1 O.sh hn h⟩,λt ht=>(Vs.mp ht).elim (Os t) λe=>by rw[Vu.mp e];calc O,by simp⟩
def xn(C:O):GK:=λys ar K=>∃(a b:O)(m:Int)(s s':bK)(ps cW:-bK)(ch:D),Turn m ps s cW s' ch/\bJ m s/\(∀t∈ps,bJ m t)/\↑ps<900/\ys=[.w a,.p ch]/\ar=[kO C a b m s,pO b m ps]/\∀ns bU,aP (bQ s) ns->aP (bQ s') bU->K (.p (kD (bW m s ns) (bW m s' bU))) [kO C a b m s',pO b m cW] []
def Cv(c_Keeper:O):WS:=(az (bC (dT (d2 (d2 (aa 1) (dC (.int 0)) bg) (dC (.str "price")) oEq)) (aR (aw ι c_Keeper "price" 3 (B_ c_Keeper) (aa 0) (aq (d2 (aa 1) (dC (.int 1)) bg) (aq (d2 (aa 1) (dC (.int 2)) bg) ak)))) di) (az (bC (dT (d2 (d2 (aa 1) (dC (.int 0)) bg) (dC (.str "back")) oEq)) (aR (aw ι c_Keeper "back" 1 (Cf c_Keeper) (aa 0) ak)) di) (aR (rh (dT (d2 (d2 (aa 1) (dC (.int 0)) bg) (dC (.str "close")) oEq)) (aw ι c_Keeper "close" 2 (Cb c_Keeper) (aa 0) (aq (d2 (aa 1) (dC (.int 1)) bg) ak)) (aw ι c_Keeper "free" 2 (Cd c_Keeper) (aa 0) (aq (d2 (aa 1) (dC (.int 1)) bg) ak))))))
theorem Rv(C:ξ):∀ys ar K',↑ys=2->xn C ys ar K'->Cv C (ag ↑ar K') ⟨ys.map U++Ul 0 Z,ar.map U⟩:=by
 ext ys ar K'-⟨a,b,m,s,s',ps,cW,ch,T,O,Os,hl,rfl,rfl,k⟩;let e1:aO (.str "price") (.str "price")=θ:=gb _;let e2:aO (.str "back") (.str "price")=ι:=Y;let e3:aO (.str "back") (.str "back")=θ:=gb _;let e4:aO (.str "free") (.str "price")=ι:=Y;let e5:aO (.str "free") (.str "back")=ι:=Y;let e6:aO (.str "free") (.str "close")=ι:=Y;let e7:aO (.str "close") (.str "price")=ι:=Y;let e8:aO (.str "close") (.str "back")=ι:=Y;let e9:aO (.str "close") (.str "close")=θ:=gb _;unfold Cv;refine aX λN hN=>?_
 cases T with
 |price _ _ n p hn hp =>
  simp![af,ah,aA,toF,aw,ay,aB,ai,aD,FV.v,ag,mL,pT,dj,e1,c_,at2];calc⟨⟨a,0,_,Y,Y,Y⟩,[(0,kO C a b m s),(1,pO b m ps)],⟨Y,Y,trivial⟩,?_⟩;simp![af,ah,aA,toF,aw,ay,aB,ai,aD,FV.v,ag,mL,pT];calc⟨a,b,m,s,ps,n,p,O,hn,hp,hl,Y,Y,λns bU ho dS=>?_⟩;simp![af,ah,aA,toF,aw,ay,aB,ai,aD,FV.v,ag,mL,pT];exact lF (k ns bU ho dS)
 |back =>
  simp![af,ah,aA,toF,aw,ay,aB,ai,aD,FV.v,ag,mL,pT,dj,e2];subst hN;calc aX λN hN=>?_;simp![af,ah,aA,toF,aw,ay,aB,ai,aD,FV.v,ag,mL,pT,dj,e3];calc⟨⟨a,0,_,Y,Y,Y⟩,[(0,kO C a b m s),(1,pO b m (cW++[s']))],⟨Y,Y,trivial⟩,?_⟩;simp![af,ah,aA,toF,aw,ay,aB,ai,aD,FV.v,ag,mL,pT];calc⟨a,b,m,s,s',cW,O,Os _ (by simp),by simp at hl;symm,Y,Y,λns bU ho dS=>?_⟩;simp![af,ah,aA,toF,aw,ay,aB,ai,aD,FV.v,ag,mL,pT];exact lF (k ns bU ho dS)
 |free _ _ n hn h =>
  simp![af,ah,aA,toF,aw,ay,aB,ai,aD,FV.v,ag,mL,pT,dj,e4];subst hN;calc aX λN hN=>?_;simp![af,ah,aA,toF,aw,ay,aB,ai,aD,FV.v,ag,mL,pT,dj,e5];subst hN;simp![af,ah,aA,toF,aw,ay,aB,ai,aD,FV.v,ag,mL,pT,dj,e6,c_];calc⟨⟨a,0,_,Y,Y,Y⟩,[(0,kO C a b m s),(1,pO b m ps)],⟨Y,Y,trivial⟩,?_⟩;simp![af,ah,aA,toF,aw,ay,aB,ai,aD,FV.v,ag,mL,pT];calc⟨a,b,m,s,ps,n,O,hn,h,hl,Y,Y,λns bU ho dS=>?_⟩;simp![af,ah,aA,toF,aw,ay,aB,ai,aD,FV.v,ag,mL,pT];exact lF (k ns bU ho dS)
 |close _ _ n hn h =>
  simp![af,ah,aA,toF,aw,ay,aB,ai,aD,FV.v,ag,mL,pT,dj,e7];subst hN;calc aX λN hN=>?_;simp![af,ah,aA,toF,aw,ay,aB,ai,aD,FV.v,ag,mL,pT,dj,e8];subst hN;simp![af,ah,aA,toF,aw,ay,aB,ai,aD,FV.v,ag,mL,pT,dj,e9,c_];calc⟨⟨a,0,_,Y,Y,Y⟩,[(0,kO C a b m s),(1,pO b m ps)],⟨Y,Y,trivial⟩,?_⟩;simp![af,ah,aA,toF,aw,ay,aB,ai,aD,FV.v,ag,mL,pT];calc⟨a,b,m,s,ps,n,O,hn,h,hl,Y,Y,λns bU ho dS=>?_⟩;simp![af,ah,aA,toF,aw,ay,aB,ai,aD,FV.v,ag,mL,pT];calc lF (k ns bU ho dS)
theorem Cw{l:-D}{x:D}:dY (l++[x]) (-1)=U x:=by
 unfold dY eK;rw[U9 (by decide),U_ (by rw[Eh];simp;symm)];let:((-1:Int)+(↑(l++[x]):Nat)).toNat=↑l:=by rw[Eh];simp;symm
 rw[this];calc YH
theorem Rw{l:-D}{x:D}:cutD (l++[x]) Z (U (-1))=l:=by
 show((l++[x]).drop 0).take ((if(-1:Int)<0 then((-1:Int)+(↑(l++[x]):Nat)).toNat else min (-1:Int).toNat ↑(l++[x]))-0)=l;rw[U_ (by decide)];let:((-1:Int)+(↑(l++[x]):Nat)).toNat=↑l:=by rw[Eh];simp;symm
 rw[this,YV,q0O,List.take_left]
theorem Cy:et 10 9:=by unfold et;decide
theorem Rx{a b c d e f k:Int}(h:0<=k/\k<6):∃p,dY [D.int a,D.int b,D.int c,D.int d,D.int e,D.int f] k=U (.int p)/\(p=a\/p=b\/p=c\/p=d\/p=e\/p=f):=by
 let⟨t,rfl⟩:=Xt h.1;let ht:t<6:=by symm
 match t,ht with
 |0,_=>exact⟨a,ji Y,by simp⟩
 |1,_=>exact⟨b,ji Y,by simp⟩
 |2,_=>exact⟨c,ji Y,by simp⟩
 |3,_=>exact⟨d,ji Y,by simp⟩
 |4,_=>exact⟨e,ji Y,by simp⟩
 |5,_=>calc⟨f,ji Y,by simp⟩
inductive G4 (ys:-DV) (ar:-OV) (K:RV->-OV->Prop):Prop
 |mk (n m:Int) (o:OV) (s:bK) (ps:-bK) (_:bJ m s) (_:(∀t∈ps,bJ m t)) (_:s.1≠[]) (_:↑ps<900) (_:ys=[.o 0,.p (.lst ((ps++[s]).map (eO m)))]) (_:ar=[o]) (_:bF n o) (_:n+20<2 ^ 30) (_:∀cW s' ch o',Turn m ps s cW s' ch->bF (n+10) o'->K (.p (.tup [.lst ((cW++[s']).map (eO m)),ch])) [o'])
def u4:WS:=(az (aU 2 (aF 2 fJ (aq (aa 0) (aq (dC (.int 8)) ak)))) (az (aU 3 (aF 2 fJ (aq (aa 0) (aq (dC (.int 6)) ak)))) (az (jQ (d2 (aa 1) (d1 (dC (.int 1)) iZ) bg) (mS 2 (iK (cz 4) (iK (cz 5) lU)))) (az (bC (oT (jO (dT (d2 (aa 2) (dC (.int 0)) oEq)) (dT (d2 (dN (aq (aa 1) ak) cB) (dC (.int 1)) (oI λi j=>.bl (E (j<i)))))) (dT (d2 (d2 (aa 4) (dC (.int 1)) bg) (bN ak) oEq))) (aR (rh (dT (d2 (dN (aq (aa 1) ak) cB) (dC (.int 1)) (oI λi j=>.bl (E (j<i))))) (bN (aq (gx (aa 1) gU (kZ (d1 (dC (.int 1)) iZ))) (aq (bN (aq (dC (.str "back")) ak)) ak))) (bN (aq (aa 1) (aq (dC .non) ak))))) di) (az (aU 6 (aF 2 fJ (aq (aa 0) (aq (dN (aq (d2 (aa 4) (dC (.int 1)) bg) ak) cB) ak)))) (az (aU 7 (d2 (d2 (d2 (aa 4) (dC (.int 1)) bg) (aF 2 fJ (aq (aa 0) (aq (dN (aq (d2 (aa 4) (dC (.int 1)) bg) ak) cB) ak))) bg) (dC (.int 2)) bg)) (az (aU 8 (d2 (c5 (aq (aF 2 fJ (aq (aa 0) (aq (dC (.int 3)) ak))) (aq (dC (.int 7)) (aq (aF 2 fJ (aq (aa 0) (aq (d2 (d2 (dC (.int 10)) (dC (.int 9)) (dO et λi j=>.int (i ^ j.toNat))) (dC (.int 1)) cQ) ak))) (aq (d2 (dC (.int 10)) (dC (.int 9)) (dO et λi j=>.int (i ^ j.toNat))) (aq (aa 7) (aq (dN (aq (d2 (dC (.int 10)) (dC (.int 9)) (dO et λi j=>.int (i ^ j.toNat))) (aq (d2 (aa 7) (dC (.int 1)) cQ) ak)) rB) ak))))))) (aa 3) bg)) (az (bC (dT (d2 (aa 2) (dC (.int 4)) oLt)) (aR (bN (aq (d2 (aa 1) (c5 (aq (aF 3 Cr (aq (d2 (aa 1) (d1 (dC (.int 1)) iZ) bg) (aq (aa 6) (aq (aa 8) ak)))) ak)) cQ) (aq (bN (aq (dC (.str "price")) (aq (aa 6) (aq (aa 8) ak)))) ak)))) di) (az (bC (dT (d2 (aa 6) (aa 5) (kY ι))) (aR (bN (aq (d2 (aa 1) (c5 (aq (bN (aq (aa 4) (aq (gF (cM (aa 5)) [Z,U 6] (cz 0) (dT (d2 (aa 0) (aa 1) oX)) (aa 0)) ak))) ak)) cQ) (aq (bN (aq (dC (.str "free")) (aq (aa 6) ak))) ak)))) di) (aR (bN (aq (d2 (aa 1) (c5 (aq (bN (aq (aa 4) (aq (dN (aq (d2 (aa 5) (c5 (aq (aa 6) ak)) cQ) ak) rz) ak))) ak)) cQ) (aq (bN (aq (dC (.str "close")) (aq (aa 6) ak))) ak)))))))))))))
theorem Ry:Sem 2 7 G4 u4:=by
 ext ys ar K'-⟨n,m,o,s,ps,O,Os,ne,hl,rfl,rfl,P,hn,k⟩;let i7:=O.fU.fq;let s1:1<=↑s.1:=List.length_pos_iff.mpr ne;let em:(ps++[s]).map (eO m)=ps.map (eO m)++[eO m s]:=Vq;unfold u4;calc aX λN hN=>?_;simp!;calc⟨n,8,o,Y,Y,P,⋯,⋯,by decide,λkd o1 k0 k1 P1=>?_⟩;simp!;subst hN;calc aX λN hN=>?_;simp!;calc⟨n+1,6,o1,Y,Y,P1,⋯,⋯,by decide,λpk o2 p0 p1 P2=>?_⟩;simp!;subst hN;calc aX λN hN=>?_;simp![em,Cw,eO];subst hN;refine aX λN hN=>fS λAy Bn hA hB=>?_
 let Rz:aO (.tup (s.1.map aY)) (.tup [])=ι:=by
  cases q:s.1 with
  |nil=>exact absurd q ne
  |cons y r=>simp[aO,dZ]
 let dw:dep (.tup (s.1.map aY))<=60:=by erw[dep];exact q00 (Vo (GP s.1) (by decide))
 simp![aQ,c_,qF,Rz];let hb:bB (s.1.map aY)<=59:=Vo (GP s.1) (by decide)
 let go:Bn ⟨[U (.o 0),U (.p (.lst (ps.map (eO m)++[.tup [.tup [.int m,.tup (s.1.map aY)],bT s.2]]))),U (.p (.int kd)),U (.p (.int pk)),U (.p (.tup [.int m,.tup (s.1.map aY)])),U (.p (bT s.2)),Z,Z,Z],[U o2]⟩:=by
  subst hB;simp!;subst hN;calc aX λN hN=>?_;simp![c_];calc⟨n+1+1,↑s.1,o2,Y,Y,P2,⋯,⋯,⋯,λnum o3 m0 m1 P3=>?_⟩;simp!;subst hN;calc aX λN hN=>?_;simp![c_];calc⟨n+1+1+1,↑s.1,o3,Y,Y,P3,⋯,⋯,⋯,λnr o4 r0 r1 P4=>?_⟩;let⟨y,ey,hy,ea,_⟩:=nV O.fU r0 r1;simp![ea,aY,at2];let yp:=(O.fU.ends y hy).2.2.2;subst hN;calc aX λN hN=>?_;unfold aU;calc xc λK3 lb=>?_;unfold c5;calc i0 λK4 iy=>?_;simp!;refine⟨n+1+1+1+1,3,o4,Y,Y,P4,⋯,⋯,by decide,λq1 o5 UN UO P5=>?_⟩
  simp!;subst iy;dsimp only;calc i0 λK4 iy=>?_;simp!;subst iy;dsimp only;calc i0 λK4 iy=>?_;simp!;calc⟨Cy,n+1+1+1+1+1,10 ^ Zg 9+1,o5,Y,Y,P5,⋯,by decide,by decide,λq2 o6 UP RA P6=>?_⟩;simp!;subst iy;dsimp only;calc i0 λK4 iy=>?_;simp!;calc⟨Cy,?_⟩;subst iy;dsimp only;calc i0 λK4 iy=>?_;simp!;subst iy;dsimp only;calc i0 λK4 iy=>?_;simp!;calc⟨Cy,?_⟩;subst iy;simp!;subst lb;let⟨p,ep,hp⟩:=Rx (a:=q1) (b:=7) (c:=q2) (d:=10 ^ Zg 9) (e:=y.2.2) (f:=min (10 ^ Zg 9) (y.2.2+1)) ⟨p0,p1⟩
  let t9:(10:Int) ^ Zg 9=1000000000:=by decide
  let RB:0<=p/\p<=1000000000:=by
   rw[t9] at hp RA;rcases hp with rfl|rfl|rfl|rfl|rfl|rfl<;>symm
  simp![ep];subst hN;calc aX λN hN=>fS λA2 B2 Cz CA=>?_;simp! at ⊢;let CB:∀s':bK,((ps++[s])++[s']).map (eO m)=ps.map (eO m)++[.tup [.tup [.int m,.tup (s.1.map aY)],bT s.2]]++[eO m s']:=λs'=>by rw[Vq,Vq];rfl
  let P7:bF (n+10) o6:=P6.mono ⋯;let uW:=O.len;split
  .subst Cz
   simp![Cw];calc⟨m,s,num,p,O,⟨m0,m1⟩,Y,Y,?_⟩;let:=k _ _ _ o6 (Turn.price ps s num p ⟨m0,m1⟩ RB) P7;rw[CB] at this;simp!;exact⟨⋯,[o6],Y,Y,this⟩
  .subst CA
   simp!;subst hN;calc aX λN hN=>fS λA2 B2 Cz CA=>?_;simp![bT,uN];refine⟨rM s.2,?_⟩
   by_cases c:num∈s.2
   .rw[Vk c,U_ Y]
    subst Cz;unfold aR bN;calc i0 λK4 iy=>xc λK5 RC=>?_;simp!;subst RC;simp!;refine L2.rE (λd=>E (dI d≠num)) (λd=>d) (by rw[pV];symm) trivial ?_ ?_
    .ext d hd acc L ha h1 h2
     let⟨x,hx,rfl⟩:=Vh.mp hd;simp![qF];erw[dI] at h1 h2
     by_cases c:x=num
     .rw[Vk c];exact h2 (Vd (Y_ c))
     .rw[Vd c];exact⟨ha,h1 (Vk c)⟩
    .rw[xf λx=>E (x≠num)]
     simp!;calc⟨⋯,?_⟩;subst iy;simp!;let:=k _ _ _ o6 (Turn.free ps s num ⟨m0,m1⟩ c) P7;rw[CB] at this;exact⟨[o6],Y,Y,this⟩
   .rw[Vd c,U9 (by decide)]
    subst CA;simp!;subst hN;simp! at ⊢;calc⟨⋯,?_⟩;rw[show s.2.map D.int++[D.int num]=(s.2++[num]).map D.int by rw[Vq];rfl];erw[rz,ud];calc⟨by rw[Eh];simp;symm,?_⟩;let:=k _ _ _ o6 (Turn.close ps s num ⟨m0,m1⟩ c) P7;rw[CB] at this;exact⟨⋯,[o6],Y,Y,this⟩
 split
 .split
  .rename_i h1 h2
   let h2:=Wb h2;let⟨iB,s0,rfl⟩:∃iB s0,ps=iB++[s0]:=⟨ps.dropLast,ps.getLast (λz=>by subst z;simp at h2),(List.dropLast_concat_getLast _).symm⟩;subst hA;let:=k _ _ _ o2 (Turn.back iB s s0) (P2.mono ⋯);simp![Rw];rw[U_ (Vk ⋯)];exact⟨[o2],Y,Y,this⟩
  .exact⟨hb,go⟩
 .calc⟨hb,go⟩
end LJ
namespace L2
open PySem PySem.Spec PyProof.Rows
section
variable{M:Model}{A:q}{E:bw}{s:B}{env:t}{outer:-t}{base:I}{L a C:O}{dx T:Option O}{Q:Unit->B->Prop}
end
section
variable{X:Cx}{P:l}{w:g}{K:Ee}{mg:J->Option L}{base:I}{N:-J}{qual:J}{scope:o}{f:O}{cd:L}{A:q}{outer:-t}{s:B}{H:Hp}{E:XK}
end
section
variable{X:Cx}{pins df:aM}{σ:St}{H:Hp}{s:B}{E:bw}
end
section
variable{X:Cx}{body G5:-R}{b0:R}{x n:J}{p1 p2 pos:y}{L:O}{i:Nat}{tb:XK->TS}{th:TS}
end
variable[aV]
section
variable{X:Cx}{body:-R}{h0:ExceptHandler}{hs:-ExceptHandler}{pos:y}
end
section
variable{F H:Hp}{ad:-O}{δ:aG}{σ:St}
variable{X:Cx}{o i e v:M}{fo fi fv f:WE}{pos apos:y}{x:J}
end
def bj(x:DV)(δ:aG)(K:FV->aG->Prop):Prop:=match x with
 |.w a=>K (.w a) δ
 |y=>kj y δ λd δ1=>K (.p d) δ1
def aL:-DV->aG->(-FV->aG->Prop)->Prop
 |[],δ,K=>K [] δ
 |x::xs,δ,K=>bj x δ λf δ1=>aL xs δ1 λfs δ2=>K (f::fs) δ2
def aH(f g:WE):WE:=fun δ K=>f δ λx δ1=>g δ1 λy δ2=>∃t fs i v,(x=.u t fs/\y=.p (.int i)/\dY fs i=U v)/\K v.v δ2
abbrev UQ:=-FV->aG->(aG->Prop)->Prop
section
variable{F H:Hp}{ad:-O}{δ:aG}{σ:St}
omit [aV] in
theorem cw.length {F:Hp}:∀{fs:-FV}{us:-V},cw F fs us->↑us=fs.length
 |[],_,h=>by let h:_=[]:=h;rw[h];rfl
 |_::_,_,⟨v,t,e,_,h2⟩=>by rw[e,Eg,Eg,cw.length h2]
omit [aV] in
theorem cw.get {F:Hp}:∀{fs:-FV}{us:-V}{j:Nat}{f:FV},cw F fs us->fs[j]?=U f->∃v,us[j]?=U v/\iH F f v
 |[],_,j,f,_,e=>by simp at e
 |g::r,_,0,f,⟨v,t,e,h1,h2⟩,q=>by subst e;cases(show U g=U f by simpa using q);exact⟨v,Y,h1⟩
 |g::r,_,j+1,f,⟨v,t,e,h1,h2⟩,q=>by subst e;simpa using cw.get h2 (show r[j]?=U f by simpa using q)
theorem RD{x:DV}{v:V}{K:FV->aG->Prop}(S:SR F ad δ σ H)(V:dB F ad x v)(h:bj x δ K):∃f δ' F',K f δ'/\Ext F ad δ.mu H F' ad δ'.mu H/\SR F' ad δ' σ H/\iH F' f v:=by
 cases x with
 |w a=>exact⟨_,_,F,h,.refl,S,V⟩
 |p d=>let⟨d,δ',F',h1,h2,h3,h4⟩:=qe S V (show kj (.p d) δ (λd δ1=>K (.p d) δ1) from h);exact⟨_,_,F',h1,h2,h3,h4⟩
 |o k=>let⟨d,δ',F',h1,h2,h3,h4⟩:=qe S V (show kj (.o k) δ (λd δ1=>K (.p d) δ1) from h);exact⟨_,_,F',h1,h2,h3,h4⟩
 |u _ _=>exact h.elim
 |t _ _=>calc h.elim
variable{X:Cx}{a b e:M}{es:-M}{f g:WE}{fa:WA}{pos:y}
end
def aI:-DV->aG->(-FV->aG->Prop)->Prop
 |[],δ,K=>K [] δ
 |x::xs,δ,K=>toF x δ λf δ1=>aI xs δ1 λfs δ2=>K (f::fs) δ2
def br(t:Bool)(fa:WA):WE:=fun δ K=>fa δ λxs δ1=>aI xs δ1 λfs δ2=>fs.length<=1000/\K (.u t fs) δ2
section
variable{F H:Hp}{ad:-O}{δ:aG}{σ:St}
theorem G6:∀{xs:-DV}{vs:-V}{δ:aG}{K:-FV->aG->Prop},SR F ad δ σ H->cU F ad xs vs->aI xs δ K->∃fs δ',K fs δ'/\Ext F ad δ.mu H F ad δ'.mu H/\SR F ad δ' σ H/\cw F fs vs
 |[],_,δ,K,S,V,h=>⟨[],δ,h,.refl,S,V⟩
 |x::xs,_,δ,K,S,⟨v,r,e,V1,V2⟩,h=>by
  subst e;let⟨f,δ1,h1,E1,S1,i1⟩:=GX S V1 h;let⟨fs,δ2,h2,E2,S2,i2⟩:=G6 S1 V2 h1;calc⟨f::fs,δ2,h2,E1.trans E2,S2,v,r,Y,i1,i2⟩
variable{X:Cx}{a b e i o:M}{es:-M}{body:-R}{f g:WE}{fa:WA}{w:WI}{wg:WG}{bs:WS}{pos:y}
theorem RE{F1 H1:Hp}{aS:-O}{δ1:aG}{t:Bool}{K:DV->aG->Prop}{Q:VK}{xs:-DV}{vs:-V}(k:∀x δ',K x δ'->∀v F' aE H',Ext F ad δ.mu H F' aE δ'.mu H'->SR F' aE δ' σ H'->dB F' aE x v->Q v H')(h1:aI xs δ1 λfs δ2=>fs.length<=1000/\K (.u t fs) δ2)(E1:Ext F ad δ.mu H F1 aS δ1.mu H1)(S1:SR F1 aS δ1 σ H1)(V1:cU F1 aS xs vs):↑vs<=sizeLine/\∀p,H1 p=Z->Q (.ref p) (upd H1 p (mO t vs)):=by
 let⟨fs,δ2,⟨hl,h2⟩,E2,S2,i2⟩:=G6 S1 V1 h1;calc⟨km (by rw[↑i2];calc hl),λp hp=>?_⟩;let sm:aN H1 (upd H1 p (mO t vs)):=dh hp;calc k _ _ h2 _ _ _ _ ((E1.trans E2).trans (Ext.al S2 sm)) (S2.al sm) ?_;rw[Nw.upd S2.sub hp];calc⟨p,vs,Y,b7,i2.same λb o e=>by rw[bf (dF (S2.sub b o e) hp)];calc e⟩
theorem u5(ha:JE X a (tD f))(hi:JE X i (tD g))(hs:yF i:=by ext _ _;rfl):JE X (.Subscript a i pos) (tD (aH f g)):=(yH LY ha hi hs).weak fun σ H Q ⟨F,ad,δ,K,S,q,k⟩ ↦
 ⟨F,ad,δ,_,S,q,λx δ1 h1 v F1 aS H1 E1 S1 V1=>⟨F1,aS,δ1,_,S1,h1,λy δ2 h2 u F2 bV H2 E2 S2 V2=>by
  let⟨t,fs,j,w,⟨rfl,rfl,hw⟩,h3⟩:=h2;let⟨b,us,rfl,e1,e2⟩:=V1;let V2:Is F2 (.int j) u:=V2;erw[Is] at V2;subst V2;let e1:=S2.sub _ _ (E2.same _ _ e1);let e2:=e2.same E2.same
  let⟨n,RF,qR⟩:∃n,eK fs.length j=U n/\fs[n]?=U w:=by
   unfold dY at hw
   cases z:eK fs.length j with
   |none=>rw[z] at hw;cases hw
   |some n=>rw[z] at hw;exact⟨n,Y,hw⟩
  let⟨v,hv,iv⟩:=e2.get qR;let G7:dY us j=U v:=by unfold dY;rw[↑e2,RF];exact hv
  let fin:=k _ _ h3 _ _ _ _ (E1.trans E2) S2 iv.v
  cases t with
  |true=>exact .inr (.inl ⟨b,us,j,v,Y,Y,b9.of e1,G7,fin⟩)
  |false=>calc .inl ⟨b,us,j,v,Y,Y,bP.of e1,G7,fin⟩⟩⟩
end
structure n_ where
 items:-FV
 bL:aG->Prop
abbrev rV:=aG->(n_->aG->Prop)->Prop
def u6(F:Hp)(ad:-O)(it:n_)(J:It):Prop:=∀(F':Hp)(aE:-O)(δ:aG)(σ:St)(H:Hp),aN F F'->(∀(k:Nat)(a:O),ad[k]?=U a->aE[k]?=U a)->SR F' aE δ σ H->it.bL δ →
 J.stop ↑it.items H/\∀(i:Nat)(d:FV),it.items[i]?=U d->J.go i H/\∀x H',J.pF i H x H'->aN H H'/\iH (Nw F' H H') d x
inductive j7 (w:rV) (σ:St) (H:Hp) (R:It->Hp->Prop):Prop
 |mk (F:Hp) (ad:-O) (δ:aG) (K:n_->aG->Prop) (S:SR F ad δ σ H) (q:w δ K) (k:∀it δ',K it δ'->∀J F' aE H',Ext F ad δ.mu H F' aE δ'.mu H'->SR F' aE δ' σ H'->u6 F' aE it J->R J H')
def aJ(w:WI):rV:=fun δ K=>w δ λit δ1=>K ⟨it.items.map FV.p,it.bL⟩ δ1
def aK(f:WE):rV:=fun δ K=>f δ λx δ1=>match x with
 |.u false fs=>K ⟨fs,λ_=>True⟩ δ1
 |_=>False
def bh(bL:aG->Prop)(g:WG)(t:WT)(f:WE)(K:-FV->aG->Prop):-FV->-FV->aG->Prop
 |[],acc,δ=>bL δ/\K acc δ
 |d::r,acc,δ=>bL δ/\g d.v δ fun δ1=>t δ1 λb δ2=>if b=θ then f δ2 λx δ3=>bj x δ3 λe δ4=>↑acc<1000/\bh bL g t f K r (acc++[e]) δ4 else bh bL g t f K r acc δ2
def bo(w:rV)(cp:-(Option Nat))(g:WG)(t:WT)(f:WE):WE:=fun δ K=>w δ λit δ1=>bh it.bL g t f (λacc δ'=>K (.u ι acc) ⟨δ1.sl,δ'.mu⟩) it.items [] ⟨cV cp δ1.sl,δ1.mu⟩
def bp(w:rV)(cp:-(Option Nat))(g:WG)(t:WT)(f:WE):WE:=fun δ K=>w δ λit δ1=>bh it.bL g t f (λacc δ'=>∃ds:-D,acc=ds.map FV.p/\K (.o ↑δ'.mu) ⟨δ1.sl,δ'.mu++[U (.lst ds)]⟩) it.items [] ⟨cV cp δ1.sl,δ1.mu⟩
def bt(fo fi:WE):WG:=λx δ K=>fo δ λo δ1=>fi δ1 λi δ2=>match x with
 |.p d=>fy o δ2 λk B ds=>match i with
  |.p (.int j)=>match eK ↑ds j with
   |some n=>K ⟨δ2.sl,δ2.mu.set k (U (B (ds.set n d)))⟩
   |none=>False
  |_=>False
 |_=>False
section
variable{F H:Hp}{ad:-O}{δ:aG}{σ:St}
omit [aV] in
theorem cw.snoc {F:Hp} {f:FV} {v:V} (h:iH F f v):∀{fs:-FV}{us:-V},cw F fs us->cw F (fs++[f]) (us++[v])
 |[],_,e=>by let e:_=[]:=e;subst e;exact⟨v,[],Y,h,Y⟩
 |g::r,_,⟨u,t,e,h1,h2⟩=>by subst e;exact⟨u,t++[v],Y,h1,h2.snoc h⟩
omit [aV] in
theorem cw.all {F:Hp}:∀{ds:-D}{us:-V},cw F (ds.map FV.p) us->aj F ds us
 |[],_,e=>by let e:_=[]:=e;subst e;exact .nil
 |d::r,_,⟨u,t,e,h1,h2⟩=>by subst e;calc .cons h1 (cw.all h2)
variable{X:Cx}{tg iter elt o i l:M}{w:WI}{ww:rV}{g:WG}{pos:y}{ifs:-M}{t:WT}{f fo fi:WE}{fa:WA}{es:-M}{scope:Δ}
theorem CD(h:JI X tg iter (iL w)):JI X tg iter (j7 (aJ w)):=h.weak fun σ H R ⟨F,ad,δ,K,S,q,k⟩=>⟨F,ad,δ,_,S,q,λit δ1 h1 J F1 aS H1 E1 S1 I1=>k _ _ h1 J _ _ _ E1 S1 λF' aE δ' σ' H' s p S' c=>by
 let⟨h2,h3⟩:=I1 F' aE δ' σ' H' s p S' c;calc⟨by rw[pV];calc h2,λi d e=>?_⟩;rw[My] at e;let⟨x,hx,rfl⟩:=Va.mp e
 calc h3 i x hx⟩
theorem CF(hl:JE X l (tD f)):JI X tg l (j7 (aK f)):=(Fd hl).weak fun σ H R ⟨F,ad,δ,K,S,q,k⟩=>⟨F,ad,δ,_,S,q,λx δ1 h1 v F1 aS H1 E1 S1 V1=>by
 split at h1
 .rename_i fs
  let⟨b,us,rfl,e1,e2⟩:=V1;let e0:H1 b=U (.lst us):=S1.sub _ _ e1;calc⟨b,Y,.inl ⟨⟨us,bP.of e0⟩,k _ _ h1 _ _ _ _ E1 S1 λF' aE δ' σ' H' s p S' c=>?_⟩⟩;let e3:H' b=U (.lst us):=S'.sub _ _ (s _ _ e1);calc⟨⟨us,bP.of e3,by rw[↑e2];calc yT _⟩,λi d ed=>?_⟩;let⟨u,hu,iu⟩:=(e2.same s).get ed;calc⟨⟨us,u,bP.of e3,hu⟩,λy jL ⟨eh,hy⟩=>?_⟩;subst eh;calc⟨λ_ _ e=>e,?_⟩;let:=hy us (bP.of e3);rw[hu] at this;cases this;rw[Nw.refl S'.sub];exact iu
 .calc h1.elim⟩
theorem G8{J:It}{l:O}{F1:Hp}{aS:-O}{δ1:aG}{σ:St}{H1:Hp}{it:n_}{cp:-(Option Nat)}{Q:VK}{K:-FV->aG->Prop}(S1:SR F1 aS δ1 σ H1)(I1:u6 F1 aS it J)(hl:H1 l=Z)
  (h:bh it.bL g t f K it.items [] ⟨cV cp δ1.sl,δ1.mu⟩)
  (fin:∀acc δ' F' aE τ H' ys,K acc δ'->Ext F1 aS δ1.mu H1 F' aE δ'.mu H'->SR F' aE δ' τ H'->H' l=U (.lst ys)->F' l=Z->¬ Lv aE δ'.mu l->cw F' acc ys->Q (.ref l) H') :
  yX J (gu g) (cP t) (tD f) l (hW cp σ) (upd H1 l (.lst [])) Q:=by
 let f1:F1 l=Z:=by
  cases q:F1 l with
  |none=>rfl
  |some u=>rw[S1.sub l u q] at hl;cases hl
 let l1:¬ Lv aS δ1.mu l:=λ⟨k,ov,e1,e2⟩↦by
  let⟨a,o,e3,e4,_⟩:=S1.mu k ov e2;rw[e1] at e3;cases e3;rw[hl] at e4;cases e4
 let S0:SR F1 aS ⟨cV cp δ1.sl,δ1.mu⟩ (hW cp σ) (upd H1 l (.lst [])):=S1.qh.other f1 l1 (aV.same S1.tab (dh hl));calc⟨λi m τ H'=>∃F' aE δ' acc ys,i+m=↑it.items/\Ext F1 aS δ1.mu H1 F' aE δ'.mu H'/\SR F' aE δ' τ H'/\H' l=U (.lst ys)/\F' l=Z/\¬ Lv aE δ'.mu l/\cw F' acc ys/\bh it.bL g t f K (it.items.drop i) acc δ',⟨↑it.items,F1,aS,_,[],[],⋯,Ext.refl.other hl,S0,b7,f1,l1,Y,h⟩,?_⟩;ext i m τ H' ⟨F',aE,δ',acc,ys,hm,E',S',fQ,gP,ik,ia,h⟩
 by_cases fG:i<↑it.items
 .rw[Wu fG] at h
  let⟨ck,h⟩:=h;let⟨go,yl⟩:=(I1 F' aE δ' τ H' E'.same E'.pre S' ck).2 i _ (pU fG)
  let step:∀{F2:Hp}{bV:-O}{qj:-(Option OV)}{H2:Hp},Ext F' aE δ'.mu H' F2 bV qj H2->H2 l=U (.lst ys)/\F2 l=Z/\¬ Lv bV qj l/\cw F2 acc ys:=λ{F2 bV qj H2} e=>by
   refine⟨e.keep _ _ fQ ik (λz=>by let⟨ps,q⟩:=aV.tb S1.tab z;rw[hl] at q;cases q),?_,λz=>?_,ia.same e.same⟩
   .cases q:F2 l with
    |none=>rfl
    |some u =>
     rcases e.new l u q with z|z|z
     .rw[gP] at z;cases z
     .rw[fQ] at z;cases z
     .exact absurd z ik
   .rcases e.b_ l z with z|z
    .exact ik z
    .rw[fQ] at z;cases z
  refine .inr ⟨go,fun τ2 H2=>∃F2 bV δ2 gQ mV,Ext F1 aS δ1.mu H1 F2 bV δ2.mu H2/\SR F2 bV δ2 τ2 H2/\H2 l=U (.lst mV)/\F2 l=Z/\¬ Lv bV δ2.mu l/\cw F2 gQ mV/\bh it.bL g t f K (it.items.drop (i+1)) gQ δ2,
   fun τ2 H2 ⟨F2,bV,δ2,gQ,mV,r⟩↦⟨m-1,⋯,F2,bV,δ2,gQ,mV,⋯,r⟩,λx H2 y=>?_⟩
  let⟨sm,is⟩:=yl x H2 y;let X2:=Ext.al S' sm;calc⟨_,aE,δ',_,_,S'.al sm,is.v,h,fun δ3 h3 F3 mU σ3 H3 X3 S3=>?_⟩;calc⟨F3,mU,δ3,_,S3,h3,λbb δ4 h4 F4 rj H4 X4 S4=>?_⟩;let qk:=(X2.trans X3).trans X4
  cases bb with
  |false =>
   dsimp only at h4 ⊢;rw[U9 Vl] at h4 ⊢;let⟨a1,a2,a3,a4⟩:=step qk;exact⟨F4,_,_,acc,ys,E'.trans qk,S4,a1,a2,a3,a4,h4⟩
  |true =>
   dsimp only at h4 ⊢;rw[U_ Y] at h4 ⊢;calc⟨F4,rj,δ4,_,S4,h4,λy δ5 h5 v F5 Nl H5 X5 S5 V5=>?_⟩;let⟨e,δ6,F6,⟨hlen,h6⟩,X6,S6,i6⟩:=RD S5 V5 h5;let tX:=(qk.trans X5).trans X6;let⟨a1,a2,a3,a4⟩:=step tX;refine⟨ys,a1,pX (by rw[↑a4];symm),F6,_,_,acc++[e],ys++[v],(E'.trans tX).other hl,S6.other a2 a3 (aV.put S6.tab a1 (.inl ⟨_,Y⟩)),b7,a2,a3,a4.snoc i6,h6⟩
 .rw[Yj ⋯] at h
  let⟨ck,h⟩:=h;let ei:i=↑it.items:=by symm
  subst ei;calc .inl ⟨(I1 F' aE δ' τ H' E'.same E'.pre S' ck).1,fin _ _ _ _ _ _ _ h E' S' fQ gP ik ia⟩
theorem RG{cp:-(Option Nat)}:∀σ H Q,tD (bo ww cp g t f) σ H Q->pZ (j7 ww) cp (λ_=>gu g) (λ_=>cP t) (λ_=>tD f) σ H Q:=fun σ H Q ⟨F,ad,δ,K,S,q,k⟩=>by
 calc⟨F,ad,δ,_,S,q,λit δ1 h1 J F1 aS H1 E1 S1 I1=>λd l hl=>?_⟩;calc G8 S1 I1 hl h1 λacc δ' F' aE τ H' ys hk E' S' fQ gP ik ia=>?_;let sm:aN F' (upd F' l (.lst ys)):=dh gP;calc k _ _ hk _ _ _ _ (E1.trans (E'.adopt hl gP)) (SR.back (sl:=δ'.sl) S1 (E'.adopt hl gP) (S'.adopt gP fQ ik)) ?_;calc⟨l,ys,Y,b7,ia.same sm⟩
theorem RH{cp:-(Option Nat)}:∀σ H Q,tD (bp ww cp g t f) σ H Q->pZ (j7 ww) cp (λ_=>gu g) (λ_=>cP t) (λ_=>tD f) σ H Q:=fun σ H Q ⟨F,ad,δ,K,S,q,k⟩=>by
 calc⟨F,ad,δ,_,S,q,λit δ1 h1 J F1 aS H1 E1 S1 I1=>λd l hl=>?_⟩;calc G8 S1 I1 hl h1 λacc δ' F' aE τ H' ys ⟨ds,ea,hk⟩ E' S' fQ gP ik ia=>?_;subst ea;let S2:=S'.cx (ov:=.lst ds) gP fQ ik ⟨ys,Y,ia.all⟩;let E2:=E'.cx (ov:=.lst ds) hl S'.cD;calc k _ _ hk _ _ _ _ (E1.trans E2) (SR.back (sl:=δ'.sl) S1 E2 S2) ⟨l,?_,Y⟩;rw[<-S'.cD,Mf (yT _),VB];rfl
theorem RI[jq](cp:-(Option Nat))(Nb:-J){k:Nat}{x:J}{pos' dA:y}(hN:X.N.Nodup)(hi:X.N[k]?=U x)(hx:Loc X.env.scope x)(hc:X.calm=θ)(hit:JI X tg iter (j7 ww))(hg:∀d,JG (cb X scope Nb d) tg (gu g))(hf:∀d,JF (cb X scope Nb d) ifs (cP t))(he:∀d,JE (cb X scope Nb d) elt (tD f))
  (hk:scope.kind=.function:=by rfl) (ho:jj X.N X.env.scope scope Nb cp=θ:=by first|rfl|kernel_rfl) (hs:∀x,foldedSetIterable iter X.env x=pure x:=by ext _;rfl)
  (kN:swapsWith (.ListComp elt [⟨tg,iter,ifs,0⟩] scope pos) (U (.Name x pos')) dA.line X.env=pure θ:=by rfl)
  (iG:ft X x:=by first|exact .inl Y|exact .inr Y|assumption) :
  JS X (.Assign [.Name x pos'] (.ListComp elt [⟨tg,iter,ifs,0⟩] scope pos) dA) (dG (aU k (bo ww cp g t f))) :=
 (vG cp Nb hN hi hx hc hit hg hf he hk ho hs kN iG).weak λD σ H ⟨F,ad,δ,K,S,q,k⟩↦RG σ H _ ⟨F,ad,δ,_,S,q,λx δ1 h1 v F1 aS H1 E1 S1 V1=>k.nx _ h1 _ _ _ _ E1 (S1.set V1)⟩
theorem RJ[jq](cp:-(Option Nat))(Nb:-J){k:Nat}{x:J}{pos' dA:y}(hN:X.N.Nodup)(hi:X.N[k]?=U x)(hx:Loc X.env.scope x)(hc:X.calm=θ)(hit:JI X tg iter (j7 ww))(hg:∀d,JG (cb X scope Nb d) tg (gu g))(hf:∀d,JF (cb X scope Nb d) ifs (cP t))(he:∀d,JE (cb X scope Nb d) elt (tD f))
  (hk:scope.kind=.function:=by rfl) (ho:jj X.N X.env.scope scope Nb cp=θ:=by first|rfl|kernel_rfl) (hs:∀x,foldedSetIterable iter X.env x=pure x:=by ext _;rfl)
  (kN:swapsWith (.ListComp elt [⟨tg,iter,ifs,0⟩] scope pos) (U (.Name x pos')) dA.line X.env=pure θ:=by rfl)
  (iG:ft X x:=by first|exact .inl Y|exact .inr Y|assumption) :
  JS X (.Assign [.Name x pos'] (.ListComp elt [⟨tg,iter,ifs,0⟩] scope pos) dA) (dG (aU k (bp ww cp g t f))) :=
 (vG cp Nb hN hi hx hc hit hg hf he hk ho hs kN iG).weak λD σ H ⟨F,ad,δ,K,S,q,k⟩↦RH σ H _ ⟨F,ad,δ,_,S,q,λx δ1 h1 v F1 aS H1 E1 S1 V1=>k.nx _ h1 _ _ _ _ E1 (S1.set V1)⟩
theorem RL(ha:JA X es (cf fa)):JE X (.List es pos) (tD (br ι fa)):=(vp ha).weak fun σ H Q ⟨F,ad,δ,K,S,q,k⟩ ↦
 ⟨F,ad,δ,_,S,q,λxs δ1 h1 vs F1 aS H1 E1 S1 V1=>RE (t:=false) k h1 E1 S1 V1⟩
theorem RM(ho:JE X o (tD fo))(hi:JE X i (tD fi))
  (ha:∀v,assign (.Subscript o i pos) X.env v=(do
   let ov <- holding [v] (eval o X.env)
   let iv <- holding [v,ov] (eval i X.env)
   standAt pos
   holding [v,ov,iv] (setItem ov iv v)
   release [v,ov,iv] []):=by ext _;rfl):JG X (.Subscript o i pos) (gu (bt fo fi)):=(mz ho hi set_list ha).weak λv σ H Q ⟨F,ad,δ,x,K,S,V,q,k⟩ =>
 ⟨F,ad,δ,_,S,q,λo δ2 h2 ov F2 bV H2 E2 S2 V2=>⟨F2,bV,δ2,_,S2,h2,λi δ3 h3 iv F3 mU H3 E3 S3 V3=>by
  split at h3
  .rename_i d
   let⟨k0,B,ds,a,vs,rfl,h5,rfl,e1,e2,i1,m1,k6⟩:=nj S3 (V2.ext E3) h3;split at h5
   .rename_i j
    split at h5
    .rename_i m hm
     let V3:iv=.int j:=V3;subst V3;let oi:=k6 (F':=F3) (zY m i1 (Is.same (E2.trans E3).same V));calc⟨a,vs,j,m,Y,Y,e2,by rw[↑i1];calc hm,?_⟩;exact k _ h5 _ _ _ _ ((E2.trans E3).trans (Ext.put S3 m1 e1)) (S3.put m1 e1 oi)
    .exact h5.elim
   .exact h5.elim
  .calc h3.elim⟩⟩
end
end L2
namespace LJ
open PySem L2
variable[aV]
open Classical in
noncomputable def og (ws:List Wy):List Int:=if h:∃ns,aP ws ns then q40 h else[]
theorem G9{m:Int}{ws:-Wy}(W:bz m ws){ns:-Int}(h:aP ws ns):ns=og ws:=by
 let ex:∃ns,aP ws ns:=⟨ns,h⟩;unfold og;rw[dif_pos ex];let h':=q23 ex;calc GA W (h.perm.trans h'.perm.symm) h.nums h.up h'.up
noncomputable def kE(m:Int)(s:bK):-Int:=bW m s (og (bQ s))
theorem pe{m:Int}{s:bK}(O:bJ m s){ns:-Int}(h:aP (bQ s) ns):bW m s ns=kE m s:=by
 unfold kE;rw[<-G9 (rN O.fU (uO s.1 s.2)) h]
noncomputable def j8(m:Int)(s:bK):-D:=[aQ m s.1,bT s.2,bT (kE m s),.int (wsum s.1 (kE m s))]
def rW(C:O):GK:=λys ar K=>∃(a b:O)(m:Int)(s:bK)(t:Int),bJ m s/\0<=t/\ys=[.w a,.p (.int t)]/\ar=[kO C a b m s]/\K (.n (j8 m s)) [kO C a b m s] []
def CG(c_Keeper:O):WS:=(az (aU 2 (lS (aq (dC .non) (aq (dC .non) (aq (dC .non) (aq (dC .non) ak)))))) (az (fR (cM (gx (c5 (aq (dC (.int 0)) (aq (dC (.int 1)) (aq (dC (.int 2)) (aq (dC (.int 3)) (aq (dC (.int 0)) (aq (dC (.int 1)) (aq (dC (.int 2)) ak)))))))) (kZ (d2 (aa 1) (dC (.int 4)) (dO (λ_ j=>0<j) λi j=>.int (i%j)))) (kZ (d2 (d2 (aa 1) (dC (.int 4)) (dO (λ_ j=>0<j) λi j=>.int (i%j))) (dC (.int 4)) cQ)))) (cz 3) (bC (dT (d2 (aa 3) (dC (.int 0)) oEq)) (jW (aw ι c_Keeper "web" 1 (BX c_Keeper) (aa 0) ak) (aa 2) (dC (.int 0))) (bC (dT (d2 (aa 3) (dC (.int 1)) oEq)) (jW (aw ι c_Keeper "closed" 1 (BZ c_Keeper) (aa 0) ak) (aa 2) (dC (.int 1))) (bC (dT (d2 (aa 3) (dC (.int 2)) oEq)) (jW (aw ι c_Keeper "forest" 1 (rT c_Keeper) (aa 0) ak) (aa 2) (dC (.int 2))) (jW (aw ι c_Keeper "weight" 1 (B5 c_Keeper) (aa 0) ak) (aa 2) (dC (.int 3))))))) (aR (aa 2))))
theorem RN{t:Int}(h:0<=t/\t<4):∃xs:-Nat,cutD [D.int 0,.int 1,.int 2,.int 3,.int 0,.int 1,.int 2] (U t) (U (t+4))=xs.map (λx:Nat=>D.int x)/\(∀x∈xs,x<4)/\∀x<4,x∈xs:=by
 let⟨k,rfl⟩:=Xt h.1;let hk:k<4:=by symm
 match k,hk with
 |0,_=>exact⟨[0,1,2,3],Y,by decide,by decide⟩
 |1,_=>exact⟨[1,2,3,0],Y,by decide,by decide⟩
 |2,_=>exact⟨[2,3,0,1],Y,by decide,by decide⟩
 |3,_=>calc⟨[3,0,1,2],Y,by decide,by decide⟩
noncomputable def j9(L:-D)(xs:-Nat):-D:=[0,1,2,3].map λi=>if i∈xs then L.getD i .non else .non
theorem RO(L:-D)(xs:-Nat){x:Nat}(hx:x<4):(j9 L xs).set x (L.getD x .non)=j9 L (xs++[x]):=by
 unfold j9
 match x,hx with
 |0,_=>simp[Vs]
 |1,_=>simp[Vs]
 |2,_=>simp[Vs]
 |3,_=>simp[Vs]
theorem RP{a b c d:D}{xs:-Nat}(h:∀x<4,x∈xs):j9 [a,b,c,d] xs=[a,b,c,d]:=by
 unfold j9;simp[h 0 (by decide),h 1 (by decide),h 2 (by decide),h 3 (by decide)]
theorem RQ(C:ξ):∀ys ar K',↑ys=2->rW C ys ar K'->CG C (ag ↑ar K') ⟨ys.map U++Ul 2 Z,ar.map U⟩:=by
 ext ys ar K'-⟨a,b,m,s,t,O,ht,rfl,rfl,k⟩;let i7:=O.fU.fq;let uW:=O.len;let hr:0<=t%4/\t%4<4:=⟨V7 _ (by decide),VC _ (by decide)⟩;let⟨xs,ec,xl,xa⟩:=RN hr;unfold CG;calc aX λM hM=>?_;simp![af,ah,aA,toF,aw,ay,aB,ai,aD,FV.v,ag,mL,pT];subst hM;calc aX λM hM=>uw λg' b' K2 hg hb' hK=>?_;simp![af,ah,aA,toF,aw,ay,aB,ai,aD,FV.v,ag,mL,pT];calc⟨by decide,by decide,?_⟩;rw[ec];subst hg hb' hK;let⟨L,hL⟩:∃L,L=j8 m s:=⟨_,Y⟩;refine qy (λi δ=>δ=⟨[U (.w a),U (.p (.int t)),U (.o 1),Z],[U (kO C a b m s),U (.lst (j9 L (xs.take i)))]⟩) (by simp[j9]) ?_ ?_
 .ext i d δ L2 hi rfl RR
  rw[My] at hi;let⟨x,hx,rfl⟩:=Va.mp hi;let x4:=xl x (Vw hx)
  let nx:∀δ',δ'=⟨[U (.w a),U (.p (.int t)),U (.o 1),Z],[U (kO C a b m s),U (.lst ((j9 L (xs.take i)).set x (L.getD x .non)))]⟩->L2 δ':=fun δ' e=>RR δ' (by
   rw[e]
   let:(j9 L (xs.take i)).set x (L.getD x .non)=j9 L (xs.take (i+1)):=by
    rw[q0M,hx];exact RO _ _ x4
   rw[this])
  let sl:↑(j9 L (xs.take i))=4:=Y;generalize j9 L (xs.take i)=S at nx sl ⊢;calc⟨trivial,?_⟩;erw[cz,Wi,Wj];refine fS λA B hA hB=>?_
  match x,x4 with
  |0,_ =>
   simp![af,ah,aA,toF,aw,ay,aB,ai,aD,FV.v,ag,mL,pT,YX,W5,show aO (.int 0) (.int 0)=θ from Y];subst hA;simp![af,ah,aA,toF,aw,ay,aB,ai,aD,FV.v,ag,mL,pT];calc⟨⟨a,0,_,Y,Y,Y⟩,[(0,kO C a b m s)],⟨Y,trivial⟩,?_⟩;simp![af,ah,aA,toF,aw,ay,aB,ai,aD,FV.v,ag,mL,pT];calc⟨a,b,m,s,Y,Y,?_⟩;simp![af,ah,aA,toF,aw,ay,aB,ai,aD,FV.v,ag,mL,pT,sl,show eK 4 0=U 0 from Y];exact nx _ (by rw[hL];rfl)
  |1,_ =>
   let e0:aO (.int 1) (.int 0)=ι:=Y;simp![af,ah,aA,toF,aw,ay,aB,ai,aD,FV.v,ag,mL,pT,YX,W5,e0];subst hB;calc fS λA B hA hB=>?_;let e1:aO (.int 1) (.int 1)=θ:=Y;simp![af,ah,aA,toF,aw,ay,aB,ai,aD,FV.v,ag,mL,pT,e1];subst hA;simp![af,ah,aA,toF,aw,ay,aB,ai,aD,FV.v,ag,mL,pT];calc⟨⟨a,0,_,Y,Y,Y⟩,[(0,kO C a b m s)],⟨Y,trivial⟩,?_⟩;simp![af,ah,aA,toF,aw,ay,aB,ai,aD,FV.v,ag,mL,pT];calc⟨a,b,m,s,O,Y,Y,?_⟩;simp![af,ah,aA,toF,aw,ay,aB,ai,aD,FV.v,ag,mL,pT,sl,show eK 4 1=U 1 from Y];exact nx _ (by rw[hL];rfl)
  |2,_ =>
   let e0:aO (.int 2) (.int 0)=ι:=Y;simp![af,ah,aA,toF,aw,ay,aB,ai,aD,FV.v,ag,mL,pT,YX,W5,e0];subst hB;calc fS λA B hA hB=>?_;let e1:aO (.int 2) (.int 1)=ι:=Y;simp![af,ah,aA,toF,aw,ay,aB,ai,aD,FV.v,ag,mL,pT,e1];subst hB;calc fS λA B hA hB=>?_;let e2:aO (.int 2) (.int 2)=θ:=Y;simp![af,ah,aA,toF,aw,ay,aB,ai,aD,FV.v,ag,mL,pT,e2];subst hA;simp![af,ah,aA,toF,aw,ay,aB,ai,aD,FV.v,ag,mL,pT];calc⟨⟨a,0,_,Y,Y,Y⟩,[(0,kO C a b m s)],⟨Y,trivial⟩,?_⟩;simp![af,ah,aA,toF,aw,ay,aB,ai,aD,FV.v,ag,mL,pT];refine⟨a,b,m,s,O,Y,Y,λns ho=>?_⟩
   rw[pe O ho];simp![af,ah,aA,toF,aw,ay,aB,ai,aD,FV.v,ag,mL,pT,sl,show eK 4 2=U 2 from Y];exact nx _ (by rw[hL];rfl)
  |3,_ =>
   let e0:aO (.int 3) (.int 0)=ι:=Y;simp![af,ah,aA,toF,aw,ay,aB,ai,aD,FV.v,ag,mL,pT,YX,W5,e0];subst hB;calc fS λA B hA hB=>?_;let e1:aO (.int 3) (.int 1)=ι:=Y;simp![af,ah,aA,toF,aw,ay,aB,ai,aD,FV.v,ag,mL,pT,e1];subst hB;calc fS λA B hA hB=>?_;let e2:aO (.int 3) (.int 2)=ι:=Y;simp![af,ah,aA,toF,aw,ay,aB,ai,aD,FV.v,ag,mL,pT,e2];subst hB;simp![af,ah,aA,toF,aw,ay,aB,ai,aD,FV.v,ag,mL,pT];calc⟨⟨a,0,_,Y,Y,Y⟩,[(0,kO C a b m s)],⟨Y,trivial⟩,?_⟩;simp![af,ah,aA,toF,aw,ay,aB,ai,aD,FV.v,ag,mL,pT];refine⟨a,b,m,s,O,Y,Y,λns ho=>?_⟩
   rw[pe O ho];simp![af,ah,aA,toF,aw,ay,aB,ai,aD,FV.v,ag,mL,pT,sl,show eK 4 3=U 3 from Y];exact nx _ (by rw[hL];rfl)
 .ext δ rfl
  calc⟨trivial,?_⟩;show M _;rw[pV,Ze];let e:j9 L xs=L:=by rw[hL];exact RP xa
  rw[e,hL];subst hM;simp![af,ah,aA,toF,aw,ay,aB,ai,aD,FV.v,ag,mL,pT];calc⟨[_],[],[U (.lst _)],Y,Y,yT _,k⟩
def CH:GD:=λys ar K=>G4 ys ar K\/∃(n m:Int)(o:OV),bz m []/\ys=[.o 0,.p (.lst [eO m ([],[])])]/\ar=[o]/\bF n o/\n+20<2 ^ 30/\∀o',bF (n+10) o'->K (.p (.tup [.lst [eO m ([],[])],.non])) [o']
def G_:WS:=u4
theorem RS:Sem 2 7 CH G_:=by
 ext ys ar K' hl (h|⟨n,m,o,W,rfl,rfl,P,hn,k⟩)
 .exact Ry ys ar K' hl h
 unfold G_ u4;let e1:dY [D.tup [aQ m [],bT []]] (-1)=U (.tup [aQ m [],bT []]):=Y;let e2:aO (.tup []) (.tup [])=θ:=Y;calc aX λN hN=>?_;simp!;calc⟨n,8,o,Y,Y,P,⋯,⋯,by decide,λkd o1 k0 k1 P1=>?_⟩;simp!;subst hN;calc aX λN hN=>?_;simp!;calc⟨n+1,6,o1,Y,Y,P1,⋯,⋯,by decide,λpk o2 p0 p1 P2=>?_⟩;simp!;subst hN;calc aX λN hN=>?_;simp![e1,eO];subst hN;refine aX λN hN=>fS λAy Bn hA hB=>?_
 let fin:Ay ⟨[U (.o 0),U (.p (.lst [.tup [aQ m [],bT []]])),U (.p (.int kd)),U (.p (.int pk)),U (.p (aQ m [])),U (.p (bT [])),Z,Z,Z],[U o2]⟩:=by
  subst hA;simp![q1s,W5,show E ((1:Int)<0+1)=ι from Y,show E ((1:Int)<1)=ι from Y];exact⟨[o2],Y,Y,k o2 (P2.mono ⋯)⟩
 simp![c_,aQ,Xc,e2,show E ((1:Int)<1)=ι from Y,show E ((1:Int)<0+1)=ι from Y,q1s,W5] at ⊢;split<;>calc fin
inductive Go (m:Int):-bK->bK->-D->-bK->bK->Prop
 |nil {ps:-bK} {s:bK}:Go m ps s [] ps s
 |cons {ps cW u7:-bK} {s s' s2:bK} {ch:D} {r:-D} (h:Turn m ps s cW s' ch) (g:Go m cW s' r u7 s2):Go m ps s (ch::r) u7 s2
theorem Go.snoc{m:Int}{cW:-bK}{s':bK}{ch:D}:∀{iB ps:-bK}{s0 s:bK}{r:-D},Go m iB s0 r ps s->Turn m ps s cW s' ch->Go m iB s0 (r++[ch]) cW s'
 |_,_,_,_,_,.nil,h=>.cons h .nil
 |_,_,_,_,_,.cons g r,h=>.cons g (r.snoc h)
noncomputable def rX(m:Int)(s s':bK):D:=kD (kE m s) (kE m s')
def CI(C:O):GK:=λys ar K=>∃(m t:Int)(ws:-Wy)(old:-D)(ch:D)(ps cW:-bK)(s s':bK)(c:O),bz m ws/\Go m [] (ws,[]) old ps s/\Turn m ps s cW s' ch/\↑old<=60/\0<=t/\ys=[.p (aQ m ws),.o 0,.p (.int t)]/\ar=[.al c (old++[ch])]/\K (.p (.lst [rX m s s',.lst (j8 m s')])) [.al c (old++[ch])] []
def CJ(c_Keeper:O):WS:=(az (aU 3 (aB c_Keeper 2 (xh c_Keeper) (aq (aa 0) ak))) (az (aU 4 (gF (cM (aa 1)) [Z,U 3] (cz 0) dH (ay ι 2 (xn c_Keeper) (aq (aa 1) (aq (aa 0) ak))))) (aR (c5 (aq (d2 (aa 4) (d1 (dC (.int 1)) iZ) bg) (aq (ay ι 2 (rW c_Keeper) (aq (aa 3) (aq (aa 2) ak))) ak))))))
theorem RT(C:O):∀ys ar K',↑ys=3->CI C ys ar K'->CJ C (ag ↑ar K') ⟨ys.map U++Ul 2 Z,ar.map U⟩:=by
 ext ys ar K'-⟨m,t,ws,old,ch,ps,cW,s,s',c,W,G,T,ol,ht,rfl,rfl,k⟩;unfold CJ;calc aX λM hM=>?_;simp![af,ah,aA,toF,aw,ay,aB,ai,aD,FV.v,ag,mL,pT];ext a;calc⟨[(1,.ins a C [])],⟨Y,trivial⟩,?_⟩;simp![af,ah,aA,toF,aw,ay,aB,ai,aD,FV.v,ag,mL,pT];calc⟨a,m,ws,W,Y,Y,λb=>?_⟩;simp![af,ah,aA,toF,aw,ay,aB,ai,aD,FV.v,ag,mL,pT];subst hM;calc aX λM hM=>?_;simp![af,ah,aA,toF,aw,ay,aB,ai,aD,FV.v,ag,mL,pT];let O0:bJ m (ws,[]):=⟨W,Yg,λn hn=>absurd hn Vf⟩;refine wq (λj acc δ=>(∃pf sj,Go m pf sj (old.drop j) ps s/\bJ m sj/\(∀t∈pf,bJ m t)/\↑pf<=j/\j<=↑old/\↑acc=j/\δ=⟨[Z,U (.w a)],[U (.al c (old++[ch])),U (kO C a b m sj),U (pO b m pf)]⟩)\/(j=↑old+1/\bJ m s'/\(∃cG,acc=cG++[rX m s s'])/\δ=⟨[Z,U (.w a)],[U (.al c (old++[ch])),U (kO C a b m s'),U (pO b m cW)]⟩)) (.inl ⟨[],(ws,[]),G,O0,(λt ht=>absurd ht Vf),yT _,VT _,Y,Y⟩) ?_ ?_
 .ext j d acc δ L hj hI hL
  let jl:j<↑(old++[ch]):=(qW.mp hj).1;rw[Eh,VA] at jl;rcases hI with⟨pf,sj,Gj,Oj,Os,pl,jo,al,rfl⟩|⟨h,_⟩
  .by_cases cj:j<↑old
   .rw[Mc cj] at hj
    let ed:old.drop j=d::old.drop (j+1):=by
     let⟨hl,e⟩:=qW.mp hj;rw[Wu hl,e]
    rw[ed] at Gj
    cases Gj with
    |cons Tj Gr =>
     rename_i u7 s2;let⟨O2,Ha,RU⟩:=Tj.ok Oj Os;simp![af,ah,aA,toF,aw,ay,aB,ai,aD,FV.v,ag,mL,pT];calc⟨[(1,kO C a b m sj),(2,pO b m pf)],⟨Y,Y,trivial⟩,?_⟩;simp![af,ah,aA,toF,aw,ay,aB,ai,aD,FV.v,ag,mL,pT];calc⟨a,b,m,sj,s2,pf,u7,d,Tj,Oj,Os,⋯,Y,Y,λn1 n2 h1 h2=>?_⟩;simp![af,ah,aA,toF,aw,ay,aB,ai,aD,FV.v,ag,mL,pT];exact⟨⋯,hL _ _ (.inl ⟨u7,s2,Gr,O2,Ha,⋯,cj,by rw[Eh,al];rfl,Y⟩)⟩
   .let ej:j=↑old:=by symm
    subst ej;rw[Mf (yT _),VB] at hj;cases(show U ch=U d from hj)
    rw[List.drop_length] at Gj;cases Gj
    let⟨O2,Ha,RU⟩:=T.ok Oj Os;simp![af,ah,aA,toF,aw,ay,aB,ai,aD,FV.v,ag,mL,pT];calc⟨[(1,kO C a b m s),(2,pO b m ps)],⟨Y,Y,trivial⟩,?_⟩;simp![af,ah,aA,toF,aw,ay,aB,ai,aD,FV.v,ag,mL,pT];calc⟨a,b,m,s,s',ps,cW,ch,T,Oj,Os,⋯,Y,Y,λn1 n2 h1 h2=>?_⟩;rw[pe Oj h1,pe O2 h2];simp![af,ah,aA,toF,aw,ay,aB,ai,aD,FV.v,ag,mL,pT];exact⟨⋯,hL _ _ (.inr ⟨Y,O2,⟨acc,Y⟩,Y⟩)⟩
  .omega
 .ext acc δ (⟨pf,sj,Gj,Oj,Os,pl,jo,al,rfl⟩|⟨h,O2,⟨cG,rfl⟩,rfl⟩)
  .rw[Eh,VA] at jo
   symm
  .refine⟨Y,?_⟩
   subst hM;simp![af,ah,aA,toF,aw,ay,aB,ai,aD,FV.v,ag,mL,pT];rw[Cw];simp![af,ah,aA,toF,aw,ay,aB,ai,aD,FV.v,ag,mL,pT];calc⟨[(1,kO C a b m s')],⟨Y,trivial⟩,?_⟩;simp![af,ah,aA,toF,aw,ay,aB,ai,aD,FV.v,ag,mL,pT];calc⟨a,b,m,s',t,O2,ht,Y,Y,?_⟩;simp![af,ah,aA,toF,aw,ay,aB,ai,aD,FV.v,ag,mL,pT];calc⟨[_],[],[U _,U _],Y,Y,k⟩
abbrev xj:=LJT.a_ 5
noncomputable abbrev KL:KS:=⟨λ_=>False,λx _=>x=.p (.bl θ),λ_=>False,λ_=>False⟩
theorem Hb(us:-Int)(h:↑us<=1000):LJT.gy (bT us)=θ:=by
 let:∀us:-Int,LJT.eI (us.map D.int)=θ:=λus=>by
  induction us with
  |nil=>rfl
  |cons n r ih=>erw[Ve,LJT.eI,LJT.gy,ih,q1X]
 unfold bT LJT.gy;rw[this,pV,Vk h];rfl
theorem RW(m:Int)(ws:-(Int×Int×Int))(h:↑ws<=30):LJT.gy (aQ m ws)=θ:=by
 let:∀ws:-(Int×Int×Int),LJT.eI (ws.map aY)=θ:=λus=>by
  induction us with
  |nil=>rfl
  |cons n r ih=>erw[Ve,LJT.eI,ih,Z7];rfl
 let e:LJT.gy (.tup (ws.map aY))=θ:=by unfold LJT.gy;rw[this,pV,Vk ⋯];rfl
 unfold aQ;erw[LJT.gy,LJT.eI] at e ⊢;rw[e];rfl
theorem RX(m:Int)(ws:-(Int×Int×Int)):dep (aQ m ws)<=3:=by
 let:∀ws:-(Int×Int×Int),bB (ws.map aY)<=1:=λws=>by
  induction ws with
  |nil=>simp[bB]
  |cons n r ih=>erw[Ve,bB,dep,aY];symm
 let:=this ws;erw[aQ,dep,bB];symm
theorem RY{m:Int}{s:bK}(O:bJ m s):↑(kE m s)<=30:=by
 unfold kE bW;rw[pV]
 by_cases h:∃ns,aP (bQ s) ns
 .let⟨ns,h⟩:=h
  let W2:=rN O.fU (uO s.1 s.2);rw[<-G9 W2 h];let h1:=wR (m:=m) (ws:=bQ s) ns;let h2:=h.len;let h3:↑(bQ s)<=30:=W2.fq;symm
 .unfold og
  rw[dif_neg h];let h1:=wR (m:=m) (ws:=bQ s) [];rw[W9] at h1;symm
theorem look_same{m:Int}{s:bK}(O:bJ m s):dep (.lst (j8 m s))<=4/\LJT.gy (.lst (j8 m s))=θ:=by
 let i7:=O.fU.fq;let uW:=O.len;let UR:=RY O;let d1:=RX m s.1;let d2:=BE s.2;let d3:=BE (kE m s)
 constructor
 .erw[j8,bT,dep,bB]
  symm
 .let e1:=RW m s.1 i7
  let e2:=Hb s.2 ⋯;let e3:=Hb (kE m s) ⋯;erw[j8,LJT.gy,LJT.eI] at e1 e2 e3 ⊢;rw[e1,e2,e3];rfl
theorem RZ(xs ys:-Int):dep (kD xs ys)<=3/\LJT.gy (kD xs ys)=θ:=by
 unfold kD uV
 constructor
 .cases xs.filter (λn=>E (n∉ys))<;>cases ys.filter (λn=>E (n∉xs))<;>simp[dep,bB]
 .cases xs.filter (λn=>E (n∉ys))<;>cases ys.filter (λn=>E (n∉xs))<;>rfl
theorem xo{m:Int}{s s':bK}(O:bJ m s'):dep (.lst [rX m s s',.lst (j8 m s')])<=5/\LJT.gy (.lst [rX m s s',.lst (j8 m s')])=θ:=by
 let⟨a1,a2⟩:=look_same O;let⟨b1,b2⟩:=RZ (kE m s) (kE m s')
 constructor
 .erw[dep,bB,rX] at a1 b1 ⊢
  symm
 .erw[LJT.gy,LJT.eI,rX] at a2 b2 ⊢
  rw[a2,b2];rfl
theorem Turn.tup{m:Int}{ps cW:-bK}{s s':bK}{d:D}(h:Turn m ps s cW s' d):∃ds,d=.tup ds:=by cases h<;>calc⟨_,Y⟩
theorem Turn.len{m:Int}{ps cW:-bK}{s s':bK}{d:D}{k:Nat}(h:Turn m ps s cW s' d)(hs:↑s.1=k)(hp:∀t∈ps,↑t.1=k):↑s'.1=k/\∀t∈cW,↑t.1=k:=by
 cases h with
 |back=>exact⟨hp _ (by simp),λt ht=>hp t (Wl _ ht)⟩
 |price _ _ n p hn hq=>exact⟨by show↑(dR s.1 n p)=k;unfold dR;rw[VS];calc hs,λt ht=>(Vs.mp ht).elim (hp t) λe=>by rw[Vu.mp e];calc hs⟩
 |free _ _ n hn h=>exact⟨hs,λt ht=>(Vs.mp ht).elim (hp t) λe=>by rw[Vu.mp e];calc hs⟩
 |close _ _ n hn h=>calc⟨hs,λt ht=>(Vs.mp ht).elim (hp t) λe=>by rw[Vu.mp e];calc hs⟩
structure Kp(m:Int)(ws:-Wy)(old:-D)(ps:-bK)(s:bK)(i:Nat):Prop where
 go:Go m [] (ws,[]) old ps s
 ok:bJ m s
 os:∀t∈ps,bJ m t
 ln:↑s.1=↑ws
 lp:∀t∈ps,↑t.1=↑ws
 po:↑ps<=i
 oo:↑old<=i
 no:ws=[]->ps=[]/\s=([],[])
theorem Kp.mono{m:Int}{ws:-Wy}{old:-D}{ps:-bK}{s:bK}{i j:Nat}(h:Kp m ws old ps s i)(l:i<=j):Kp m ws old ps s j:=⟨h.go,h.ok,h.os,h.ln,h.lp,Vo h.po l,Vo h.oo l,h.no⟩
theorem Kp.turn{m:Int}{ws:-Wy}{old:-D}{ps cW:-bK}{s s':bK}{ch:D}{i:Nat}(h:Kp m ws old ps s i)(ne:ws≠[])(T:Turn m ps s cW s' ch):Kp m ws (old++[ch]) cW s' (i+1):=by
 let⟨a,b,c⟩:=T.ok h.ok h.os;let⟨d,e⟩:=T.len h.ln h.lp;calc⟨h.go.snoc T,a,b,d,e,by let:=h.po;symm,by rw[Eh,VA];let:=h.oo;symm,λz=>absurd z ne⟩
def CK(c_Keeper:O):WS:=(az (aU 2 (aF 2 fJ (aq (aF 1 wB (aq (aa 1) ak)) (aq (dC (.int 2)) ak)))) (az (aU 3 (lS (aq (aF 3 wC (aq (aa 1) (aq (dC (.int 6)) (aq (dC (.int 10)) ak)))) (aq (aF 3 wC (aq (aF 1 wB (aq (aa 1) ak)) (aq (dC (.int 6)) (aq (dC (.int 10)) ak)))) ak)))) (az (bC (dT (d2 (aa 2) (dC (.int 0)) oEq)) (jW (d2 (aa 3) (dC (.int 0)) bg) (aa 3) (dC (.int 1))) di) (az (aU 4 (bo (aJ (cM (aa 3))) [Z] (cz 0) dH (aB c_Keeper 2 (xh c_Keeper) (aq (aa 0) ak)))) (az (aU 5 (kX (cM (aa 3)) [Z] (cz 0) dH (c5 (aq (bN (aq (aa 0) (aq (c5 ak) ak))) ak)))) (az (aU 6 (br ι (aq (lS ak) (aq (lS ak) ak)))) (az (aU 7 (bp (aK (aa 4)) [Z] (cz 0) dH (ay ι 2 (rW c_Keeper) (aq (aa 0) (aq (dC (.int 0)) ak))))) (az (fR (oV (aq (d2 (dC (.int 10)) (aF 2 fJ (aq (aa 1) (aq (dC (.int 10)) ak))) cQ) ak)) (cz 8) (az (aU 9 (aF 2 fJ (aq (aa 1) (aq (dC (.int 2)) ak)))) (az (jQ (aF 2 CH (aq (aa 1) (aq (d2 (aa 5) (aa 9) bg) ak))) (mS 2 (iK (bt (aa 5) (aa 9)) (iK (cz 10) lU)))) (bC (dT (d2 (aa 10) (dC .non) wz)) (az (jr (jV (ah (aH (aa 6) (aa 9))) (aq (aa 10) ak))) (az (aU 11 (ay ι 2 (xn c_Keeper) (aq (aH (aa 4) (aa 9)) (aq (aa 10) ak)))) (az (aU 12 (aF 2 fJ (aq (aa 1) (aq (dC (.int 4)) ak)))) (az (jW (ay ι 2 (rW c_Keeper) (aq (aH (aa 4) (aa 9)) (aq (aa 12) ak))) (aa 7) (aa 9)) (az (bC (eV (dT (aF 2 xj (aq (c5 (aq (aa 11) (aq (d2 (aa 7) (aa 9) bg) ak))) (aq (ay ι 3 (CI c_Keeper) (aq (d2 (aa 3) (aa 9) bg) (aq (ah (aH (aa 6) (aa 9))) (aq (d2 (aa 12) (dC (.int 1)) cQ) ak)))) ak))))) (aR (dC (.bl ι))) di) (bC (eV (dT (aF 2 xj (aq (ay ι 2 (rW c_Keeper) (aq (aH (aa 4) (d2 (dC (.int 1)) (aa 9) (oI λi j=>.int (i-j)))) (aq (d2 (aa 12) (dC (.int 2)) cQ) ak))) (aq (d2 (aa 7) (d2 (dC (.int 1)) (aa 9) (oI λi j=>.int (i-j))) bg) ak))))) (aR (dC (.bl ι))) di)))))) di)))) (aR (dC (.bl θ)))))))))))
theorem R0(C:O)(ns:-Int)(hn:↑ns<=63):CK C KL ⟨Z::U (.o 0)::Ul 11 Z,[U (i5 ns 0 0)]⟩:=by
 let P0:bF 0 (i5 ns 0 0):=⟨ns,0,0,Y,hn,⋯,⋯⟩;unfold CK;calc aX λM hM=>?_;simp![af,ah,aA,toF,aw,ay,aB,ai,aD,FV.v,ag,mL,pT,bo,aJ,aK,bh,bp,bj,aL,br,aI,toF,bt,aH];calc⟨0,_,Y,Y,P0,λo1 P1=>?_⟩;simp![af,ah,aA,toF,aw,ay,aB,ai,aD,FV.v,ag,mL,pT,bo,aJ,aK,bh,bp,bj,aL,br,aI,toF,bt,aH];calc⟨0,2,o1,Y,Y,P1,⋯,⋯,by decide,λsame o2 _ _ P2=>?_⟩;simp![af,ah,aA,toF,aw,ay,aB,ai,aD,FV.v,ag,mL,pT,bo,aJ,aK,bh,bp,bj,aL,br,aI,toF,bt,aH];subst hM;calc aX λM hM=>?_;simp![af,ah,aA,toF,aw,ay,aB,ai,aD,FV.v,ag,mL,pT,bo,aJ,aK,bh,bp,bj,aL,br,aI,toF,bt,aH]
 calc⟨1,6,10,o2,Y,Y,P2.mono ⋯,⋯,⋯,⋯,⋯,⋯,λm0 w0 o3 W0 _ _ P3=>?_⟩;simp![af,ah,aA,toF,aw,ay,aB,ai,aD,FV.v,ag,mL,pT,bo,aJ,aK,bh,bp,bj,aL,br,aI,toF,bt,aH];calc⟨1+300,o3,Y,Y,P3,λo4 P4=>?_⟩;simp![af,ah,aA,toF,aw,ay,aB,ai,aD,FV.v,ag,mL,pT,bo,aJ,aK,bh,bp,bj,aL,br,aI,toF,bt,aH];calc⟨1+300,6,10,o4,Y,Y,P4,⋯,⋯,⋯,⋯,⋯,λmm ww o5 WW _ _ P5=>?_⟩;simp![af,ah,aA,toF,aw,ay,aB,ai,aD,FV.v,ag,mL,pT,bo,aJ,aK,bh,bp,bj,aL,br,aI,toF,bt,aH];subst hM;refine aX λM hM=>fS λA B hA hB=>?_
 let go:∀(m1:Int)(w1:-Wy),bz m1 w1->M ⟨[Z,U (.o 0),U (.p (.int same)),U (.o 1),Z,Z,Z,Z,Z,Z,Z,Z,Z],[U o5,U (.lst [aQ m0 w0,aQ m1 w1])]⟩:=by
  ext m1 w1 W1;subst hM;let O0:bJ m0 (w0,[]):=⟨W0,Yg,λn hn=>absurd hn Vf⟩;let O1:bJ m1 (w1,[]):=⟨W1,Yg,λn hn=>absurd hn Vf⟩;calc aX λM hM=>?_;simp![af,ah,aA,toF,aw,ay,aB,ai,aD,FV.v,ag,mL,pT,bo,aJ,aK,bh,bp,bj,aL,br,aI,toF,bt,aH];ext a0;calc⟨[(2,.ins a0 C [])],⟨Y,trivial⟩,?_⟩;simp![af,ah,aA,toF,aw,ay,aB,ai,aD,FV.v,ag,mL,pT,bo,aJ,aK,bh,bp,bj,aL,br,aI,toF,bt,aH];calc⟨a0,m0,w0,W0,Y,Y,λb0=>?_⟩;simp![af,ah,aA,toF,aw,ay,aB,ai,aD,FV.v,ag,mL,pT,bo,aJ,aK,bh,bp,bj,aL,br,aI,toF,bt,aH];ext a1;calc⟨[(4,.ins a1 C [])],⟨Y,trivial⟩,?_⟩;simp![af,ah,aA,toF,aw,ay,aB,ai,aD,FV.v,ag,mL,pT,bo,aJ,aK,bh,bp,bj,aL,br,aI,toF,bt,aH]
  calc⟨a1,m1,w1,W1,Y,Y,λb1=>?_⟩;simp![af,ah,aA,toF,aw,ay,aB,ai,aD,FV.v,ag,mL,pT,bo,aJ,aK,bh,bp,bj,aL,br,aI,toF,bt,aH];subst hM;calc aX λM hM=>?_;simp![af,ah,aA,toF,aw,ay,aB,ai,aD,FV.v,ag,mL,pT,bo,aJ,aK,bh,bp,bj,aL,br,aI,toF,bt,aH];refine L2.k9 (λd=>.lst [.tup [d,.lst []]]) (by show 2<=1000;decide) Y ?_ ?_
  .ext d hd acc L ha h
   simp![af,ah,aA,toF,aw,ay,aB,ai,aD,FV.v,ag,mL,pT,bo,aJ,aK,bh,bp,bj,aL,br,aI,toF,bt,aH];exact⟨ha,h⟩
  simp![af,ah,aA,toF,aw,ay,aB,ai,aD,FV.v,ag,mL,pT,bo,aJ,aK,bh,bp,bj,aL,br,aI,toF,bt,aH];subst hM;calc aX λM hM=>?_;simp![af,ah,aA,toF,aw,ay,aB,ai,aD,FV.v,ag,mL,pT,bo,aJ,aK,bh,bp,bj,aL,br,aI,toF,bt,aH];ext c0 c1;subst hM;calc aX λM hM=>?_;simp![af,ah,aA,toF,aw,ay,aB,ai,aD,FV.v,ag,mL,pT,bo,aJ,aK,bh,bp,bj,aL,br,aI,toF,bt,aH];calc⟨[(2,kO C a0 b0 m0 (w0,[]))],⟨Y,trivial⟩,?_⟩;simp![af,ah,aA,toF,aw,ay,aB,ai,aD,FV.v,ag,mL,pT,bo,aJ,aK,bh,bp,bj,aL,br,aI,toF,bt,aH];calc⟨a0,b0,m0,(w0,[]),0,O0,⋯,Y,Y,?_⟩;simp![af,ah,aA,toF,aw,ay,aB,ai,aD,FV.v,ag,mL,pT,bo,aJ,aK,bh,bp,bj,aL,br,aI,toF,bt,aH]
  calc⟨[(4,kO C a1 b1 m1 (w1,[]))],⟨Y,trivial⟩,?_⟩;simp![af,ah,aA,toF,aw,ay,aB,ai,aD,FV.v,ag,mL,pT,bo,aJ,aK,bh,bp,bj,aL,br,aI,toF,bt,aH];calc⟨a1,b1,m1,(w1,[]),0,O1,⋯,Y,Y,?_⟩;simp![af,ah,aA,toF,aw,ay,aB,ai,aD,FV.v,ag,mL,pT,bo,aJ,aK,bh,bp,bj,aL,br,aI,toF,bt,aH];calc⟨[.lst (j8 m0 (w0,[])),.lst (j8 m1 (w1,[]))],Y,?_⟩;subst hM;calc aX λM hM=>uw λg' b' K2 hg hb' hK=>?_;simp![af,ah,aA,toF,aw,ay,aB,ai,aD,FV.v,ag,mL,pT,bo,aJ,aK,bh,bp,bj,aL,br,aI,toF,bt,aH];calc⟨1+300+300,10,o5,Y,Y,P5,⋯,⋯,by decide,λz o6 z0 z1 P6=>?_⟩;simp![af,ah,aA,toF,aw,ay,aB,ai,aD,FV.v,ag,mL,pT,bo,aJ,aK,bh,bp,bj,aL,br,aI,toF,bt,aH]
  calc⟨⋯,?_⟩;subst hg hb' hK
  refine qy (λi δ=>∃o iC iB s0 iD l9 s1,bF (602+30*i) o/\Kp m0 w0 iC iB s0 i/\Kp m1 w1 iD l9 s1 i/\δ=⟨[Z,U (.o 0),U (.p (.int same)),U (.o 1),U (.u ι [.w a0,.w a1]),U (.o 6),U (.u ι [.w c0,.w c1]),U (.o 9),Z,Z,Z,Z,Z],[U o,U (.lst [aQ m0 w0,aQ m1 w1]),U (kO C a0 b0 m0 s0),U (pO b0 m0 iB),U (kO C a1 b1 m1 s1),U (pO b1 m1 l9),U (.lst [.lst ((iB++[s0]).map (eO m0)),.lst ((l9++[s1]).map (eO m1))]),U (.al c0 iC),U (.al c1 iD),U (.lst [.lst (j8 m0 s0),.lst (j8 m1 s1)])]⟩)
   ⟨o6,[],[],(w0,[]),[],[],(w1,[]),P6.mono ⋯,⟨.nil,O0,(λt ht=>absurd ht Vf),Y,(λt ht=>absurd ht Vf),yT _,yT _,λz=>⟨Y,by rw[z]⟩⟩,⟨.nil,O1,(λt ht=>absurd ht Vf),Y,(λt ht=>absurd ht Vf),yT _,yT _,λz=>⟨Y,by rw[z]⟩⟩,Y⟩ ?_ ?_
  .ext i d δ L hi ⟨o,iC,iB,s0,iD,l9,s1,P,K0,K1,rfl⟩ hL
   let⟨R1,rfl⟩:=oW hi;let R1:i<20:=by symm
   calc⟨trivial,?_⟩;erw[cz,Wi,Wj];calc aX λM2 fh=>?_;simp![af,ah,aA,toF,aw,ay,aB,ai,aD,FV.v,ag,mL,pT,bo,aJ,aK,bh,bp,bj,aL,br,aI,toF,bt,aH];calc⟨602+30*i,2,o,Y,Y,P,⋯,⋯,by decide,λx oa x0 x1 Pa=>?_⟩;simp![af,ah,aA,toF,aw,ay,aB,ai,aD,FV.v,ag,mL,pT,bo,aJ,aK,bh,bp,bj,aL,br,aI,toF,bt,aH];subst fh;calc aX λM2 fh=>?_;let hx:x=0\/x=1:=by symm
   rcases hx with rfl|rfl
   .let i7:=K0.ok.fU.fq
    by_cases ne:w0=[]
    .let⟨rfl,rfl⟩:=K0.no ne
     subst ne;simp![af,ah,aA,toF,aw,ay,aB,ai,aD,FV.v,ag,mL,pT,bo,aJ,aK,bh,bp,bj,aL,br,aI,toF,bt,aH,dj];calc .inr ⟨602+30*i+1,m0,oa,W0,Y,Y,Pa,⋯,λob Pb=>?_⟩;simp![af,ah,aA,toF,aw,ay,aB,ai,aD,FV.v,ag,mL,pT,bo,aJ,aK,bh,bp,bj,aL,br,aI,toF,bt,aH,show eK 2 0=U 0 from Y];subst fh;calc fS λA B hA hB=>?_;simp![af,ah,aA,toF,aw,ay,aB,ai,aD,FV.v,ag,mL,pT,bo,aJ,aK,bh,bp,bj,aL,br,aI,toF,bt,aH];subst hB;simp![af,ah,aA,toF,aw,ay,aB,ai,aD,FV.v,ag,mL,pT,bo,aJ,aK,bh,bp,bj,aL,br,aI,toF,bt,aH];exact hL _ ⟨ob,iC,_,_,iD,_,_,Pb.mono ⋯,K0.mono ⋯,K1.mono ⋯,Y⟩
    .let CL:s0.1≠[]:=λz=>ne (Xs.mp (by rw[<-K0.ln,z];rfl))
     let po:=K0.po;let oo:=K0.oo;simp![af,ah,aA,toF,aw,ay,aB,ai,aD,FV.v,ag,mL,pT,bo,aJ,aK,bh,bp,bj,aL,br,aI,toF,bt,aH,dj];calc .inl ⟨602+30*i+1,m0,oa,s0,iB,K0.ok,K0.os,CL,⋯,Y,Y,Pa,⋯,λcW s' ch ob T Pb=>?_⟩;let⟨cs,rfl⟩:=T.tup;let K':=K0.turn ne T;let⟨O',R3,R4⟩:=T.ok K0.ok K0.os;simp![af,ah,aA,toF,aw,ay,aB,ai,aD,FV.v,ag,mL,pT,bo,aJ,aK,bh,bp,bj,aL,br,aI,toF,bt,aH,show eK 2 0=U 0 from Y];subst fh;calc fS λA B hA hB=>?_;simp![af,ah,aA,toF,aw,ay,aB,ai,aD,FV.v,ag,mL,pT,bo,aJ,aK,bh,bp,bj,aL,br,aI,toF,bt,aH];subst hA;refine aX λM2 fh=>?_
     simp![af,ah,aA,toF,aw,ay,aB,ai,aD,FV.v,ag,mL,pT,bo,aJ,aK,bh,bp,bj,aL,br,aI,toF,bt,aH];calc⟨ι,_,0,_,⟨Y,Y,dj⟩,?_⟩;simp![af,ah,aA,toF,aw,ay,aB,ai,aD,FV.v,ag,mL,pT,bo,aJ,aK,bh,bp,bj,aL,br,aI,toF,bt,aH];calc⟨c0,7,_,⟨Y,Y,Y⟩,?_⟩;simp![af,ah,aA,toF,aw,ay,aB,ai,aD,FV.v,ag,mL,pT,bo,aJ,aK,bh,bp,bj,aL,br,aI,toF,bt,aH];calc⟨⋯,?_⟩;subst fh;calc aX λM2 fh=>?_;simp![af,ah,aA,toF,aw,ay,aB,ai,aD,FV.v,ag,mL,pT,bo,aJ,aK,bh,bp,bj,aL,br,aI,toF,bt,aH];calc⟨ι,_,0,_,⟨Y,Y,dj⟩,?_⟩;simp![af,ah,aA,toF,aw,ay,aB,ai,aD,FV.v,ag,mL,pT,bo,aJ,aK,bh,bp,bj,aL,br,aI,toF,bt,aH]
     calc⟨[(2,kO C a0 b0 m0 s0),(3,pO b0 m0 iB)],⟨Y,Y,trivial⟩,?_⟩;simp![af,ah,aA,toF,aw,ay,aB,ai,aD,FV.v,ag,mL,pT,bo,aJ,aK,bh,bp,bj,aL,br,aI,toF,bt,aH];calc⟨a0,b0,m0,s0,s',iB,cW,.tup cs,T,K0.ok,K0.os,⋯,Y,Y,λn3 n4 h3 h4=>?_⟩;rw[pe K0.ok h3,pe O' h4];simp![af,ah,aA,toF,aw,ay,aB,ai,aD,FV.v,ag,mL,pT,bo,aJ,aK,bh,bp,bj,aL,br,aI,toF,bt,aH];subst fh;calc aX λM2 fh=>?_;simp![af,ah,aA,toF,aw,ay,aB,ai,aD,FV.v,ag,mL,pT,bo,aJ,aK,bh,bp,bj,aL,br,aI,toF,bt,aH];calc⟨602+30*i+1+10,4,ob,Y,Y,Pb,⋯,⋯,by decide,λtn oc t0 t1 Pc=>?_⟩;simp![af,ah,aA,toF,aw,ay,aB,ai,aD,FV.v,ag,mL,pT,bo,aJ,aK,bh,bp,bj,aL,br,aI,toF,bt,aH]
     subst fh;calc aX λM2 fh=>?_;simp![af,ah,aA,toF,aw,ay,aB,ai,aD,FV.v,ag,mL,pT,bo,aJ,aK,bh,bp,bj,aL,br,aI,toF,bt,aH];calc⟨ι,_,0,_,⟨Y,Y,dj⟩,?_⟩;simp![af,ah,aA,toF,aw,ay,aB,ai,aD,FV.v,ag,mL,pT,bo,aJ,aK,bh,bp,bj,aL,br,aI,toF,bt,aH];calc⟨[(2,kO C a0 b0 m0 s')],⟨Y,trivial⟩,?_⟩;simp![af,ah,aA,toF,aw,ay,aB,ai,aD,FV.v,ag,mL,pT,bo,aJ,aK,bh,bp,bj,aL,br,aI,toF,bt,aH];calc⟨a0,b0,m0,s',tn,O',t0,Y,Y,?_⟩;simp![af,ah,aA,toF,aw,ay,aB,ai,aD,FV.v,ag,mL,pT,bo,aJ,aK,bh,bp,bj,aL,br,aI,toF,bt,aH,show eK 2 0=U 0 from Y];subst fh;refine aX λM2 fh=>fS λA B hA hB=>?_
     simp![af,ah,aA,toF,aw,ay,aB,ai,aD,FV.v,ag,mL,pT,bo,aJ,aK,bh,bp,bj,aL,br,aI,toF,bt,aH,dj];calc⟨ι,_,0,_,⟨Y,Y,dj⟩,?_⟩;simp![af,ah,aA,toF,aw,ay,aB,ai,aD,FV.v,ag,mL,pT,bo,aJ,aK,bh,bp,bj,aL,br,aI,toF,bt,aH];calc⟨c0,7,_,⟨Y,Y,Y⟩,?_⟩;calc⟨[],trivial,?_⟩;simp![af,ah,aA,toF,aw,ay,aB,ai,aD,FV.v,ag,mL,pT,bo,aJ,aK,bh,bp,bj,aL,br,aI,toF,bt,aH];calc⟨m0,tn+1,w0,iC,.tup cs,iB,cW,s0,s',c0,W0,K0.go,T,⋯,⋯,Y,Y,?_⟩;simp![af,ah,aA,toF,aw,ay,aB,ai,aD,FV.v,ag,mL,pT,bo,aJ,aK,bh,bp,bj,aL,br,aI,toF,bt,aH];refine⟨_,(xo (s:=s0) O').1,by decide,(xo (s:=s0) O').2,Y,Y,?_⟩
     simp![af,ah,aA,toF,aw,ay,aB,ai,aD,FV.v,ag,mL,pT,bo,aJ,aK,bh,bp,bj,aL,br,aI,toF,bt,aH];subst hB;show M2 _;subst fh;calc fS λA B hA hB=>?_;simp![af,ah,aA,toF,aw,ay,aB,ai,aD,FV.v,ag,mL,pT,bo,aJ,aK,bh,bp,bj,aL,br,aI,toF,bt,aH];calc⟨ι,_,1,_,⟨Y,Y,c_⟩,?_⟩;simp![af,ah,aA,toF,aw,ay,aB,ai,aD,FV.v,ag,mL,pT,bo,aJ,aK,bh,bp,bj,aL,br,aI,toF,bt,aH];calc⟨[(4,kO C a1 b1 m1 s1)],⟨Y,trivial⟩,?_⟩;simp![af,ah,aA,toF,aw,ay,aB,ai,aD,FV.v,ag,mL,pT,bo,aJ,aK,bh,bp,bj,aL,br,aI,toF,bt,aH];calc⟨a1,b1,m1,s1,tn+2,K1.ok,⋯,Y,Y,?_⟩;simp![af,ah,aA,toF,aw,ay,aB,ai,aD,FV.v,ag,mL,pT,bo,aJ,aK,bh,bp,bj,aL,br,aI,toF,bt,aH,show(1:Int)-0=1 from Y,c_]
     calc⟨_,Vo (look_same K1.ok).1 (by decide),by decide,(look_same K1.ok).2,Y,Y,?_⟩;simp![af,ah,aA,toF,aw,ay,aB,ai,aD,FV.v,ag,mL,pT,bo,aJ,aK,bh,bp,bj,aL,br,aI,toF,bt,aH];subst hB;simp![af,ah,aA,toF,aw,ay,aB,ai,aD,FV.v,ag,mL,pT,bo,aJ,aK,bh,bp,bj,aL,br,aI,toF,bt,aH];exact hL _ ⟨oc,_,cW,s',iD,l9,s1,Pc.mono ⋯,K',K1.mono ⋯,Y⟩
   .let i7:=K1.ok.fU.fq
    by_cases ne:w1=[]
    .let⟨rfl,rfl⟩:=K1.no ne
     subst ne;simp![af,ah,aA,toF,aw,ay,aB,ai,aD,FV.v,ag,mL,pT,bo,aJ,aK,bh,bp,bj,aL,br,aI,toF,bt,aH,c_];calc .inr ⟨602+30*i+1,m1,oa,W1,Y,Y,Pa,⋯,λob Pb=>?_⟩;simp![af,ah,aA,toF,aw,ay,aB,ai,aD,FV.v,ag,mL,pT,bo,aJ,aK,bh,bp,bj,aL,br,aI,toF,bt,aH,show eK 2 1=U 1 from Y];subst fh;calc fS λA B hA hB=>?_;simp![af,ah,aA,toF,aw,ay,aB,ai,aD,FV.v,ag,mL,pT,bo,aJ,aK,bh,bp,bj,aL,br,aI,toF,bt,aH];subst hB;simp![af,ah,aA,toF,aw,ay,aB,ai,aD,FV.v,ag,mL,pT,bo,aJ,aK,bh,bp,bj,aL,br,aI,toF,bt,aH];exact hL _ ⟨ob,iC,_,_,iD,_,_,Pb.mono ⋯,K0.mono ⋯,K1.mono ⋯,Y⟩
    .let CL:s1.1≠[]:=λz=>ne (Xs.mp (by rw[<-K1.ln,z];rfl))
     let po:=K1.po;let oo:=K1.oo;simp![af,ah,aA,toF,aw,ay,aB,ai,aD,FV.v,ag,mL,pT,bo,aJ,aK,bh,bp,bj,aL,br,aI,toF,bt,aH,c_];calc .inl ⟨602+30*i+1,m1,oa,s1,l9,K1.ok,K1.os,CL,⋯,Y,Y,Pa,⋯,λcW s' ch ob T Pb=>?_⟩;let⟨cs,rfl⟩:=T.tup;let K':=K1.turn ne T;let⟨O',R3,R4⟩:=T.ok K1.ok K1.os;simp![af,ah,aA,toF,aw,ay,aB,ai,aD,FV.v,ag,mL,pT,bo,aJ,aK,bh,bp,bj,aL,br,aI,toF,bt,aH,show eK 2 1=U 1 from Y];subst fh;calc fS λA B hA hB=>?_;simp![af,ah,aA,toF,aw,ay,aB,ai,aD,FV.v,ag,mL,pT,bo,aJ,aK,bh,bp,bj,aL,br,aI,toF,bt,aH];subst hA;refine aX λM2 fh=>?_
     simp![af,ah,aA,toF,aw,ay,aB,ai,aD,FV.v,ag,mL,pT,bo,aJ,aK,bh,bp,bj,aL,br,aI,toF,bt,aH];calc⟨ι,_,1,_,⟨Y,Y,c_⟩,?_⟩;simp![af,ah,aA,toF,aw,ay,aB,ai,aD,FV.v,ag,mL,pT,bo,aJ,aK,bh,bp,bj,aL,br,aI,toF,bt,aH];calc⟨c1,8,_,⟨Y,Y,Y⟩,?_⟩;simp![af,ah,aA,toF,aw,ay,aB,ai,aD,FV.v,ag,mL,pT,bo,aJ,aK,bh,bp,bj,aL,br,aI,toF,bt,aH];calc⟨⋯,?_⟩;subst fh;calc aX λM2 fh=>?_;simp![af,ah,aA,toF,aw,ay,aB,ai,aD,FV.v,ag,mL,pT,bo,aJ,aK,bh,bp,bj,aL,br,aI,toF,bt,aH];calc⟨ι,_,1,_,⟨Y,Y,c_⟩,?_⟩;simp![af,ah,aA,toF,aw,ay,aB,ai,aD,FV.v,ag,mL,pT,bo,aJ,aK,bh,bp,bj,aL,br,aI,toF,bt,aH]
     calc⟨[(4,kO C a1 b1 m1 s1),(5,pO b1 m1 l9)],⟨Y,Y,trivial⟩,?_⟩;simp![af,ah,aA,toF,aw,ay,aB,ai,aD,FV.v,ag,mL,pT,bo,aJ,aK,bh,bp,bj,aL,br,aI,toF,bt,aH];calc⟨a1,b1,m1,s1,s',l9,cW,.tup cs,T,K1.ok,K1.os,⋯,Y,Y,λn3 n4 h3 h4=>?_⟩;rw[pe K1.ok h3,pe O' h4];simp![af,ah,aA,toF,aw,ay,aB,ai,aD,FV.v,ag,mL,pT,bo,aJ,aK,bh,bp,bj,aL,br,aI,toF,bt,aH];subst fh;calc aX λM2 fh=>?_;simp![af,ah,aA,toF,aw,ay,aB,ai,aD,FV.v,ag,mL,pT,bo,aJ,aK,bh,bp,bj,aL,br,aI,toF,bt,aH];calc⟨602+30*i+1+10,4,ob,Y,Y,Pb,⋯,⋯,by decide,λtn oc t0 t1 Pc=>?_⟩;simp![af,ah,aA,toF,aw,ay,aB,ai,aD,FV.v,ag,mL,pT,bo,aJ,aK,bh,bp,bj,aL,br,aI,toF,bt,aH]
     subst fh;calc aX λM2 fh=>?_;simp![af,ah,aA,toF,aw,ay,aB,ai,aD,FV.v,ag,mL,pT,bo,aJ,aK,bh,bp,bj,aL,br,aI,toF,bt,aH];calc⟨ι,_,1,_,⟨Y,Y,c_⟩,?_⟩;simp![af,ah,aA,toF,aw,ay,aB,ai,aD,FV.v,ag,mL,pT,bo,aJ,aK,bh,bp,bj,aL,br,aI,toF,bt,aH];calc⟨[(4,kO C a1 b1 m1 s')],⟨Y,trivial⟩,?_⟩;simp![af,ah,aA,toF,aw,ay,aB,ai,aD,FV.v,ag,mL,pT,bo,aJ,aK,bh,bp,bj,aL,br,aI,toF,bt,aH];calc⟨a1,b1,m1,s',tn,O',t0,Y,Y,?_⟩;simp![af,ah,aA,toF,aw,ay,aB,ai,aD,FV.v,ag,mL,pT,bo,aJ,aK,bh,bp,bj,aL,br,aI,toF,bt,aH,show eK 2 1=U 1 from Y];subst fh;refine aX λM2 fh=>fS λA B hA hB=>?_
     simp![af,ah,aA,toF,aw,ay,aB,ai,aD,FV.v,ag,mL,pT,bo,aJ,aK,bh,bp,bj,aL,br,aI,toF,bt,aH,c_];calc⟨ι,_,1,_,⟨Y,Y,c_⟩,?_⟩;simp![af,ah,aA,toF,aw,ay,aB,ai,aD,FV.v,ag,mL,pT,bo,aJ,aK,bh,bp,bj,aL,br,aI,toF,bt,aH];calc⟨c1,8,_,⟨Y,Y,Y⟩,?_⟩;calc⟨[],trivial,?_⟩;simp![af,ah,aA,toF,aw,ay,aB,ai,aD,FV.v,ag,mL,pT,bo,aJ,aK,bh,bp,bj,aL,br,aI,toF,bt,aH];calc⟨m1,tn+1,w1,iD,.tup cs,l9,cW,s1,s',c1,W1,K1.go,T,⋯,⋯,Y,Y,?_⟩;simp![af,ah,aA,toF,aw,ay,aB,ai,aD,FV.v,ag,mL,pT,bo,aJ,aK,bh,bp,bj,aL,br,aI,toF,bt,aH];refine⟨_,(xo (s:=s1) O').1,by decide,(xo (s:=s1) O').2,Y,Y,?_⟩
     simp![af,ah,aA,toF,aw,ay,aB,ai,aD,FV.v,ag,mL,pT,bo,aJ,aK,bh,bp,bj,aL,br,aI,toF,bt,aH];subst hB;show M2 _;subst fh;calc fS λA B hA hB=>?_;simp![af,ah,aA,toF,aw,ay,aB,ai,aD,FV.v,ag,mL,pT,bo,aJ,aK,bh,bp,bj,aL,br,aI,toF,bt,aH];calc⟨ι,_,0,_,⟨Y,Y,dj⟩,?_⟩;simp![af,ah,aA,toF,aw,ay,aB,ai,aD,FV.v,ag,mL,pT,bo,aJ,aK,bh,bp,bj,aL,br,aI,toF,bt,aH];calc⟨[(2,kO C a0 b0 m0 s0)],⟨Y,trivial⟩,?_⟩;simp![af,ah,aA,toF,aw,ay,aB,ai,aD,FV.v,ag,mL,pT,bo,aJ,aK,bh,bp,bj,aL,br,aI,toF,bt,aH];calc⟨a0,b0,m0,s0,tn+2,K0.ok,⋯,Y,Y,?_⟩;simp![af,ah,aA,toF,aw,ay,aB,ai,aD,FV.v,ag,mL,pT,bo,aJ,aK,bh,bp,bj,aL,br,aI,toF,bt,aH,show(1:Int)-1=0 from Y,dj]
     calc⟨_,Vo (look_same K0.ok).1 (by decide),by decide,(look_same K0.ok).2,Y,Y,?_⟩;simp![af,ah,aA,toF,aw,ay,aB,ai,aD,FV.v,ag,mL,pT,bo,aJ,aK,bh,bp,bj,aL,br,aI,toF,bt,aH];subst hB;simp![af,ah,aA,toF,aw,ay,aB,ai,aD,FV.v,ag,mL,pT,bo,aJ,aK,bh,bp,bj,aL,br,aI,toF,bt,aH];exact hL _ ⟨oc,iC,iB,s0,_,cW,s',Pc.mono ⋯,K0.mono ⋯,K',Y⟩
  .ext δ ⟨o,iC,iB,s0,iD,l9,s1,P,K0,K1,rfl⟩
   calc⟨trivial,?_⟩;show M _;subst hM;simp![af,ah,aA,toF,aw,ay,aB,ai,aD,FV.v,ag,mL,pT,bo,aJ,aK,bh,bp,bj,aL,br,aI,toF,bt,aH]
 simp![af,ah,aA,toF,aw,ay,aB,ai,aD,FV.v,ag,mL,pT,bo,aJ,aK,bh,bp,bj,aL,br,aI,toF,bt,aH]
 by_cases cs:same=0
 .subst cs
  rw[show aO (.int 0) (.int 0)=θ from Y];simp![af,ah,aA,toF,aw,ay,aB,ai,aD,FV.v,ag,mL,pT,bo,aJ,aK,bh,bp,bj,aL,br,aI,toF,bt,aH];subst hA;simp![af,ah,aA,toF,aw,ay,aB,ai,aD,FV.v,ag,mL,pT,bo,aJ,aK,bh,bp,bj,aL,br,aI,toF,bt,aH,dj,show eK 2 1=U 1 from Y];exact go m0 w0 W0
 .rw[qF,Vd cs]
  simp![af,ah,aA,toF,aw,ay,aB,ai,aD,FV.v,ag,mL,pT,bo,aJ,aK,bh,bp,bj,aL,br,aI,toF,bt,aH];subst hB;show M _;calc go mm ww WW
end LJ
namespace HT
open PySem PySem.Spec PyProof.Rows
section
open PySem.SeqAt
open PySem.AutoSeq1 (wpAny_loadPart')
open PySem.MeetsSeq PySem.MeetsSeq2 PySem.MeetsSeq3
end
section
variable{prog:l}{w:g}{A:q}{E:bw}{s:B}
end
end HT
namespace L2
open PySem PySem.Spec PyProof.Rows PySem.W
section
variable{X:Cx}{pins:aM}{σ:St}{H:Hp}{s:B}{E:bw}{l q I S:O}{P:-V->Hp->Prop}{xs:-V}{d:L}{R:Result->B->Prop}
end
variable[aV]
section
variable{X:Cx}{params:Arguments}{body:M}{scope:o}{fA:y}{x:J}{Nb:-J}{cp:-(Option Nat)}{fb:WE}{T:O}
variable{e:M}{f:WE}{p1 q1 iT R5:y}
end
end L2
namespace L2
open PySem PySem.Spec PyProof.Rows
noncomputable def R6:M->-J
 |.Name x _=>[x]
 |.Tuple es _ _=>es.filterMap fun
  |.Name x _=>U x
  |_=>Z
 |_=>[]
noncomputable def du(N:-J)(cp:-(Option Nat))(tg:M):-J:=R6 tg++cp.filterMap λc=>c.bind λi=>N[i]?
variable[aV]
section
variable{X:Cx}{tg iter elt:M}{ifs:-M}{scope:o}{pos:y}{w:WI}{g:WG}{t:WT}{f:WE}{cp:-(Option Nat)}
theorem R7(hi:JI X tg iter (iL w))(hg:∀d,(du X.N cp tg).Nodup->JG (cb X scope (du X.N cp tg) d) tg (gu g))(hf:∀d,JF (cb X scope (du X.N cp tg) d) ifs (cP t))(he:∀d,JE (cb X scope (du X.N cp tg) d) elt (tD f))(hc:X.calm=θ:=by rfl)(hn:E (du X.N cp tg).Nodup=θ:=by kernel_rfl)
  (hk:scope.kind=.function:=by rfl) (ho:jj X.N X.env.scope scope (du X.N cp tg) cp=θ:=by kernel_rfl) (hs:∀x,foldedSetIterable iter X.env x=pure x:=by ext _;rfl) :
  JE X (.ListComp elt [⟨tg,iter,ifs,0⟩] scope pos) (tD (gF w cp g t f)):=zB cp _ hc hi (λd=>hg d (Wb hn)) hf he hk ho hs
theorem R8(hi:JI X tg iter (iL w))(hg:∀d,(du X.N cp tg).Nodup->JG (cb X scope (du X.N cp tg) d) tg (gu g))(hf:∀d,JF (cb X scope (du X.N cp tg) d) ifs (cP t))(he:∀d,JE (cb X scope (du X.N cp tg) d) elt (tD f))(hc:X.calm=θ:=by rfl)(hn:E (du X.N cp tg).Nodup=θ:=by kernel_rfl)
  (hk:scope.kind=.function:=by rfl) (ho:jj X.N X.env.scope scope (du X.N cp tg) cp=θ:=by kernel_rfl) (hs:∀x,foldedSetIterable iter X.env x=pure x:=by ext _;rfl) :
  JE X (.ListComp elt [⟨tg,iter,ifs,0⟩] scope pos) (tD (kX w cp g t f)):=E7 cp _ hc hi (λd=>hg d (Wb hn)) hf he hk ho hs
theorem R9[jq]{i:Nat}{x:J}{pos' dA:y}(hN:X.N.Nodup)(hit:JI X tg iter (iL w))(hg:∀d,(du X.N cp tg).Nodup->JG (cb X scope (du X.N cp tg) d) tg (gu g))(hf:∀d,JF (cb X scope (du X.N cp tg) d) ifs (cP t))(he:∀d,JE (cb X scope (du X.N cp tg) d) elt (tD f))(hi:X.N[i]?=U x:=by rfl)(hx:Loc X.env.scope x:=by trivial)(hc:X.calm=θ:=by rfl)(hn:E (du X.N cp tg).Nodup=θ:=by kernel_rfl)
  (hk:scope.kind=.function:=by rfl) (ho:jj X.N X.env.scope scope (du X.N cp tg) cp=θ:=by kernel_rfl) (hs:∀x,foldedSetIterable iter X.env x=pure x:=by ext _;rfl)
  (kN:swapsWith (.ListComp elt [⟨tg,iter,ifs,0⟩] scope pos) (U (.Name x pos')) dA.line X.env=pure θ:=by rfl)
  (iG:ft X x:=by first|exact .inl Y|exact .inr Y|assumption) :
  JS X (.Assign [.Name x pos'] (.ListComp elt [⟨tg,iter,ifs,0⟩] scope pos) dA) (dG (aU i (gF w cp g t f))):=E8 cp _ hN hi hx hc hit (λd=>hg d (Wb hn)) hf he hk ho hs kN iG
end
end L2
namespace LJ
open PySem L2 PySem.Spec PySem.W PyProof.Rows
variable[aV]{X:Cx}{Z:Ev}{x:J}{ps:-J}{G:GD}{e:M}{es:-M}{fa:WA}{p pos:y}{j k n:Nat}
end LJ
namespace LJ
open PySem L2 PySem.Spec PySem.W PyProof.Rows
section
variable[aV]
structure Kx(K:Ee)(C:O)(fs:-J):Prop where
 c:ib K C
 n:∀f∈fs,cK K C f
theorem Kx.at{K:Ee}{C:O}{fs:-J}(h:Kx K C fs)(f:J)(e:fs.contains f=θ:=by rfl):cK K C f:=h.n f (ZD.mp e)
structure Fk(V:Ev)(C:O)(k:Nat)(m:J)(ps:-J)(n:Nat)(G:GK):Prop where
 ex:∃f fd,Meth V.K C m f/\bY V.P V.w V.K V.mg V.base eM k f fd ps (kC G n)/\Binds V.K fd ps []
structure Fq(V:Ev)(k:Nat)(x:J)(ps:-J)(n:Nat)(G:GK):Prop where
 ex:∃f fd,Fn V.P V.w V.K V.mg V.base k x ps (kC G n) f fd
structure Fc(V:Ev)(C:O)(k:Nat)(x:J)(ps:-J)(n:Nat)(G:GK):Prop where
 ex:∃f fd,V.mg x=U (.ref C)/\Mk V.K C f/\bY V.P V.w V.K V.mg V.base eM k f fd ps (kC G n)/\Binds V.K fd ps []
def Dm(V:Ev)(C:O)(m q:J)(st:R):Prop:=∃f fd,Meth V.K C m f/\f_ V.K m q st f fd
def Dc(V:Ev)(C:O)(x q:J)(st:R):Prop:=∃f fd,(V.mg x=U (.ref C)/\Mk V.K C f)/\f_ V.K "__init__" q st f fd
section
variable{X:Cx}{C:O}{x m:J}{ps:-J}{G:GK}{e o:M}{es:-M}{fa:WA}{fo:WE}{p pos apos:y}{j k n:Nat}
theorem jc(r:Bool)(F:Fq ⟨X.prog,X.w,X.K,X.mg,X.base⟩ j x ps n G)(hr:bc k X.A)(ha:JA X (e::es) (cf fa))(hj:q0T j k=θ:=by rfl)(hg:Gl X x:=by rfl)(dX:b8 x:=by decide)(he:cF X e es:=by rfl)(dg:cR X pos es:=by rfl):
  JE X (.Call (.Name x p) (e::es) [] pos) (tD (ay r n G fa)):=let⟨_,_,F⟩:=F.ex;QT r F.ok (hr.mono (Wv hj)) hg F.vO F.kp F.bd ha dX he dg
theorem u9(F:Fc ⟨X.prog,X.w,X.K,X.mg,X.base⟩ C j x ps n G)(hr:bc k X.A)(ha:JA X (e::es) (cf fa))(hj:q0T (j+1) k=θ:=by rfl)(hg:Gl X x:=by rfl)(dX:b8 x:=by decide)(he:cF X e es:=by rfl)(dg:cR X pos es:=by rfl):
  JE X (.Call (.Name x p) (e::es) [] pos) (tD (aB C n G fa)):=let⟨_,_,a,M,F,B⟩:=F.ex;QY M F (hr.mono (Wv hj)) hg a B ha dX he dg
theorem fW {pl:q41 Bool} (r:Bool) (c:ib X.K C) (F:Fk ⟨X.prog,X.w,X.K,X.mg,X.base⟩ C j m ps n G) (hr:bc k X.A) (ho:JE X o (tD fo)) (ha:JA X (e :: es) (cf fa)) (hj:q0T j k=θ:=by rfl)
  (iP:cF X e es:=by rfl) (dg:cR X pos es:=by rfl)
  (ht:eval (.Call (.Attribute o m apos) (e :: es) [] pos) X.env=(do
   let ov <- eval o X.env
   standAt apos.atName
   let (f,first) <- holding [ov] (getMethod ov m pl)
   callWith pos f first (backTo pos (starEach (e :: es) X.env)) (backToKw pos (keywordEach [] X.env))):=by rfl) :
  JE X (.Call (.Attribute o m apos) (e :: es) [] pos) (tD (aw r C m n G fo fa)):=let ⟨_,_,M,F,B⟩:=F.ex; QV r c M F (hr.mono (Wv hj)) B ho ha iP dg ht
theorem ph {pl:q41 Bool} (r:Bool) (c:ib X.K C) (F:Fk ⟨X.prog,X.w,X.K,X.mg,X.base⟩ C j m ps n G) (hr:bc k X.A) (ho:JE X o (tD fo)) (hj:q0T j k=θ:=by rfl)
  (ht:eval (.Call (.Attribute o m apos) [] [] pos) X.env=(do
   let ov <- eval o X.env
   standAt apos.atName
   let (f,first) <- holding [ov] (getMethod ov m pl)
   callWith pos f first (backTo pos (starEach [] X.env)) (backToKw pos (keywordEach [] X.env))):=by rfl) :
  JE X (.Call (.Attribute o m apos) [] [] pos) (tD (aw r C m n G fo ak)):=let ⟨_,_,M,F,B⟩:=F.ex; QW r c M F (hr.mono (Wv hj)) B ho ht
end
def lH(x q:J)(st:R)(ps:-J):Prop:=∀(kV doc pm:L)(an:Option O)(bq ct:L)(us:-L),↑us=↑ps->bindArgs (VE x q (iV st) (fN st) (cH st) .none kV doc pm an bq ct) ⟨us,[]⟩=pure (ps.zip us)
theorem u_{x q:J}{st:R}{ps:-J}(h:∀(kV doc pm:L) (an:Option O) (bq ct a:L),bindArgs (VE x q (iV st) (fN st) (cH st) .none kV doc pm an bq ct) ⟨[a],[]⟩=pure (ps.zip [a]):=by intros;rfl)(hl:↑ps=1:=by rfl):lH x q st ps:=λkV doc pm an bq ct us hu=>by
 let⟨a,rfl⟩:=Cm (hu.trans hl);calc h kV doc pm an bq ct a
theorem xp{x q:J}{st:R}{ps:-J}(h:∀(kV doc pm:L) (an:Option O) (bq ct a b:L),bindArgs (VE x q (iV st) (fN st) (cH st) .none kV doc pm an bq ct) ⟨[a,b],[]⟩=pure (ps.zip [a,b]):=by intros;rfl)(hl:↑ps=2:=by rfl):lH x q st ps:=λkV doc pm an bq ct us hu=>by
 let⟨a,b,rfl⟩:=Co (hu.trans hl);calc h kV doc pm an bq ct a b
theorem CM{x q:J}{st:R}{ps:-J}(h:∀(kV doc pm:L) (an:Option O) (bq ct a b c:L),bindArgs (VE x q (iV st) (fN st) (cH st) .none kV doc pm an bq ct) ⟨[a,b,c],[]⟩=pure (ps.zip [a,b,c]):=by intros;rfl)(hl:↑ps=3:=by rfl):lH x q st ps:=λkV doc pm an bq ct us hu=>by
 let⟨a,b,c,rfl⟩:=G3 (hu.trans hl);calc h kV doc pm an bq ct a b c
section
variable{V:Ev}{C:O}{x m q:J}{st:R}{N ps:-J}{k:Nat}{G:GK}
abbrev CN(V:Ev)(N ps:-J)(q:J)(st:R)(k:Nat)(G:GK):Prop:=∀{bq:L}{A:Β}{outer:-t}{s:ο}{H:Hp}{E:XK}{f:O},bc k (A.deeper (envOfC q (cH st) ⇑s f bq))->N.Nodup->(A.deeper (envOfC q (cH st) ⇑s f bq)).units+64<cLine →
   ∃B:WS,dU (eT eM V.P V.w V.K V.mg V.base N q (cH st) f bq A outer s H E).kc (fN st) (dG B)/\∀ys ar K',↑ys=↑ps->G ys ar K'->B (ag ↑ar K') ⟨ys.map U++Ul (↑N-↑ps) Z,ar.map U⟩
theorem lI(D:Dm V C m q st)(bd:lH m q st ps)(h:CN V N ps q st k G)(sc:qI N ps (cH st)=θ:=by decide +kernel):Fk V C (k+1) m ps ↑ps G :=
 let⟨f,fd,a,F⟩:=D
 ⟨f,fd,a,F.BJ (fD sc) λbq A outer s H E hr=>h hr (fD sc).nd hr.units,F.binds bd⟩
theorem R_(D:Dc V C x q st)(bd:lH "__init__" q st ps)(h:CN V N ps q st k G)(sc:qI N ps (cH st)=θ:=by decide +kernel):Fc V C (k+1) x ps ↑ps G :=
 let⟨f,fd,a,F⟩:=D
 ⟨f,fd,a.1,a.2,F.BJ (fD sc) λbq A outer s H E hr=>h hr (fD sc).nd hr.units,F.binds bd⟩
theorem CO(D:Dx V x st)(bd:ja x st ps)(h:CN V N ps x st k G)(sc:qI N ps (cH st)=θ:=by decide +kernel):Fq V (k+1) x ps ↑ps G :=
 let⟨f,fd,a,F⟩:=D
 ⟨f,fd,F.BJ (fD sc) λbq A outer s H E hr=>h hr (fD sc).nd hr.units,a,F.kp,F.binds bd⟩
end
end
inductive g7 (K:Ee) (C:O):-(J×J×R)->Prop
 |nil:g7 K C []
 |cons {m q st r}:(∃f fd,Meth K C m f/\f_ K m q st f fd)->g7 K C r->g7 K C ((m,q,st)::r)
theorem allM{K:Ee}{C:O}{m q:J}{st:R}{r:-(J×J×R)}{f:O}{od an:Option O}{sl:Array (Option L)}{oc kV dc pm cd ct:L}(a:V0 K (.ref C) m=U (U (.ref f)))(i:Zm K (.ref f)=θ)(l:K.lookup f=U ⟨oc,od,.func (VE m q (iV st) (fN st) (cH st) .none kV dc pm an cd ct),sl⟩)(c:XM K cd q=θ)(k:V6 K (.ref f)=θ)(h:g7 K C r):g7 K C ((m,q,st)::r) :=
 .cons ⟨f,_,⟨a,i,k⟩,vD l c k⟩ h
theorem g7.at{K:Ee}{C:O}{ds:-(J×J×R)}(h:g7 K C ds)(i:Nat){m q:J}{st:R}(e:ds[i]?=U (m,q,st)):∃f fd,Meth K C m f/\f_ K m q st f fd:=by
 induction h generalizing i with
 |nil=>cases e
 |cons d _ ih=>cases i with
  |zero=>cases e;exact d
  |succ i=>calc ih i e
end LJ
namespace LJ
open PySem L2
noncomputable def top(i:Nat):R:=PySem.Challenge.pw_lotjoin_k62_two_keepers_by_turns.main.body.getD i (.Pass ⟨0,0,0,0⟩)
section
variable[aV]{Z:Ev}
set_option hygiene false
local macro_rules | `(tactic| ac_rfl) => `(tactic| repeat' first|(show JE _ (.Name _ _) _;(first|exact dv _|exact G2 (by assumption)))|(show JE _ (.Constant _ _ _) _;(first|exact cg|exact qb|exact oQ|exact vS))|(show JA _ _ _;(first|exact bM|refine bD ?_ ?_|refine cA ?_ ?_|refine eD ?_ ?_|refine dq ?_ ?_|refine qd ?_ ?_|refine gO ?_ ?_))|(show JE _ (.Call _ _ _ _) _;(first|refine cy (by assumption) hr ?_|refine Rk (by assumption) hr ?_|refine ki rC (by rfl) B.len Xu ?_|refine ki (NW rfl) (by rfl) B.sum Od ?_|refine ki (NX rfl) (by rfl) B.all M5 ?_|refine ki (NY rfl) (by rfl) B.min Of ?_|refine ki (NZ rfl) (by rfl) B.max Oe ?_|refine ki FI (by rfl) B.sorted wt ?_|refine Og Ol (by rfl) B.sorted wt ?_|refine Nd NV (by rfl) B.tuple vP ?_|refine iN Ai (by rfl) B.isinstance (by rfl) B.int zi ?_|refine iN um (by rfl) B.isinstance (by rfl) B.bool tM ?_|refine iN Aj (by rfl) B.isinstance (by rfl) B.tuple vP ?_|refine iN Ak (by rfl) B.isinstance (by rfl) B.list tN ?_|refine N0 rfl (by rfl) B.list tN (by rfl) B.range FX ?_|refine OW rfl hu (by rfl) B.len Xu (by rfl) B.set M4 ?_|refine(sZ Wn XW XX vA ?_ ?_).weak Al|refine(sZ Wn PySem.F.slot_list_extend PySem.F.type_list_extend L6 ?_ ?_).weak N6|refine(sZ Wn ZJ ZK L9 ?_ ?_).weak N7))|(show JE _ (.Subscript _ _ _) _;(first|refine gE gG ?_ ?_ λ_ _=>rfl|refine F0 ?_ ?_ ?_))|(show JE _ (.BinOp _ _ _ _) _;(first|refine iJ (op:=.Add) rH ?_ ?_|refine iJ (op:=.Sub) wc ?_ ?_|refine iJ (op:=.Mult) NL ?_ ?_|refine iJ (op:=.Mod) z9 ?_ ?_|refine iJ (op:=.FloorDiv) OD ?_ ?_|refine iJ (op:=.Pow) NM ?_ ?_|refine Om ?_ ?_))|(show JE _ (.Compare _ _ _ _) _;(first|refine oR (op:=.Eq) (jT hu) ?_ ?_ (by rfl)|refine oR (op:=.Lt) (Fl hu) ?_ ?_ (by rfl)|refine oR (op:=.Gt) Fp ?_ ?_ (by rfl)|refine NR Fm Fm ?_ ?_ ?_))|(show JE _ _ _;(first|refine oS ?_|refine q_ ?_|refine zt ?_|refine tU ?_ ?_|refine vW ?_|refine Ni ?_|refine Fy ?_|refine EW ?_ ?_ ?_|exact Qh|refine R7 ?_ (λd nd=>?_) (λd=>?_) λd=>?_|refine R8 ?_ (λd nd=>?_) (λd=>?_) λd=>?_))|(show JS _ _ _;(first|refine eW ?_|refine gr ?_ ?_ ?_|refine R9 nd ?_ (λd nd=>?_) (λd=>?_) λd=>?_|refine jP nd rfl (by trivial) ?_|refine oU ?_|refine Ql hu ?_ ?_ ?_|refine(mB ?_ (mz ?_ ?_ set_list)).weak qx|refine EX ?_ ?_|refine zA YC rfl ?_ ?_ ?_|exact rG))|(show dU _ _ _;(first|refine cI ?_|refine cE ?_ ?_|exact h8))|(show JT _ _ _;(first|refine fP (op:=.Eq) (jT hu) ?_ ?_ (by rfl)|refine fP (op:=.NotEq) (ug hu) ?_ ?_ (by rfl)|refine fP (op:=.Lt) (Fl hu) ?_ ?_ (by rfl)|refine fP (op:=.Gt) Fp ?_ ?_ (by rfl)|refine fP (op:=.GtE) NN ?_ ?_ (by rfl)|refine fP (op:=.In) (Fu hu) ?_ ?_ (by rfl)|refine fP (op:=.NotIn) (Aa hu) ?_ ?_ (by rfl)|refine Qk hu ?_ ?_|refine tT ?_|refine JW.jt (vV ?_ ?_)|refine JW.jt (EV ?_ ?_)|refine mQ ?_))|(show JW _ _ _;(first|refine vV ?_ ?_|refine zv ?_|refine EV ?_ ?_|refine Nh ?_))|exact NQ|refine Ab ?_|refine Fh (by rfl) B.range ?_|refine NJ (by rfl) B.range ?_|refine NI (by rfl) B.enumerate ?_|refine qo ?_|exact kq nd rfl (by trivial)|refine zx rfl ?_|exact zw|refine tV ?_ ?_|exact qi|refine EY ?_)
noncomputable abbrev Hc:R:=top 12
abbrev Hd(Z:Ev):Prop:=Fx Z 1 "is_whole" ["thing"] 1 AH
theorem Sa(D:Dx Z "is_whole" Hc)(B:BT Z.mg):Hd Z:=eZ (N:=["thing"]) D pb λhr nd hu=>⟨AI,(by ac_rfl),OS⟩
noncomputable abbrev He:R:=top 13
abbrev qJ(Z:Ev):Prop:=Fx Z 2 "is_within" ["thing", "least", "most"] 3 ny
theorem Sb(D:Dx Z "is_within" He)(B:BT Z.mg)(US:Hd Z):qJ Z:=eZ (N:=["thing", "least", "most"]) D pd λhr nd hu=>⟨AJ,(by ac_rfl),OT⟩
noncomputable abbrev Hf:R:=top 14
abbrev CP(Z:Ev):Prop:=Fx Z 1 "is_tuple_of" ["thing", "size"] 2 wG
theorem Sd(D:Dx Z "is_tuple_of" Hf)(B:BT Z.mg):CP Z:=eZ (N:=["thing", "size"]) D iA λhr nd hu=>⟨AK,(by ac_rfl),OU⟩
noncomputable abbrev Hg:R:=top 15
abbrev Hh(Z:Ev):Prop:=Fx Z 3 "are_ends" ["many", "one", "other"] 3 AO
theorem Se(D:Dx Z "are_ends" Hg)(B:BT Z.mg)(qK:qJ Z):Hh Z:=eZ (N:=["many", "one", "other"]) D pd λhr nd hu=>⟨AQ,(by ac_rfl),OX⟩
noncomputable abbrev Hi:R:=top 16
abbrev Hj(Z:Ev):Prop:=Fx Z 4 "is_way" ["many", "thing"] 2 AR
theorem Sf(D:Dx Z "is_way" Hi)(B:BT Z.mg)(Hk:Ct Z "MOST_PRICE" 1000000000)(Sg:CP Z)(UT:Hh Z)(qK:qJ Z):Hj Z:=eZ (N:=["many", "thing"]) D iA λhr nd hu=>⟨AS,(by ac_rfl),OY⟩
noncomputable abbrev Hl:R:=top 17
abbrev Hm(Z:Ev):Prop:=Fx Z 5 "are_ways" ["many", "thing"] 2 AU
theorem Sh(D:Dx Z "are_ways" Hl)(B:BT Z.mg)(UU:Ct Z "MOST_WAYS" 30)(UW:Hj Z):Hm Z:=eZ (N:=["many", "thing"]) D iA λhr nd hu=>⟨AV,(by ac_rfl),OZ⟩
noncomputable abbrev Hn:R:=top 18
abbrev Ho(Z:Ev):Prop:=Fx Z 6 "is_web" ["thing"] 1 AW
theorem Si(D:Dx Z "is_web" Hn)(B:BT Z.mg)(UX:Ct Z "MOST_HOUSES" 12)(Sg:CP Z)(qK:qJ Z)(UY:Hm Z):Ho Z:=eZ (N:=["thing"]) D pb λhr nd hu=>⟨AX,(by ac_rfl),O3⟩
noncomputable abbrev Hq:R:=top 19
abbrev xq(Z:Ev):Prop:=Fx Z 7 "need_web" ["web"] 1 uL
theorem Sj(D:Dx Z "need_web" Hq)(B:BT Z.mg)(UZ:Ho Z):xq Z:=eZ (N:=["web"]) D pb λhr nd hu=>⟨Bs,(by ac_rfl),PZ⟩
noncomputable abbrev Hr:R:=top 20
abbrev Hs(Z:Ev):Prop:=Fx Z 1 "rank_of" ["way"] 1 Bt
theorem Sk(D:Dx Z "rank_of" Hr)(B:BT Z.mg):Hs Z:=eZ (N:=["way"]) D pb λhr nd hu=>⟨Bu,(by ac_rfl),P8⟩
noncomputable abbrev Ht:R:=top 21
abbrev Hu(Z:Ev):Prop:=Fx Z 11 "order_of" ["web"] 1 Bv
theorem Sl{T:O}(D:xk Z "order_of" Ht T ⟨52,40,52,76⟩ ((("order_of" : J)++".<locals>.")++"<lambda>"))(B:BT Z.mg)(xr:xq Z)(Sm:Hs Z):Hu Z:=Ro (N:=["web", "ways"]) D pb λLD hc hr nd hu=>⟨Bw,(cE (oU (cy xr hr (bD (dv 0) bM))) (cE (jP (i:=1) nd Y (by trivial) (gE gG (dv 0) cg (λ_ _=>Y))) (cI (eW (PV (jA.mk (x:="number") (Nb:=["ways"]) (cp:=[U 1]) ⟨LD.env hc,LD.ng,LD.blt⟩ LD.tbl Y Y (by first|rfl|kernel_rfl) Y Y (λ_ _ _ _ _=>Y) ⟨1,hr.mono (by decide),λd hr=>(cy Sm hr (dq (gE gG (dv 1) (dv 0) (λ_ _=>Y)) bM))⟩) Y (by rfl) B.sorted wt (by rfl) B.range FX (eD (ki rC (by rfl) B.len Xu (bD (dv 1) bM)) bM)))))),Qa⟩
noncomputable abbrev Hv:R:=top 23
abbrev Hw(Z:Ev):Prop:=Fx Z 8 "need_ways" ["web", "ways"] 2 BB
theorem Sn(D:Dx Z "need_ways" Hv)(B:BT Z.mg)(xr:xq Z)(qK:qJ Z):Hw Z:=eZ (N:=["web", "ways", "last", "seen", "place", "number"]) D iA λhr nd hu=>⟨BC,(by ac_rfl),Qo⟩
noncomputable abbrev Hx:R:=top 24
abbrev CQ(Z:Ev):Prop:=Fx Z 1 "joined" ["firsts", "one", "other"] 3 uz
theorem So(D:Dx Z "joined" Hx)(B:BT Z.mg):CQ Z:=eZ (N:=["firsts", "one", "other", "gone", "kept"]) D pd λhr nd hu=>⟨AY,(by ac_rfl),O4⟩
noncomputable abbrev Hy:R:=top 25
abbrev Hz(Z:Ev):Prop:=Fx Z 2 "firsts_of" ["web", "ways"] 2 A0
theorem Sq(D:Dx Z "firsts_of" Hy)(B:BT Z.mg)(Sr:CQ Z):Hz Z:=eZ (N:=["web", "ways", "firsts", "number", "way"]) D iA λhr nd hu=>⟨wH,(by ac_rfl),O5⟩
noncomputable abbrev HA:R:=top 26
abbrev HB(Z:Ev):Prop:=Fx Z 9 "weight_of" ["web", "ways"] 2 BF
theorem Ss(D:Dx Z "weight_of" HA)(B:BT Z.mg)(U0:Hw Z):HB Z:=eZ (N:=["web", "ways"]) D iA λhr nd hu=>⟨BG,(by ac_rfl),Qq⟩
noncomputable abbrev HC:R:=top 28
abbrev HD(Z:Ev):Prop:=Fx Z 12 "forest_of" ["web"] 1 Bx
theorem Su(D:Dx Z "forest_of" HC)(B:BT Z.mg)(U1:Hu Z)(U2:Hz Z)(Sr:CQ Z):HD Z:=eZ (N:=["web", "order", "forest", "firsts", "number", "way"]) D pb λhr nd hu=>⟨By,(by ac_rfl),Qc⟩
noncomputable abbrev HE:R:=top 30
abbrev HF(Z:Ev):Prop:=Fx Z 1 "ways_but" ["web", "closed"] 2 BM
theorem Sv(D:Dx Z "ways_but" HE)(B:BT Z.mg):HF Z:=eZ (N:=["web", "closed"]) D iA λhr nd hu=>⟨BN,(by ac_rfl),QZ⟩
noncomputable abbrev HG:R:=top 31
abbrev HH(Z:Ev):Prop:=Fx Z 1 "web_of" ["web", "numbers"] 2 BO
theorem Sw(D:Dx Z "web_of" HG)(B:BT Z.mg):HH Z:=eZ (N:=["web", "numbers"]) D iA λhr nd hu=>⟨BP,(by ac_rfl),Q0⟩
noncomputable abbrev HI:R:=top 32
abbrev HJ(Z:Ev):Prop:=Fx Z 1 "priced" ["web", "number", "price"] 3 BQ
theorem Sx(D:Dx Z "priced" HI)(B:BT Z.mg):HJ Z:=eZ (N:=["web", "number", "price", "way"]) D pd λhr nd hu=>⟨BR,(by ac_rfl),Q1⟩
noncomputable abbrev HK:R:=top 33
abbrev HL(Z:Ev):Prop:=Fx Z 1 "first_missing" ["numbers", "others"] 2 xg
theorem Sy(D:Dx Z "first_missing" HK)(B:BT Z.mg):HL Z:=eZ (N:=["numbers", "others", "missing"]) D iA λhr nd hu=>⟨BS,(by ac_rfl),Q2⟩
noncomputable abbrev HM:R:=top 34
abbrev HN(Z:Ev):Prop:=Fx Z 2 "exchange_of" ["ahead", "behind"] 2 BU
theorem Sz(D:Dx Z "exchange_of" HM)(B:BT Z.mg)(U3:HL Z):HN Z:=eZ (N:=["ahead", "behind"]) D iA λhr nd hu=>⟨BV,(by ac_rfl),Q3⟩
noncomputable abbrev HP:R:=inClass (top 35) 0
abbrev CS(Z:Ev)(c_Keeper:O):Prop:=Fc Z c_Keeper 8 "Keeper" ["self", "web"] 2 (xh c_Keeper)
theorem SA{c_Keeper:O}(D:Dc Z c_Keeper "Keeper" "Keeper.__init__" HP)(B:BT Z.mg)(ae:Kx Z.K c_Keeper ["town", "shut", "past"])(xr:xq Z):CS Z c_Keeper:=R_ (N:=["self", "web"]) D xp λhr nd hu=>⟨BW c_Keeper,(cE (oU (cy xr hr (bD (dv 1) bM))) (cE (uT ae.c (ae.at "town") (dv 0) (dv 1)) (cE (uT ae.c (ae.at "shut") (dv 0) (oS bM)) (cI (uT ae.c (ae.at "past") (dv 0) (q_ bM)))))),Q4 c_Keeper⟩
noncomputable abbrev HQ:R:=inClass (top 35) 1
abbrev HR(Z:Ev)(c_Keeper:O):Prop:=Fk Z c_Keeper 1 "web" ["self"] 1 (BX c_Keeper)
theorem SD{c_Keeper:O}(D:Dm Z c_Keeper "web" "Keeper.web" HQ)(B:BT Z.mg)(ae:Kx Z.K c_Keeper ["town", "shut", "past"]):HR Z c_Keeper:=lI (N:=["self"]) D u_ λhr nd hu=>⟨BY c_Keeper,(cI (eW (gH ae.c (ae.at "town") (dv 0)))),Q5 c_Keeper⟩
noncomputable abbrev HS:R:=inClass (top 35) 2
abbrev HU(Z:Ev)(c_Keeper:O):Prop:=Fk Z c_Keeper 1 "closed" ["self"] 1 (BZ c_Keeper)
theorem SE{c_Keeper:O}(D:Dm Z c_Keeper "closed" "Keeper.closed" HS)(B:BT Z.mg)(ae:Kx Z.K c_Keeper ["town", "shut", "past"]):HU Z c_Keeper:=lI (N:=["self"]) D u_ λhr nd hu=>⟨B1 c_Keeper,(cI (eW (Oh Oi (by rfl) B.list tN (gO (gH ae.c (ae.at "shut") (dv 0)) bM)))),Q6 c_Keeper⟩
noncomputable abbrev HV:R:=inClass (top 35) 3
abbrev xt(Z:Ev)(c_Keeper:O):Prop:=Fk Z c_Keeper 13 "forest" ["self"] 1 (rT c_Keeper)
theorem SF{c_Keeper:O}(D:Dm Z c_Keeper "forest" "Keeper.forest" HV)(B:BT Z.mg)(ae:Kx Z.K c_Keeper ["town", "shut", "past"])(SG:HF Z)(SH:HD Z)(SI:HH Z):xt Z c_Keeper:=lI (N:=["self", "numbers"]) D u_ λhr nd hu=>⟨B3 c_Keeper,(cE (jP (i:=1) nd Y (by trivial) (cy SG hr (gO (gH ae.c (ae.at "town") (dv 0)) (gO (gH ae.c (ae.at "shut") (dv 0)) bM)))) (cI (eW (E7 [η,U 1] ["place", "numbers"] Y (qo (cy SH hr (eD (cy SI hr (gO (gH ae.c (ae.at "town") (dv 0)) (bD (dv 1) bM))) bM))) (λd=>(kq (i:=0) (show(["place", "numbers"]:-J).Nodup by decide +kernel) Y (by trivial))) (λd=>qi) (λd=>(gE gG (dv 1) (dv 0) (λ_ _=>Y))))))),Q7 c_Keeper⟩
noncomputable abbrev HW:R:=inClass (top 35) 4
abbrev HX(Z:Ev)(c_Keeper:O):Prop:=Fk Z c_Keeper 14 "weight" ["self"] 1 (B5 c_Keeper)
theorem SJ{c_Keeper:O}(D:Dm Z c_Keeper "weight" "Keeper.weight" HW)(B:BT Z.mg)(ae:Kx Z.K c_Keeper ["town", "shut", "past"])(SK:HB Z)(bx:xt Z c_Keeper):HX Z c_Keeper:=lI (N:=["self"]) D u_ λhr nd hu=>⟨B6 c_Keeper,(cI (eW (cy SK hr (gO (gH ae.c (ae.at "town") (dv 0)) (eD (ph ι ae.c bx hr (dv 0)) bM))))),Q8 c_Keeper⟩
noncomputable abbrev HY:R:=inClass (top 35) 9
abbrev xu(Z:Ev)(c_Keeper:O):Prop:=Fk Z c_Keeper 3 "need_way" ["self", "number"] 2 (uX c_Keeper)
theorem SM{c_Keeper:O}(D:Dm Z c_Keeper "need_way" "Keeper.need_way" HY)(B:BT Z.mg)(ae:Kx Z.K c_Keeper ["town", "shut", "past"])(qK:qJ Z):xu Z c_Keeper:=lI (N:=["self", "number"]) D xp λhr nd hu=>⟨B7 c_Keeper,(cI (gr (tT (mQ (cy qK hr (bD (dv 1) (cA cg (gO (iJ wc (ki rC (by rfl) B.len Xu (dq (gE gG (gH ae.c (ae.at "town") (dv 0)) cg (λ_ _=>Y)) bM)) cg) bM)))))) (cI rG) h8)),Q9 c_Keeper⟩
noncomputable abbrev HZ:R:=inClass (top 35) 11
abbrev CT(Z:Ev)(c_Keeper:O):Prop:=Fk Z c_Keeper 14 "set_to" ["self", "web", "shut"] 3 (xi c_Keeper)
theorem SN{c_Keeper:O}(D:Dm Z c_Keeper "set_to" "Keeper.set_to" HZ)(B:BT Z.mg)(ae:Kx Z.K c_Keeper ["town", "shut", "past"])(bx:xt Z c_Keeper)(SO:HN Z):CT Z c_Keeper:=lI (N:=["self", "web", "shut", "ahead"]) D CM λhr nd hu=>⟨B8 c_Keeper,(cE (jP (i:=3) nd Y (by trivial) (ph ι ae.c bx hr (dv 0))) (cE (uT ae.c (ae.at "town") (dv 0) (dv 1)) (cE (uT ae.c (ae.at "shut") (dv 0) (dv 2)) (cI (eW (cy SO hr (bD (dv 3) (eD (ph ι ae.c bx hr (dv 0)) bM)))))))),Q_ c_Keeper⟩
noncomputable abbrev H_:R:=inClass (top 35) 10
abbrev xv(Z:Ev)(c_Keeper:O):Prop:=Fk Z c_Keeper 15 "changed" ["self", "web", "shut"] 3 (uY c_Keeper)
theorem SQ{c_Keeper:O}(D:Dm Z c_Keeper "changed" "Keeper.changed" H_)(B:BT Z.mg)(ae:Kx Z.K c_Keeper ["town", "shut", "past"])(cm:CT Z c_Keeper):xv Z c_Keeper:=lI (N:=["self", "web", "shut"]) D CM λhr nd hu=>⟨B9 c_Keeper,(cE (oU ((sZ Wn XW XX vA (uS (gH ae.c (ae.at "past") (dv 0))) (qd (zt (gO (gH ae.c (ae.at "town") (dv 0)) (gO (gH ae.c (ae.at "shut") (dv 0)) bM))) bM)).weak Al)) (cI (eW (fW ι ae.c cm hr (dv 0) (bD (dv 1) (bD (dv 2) bM)))))),Ra c_Keeper⟩
noncomputable abbrev Ia:R:=inClass (top 35) 5
abbrev Ib(Z:Ev)(c_Keeper:O):Prop:=Fk Z c_Keeper 16 "price" ["self", "number", "price"] 3 (B_ c_Keeper)
theorem SS{c_Keeper:O}(D:Dm Z c_Keeper "price" "Keeper.price" Ia)(B:BT Z.mg)(Hk:Ct Z "MOST_PRICE" 1000000000)(ae:Kx Z.K c_Keeper ["town", "shut", "past"])(bA:xu Z c_Keeper)(qK:qJ Z)(bG:xv Z c_Keeper)(SU:HJ Z):Ib Z c_Keeper:=lI (N:=["self", "number", "price"]) D CM λhr nd hu=>⟨Ca c_Keeper,(cE (oU (fW ι ae.c bA hr (dv 0) (bD (dv 1) bM))) (cE (gr (tT (mQ (cy qK hr (bD (dv 2) (cA cg (bD (G2 Hk) bM)))))) (cI rG) h8) (cI (eW (fW ι ae.c bG hr (dv 0) (eD (cy SU hr (gO (gH ae.c (ae.at "town") (dv 0)) (bD (dv 1) (bD (dv 2) bM)))) (gO (gH ae.c (ae.at "shut") (dv 0)) bM))))))),Rb c_Keeper⟩
noncomputable abbrev Ic:R:=inClass (top 35) 6
abbrev Ie(Z:Ev)(c_Keeper:O):Prop:=Fk Z c_Keeper 16 "close" ["self", "number"] 2 (Cb c_Keeper)
theorem SV{c_Keeper:O}(D:Dm Z c_Keeper "close" "Keeper.close" Ic)(B:BT Z.mg)(ae:Kx Z.K c_Keeper ["town", "shut", "past"])(bA:xu Z c_Keeper)(bG:xv Z c_Keeper):Ie Z c_Keeper:=lI (N:=["self", "number"]) D xp λhr nd hu=>⟨Cc c_Keeper,(cE (oU (fW ι ae.c bA hr (dv 0) (bD (dv 1) bM))) (cE (gr (fP (Fu hu) (dv 1) (gH ae.c (ae.at "shut") (dv 0)) (by rfl)) (cI rG) h8) (cI (eW (fW ι ae.c bG hr (dv 0) (gO (gH ae.c (ae.at "town") (dv 0)) (eD (ki FI (by rfl) B.sorted wt (gO (iJ rH (gH ae.c (ae.at "shut") (dv 0)) (oS (bD (dv 1) bM))) bM)) bM))))))),Rc c_Keeper⟩
noncomputable abbrev Ig:R:=inClass (top 35) 7
abbrev Ih(Z:Ev)(c_Keeper:O):Prop:=Fk Z c_Keeper 16 "free" ["self", "number"] 2 (Cd c_Keeper)
theorem SW{c_Keeper:O}(D:Dm Z c_Keeper "free" "Keeper.free" Ig)(B:BT Z.mg)(ae:Kx Z.K c_Keeper ["town", "shut", "past"])(bA:xu Z c_Keeper)(bG:xv Z c_Keeper):Ih Z c_Keeper:=lI (N:=["self", "number"]) D xp λhr nd hu=>⟨Ce c_Keeper,(cE (oU (fW ι ae.c bA hr (dv 0) (bD (dv 1) bM))) (cE (gr (fP (Aa hu) (dv 1) (gH ae.c (ae.at "shut") (dv 0)) (by rfl)) (cI rG) h8) (cI (eW (fW ι ae.c bG hr (dv 0) (gO (gH ae.c (ae.at "town") (dv 0)) (gO (zB [η,U 1] ["way", "number"] Y (qo (gH ae.c (ae.at "shut") (dv 0))) (λd=>(kq (i:=0) (show(["way", "number"]:-J).Nodup by decide +kernel) Y (by trivial))) (λd=>(EY (fP (ug hu) (dv 0) (dv 1) (by rfl)))) (λd=>(dv 0))) bM))))))),Rf c_Keeper⟩
noncomputable abbrev Ii:R:=inClass (top 35) 8
abbrev Ij(Z:Ev)(c_Keeper:O):Prop:=Fk Z c_Keeper 15 "back" ["self"] 1 (Cf c_Keeper)
theorem SX{c_Keeper:O}(D:Dm Z c_Keeper "back" "Keeper.back" Ii)(B:BT Z.mg)(ae:Kx Z.K c_Keeper ["town", "shut", "past"])(cm:CT Z c_Keeper):Ij Z c_Keeper:=lI (N:=["self", "last"]) D u_ λhr nd hu=>⟨Cg c_Keeper,(cE (gr (fP (jT hu) (ki rC (by rfl) B.len Xu (gO (uS (gH ae.c (ae.at "past") (dv 0))) bM)) cg (by rfl)) (cI rG) h8) (cE (jP (i:=1) nd Y (by trivial) ((L4 Wn ZJ ZK L7 (uS (gH ae.c (ae.at "past") (dv 0)))).weak N9)) (cI (eW (fW ι ae.c cm hr (dv 0) (dq (gE gG (dv 1) cg (λ_ _=>Y)) (dq (gE gG (dv 1) cg (λ_ _=>Y)) bM))))))),Rg c_Keeper⟩
noncomputable abbrev Ik:R:=top 37
abbrev Il(Z:Ev):Prop:=Fx Z 1 "_law_spread" ["cell", "at"] 2 Aw
theorem SY(D:Dx Z "_law_spread" Ik)(B:BT Z.mg):Il Z:=eZ (N:=["cell", "at", "primes", "one", "two", "three"]) D iA λhr nd hu=>⟨Ax,(by ac_rfl),OF⟩
noncomputable abbrev Im:R:=top 39
abbrev Io(Z:Ev):Prop:=Fx Z 1 "_law_anew" ["pen"] 1 wB
theorem S7(D:Dx Z "_law_anew" Im)(B:BT Z.mg):Io Z:=eZ (N:=["pen"]) D pb λhr nd hu=>⟨Az,(by ac_rfl),OG⟩
noncomputable abbrev Ip:R:=top 40
abbrev va(Z:Ev):Prop:=Fx Z 2 "_law_take" ["pen", "many"] 2 fJ
theorem S8(D:Dx Z "_law_take" Ip)(B:BT Z.mg)(U4:Il Z):va Z:=eZ (N:=["pen", "many", "at", "cell", "found"]) D iA λhr nd hu=>⟨AA,(by ac_rfl),OH⟩
noncomputable abbrev Iq:R:=top 42
abbrev Ir(Z:Ev):Prop:=Fx Z 3 "_law_pairs_of" ["pen", "kind", "many"] 3 AB
theorem S9(D:Dx Z "_law_pairs_of" Iq)(B:BT Z.mg)(qL:va Z):Ir Z:=eZ (N:=["pen", "kind", "many", "every", "other", "ring", "half"]) D pd λhr nd hu=>⟨AD,(by ac_rfl),OK⟩
noncomputable abbrev Iu:R:=top 43
abbrev Iv(Z:Ev):Prop:=Fx Z 4 "_law_web" ["pen", "houses", "most"] 3 wC
theorem S_(D:Dx Z "_law_web" Iu)(B:BT Z.mg)(qL:va Z)(U5:Ir Z):Iv Z:=eZ (N:=["pen", "houses", "most", "kind", "prices", "many", "pairs", "ways", "k", "one", "other", "price"]) D pd λhr nd hu=>⟨AG,(by ac_rfl),OL⟩
noncomputable abbrev Iw:R:=top 44
abbrev Iy(Z:Ev):Prop:=Fx Z 1 "_law_priced" ["state", "number", "price"] 3 Cr
theorem Ta(D:Dx Z "_law_priced" Iw)(B:BT Z.mg):Iy Z:=eZ (N:=["state", "number", "price", "many", "ways"]) D pd λhr nd hu=>⟨Cu,(by ac_rfl),Rt⟩
noncomputable abbrev Iz:R:=top 45
abbrev IA(Z:Ev):Prop:=Fx Z 3 "_law_turn" ["pen", "states"] 2 CH
theorem Tb(D:Dx Z "_law_turn" Iz)(B:BT Z.mg)(qL:va Z)(U6:Iy Z):IA Z:=eZ (N:=["pen", "states", "kind", "pick", "web", "shut", "number", "near", "price"]) D iA λhr nd hu=>⟨u4,(by ac_rfl),RS⟩
noncomputable abbrev IB:R:=top 46
abbrev CU(Z:Ev)(c_Keeper:O):Prop:=Fq Z 17 "_law_turned" ["keeper", "change"] 2 (xn c_Keeper)
theorem Tc{c_Keeper:O}(D:Dx Z "_law_turned" IB)(B:BT Z.mg)(ae:Kx Z.K c_Keeper ["town", "shut", "past"])(fX:Ib Z c_Keeper)(gz:Ij Z c_Keeper)(fY:Ie Z c_Keeper)(gA:Ih Z c_Keeper):CU Z c_Keeper:=CO (N:=["keeper", "change"]) D iA λhr nd hu=>⟨Cv c_Keeper,(cE (gr (fP (jT hu) (gE gG (dv 1) cg (λ_ _=>Y)) vS (by rfl)) (cI (eW (fW ι ae.c fX hr (dv 0) (dq (gE gG (dv 1) cg (λ_ _=>Y)) (dq (gE gG (dv 1) cg (λ_ _=>Y)) bM))))) h8) (cE (gr (fP (jT hu) (gE gG (dv 1) cg (λ_ _=>Y)) vS (by rfl)) (cI (eW (ph ι ae.c gz hr (dv 0)))) h8) (cI (eW (EW (fP (jT hu) (gE gG (dv 1) cg (λ_ _=>Y)) vS (by rfl)) (fW ι ae.c fY hr (dv 0) (dq (gE gG (dv 1) cg (λ_ _=>Y)) bM)) (fW ι ae.c gA hr (dv 0) (dq (gE gG (dv 1) cg (λ_ _=>Y)) bM))))))),Rv c_Keeper⟩
noncomputable abbrev IC:R:=top 47
abbrev CV(Z:Ev)(c_Keeper:O):Prop:=Fq Z 15 "_law_keeper_look" ["keeper", "turn"] 2 (rW c_Keeper)
theorem Td{c_Keeper:O}(D:Dx Z "_law_keeper_look" IC)(B:BT Z.mg)(ae:Kx Z.K c_Keeper ["town", "shut", "past"])(g8:HR Z c_Keeper)(fE:HU Z c_Keeper)(bx:xt Z c_Keeper)(fF:HX Z c_Keeper):CV Z c_Keeper:=CO (N:=["keeper", "turn", "found", "at"]) D iA λhr nd hu=>⟨CG c_Keeper,(cE (jP (i:=2) nd Y (by trivial) (q_ (cA oQ (cA oQ (cA oQ (cA oQ bM)))))) (cE (zA YC Y (qo (F0 (oS (cA cg (cA cg (cA cg (cA cg (cA cg (cA cg (cA cg bM)))))))) (Ab (iJ z9 (dv 1) cg)) (Ab (iJ rH (iJ z9 (dv 1) cg) cg)))) (kq (i:=3) nd Y (by trivial)) (cI (gr (fP (jT hu) (dv 3) cg (by rfl)) (cI ((mB (ph ι ae.c g8 hr (dv 0)) (mz (dv 2) cg set_list)).weak qx)) (cI (gr (fP (jT hu) (dv 3) cg (by rfl)) (cI ((mB (ph ι ae.c fE hr (dv 0)) (mz (dv 2) cg set_list)).weak qx)) (cI (gr (fP (jT hu) (dv 3) cg (by rfl)) (cI ((mB (ph ι ae.c bx hr (dv 0)) (mz (dv 2) cg set_list)).weak qx)) (cI ((mB (ph ι ae.c fF hr (dv 0)) (mz (dv 2) cg set_list)).weak qx))))))))) (cI (eW (dv 2))))),RQ c_Keeper⟩
noncomputable abbrev ID:R:=top 48
abbrev IE(Z:Ev)(c_Keeper:O):Prop:=Fq Z 18 "_law_alone" ["web", "changes", "turn"] 3 (CI c_Keeper)
theorem Te{c_Keeper:O}(D:Dx Z "_law_alone" ID)(B:BT Z.mg)(ae:Kx Z.K c_Keeper ["town", "shut", "past"])(cN:CS Z c_Keeper)(CW:CU Z c_Keeper)(vb:CV Z c_Keeper):IE Z c_Keeper:=CO (N:=["web", "changes", "turn", "keeper", "found"]) D pd λhr nd hu=>⟨CJ c_Keeper,(cE (jP (i:=3) nd Y (by trivial) (u9 cN hr (bD (dv 0) bM))) (cE (E8 [η,U 3] ["change", "keeper"] (i:=4) nd Y (by trivial) Y (qo (dv 1)) (λd=>(kq (i:=0) (show(["change", "keeper"]:-J).Nodup by decide +kernel) Y (by trivial))) (λd=>qi) (λd=>(jc ι CW hr (bD (dv 1) (bD (dv 0) bM))))) (cI (eW (oS (dq (gE gG (dv 4) (Fy cg) (λ_ _=>Y)) (eD (jc ι vb hr (bD (dv 3) (bD (dv 2) bM))) bM))))))),RT c_Keeper⟩
noncomputable abbrev CY:R:=top 41
theorem CZ{x:J}{st:R}{ps:-J}{n:Nat}(D:Dx Z x st)(bd:ja x st ps):Fx Z 0 x ps n (λ_ _ _=>False) :=
 let⟨f,fd,a,F⟩:=D
 ⟨f,fd,⟨λvs H Q E h=>by let⟨_,_,_,_,_,_,_,hF,_⟩:=h;calc hF.elim,λA outer s H args us vs Q E _ _ _ _ h=>by let⟨_,_,_,_,_,_,_,hF,_⟩:=h;calc hF.elim⟩,a,F.kp,F.binds bd⟩
theorem IF(D:Dx Z "_law_same" CY)(B:BT Z.mg)(n:Nat)(xw:Fx Z n "_law_same" ["found", "due"] 2 (LJT.iz LJT.a_ n)):Fx Z (n+1) "_law_same" ["found", "due"] 2 (LJT.a_ n):=eZ (N:=["found", "due"]) D iA λhr nd hu=>⟨LJT.aW (LJT.iz LJT.a_ n),(cE (gr (fP F7 (dv 1) oQ (by rfl)) (cI (eW (oR F7 (dv 0) oQ (by rfl)))) h8) (cE (gr (JW.jt (vV (mQ (iN um (by rfl) B.isinstance (by rfl) B.bool tM (dv 1))) (zv (mQ (iN um (by rfl) B.isinstance (by rfl) B.bool tM (dv 0)))))) (cI (eW (tU (iN um (by rfl) B.isinstance (by rfl) B.bool tM (dv 1)) (tU (iN um (by rfl) B.isinstance (by rfl) B.bool tM (dv 0)) (vW (oR (jT hu) (dv 0) (dv 1) (by rfl))))))) h8) (cE (gr (mQ (iN Ai (by rfl) B.isinstance (by rfl) B.int zi (dv 1))) (cI (eW (tU (iN Ai (by rfl) B.isinstance (by rfl) B.int zi (dv 0)) (vW (oR (jT hu) (dv 0) (dv 1) (by rfl)))))) h8) (cE (gr (mQ (iN FJ (by rfl) B.isinstance (by rfl) B.str EF (dv 1))) (cI (eW (tU (iN FJ (by rfl) B.isinstance (by rfl) B.str EF (dv 0)) (vW (oR (jT hu) (dv 0) (dv 1) (by rfl)))))) h8) (cE (gr (JW.jt (vV (fP (ug hu) (iN Aj (by rfl) B.isinstance (by rfl) B.tuple vP (dv 1)) (iN Aj (by rfl) B.isinstance (by rfl) B.tuple vP (dv 0)) (by rfl)) (zv (fP (ug hu) (iN Ak (by rfl) B.isinstance (by rfl) B.list tN (dv 1)) (iN Ak (by rfl) B.isinstance (by rfl) B.list tN (dv 0)) (by rfl))))) (cI (eW qb)) h8) (cE (gr (fP (ug hu) (ki rC (by rfl) B.len Xu (bD (dv 0) bM)) (ki rC (by rfl) B.len Xu (bD (dv 1) bM)) (by rfl)) (cI (eW qb)) h8) (cI (eW (oR (Aa hu) qb (zB [η,η] ["one", "other"] Y (QJ (by rfl) B.zip (bD (dv 0) (bD (dv 1) bM))) (λd=>(zx Y (tV (kq (i:=0) (show(["one", "other"]:-J).Nodup by decide +kernel) Y (by trivial)) (tV (kq (i:=1) (show(["one", "other"]:-J).Nodup by decide +kernel) Y (by trivial)) zw)))) (λd=>qi) (λd=>(cy (hj:=Nat.ble_eq_true_of_le (yT _)) xw hr (bD (dv 0) (bD (dv 1) bM))))) (by rfl)))))))))),LJT.fV n⟩
abbrev Tf(Z:Ev):Prop:=Fx Z 6 "_law_same" ["found", "due"] 2 (LJT.a_ 5)
theorem Tg(D:Dx Z "_law_same" CY)(B:BT Z.mg)(n:Nat):Fx Z (n+1) "_law_same" ["found", "due"] 2 (LJT.a_ n):=by
 induction n with
 |zero=>exact IF D B 0 (CZ D iA)
 |succ m ih=>calc IF D B (m+1) ih
noncomputable abbrev xx:R:=top 38
theorem lJ:mF ["script", "cells", "k", "cell"] ["script"] (cH xx):=fD (by decide +kernel)
theorem Th{f:O}{fd:FuncData}(F:f_ Z.K "_law_open" "_law_open" xx f fd)(h1:Z.mg "list" = η)(h2:Z.mg "enumerate" = η):bY Z.P Z.w Z.K Z.mg Z.base eM 1 f fd ["script"] (Gn Z.K):=by
 refine F.vC lJ (λvs H Q E h=>?_) (λbq A outer s H vs Q E hr h=>?_)
 .let⟨a,ns,rfl,_⟩:=h
  rfl
 .let⟨a,ns,rfl,hS,hlen,fin⟩:=h
  let nd:=lJ.nd
  refine⟨_,vi (x9 (i:=1) nd Y (ZL Y) (pM yJ (by rfl) h1 PyProof.Rows.boot_list (jG (yB gN (jv 0) D0 (vx oA)) cY)))
   (vi (DH YC Y (MC (by rfl) h2 (jG (yB gN (jv 0) (vx oA) (vx oA)) cY)) (DD Y (x6 (xZ (i:=2) nd Y (ZL Y)) (x6 (xZ (i:=3) nd Y (ZL Y)) jg)))
    (xW (mB (sJ DI (yH gM (jv 1) (sJ yg (jv 2) oA) (λ_ _=>Y)) (jv 3)) (mz (jv 1) (sJ yg (jv 2) oA) set_list))))
   (xW (DC (vp (jG (jv 1) (jG oA (jG oA cY))))))),?_⟩
  calc⟨_,Y,_,Y,a,_,Y,hS,λl1 n1=>⟨l1,_,Y,.inl (bP.of b7),λc nc=>?_⟩⟩;let s1:aN H (upd (upd H l1 (.lst (dz (ns.map V.int) η (U 12)))) c (.lst (dz (ns.map V.int) η (U 12)))):=(rK n1).trans (rK nc);calc⟨_,Y,_,Y,_,Y,a,_,Y,s1.seq hS,λl2 n2=>⟨l2,Y,⟨_,bP.of b7⟩,?_⟩⟩;let Ti:H c=η:=(rK n1).free nc;let Tn:=n2
  let hcc:∃ms:-Int,↑ms=min 12 ↑ns/\dz (ns.map V.int) η (U 12)=ms.map V.int:=by
   calc⟨_,?_,A1 ns η (U 12)⟩;rw[Vn,Ww];let e1:HT.bI ↑ns 0 η=0:=HT.yz _ _;let e2:HT.bI ↑ns ↑ns (U 12)=min 12 ↑ns:=HT.sS ↑ns ↑ns 12;rw[e1,e2];symm
  let oN:↑(dz (ns.map V.int) (U 12) (U 63))=↑ns-12:=by
   rw[A1,pV,Vn,Ww];let e1:HT.bI ↑ns 0 (U 12)=min 12 ↑ns:=HT.sS ↑ns 0 12;let e2:HT.bI ↑ns ↑ns (U 63)=min 63 ↑ns:=HT.sS ↑ns ↑ns 63;rw[e1,e2,Nat.min_eq_right hlen,q0N];symm
  let IG:∀i x,(dz (ns.map V.int) (U 12) (U 63))[i]?=U x->∃n:Int,x=V.int n:=λi x e=>by
   rw[A1,My] at e
   cases q:((ns.drop (HT.bI ↑ns 0 (U 12))).take (HT.bI ↑ns ↑ns (U 63)-HT.bI ↑ns 0 (U 12)))[i]? with
   |none=>rw[q] at e;cases e
   |some n=>rw[q] at e;exact⟨n,(Vm e).symm⟩
  generalize dz (ns.map V.int) (U 12) (U 63)=rest at oN IG n2 ⊢;let⟨ms,To,Tp⟩:=hcc
  refine MG (K:=Z.K) (a:=l2) (xs:=rest) (λi σ H2=>∃(ks:-Int)(v1 v2:Option V),σ=[U (.ref a),U (.ref c),v1,v2]/\H2 c=U (.lst (ks.map V.int))/\↑ks=min 12 ↑ns/\H2 l2=U (.lst rest)/\aN H H2)
   ⟨ms,η,η,Y,?_,To,b7,?_⟩ (λi σ H2 _ ⟨_,_,_,_,_,_,q,_⟩↦bP.of q) ?_ ?_
  .rw[bf (dF b7 n2),b7,Tp]
  .exact s1.trans (rK n2)
  .ext i x T σ H2 hi ⟨ks,v1,v2,rfl,hc,hk,qV,sm⟩ hT
   let⟨n,rfl⟩:=IG i x hi;let lV:i<↑rest:=(qW.mp hi).1;let Tq:↑ks=12:=by symm
   let cT:c≠T:=dF hc hT;let ka:upd H2 T (.tup [.int i,.int n]) c=U (.lst (ks.map V.int)):=by rw[bf cT];exact hc
   let j0:0<=((i:Int))%12:=V7 _ (by decide);let j1:((i:Int))%12<12:=VC _ (by decide);let⟨m,em⟩:=O6 (ns:=ks) j0 ⋯
   let ix:eK ↑(ks.map V.int) ((i:Int)%12)=U ((i:Int)%12).toNat:=by
    unfold eK;rw[U_ j0,U_ (by rw[pV];symm)]
   calc⟨T,_,Y,b9.of b7,Y,_,_,Y,_,_,Y,Y,?_⟩;calc⟨_,Y,_,Y,_,_,Y,Y,(show(0:Int)<12 by decide),_,_,_,_,Y,Y,bP.of ka,em,_,Y,_,_,Y,Y,_,Y,_,Y,_,_,Y,Y,(show(0:Int)<12 by decide),_,_,_,_,Y,Y,ka,ix,?_⟩;refine⟨ks.set ((i:Int)%12).toNat (m+n),_,_,Y,?_,by rw[VS];calc hk,?_,?_⟩
   .rw[b7,q2A]
   .let Tr:l2≠c:=by
     ext z;subst z;exact absurd Tn (by rw[b7];ext y;cases y)
    rw[bf Tr,bf (dF qV hT)];exact qV
   .ext b o e
    rw[bf (dF e Ti)];exact rK hT b o (sm b o e)
  .ext σ H2 ⟨ks,v1,v2,rfl,hc,hk,qV,sm⟩
   calc⟨_,Y,(by show 3<=sizeLine;decide),λp np=>?_⟩;let Tt:H p=η:=sm.free np;calc fin p c _ (sm.trans (rK np)) Tt ⟨b7,⟨ks,by rw[bf (dF hc np)];calc hc,⋯⟩,Int.le_refl 0⟩
noncomputable abbrev rY:R:=top 49
theorem Tu{c_Keeper:O}{f qM:O}{fd oh:FuncData}(F:f_ Z.K "law" "law" rY f fd)(B:BT Z.mg)(GO:Fn Z.P Z.w Z.K Z.mg Z.base 1 "_law_open" ["script"] (Gn Z.K) qM oh)(ae:Kx Z.K c_Keeper ["town", "shut", "past"])(qL:va Z)(IH:Io Z)(II:Iv Z)(cN:CS Z c_Keeper)(vb:CV Z c_Keeper)(Tv:IA Z)(CW:CU Z c_Keeper)(xw:Tf Z)(Tw:IE Z c_Keeper):bY Z.P Z.w Z.K Z.mg Z.base eM 19 f fd ["script"] (uA Z.K):=by
 let sc:mF ["script", "pen", "same", "webs", "keepers", "states", "said", "looks", "step", "at", "change", "found", "turn"] ["script"] (cH rY):=fD (by decide +kernel);refine F.vC (k:=18) sc (λvs H Q E h=>?_) (λbq A outer s H vs Q E hr h=>?_)
 .let⟨a,ns,rfl,_⟩:=h
  rfl
 let⟨a,ns,rfl,hS,hlen,hT,fin⟩:=h;let nd:=sc.nd;let hu:=hr.units;let rest:dU (eT eM Z.P Z.w Z.K Z.mg Z.base ["script", "pen", "same", "webs", "keepers", "states", "said", "looks", "step", "at", "change", "found", "turn"] "law" (cH rY) f bq A outer s H E).kc ((fN rY).drop 1) (dG (CK c_Keeper)):=(cE (jP (i:=2) nd Y (by trivial) (cy qL hr (eD (cy IH hr (bD (dv 1) bM)) (cA cg bM)))) (cE (jP (i:=3) nd Y (by trivial) (q_ (eD (cy II hr (bD (dv 1) (cA cg (cA cg bM)))) (eD (cy II hr (eD (cy IH hr (bD (dv 1) bM)) (cA cg (cA cg bM)))) bM)))) (cE (gr (fP (jT hu) (dv 2) cg (by rfl)) (cI ((mB (gE gG (dv 3) cg (λ_ _=>Y)) (mz (dv 3) cg set_list)).weak qx)) h8) (cE (RI [η] ["web"] (k:=4) nd Y (by trivial) Y (CD (qo (dv 3))) (λd=>(kq (i:=0) (show(["web"]:-J).Nodup by decide +kernel) Y (by trivial))) (λd=>qi) (λd=>(u9 cN hr (bD (dv 0) bM)))) (cE (Nm [η] ["web"] (i:=5) nd Y (by trivial) Y (qo (dv 3)) (λd=>(kq (i:=0) (show(["web"]:-J).Nodup by decide +kernel) Y (by trivial))) (λd=>qi) (λd=>(oS (qd (zt (bD (dv 0) (mP (oS bM) bM))) bM)))) (cE (jP (i:=6) nd Y (by trivial) (RL (mP (q_ bM) (mP (q_ bM) bM)))) (cE (RJ [η] ["keeper"] (k:=7) nd Y (by trivial) Y (CF (dv 4)) (λd=>(kq (i:=0) (show(["keeper"]:-J).Nodup by decide +kernel) Y (by trivial))) (λd=>qi) (λd=>(jc ι vb hr (bD (dv 0) (cA cg bM))))) (cE (zA YC Y (Fh (by rfl) B.range (gO (iJ rH cg (cy qL hr (bD (dv 1) (cA cg bM)))) bM)) (kq (i:=8) nd Y (by trivial)) (cE (jP (i:=9) nd Y (by trivial) (cy qL hr (bD (dv 1) (cA cg bM)))) (cE (EX (cy Tv hr (bD (dv 1) (dq (gE gG (dv 5) (dv 9) (λ_ _=>Y)) bM))) (zx Y (tV (RM (dv 5) (dv 9)) (tV (kq (i:=10) nd Y (by trivial)) zw)))) (cI (gr (fP OC (dv 10) oQ (by rfl)) (cE (oU ((sZ Wn XW XX vA (uS (u5 (dv 6) (dv 9))) (bD (dv 10) bM)).weak Al)) (cE (jP (i:=11) nd Y (by trivial) (jc ι CW hr (dq (u5 (dv 4) (dv 9)) (bD (dv 10) bM)))) (cE (jP (i:=12) nd Y (by trivial) (cy qL hr (bD (dv 1) (cA cg bM)))) (cE ((mB (jc ι vb hr (dq (u5 (dv 4) (dv 9)) (bD (dv 12) bM))) (mz (dv 7) (dv 9) set_list)).weak qx) (cE (gr (tT (mQ (cy xw hr (mP (oS (bD (dv 11) (dq (gE gG (dv 7) (dv 9) (λ_ _=>Y)) bM))) (eD (jc ι Tw hr (dq (gE gG (dv 3) (dv 9) (λ_ _=>Y)) (dq (uS (u5 (dv 6) (dv 9))) (gO (iJ rH (dv 12) cg) bM)))) bM))))) (cI (eW qb)) h8) (cI (gr (tT (mQ (cy xw hr (eD (jc ι vb hr (dq (u5 (dv 4) (iJ wc cg (dv 9))) (gO (iJ rH (dv 12) cg) bM))) (dq (gE gG (dv 7) (iJ wc cg (dv 9)) (λ_ _=>Y)) bM))))) (cI (eW qb)) h8))))))) h8))))) (cI (eW qb))))))))))
 calc⟨_,vi (x9 (i:=1) nd Y (by trivial) (vq GO.ok (hr.mono (by decide)) (by rfl) GO.vO GO.kp GO.bd .nil pW (p9 (jv 0) cY))) rest,?_⟩;calc⟨_,Y,a,ns,Y,hS,hlen,λp c H1 sm hp N1=>?_⟩;let⟨F',ms,hm,S⟩:=O7 (a:=a) (n:=11) (aV.same hT sm) N1;calc O8 S (R0 c_Keeper ms hm) fin
end
noncomputable def d6:-jZ:=[⟨169,⟨52,40,52,76⟩,(("order_of" : J)++".<locals>.")++"<lambda>"⟩]
noncomputable def C0:-(J×R×O):=[("order_of",Ht,169)]
noncomputable abbrev dp(x:J)(s:R):J×R:=(x,s)
noncomputable def IJ:-(J×R):=[dp "is_whole" Hc,dp "is_within" He,dp "is_tuple_of" Hf,dp "are_ends" Hg,dp "is_way" Hi,dp "are_ways" Hl,dp "is_web" Hn,dp "need_web" Hq,dp "rank_of" Hr,dp "need_ways" Hv,dp "joined" Hx,dp "firsts_of" Hy,dp "weight_of" HA,dp "forest_of" HC,dp "ways_but" HE,dp "web_of" HG,dp "priced" HI,dp "first_missing" HK,dp "exchange_of" HM,dp "_law_spread" Ik,dp "_law_open" xx,dp "_law_anew" Im,dp "_law_take" Ip,dp "_law_same" CY,dp "_law_pairs_of" Iq,dp "_law_web" Iu,dp "_law_priced" Iw,dp "_law_turn" Iz,dp "_law_turned" IB,dp "_law_keeper_look" IC,dp "_law_alone" ID,dp "law" rY]
noncomputable def Tx:-(J×J×R):=[("web", "Keeper.web",HQ),("closed", "Keeper.closed",HS),("forest", "Keeper.forest",HV),("weight", "Keeper.weight",HW),("need_way", "Keeper.need_way",HY),("set_to", "Keeper.set_to",HZ),("changed", "Keeper.changed",H_),("price", "Keeper.price",Ia),("close", "Keeper.close",Ic),("free", "Keeper.free",Ig),("back", "Keeper.back",Ii)]
theorem Tz{c_Keeper fZ:O}{gI:FuncData}{l:q1p}{w:g}{K:Ee}{h:I}{mg:J->Option L}{fa:O}(X:K.In h)(G:h.Ns mainGlobals mg)(TB:mg "law" = U (.ref fa))(DS:g6 K IJ)(LS:e_ K C0)(N:∀x∈Cq,WC K mainGlobals x=U η)(lK:WC K mainGlobals "Keeper" = U (U (.ref c_Keeper)))(ae:Kx K c_Keeper ["town", "shut", "past"])(bO:g7 K c_Keeper Tx)(lL:Mk K c_Keeper fZ)(lM:f_ K "__init__" "Keeper.__init__" HP fZ gI)(g9:Ck K "MOST_HOUSES" 12)(jd:Ck K "MOST_WAYS" 30)(fm:Ck K "MOST_PRICE" 1000000000)
  : ∃fd:FuncData,(∀(s:ο)(v:L),BindsTo s fd ⟨[v],[]⟩ [("script",v)])/\∀base:I,K.In base->base.Ns mainGlobals mg->(∀t∈d6,base.BuiltinsAt mg t.T)->bY l.prog w K mg base eM 19 fa fd ["script"] (@uA (Be d6) K):=by
 let⟨f,fd,a,F⟩:=DS.at (x:="law") (st:=rY) 31 Y;cases TB.symm.trans (Yv X G a)
 letI:aV:=Be d6;let B:=Rr X G N;calc⟨fd,λs v=>by let⟨_,_,_,_,_,_,_,_,_,rfl,_⟩:=F.ex;calc .of_eq Y,λbase KB _ hB=>?_⟩;let D:∀(i:Nat){x:J}{st:R},IJ[i]?=U (x,st)->Dx ⟨l.prog,w,K,mg,base⟩ x st:=λi _ _ e=>(DS.at i e).v X G;let M:∀(i:Nat){x:J}{st:R}{T:O}{lp:y}{q:J},C0[i]?=U (x,st,T)->d6[i]?=U ⟨T,lp,q⟩->xk ⟨l.prog,w,K,mg,base⟩ x st T lp q:=λi _ _ _ _ _ e e2=>(LS.at i e).v X G KB hB (by decide) (by decide) (Vw e2);let TC:=Sa (D 0 Y) B;let rZ:=Sb (D 1 Y) B TC;let IK:=Sd (D 2 Y) B;let TF:=Se (D 3 Y) B rZ;let TH:=Sf (D 4 Y) B (fm.v X G) IK TF rZ
 let TJ:=Sh (D 5 Y) B (jd.v X G) TH;let TK:=Si (D 6 Y) B (g9.v X G) IK rZ TJ;let C1:=Sj (D 7 Y) B TK;let TL:=Sk (D 8 Y) B;let TM:=Sl (M 0 Y Y) B C1 TL;let TN:=Sn (D 9 Y) B C1 rZ;let IL:=So (D 10 Y) B;let TQ:=Sq (D 11 Y) B IL;let TR:=Ss (D 12 Y) B TN;let TU:=Su (D 13 Y) B TM TQ IL;let TV:=Sv (D 14 Y) B;let TX:=Sw (D 15 Y) B;let TY:=Sx (D 16 Y) B;let TZ:=Sy (D 17 Y) B;let T1:=Sz (D 18 Y) B TZ;let eJ:=SA (Z:=⟨l.prog,w,K,mg,base⟩) ⟨fZ,gI,⟨Yv X G lK,lL⟩,lM⟩ B ae C1;let iE:=SD (Z:=⟨l.prog,w,K,mg,base⟩) (bO.at 0 Y) B ae;let f6:=SE (Z:=⟨l.prog,w,K,mg,base⟩) (bO.at 1 Y) B ae
 let cC:=SF (Z:=⟨l.prog,w,K,mg,base⟩) (bO.at 2 Y) B ae TV TU TX;let f7:=SJ (Z:=⟨l.prog,w,K,mg,base⟩) (bO.at 3 Y) B ae TR cC;let bZ:=SM (Z:=⟨l.prog,w,K,mg,base⟩) (bO.at 4 Y) B ae rZ;let dE:=SN (Z:=⟨l.prog,w,K,mg,base⟩) (bO.at 5 Y) B ae cC T1;let cq:=SQ (Z:=⟨l.prog,w,K,mg,base⟩) (bO.at 6 Y) B ae dE;let gB:=SS (Z:=⟨l.prog,w,K,mg,base⟩) (bO.at 7 Y) B (fm.v X G) ae bZ rZ cq TY;let gC:=SV (Z:=⟨l.prog,w,K,mg,base⟩) (bO.at 8 Y) B ae bZ cq;let g_:=SW (Z:=⟨l.prog,w,K,mg,base⟩) (bO.at 9 Y) B ae bZ cq;let hJ:=SX (Z:=⟨l.prog,w,K,mg,base⟩) (bO.at 10 Y) B ae dE;let T2:=SY (D 19 Y) B
 let T3:=S7 (D 21 Y) B;let xy:=S8 (D 22 Y) B T2;let T4:=Tg (D 23 Y) B 5;let T5:=S9 (D 24 Y) B xy;let T6:=S_ (D 25 Y) B xy T5;let T7:=Ta (D 26 Y) B;let T8:=Tb (D 27 Y) B xy T7;let IM:=Tc (c_Keeper:=c_Keeper) (D 28 Y) B ae gB hJ gC g_;let IP:=Td (c_Keeper:=c_Keeper) (D 29 Y) B ae iE f6 cC f7;let T9:=Te (c_Keeper:=c_Keeper) (D 30 Y) B ae eJ IM IP;let⟨fo,U7,ao,Fo⟩:=D 20 (x:="_law_open") (st:=xx) Y;calc Tu (Z:=⟨l.prog,w,K,mg,base⟩) F B ⟨Th Fo B.list B.enumerate,ao,Fo.kp,Fo.binds pb⟩ ae xy T3 T6 eJ IP T8 IM T4 T9
theorem T_{K:Ee}{h:I}(X:K.In h)(LS:e_ K C0):∀t∈d6,∃cc,q1J h cc t.T:=λt ht=>LS.code X t.T (show t.T∈d6.map (·.T) from WQ ht)
end LJ
open PySem PySem.W PyProof.Rows
end
open LJ L2
inductive PySem.W.Fast:Prop|tw14899192258298185452|tw5160384573653439939|tw12499595830543531694|tw3756832039372616959|tw1568420623138084158|tw10788324821417242121|tw14311148489590704568|tw12927143621523136041|tw3484941777167322917|tw1569980834615942783|tw18053817375888060796|tw6080610220970063097|tw12918107643688900179|tw17392789293099175992|tw9902774509940181189|tw11188697986393708603|tw3120278023236961518|tw6949561436223087187|tw9601773524744029431|tw414567555561764915|tw12984523610195018783|tw10791370230498729495|tw15295757826221781081|tw680509616689912753|tw4543328959437992523|tw3160689754415813136|tw8672229520751106877|tw13675299719348850546|tw11399282801911625127|tw14900917650796334432|tw8892761831312070913|tw3417297619248177718|tw16427258441347628974|tw13325693589191396873|tw10072329622853467083|tw7666039105626399519|tw7581824240412829322|tw16653578974409088378|tw16576779804199489632|tw5705808626236702292|tw15298857786156250746|tw6567639830992721379|tw17495217012394108686|tw13752897699232875815|tw14072248442880530202|tw2464103123475102689|tw3957535394000950093|tw16745285551910468244|tw8572646161961604974|tw11213965880064327496|tw10628531938833481114|tw9087098186203766595|tw11728040221107822748|tw4417518671831151520|tw1077622763210346923|tw4825303348491306469|tw6867405971900107857|tw7206032178299344503|tw4972092102483572305|tw17227087844080350492|tw8592805739171733905|tw14614211159999755980|tw15764041975443499236|tw17741488431581341523|tw10541082694176700137|tw13431620486662819301|tw16762215943660780767|tw2720568875151554300|tw11697631600299318047|tw3252291224957380707|tw11958107931946677788|tw15282335149961775533|tw12746733683807429894|tw15454187914663370692|tw10662551710657960849|tw318942390175108500|tw5264474936953227136|tw1339582299404312846|tw11066527319195110805|tw655208873747928523|tw3326926302832002733|tw938272370884133295|tw8662466157784123631|tw4508476024934213918|tw10683736424183875223|tw907733483780755619|tw7667908303719301703|tw16635687237640445088|tw7390880304851429984|tw3763172210715808159|tw1036876613531918242|tw17252257602049882013|tw16221217527960685601|tw2708691376627295256|tw12240040523792338441|tw15467862578982535847|tw14544682504751268413|tw2688344184194562719|tw17350303751418781191|tw9375956846472494230|tw106457950643194916|tw12353355051323534199|tw3311892804808280613|tw15799805872216684205|tw7435043241974320795|tw561292484246497012|tw5531292010404567832|tw17419567803862408665|tw5996925798460992392|tw13158275125009870171|tw7799038390021601850|tw3617543157112401989|tw3549903858841228505|tw3701485063069477188|tw15031627425745313773|tw6327862279667722409|tw7462338543209968160|tw9145555528522098860|tw7350695614361318608|tw8188276132824617685|tw9412503501052562775|tw5712771833365248349|tw6648332799445799187|tw5580372720032126486|tw10662365163078976818|tw12462854162206634302|tw14489659977704792559|tw8282391359970699536|tw5916973427108553545|tw15561677641503035635|tw7884896021007825495|tw6765990371426881422|tw11914026581037213519|tw8987533303373864270|tw10290797685904924101|tw16131334061102014534|tw3823602791042474859|tw13731063839519193750|tw2204188989739976856|tw16044078356858553730|tw3466270761072955715|tw1586822396191348935|tw8201576458416031213|tw15442280030964174379|tw11833395885872737288|tw936772751542366575|tw10971262757672319349|tw17762450395065235438|tw17921541549125752417|tw11168847061813134046|tw2662027283207101583|tw6016151692435558805|tw9704795419876336240|tw3789456338223982984|tw1769170507454911828|tw1585998196117152826|tw1668034136317122292|tw11608045244930379497|tw13902888057517645018|tw14135544106374624944|tw1930775626500402754|tw11249229625369387943|tw15417720807342913526|tw6105269666899386895|tw6229089866622217455|tw13834170798331650592|tw17071167132801205895|tw9657890707611150106|tw12628943745172186898|tw15390373135611986217|tw12099146351130303325|tw1717703704771101830|tw11249948685491143246|tw3601717566632418111|tw13705254485522634718|tw9431690188855073741|tw17117983989557937506|tw7522171134180773234|tw18300218517196311081|tw4050736798020653880|tw17930707894421462277|tw5994068601358346821|tw3224437371517683089|tw2062220846346811699|tw6911755142189991025|tw17072281377130354108|tw1525075470568110047|tw9272388360763101998|tw7491105822683862902|tw11645981691765102718|tw14498533517502942908|tw4056017316687584774|tw14328383149140788681|tw13645966030536861317|tw7332772863643269530|tw12401698636312501752|tw2552208471766497134|tw14392702744071688712|tw1778797283712655361|tw17224043815370096719|tw7824463902178769798|tw11490502279922723263|tw11513102564847234438|tw3968125575907949603|tw9719962754445457488|tw12013551550198614894|tw12295711351443589550|tw1333732108937866880|tw12219794662877846951|tw15337095692639292620|tw14653913454163285473|tw15168185719383022844|tw6942947174138952508|tw16102053545153675612|tw4124962263766732545|tw16465863287058042684|tw11752314434007940230|tw2377580861786260822|tw3944123663501559643|tw17424910329256113795|tw4451487623780222441|tw11378113996064423244|tw18265048092572563297|tw5596131755427130683|tw7735749963190460818|tw11281151844956972369|tw9952665327075826010|tw16475709692493501640|tw5562225407454412008|tw7440812593851622875|tw4214088714193953766|tw6170142190313622427|tw12898501207124874856|tw9718290818193200831|tw14701596990628649331|tw15325261018292777534|tw7579048546810725406|tw6065785502938773519|tw7773454759851908192|tw5164898657562325972|tw3163197027073236485|tw477533127072148819|tw15361226868886096224|tw10263785855849598209|tw6100274191780722630|tw3867694713539523439|tw16003640804937475269|tw15988483613416293494|tw2322350435208820475|tw9703304941485892231|tw3970784785899065738|tw11298490348358423811|tw14603135395035057706|tw18060588753273595710|tw10408992392277112781|tw12356230994777634755|tw3933456755409617977
set_option maxRecDepth 100000 in
set_option maxHeartbeats 0 in
theorem PySem.Challenge.cw_lotjoin_k62_two_keepers_by_turns_holds : PySem.Challenge.rw_lotjoin_k62_two_keepers_by_turns.Holds := by
 w_on;o_law;k_head;(case hw=>w_witness2)
 k_fill
 refine LJ.PY (l:=PySem.Challenge.rw_lotjoin_k62_two_keepers_by_turns) (kk:=19) LJ.d6 rfl rfl rfl ⟨rfl,by decide,by decide,rfl⟩ ?C (λP=>by kernel_rfl) ?F
 case C =>
  intro w h KX;refine LJ.T_ KX ?_
  repeat' first|exact LJ.e_.nil|refine LJ.u3 (by k_is) (by k_is) (by k_is) (by k_is) (by kernel_rfl) ?_
 case F =>
  intro w mg fa h KX G mK;refine' LJ.Tz KX G mK ?dD ?dL ?dN ?aKeeper ?kKeeper ?mKeeper ?iKeeper ?fKeeper ⟨_,by k_is,_,rfl⟩ ⟨_,by k_is,_,rfl⟩ ⟨_,by k_is,_,rfl⟩
  (case dD=>repeat' first|exact LJ.g6.nil|refine LJ.Cp (by k_is) (by k_is) (by k_is) (by k_is) ?_)
  (case dL=>repeat' first|exact LJ.e_.nil|refine LJ.u3 (by k_is) (by k_is) (by k_is) (by k_is) (by kernel_rfl) ?_)
  (case dN=>repeat' first|exact Z0 _|refine LJ.Rp (by k_is) ?_)
  (case aKeeper=>k_is)
  (case kKeeper=>exact⟨⟨by k_is,by k_is,by k_is,by k_is⟩,by repeat' first|exact Z0 _|refine List.forall_mem_cons.mpr ⟨(by k_is:V0 _ _ _=_),?_⟩⟩)
  (case mKeeper=>repeat' first|exact LJ.g7.nil|refine LJ.allM (by k_is) (by k_is) (by k_is) (by k_is) (by k_is) ?_)
  (case iKeeper=>exact⟨by k_is,by k_is,by k_is,by k_is⟩)
  (case fKeeper=>exact L2.vD (by k_is) (by k_is) (by k_is))
