import PyProof.Rows.All
import Wide.All
import OpenK.AllK
import Wide.FinOn
import Lean
import PyProof.Rows.SetFrom
import PyProof.TupleKey
import PyProof.SetRoads
import PySem.SetOps
import PyProof.EqAt
import PyProof.EqKinds
import PyProof.TupleCall
import KE.KDictList
import KE.KDictLaws
import PyProof.NeKinds
import PyProof.Draws
import KE.KSortTup
import KE.KLam
import PyProof.ListRange
import PyProof.TupleOfSeq
import PyProof.MinMaxWalk
import PyProof.StrCalls2
import PyProof.Rows.StrNews2
import PyProof.FString
import PyProof.CallStr
import PyProof.StrLawsOcc
import PyProof.StrLawsChain
import KE.KIntText
import PyProof.StrLawsTight
import KE.KNestM
import KE.KMinKey
import PySem.Challenge.RW_lotjoin_k76_webs_and_lists_written
open PySem renaming wpAny_bind->kb,Heap.get?_push_of_some->nF,W.Frag->nG,wpAny_pure->qY,Heap.lt_size->Jo,Heap.get?_push_size->R0,Str.ofString->R3,W.kitOne->Ts,Spec->Tu,W.nsIn->TV,Value.ref->TX,W.mg_of->T3,wpAny_holding->Ua,wpAny_field->Uj,Builtin.Tuple.tupleExact->Uk,wpAny_newObj_type->Uo,Builtin.Slice.slicePlaces->Uq,W.kia_one->Us,wpAny_callSpecial?_slot->Uv,Builtin.SmallTypes.nextOf->UB,Value.none->UC,mem_of_lookup->UD,wpAny_truthy_bool->UG,Heap.get?_update_self->UI,SetTable.layClean.free->UJ,W.keepIn->UK,NameKind.cell->UL,Builtin.SmallTypes.ownedTupleIsFree->UM,wpAny_mono->UP,Str.join->UR,NameKind.free->UW,wpAny_seqItems->U1,Heap.get?_update_other->U2,W.fnOf->U_,Builtin.Str.occurrences->Vc,F.plainAttrs_list->Vd,wpAny_call_entry->Vf,W.findIn->Vh,Builtin.Slice.sliceApplied->Vi,Heap.size_push->Vj,F.slot_tuple_iterator_next->Vk,wpAny_setField_rec->Vm,wpAny_setState_of->Vq,Builtin.List.listTooLong->Vs,call_meets->Vt,Txt.partition->Vu,Heap.SameBut.update->Vw,Txt.split->VD,Str.append_assoc->VF,Obj.data_mapFields->VI,F.called_set->VJ,SetTable.probe.go->VM,wpAny_loadPart'->VN,wpAny_pyIter_list->VT,Str.length_append->VU,SetTable->VV,Value.bool->VW,Builtin.Tuple.tupleItemsOf->VX,Builtin.Slice.sliceAdjust->V6,Builtin.SmallTypes.ownedTupleHandOut->V8,wpAny_standAt->V_,F.args_tuple_add_2->Wa,Value.builtin->Wb,wpAny_passesOwn->Wd,wpAny_Call_Name_kw->Wg,Builtin.Str.strSub->Wi,F.entry_tuple_add->Wj,Heap.SameBut->Ws,W.cellsFrom_some->Wt,F.slot_tuple_add->Wu,W.exmOne->WD,boot_len->WH,Obj.isFreed_of_fields->WK,wpAny_forIn_list->WQ,Value.int->WR,SeqAt.EqAt->WU,wpAny_onRaise->WX,wpAny_updateSeq_pair->WZ,wpAny_execs_nil->W5,SeqAt.EqAt.same->W7,F.args_tuple_iterator_next_1->W8,F.slot_zip_next->W_,codeAny_mono->Xd,wpAny_typeOf->Xe,F.entry_tuple_iterator_next->Xf,SeqAt.EqAt.int_str->Xj,SeqAt.EqAt.str_int->Xk,Calls.Name_function_global->Xl,W.codeIn->Xm,SeqAt.EqAt.int_int->Xn,Heap.IsSliceOf.new->Xp,typeIs_str->Xq,Around.in1_handled->Xr,wpAny_setField->Xu,F.slot_str_partition->Xv,Builtin.Slice.sliceFields->XA,W.methodObj->XC,wpAny_sequenceKey->XD,slot_list_getitem->XF,F.entry_str_split->XG,wpAny_getItem_list_slice->XJ,wpAny_attempt->XN,Builtin.Str.partsBetween->XR,Builtin.Range.rangeSize->XU,noFill_tuple_add->XW,wpAny_pyIter_enum->XY,F.attr_ValueError->XZ,StrLaws.partsBetween_eq->X1,F.slot_str_split->X7,Obj.mapSeq->Yc,SetTable.insertAt_perm->Ye,Obj.putSet->Yf,W.instObj->Yj,codeAny_builtin->Yn,wpAny_eqIsQuiet_tuple->Yp,StrLaws.strSub_toList->Yq,Heap.get?_none_of_le->Yx,sizeLine_eq->Yz,W.lookIn->YA,SeqAt.EqAt.none_bool->YB,SeqAt.EqAt.bool_none->YC,SeqAt.EqAt.bool_bool->YD,codeAny_call_builtin->YF,Around.under_plainId->YH,SeqAt.EqAt.none_int->YM,SeqAt.EqAt.none_str->YN,SeqAt.EqAt.bool_int->YO,SeqAt.EqAt.bool_str->YQ,SeqAt.EqAt.int_none->YR,SeqAt.EqAt.int_bool->YS,SeqAt.EqAt.str_none->YT,SeqAt.EqAt.str_bool->YU,Builtin.Str.strKind->YW,EntryCells.newEntry->YZ,SetTable.fill->Y1,seq_tuple_add->Y2,evalPart_none->Y4,Value.type->Za,wpAny_call->Zb,W.callWith_K->Zc,SeqAt.EqAt.str_str->Ze,wpAny_rule->Zf,wpAny_pyIter_tuple->Zg,SeqAt.EqAt.of_refs->Zh,W.mg_none_of->Zj,Value.isInt_shape->Zp,wpAny_assign_Name->Zq,W.hasDictIn->Zr,W.specialIn->Zs,W.kitx_list->Zt,W.kitx_dict->Zu,concat_meets->Zv,seqIndex_neg->Zx,wpAny_storeSet_of->ZF,Txt.contains->ZH,StrLaws.partsFrom->ZI,wpAny_loadPart_at->ZK,F.args_zip_next_1->ZL,Value.str->ZO,wpAny_execs_cons->ZQ,W.plainGet->ZR,putSet_of->ZU,F.entry_zip_next->ZX,wpAny_pyIter_zip->ZY,Value.float->Z0,seqIndex_of->Z2,wpAny_letGo->Z4,wpAny_specialOf->Z7,W.takesIn->Z8,F.slot_int_rmul->Z_,W.OpenLaw->q0a,pushCells_keeps->q0b,wpAny_ite_split->q0d,PassesOwn.never->q0h,wpAny_Name->q0n,wpAny_Compare1->q0o,W.InstAt->q0p,typeIs_int->q0t,fitsIndex_both->q0v,call->q0x,Walks.list->q0z,SeqAt.RcAt->q0B,SetFound.there->q0E,SetTable.grown->q0F,SetTable.fits->q0Q,rangeSize_one->q0S,intBits_le_64->q0T,evalPart_some->q01,call_list_seq->q03,Obj.mapFields->q08,Str.empty->q1d,Within->q1r
open List renaming getElem?_eq_some_iff->kP,getElem?_eq_getElem->nH,length_map->pj,size_toArray->xu,mem_cons_self->Cu,length_append->Cv,length_cons->Cw,mem_cons->Cy,mem_cons_of_mem->Jp,getElem?_map->R1,getElem?_append_left->R4,replicate->R5,getElem?_append_right->Tn,mem_iff_getElem?->Tp,not_mem_nil->Tr,getD_eq_getElem?_getD->Tx,mem_map->Tz,length_take->TB,map_cons->TJ,map_append->TK,lookup_cons->TQ,range->TY,getElem?_set_self->TZ,mem_append->T1,mem_of_getElem?->T2,mem_range->T6,mem_append_right->T7,getElem?_set_ne->T8,length_singleton->T9,take_of_length_le->T_,getElem?_take_of_lt->Ub,all_eq_true->Uc,drop_eq_getElem_cons->Ug,length_drop->Uh,mem_singleton->Ul,replicate_succ->Ut,mem_append_left->Uw,length_set->Ux,map_map->Uz,length_range->UE,length_replicate->UH,mem_iff_getElem->UQ,append_assoc->U0,nodup_append->U4,getElem?_range->U5,filterMap_cons->U6,set_cons_zero->U7,set_cons_succ->U8,cons.inj->Va,mem_filterMap->Vg,getElem?_toArray->Vn,flatten_cons->Vp,length_reverse->Vx,countP_cons->Vy,getElem?_replicate->Vz,length_eq_zero_iff->VB,map_nil->VH,nodup_cons->VL,getElem?_eq_none->VP,any_eq_false->VR,eq_of_mem_replicate->V9,length_nil->Wf,contains_cons->Wh,getElem?_cons_succ->Wk,pairwise_map->Wr,drop_of_length_le->Ww,reverse_cons->Wx,take_succ->WB,length_filterMap_eq_countP->WJ,nodup_range->WM,getElem_mem->WW,mem_filter->W0,append_nil->W6,map_congr_left->Xb,drop_zero->Xh,filterMap_map->Xi,nodup_nil->Xs,take_zero->Xt,length_eraseIdx_of_lt->Xw,mem_or_eq_of_mem_set->Xx,pairwise_iff_getElem->Xy,extract_eq_take_drop->Xz,ext_getElem?->XB,all_cons->XM,any_cons->XQ,find?_some->Yg,foldl_cons->Yi,of_mem_zip->Yk,nil_append->Yl,forIn_cons->Ym,countP_eq_length->Yo,take_append_drop->Yr,Perm.append_left->Ys,mem_of_mem_drop->Yv,Perm.refl->Yw,forIn_nil->YE,take_succ_cons->YV,replicate_zero->YX,filter_sublist->YY,find?_eq_none->Y6,pairwise_cons->Y8,zip_cons_cons->Zd,filter_append->Zi,take_sublist->Zo,Pairwise.nil->Zz,Sublist.refl->ZJ,getElem_inj->ZP,take_length->ZV,zipIdx_cons->ZW,length->Z1,lookup->Z3,zipIdx_nil->q0g,Perm.cons->q0l,Perm.swap->q0m,foldl->q0u,all_map->q1x,filter->q2V,drop->q3T,Perm->q3U
open Nat renaming le_refl->ug,lt_of_lt_of_le->TC,ne_of_lt->TN,le_trans->T5,zero_le->Ui,sub_self->Uy,zero_add->UX,lt_succ_of_lt->UZ,lt_irrefl->U9,le_of_lt->Vo,le_add_right->VC,le_of_lt_succ->VQ,ne_of_gt->VY,succ_pos->Wn,toDigits->WC,le_of_ble_eq_true->WL,lt_succ_self->WN,lt_of_le_of_lt->Xg,le_of_not_lt->XT,ble_eq_true_of_le->Yt,pow_le_pow_right->YI,lt_trans->Zl,sub_zero->Zn,le_of_succ_le->ZA,lt_of_succ_le->ZC,min_self->ZE,not_lt_zero->q0c,mod_lt->q0j,digitChar->q05,succ_add->q1p,mul_comm->q1q,succ.inj->q1L,le_succ->q2t,log2_lt->q2X,not_lt->q3t,ble->q3P
open Bool renaming false_ne_true->Jn,false_eq_true->Jr,and_eq_true->Tv,not_true->Ue,not_false->Vl,not_eq_true->VZ,true_and->Wc,eq_iff_iff->We,and_false->Wv,not_eq_true'->Wz,or_true->Yd,false_and->Yy,and_true->Y5,eq_false_iff->ZD,or_false->q02
open Array renaming length_toList->Jq,getElem?_eq_getElem->My,getElem?_toList->TM,getElem?_eq_some_iff->Ud,getD_eq_getD_getElem?->UT,toList_setIfInBounds->UY,toList_filterMap->VG,getElem?_setIfInBounds->VO,toList_replicate->Wo,toList_push->Wq,mem_toList_iff->WY,getElem_mem_toList->XH,size_setIfInBounds->XI,getElem?_eq_none->X9,replicate->Yh,toList_extract->Yu,size_map->YG,toList_append->YL,size_extract->Y7,foldl_toList->Y9,forIn_toList->Y_,size_append->Zm,size_push->Z6,getD->q0D,toList->q1s
open Option renaming map_eq_some_iff->Tq,some.inj->TU,isSome_iff_exists->Vr,bind_some->VA,getD_none->WV,isSome->Y0,map_some->Z5,none->q2v,map->q3l
open LawfulBEq renaming eq_of_beq->TF
open PyProof renaming Rows.slot_tuple_getitem->TR,Rows.callWith_type1->UU,Rows.F.plain_set_update_loop->Wl,Rows.boot_isinstance->W9,Rows.entry_tuple_getitem->Xa,Rows.args_tuple_getitem->Xo,Rows.F.entry_set_update_loop->X0,Rows.subscriptTail_builtinR->Yb,Rows.IsTup.new->YK,Rows.tupleItemsOf_->Y3,Rows.callWith_builtin1->ZS,Rows.tail_any->q0s
open Int renaming emod_lt_of_pos->Ur,emod_nonneg->UN,toNat->US,toNat_natCast->VS,ofNat.inj->XO,eq_ofNat_of_zero_le->X8,ediv_one->Zw,ofNat->ZT,zero_add->q1w,mul_one->q2r
open False renaming elim->Uu
open ForInStep renaming yield->UO
open Ne renaming symm->Vv
open Classical renaming byContradiction->V0
open Or renaming inl->Wm,inr->ZN
open Sum renaming inl->X_,inr->YJ
open True renaming intro->Ya
open Prod renaming fst->q0A
open Char renaming toNat->q0I
open Function renaming comp->q07
open PUnit renaming unit->q3z
set_option Elab.async false
set_option linter.all false
set_option maxRecDepth 100000
abbrev aT:=PySem.Value->PySem.Shared->Prop
local macro_rules | `(tactic| trivial) => `(tactic| first|exact Wm rfl|exact ZN rfl)
abbrev To:=@if_neg
abbrev Tt:=@decide_eq_true
abbrev Tw:=@if_pos
abbrev TH:=@decide_eq_false
abbrev Um:=@if_false
abbrev UA:=@or_false
abbrev U3:=@of_decide_eq_true
abbrev Vb:=@decide_eq_true_eq
abbrev Ve:=@if_true
abbrev V7:=@beq_eq_false_iff_ne
abbrev XX:=@beq_self_eq_true
theorem el7{α β γ ε:Type}{A B C:α→β→γ→ε→Prop}{R:Prop}(h:∃F ad δ K, A F ad δ K∧B F ad δ K∧C F ad δ K)(k:∀F ad δ K, A F ad δ K→B F ad δ K→C F ad δ K→R): R:=h.elim λF h=>h.elim λa h=>h.elim λd h=>h.elim λK h=>k F a d K h.1 h.2.1 h.2.2
theorem el5{α β:Type}{A B C:α→β→Prop}{R:Prop}(h:∃F ad, A F ad∧B F ad∧C F ad)(k:∀F ad, A F ad→B F ad→C F ad→R): R:=h.elim λF h=>h.elim λa h=>k F a h.1 h.2.1 h.2.2
theorem el3{α:Type}{A B:α→Prop}{R:Prop}(h:∃F, A F∧B F)(k:∀F, A F→B F→R): R:=h.elim λF h=>k F h.1 h.2
set_option compiler.extract_closed false
local macro_rules | `(tactic| symm) => `(tactic| first|lia|omega (config:={}))
local macro_rules | `(⋯) => `(by symm)
abbrev A1:=PySem.Value->PySem.Shared->Prop
open Option renaming some->U,some->ζ,none->Z,none->η
open Bool renaming true->θ,false->ι
open Decidable renaming decide->g,decide->μ
open PySem renaming Value->B,Value->ν,Addr->O,Addr->ξ,Shared->L,Shared->ο,Str->J,Str->π,wpAny->G,wpAny->ρ,model->S,model->ς,Expr->M,Expr->υ,Stmt->o,Stmt->χ,Program->q,Program->ψ,World->I,World->ω,Heap->R,Heap->Α,Around->l,Around->Β,Obj->f,Obj->Γ,Scope->u,Scope->Δ,Pos->y,Pos->Ε,Env->t,Env->Ζ
theorem Y{α:Sort u}{a:α}:a=a:=rfl
section
open Lean in
local macro_rules
 |`(tactic|let $d:letDecl)=>do
  let d:=d.raw[0]
  if d.getKind==`Lean.Parser.Term.letPatDecl then
   let p←d[0].rewriteBottomUpM fun s=>match s.getKind with
    |`ident=>`(rcasesPat|$(⟨s⟩):ident)
    |`Lean.Parser.Term.hole=>`(rcasesPat|_)
    |`Lean.Parser.Term.anonymousCtor=>do
     let a←s[1].getSepArgs.mapM fun x=>`(Parser.Tactic.rcasesPatLo|$(⟨x⟩):rcasesPat)
     `(rcasesPat|⟨$a,*⟩)
    |_=>pure s
   pure (mkNode `Lean.Parser.Tactic.obtain #[mkAtom "obtain",mkNullNode #[mkNode `Lean.Parser.Tactic.rcasesPatMed #[mkNullNode #[p]]],mkNullNode (if d[2].getNumArgs==0 then #[] else #[mkAtom ":",d[2][0][1]]),mkNullNode #[mkAtom ":=",mkNullNode #[d[4]]]])
  else `(tactic|have $(⟨mkNode `Lean.Parser.Term.letDecl #[d]⟩):letDecl)
open Lean in
local macro_rules
 |`(fun $bs* => $e)=>do
  if (← getRef)[1][2].getAtomVal != "↦" then Macro.throwUnsupported
  let ps←bs.mapM fun s=>do
   let p←s.raw.rewriteBottomUpM fun s=>match s.getKind with
    |`ident=>`(rcasesPat|$(⟨s⟩):ident)
    |`Lean.Parser.Term.hole=>`(rcasesPat|_)
    |`Lean.Parser.Term.anonymousCtor=>do
     let a←s[1].getSepArgs.mapM fun x=>`(Parser.Tactic.rcasesPatLo|$(⟨x⟩):rcasesPat)
     `(rcasesPat|⟨$a,*⟩)
    |_=>pure s
   `(rintroPat|$(⟨p⟩):rcasesPat)
  `(by rintro $ps*;exact $e)
local macro_rules |`(tactic|calc $e:term)=>`(tactic|refine $e)
local macro_rules |`(tactic|ext $p*)=>`(tactic|rintro $p*)
local macro_rules |`(↑$x)=>`(($x).length)
local macro_rules |`(⇑$x)=>`(($x).heap.objs.size)
local macro_rules |`($x⁻¹)=>`(by simpa using $x)
open Lean in
local macro_rules
 |`(-$x)=>if x.raw.getKind==`Lean.Parser.Term.typeAscription||x.raw.isOfKind `num||(x.raw.isOfKind `Lean.Parser.Term.paren&&!x.raw[1].isOfKind `Lean.Parser.Term.app&&!x.raw[1].isOfKind `«term-_»&&!x.raw[1].isOfKind `«term_×_»&&!x.raw[1].isOfKind `Lean.Parser.Term.arrow) then Macro.throwUnsupported else `(List $x)
open Lean in
local macro_rules
 |`(tactic|erw[$ls,*] $[$l:location]?)=>do
  let a←ls.getElems.mapM fun r=>do
   let t:Term:=⟨r.raw[1]⟩
   if r.raw[0].getNumArgs==0 then `(Parser.Tactic.simpLemma|$t:term) else `(Parser.Tactic.simpLemma|←$t:term)
  `(tactic|simp only[$a,*] $[$l]?)
namespace LJS
open PySem PySem.SetTable
noncomputable def nx(m i:Nat):Nat:=(i*5+1)%(m+1)
noncomputable def ku(m:Nat):Nat->Nat->Nat
 |0,i=>i
 |n+1,i=>ku m n (nx m i)
theorem tQ(m:Nat):∀a b i,ku m (a+b) i=ku m b (ku m a i)
 |0,b,i=>by rw[UX];rfl
 |a+1,b,i=>by rw[q1p];calc tQ m a b (nx m i)
noncomputable def vM(m:Nat):Nat->Nat->-Nat
 |0,_=>[]
 |n+1,i=>i::vM m n (nx m i)
theorem A7(m:Nat):∀{n i e:Nat},e∈vM m n i->∃k,k<n/\ku m k i=e
 |0,_,_,h=>nomatch h
 |n+1,i,e,h=>by
  rcases Cy.mp h with rfl|h
  .exact⟨0,Wn _,Y⟩
  .let⟨k,hk,e⟩:=A7 m h
   calc⟨k+1,Nat.succ_lt_succ hk,e⟩
def Mk(m:Nat):Prop:=m=7\/m=31\/m=127
noncomputable def qi(m:Nat):Bool:=(TY (m+1)).all λe=>(vM m (m+1) 0).contains e
theorem A8(h:Mk m):qi m=θ/\ku m (m+1) 0=0:=by
 rcases h with rfl|rfl|rfl<;>calc⟨by decide +kernel,by decide +kernel⟩
theorem l6(h:Mk m)(he:e<=m):∃k,k<=m/\ku m k 0=e:=by
 let:=Uc.mp (A8 h).1 e (T6.mpr (Nat.lt_succ_of_le he));let⟨k,hk,q⟩:=A7 m (List.contains_iff_mem.mp this);calc⟨k,VQ hk,q⟩
theorem G3(h:Mk m)(hi:i<=m)(he:e<=m):∃n,n<=m/\ku m n i=e:=by
 let⟨a,ha,rfl⟩:=l6 h hi;let⟨b,hb,rfl⟩:=l6 h he
 by_cases RU:a<=b
 .refine⟨b-a,⋯,?_⟩
  rw[<-tQ];congr 1;symm
 .refine⟨m+1-a+b,⋯,?_⟩
  rw[<-tQ,show a+(m+1-a+b)=(m+1)+b by symm,tQ,(A8 h).2]
noncomputable def lp(m:Nat):Nat->Nat->Nat->Nat×Nat
 |0,i,p=>(i,p)
 |n+1,i,p=>lp m n (leap m i p).1 (leap m i p).2
theorem vN(m:Nat):∀a b i p,lp m (a+b) i p=lp m b (lp m a i p).1 (lp m a i p).2
 |0,b,i,p=>by rw[UX];rfl
 |a+1,b,i,p=>by rw[q1p];calc vN m a b _ _
theorem A9(m:Nat):∀n i,lp m n i 0=(ku m n i,0)
 |0,i=>Y
 |n+1,i=>by
  show lp m n (leap m i 0).1 (leap m i 0).2=_;let e:leap m i 0=(nx m i,0):=by unfold leap nx;simp
  rw[e];calc A9 m n _
theorem A_(m i p:Nat):(leap m i p).1<=m:=VQ (q0j _ (Wn _))
theorem Ba(m:Nat):∀n i p,(lp m n i p).2=p / 32 ^ n
 |0,i,p=>by simp[lp]
 |n+1,i,p=>by
  show(lp m n (leap m i p).1 (leap m i p).2).2=_;rw[Ba m n];show p / 32 / 32 ^ n=_;rw[Nat.div_div_eq_div_mul,Nat.pow_succ,q1q]
theorem reach(h:Mk m)(hp:p<2 ^ 64)(he:e<=m):∃n,n<=13+m/\(lp m n i p).1=e:=by
 let z:(lp m 13 i p).2=0:=by
  rw[Ba];exact Nat.div_eq_of_lt (Zl hp (by decide))
 let q:(lp m 13 i p).1<=m:=by
  rw[vN m 12 1];exact A_ _ _ _
 let⟨n,hn,en⟩:=G3 h q he;calc⟨13+n,⋯,?_⟩;rw[vN,z,A9];calc en
theorem Bc(j:Nat):has #[] j=ι:=by unfold has;simp
theorem qj{t:SetTable}(hd:t.dummies = #[])(j:Nat):t.slot j=.empty\/∃i,t.slot j=.live i/\i<t.place.size/\j∈t.place.toList:=by
 unfold slot;rw[hd,Bc];dsimp only
 by_cases c:(t.place[below t.place j]?==U j)=θ
 .right
  rw[Tw c];let e:=TF c;let⟨hl,ev⟩:=Ud.mp e;exact⟨_,Y,hl,by rw[<-ev];calc XH hl⟩
 .left
  rw[To c];rfl
theorem G4{t:SetTable}(hd:t.dummies = #[])(hj:j∉t.place.toList):t.slot j=.empty:=by
 rcases qj hd j with h|⟨_,_,_,h⟩
 .exact h
 .calc absurd h hj
theorem Be:∀{l l':-Nat},l.Nodup->(∀x∈l,x∈l')->↑l<=↑l'
 |[],_,_,_=>Ui _
 |a::l,l',hn,hs=>by
  let ha:a∈l':=hs a (Cu ..);let oZ:=VL.mp hn;let ih:=Be (l:=l) (l':=l'.erase a) oZ.2 λx hx=>(List.mem_erase_of_ne (λz=>oZ.1 (by rw[<-z];calc hx))).mpr (hs x (Jp _ hx));rw[List.length_erase_of_mem ha] at ih;let:=List.length_pos_of_mem ha;rw[Cw];symm
theorem G5{l:-Nat}(h:↑l<=m):∃e,e<=m/\e∉l:=by
 calc V0 λno=>?_;let all:∀e,e∈TY (m+1)->e∈l:=λe he=>V0 λz=>no ⟨e,VQ (T6.mp he),z⟩;let:↑(TY (m+1))<=↑l:=Be WM all;rw[UE] at this;symm
noncomputable def stateOf(t:SetTable)(i p:Nat):Probe:=⟨i,runEnd t.mask i-i,i,p,Z⟩
theorem Bf(m i:Nat):runEnd m i-i<=9:=by unfold runEnd;split<;>symm
section
variable{t:SetTable}{f:Nat->Int}{h:Int}
theorem mT(F:Nat)(p:Probe):VM t f h (F+1) p=(match t.slot p.j with
  |.empty=>U (.empty p.j p.dummy)
  |.dummy=>VM t f h F (t.advance {p with dummy:=U p.j})
  |.live i=>if f i==h then U (.candidate p.j i (t.advance p)) else VM t f h F (t.advance p)):=rfl
theorem Bg(hd:t.dummies = #[])(hf:∀i,i<t.place.size->f i≠h):∀(k F:Nat)(p:Probe),p.more=k->p.dummy=Z →
  (∃j,VM t f h (F+k+1) p=U (.empty j Z))\/VM t f h (F+k+1) p=VM t f h F (stateOf t (leap t.mask p.i p.perturb).1 (leap t.mask p.i p.perturb).2)
 |0,F,p,hm,qk=>by
  show(∃j,VM t f h (F+1) p=_)\/VM t f h (F+1) p=_;rw[mT];rcases qj hd p.j with e|⟨i,e,hi,_⟩
  .left;rw[e];exact⟨p.j,by rw[qk]⟩
  .right
   rw[e];show(if(f i==h)=θ then _ else _)=_;rw[To (by ext z;calc hf i hi (TF z))];unfold advance;rw[hm,To ⋯,qk];rfl
 |k+1,F,p,hm,qk=>by
  let ih:=Bg hd hf k F {p with j:=p.j+1,more:=p.more-1} (by show p.more-1=k;symm) qk;rw[show F+(k+1)+1=(F+k+1)+1 by symm,mT];rcases qj hd p.j with e|⟨i,e,hi,_⟩
  .left;rw[e];exact⟨p.j,by rw[qk]⟩
  .rw[e]
   show(∃j,(if(f i==h)=θ then _ else _)=_)\/(if(f i==h)=θ then _ else _)=_;rw[To (by ext z;calc hf i hi (TF z))];let ea:t.advance p={p with j:=p.j+1,more:=p.more-1}:=by unfold advance;rw[Tw ⋯]
   rw[ea];calc ih
theorem Bh(hd:t.dummies = #[])(hf:∀i,i<t.place.size->f i≠h):∀(n F i p:Nat),10*(n+1)<=F->t.slot (lp t.mask n i p).1=.empty->∃j,VM t f h F (stateOf t i p)=U (.empty j Z)
 |0,F,i,p,hF,hs=>by
  let⟨G,rfl⟩:∃G,F=G+1:=⟨F-1,⋯⟩;rw[mT];let e:t.slot (stateOf t i p).j=.empty:=hs;rw[e];exact⟨i,Y⟩
 |n+1,F,i,p,hF,hs=>by
  let hr:=Bf t.mask i;let⟨G,hG⟩:∃G,F=G+(runEnd t.mask i-i)+1:=⟨F-(runEnd t.mask i-i)-1,⋯⟩;let:=Bg (f:=f) (h:=h) hd hf (runEnd t.mask i-i) G (stateOf t i p) Y Y;rw[<-hG] at this;rcases this with h1|h1
  .exact h1
  .rw[h1]
   calc Bh hd hf n G _ _ ⋯ hs
theorem vO(h:Int):bits h<2 ^ 64:=by
 unfold bits;let:=Ur h (show(0:Int)<2 ^ 64 by decide);let:=UN h (show(2 ^ 64:Int)≠0 by decide);symm
theorem G6(hd:t.dummies = #[])(hm:Mk t.mask)(hz:t.place.size<=t.mask)(hf:∀i,i<t.place.size->f i≠h):∃j,t.probe f h (t.probeStart h)=U (.empty j Z):=by
 let⟨e,he,ne⟩:=G5 (l:=t.place.toList) (m:=t.mask) (by rw[Jq];calc hz);let⟨n,hn,en⟩:=reach hm (i:=bits h%(t.mask+1)) (vO h) he;calc Bh hd hf n _ _ _ (by unfold turns;symm) (by rw[en];calc G4 hd ne)
end
section
variable{m:Nat}{owner:Array (Option Nat)}
theorem vP(F i p:Nat):UJ m owner (F+1) i p=(match(TY (runEnd m i+1-i)).find? λk=>(owner.getD (i+k) (U 0)).isNone with
   |some k=>U (i+k)
   |none=>UJ m owner F (leap m i p).1 (leap m i p).2):=rfl
theorem vQ:∀(n F i p:Nat),n+1<=F->(owner.getD (lp m n i p).1 (U 0)).isNone=θ->∃j,UJ m owner F i p=U j/\(owner.getD j (U 0)).isNone=θ
 |0,F,i,p,hF,hs=>by
  let⟨G,rfl⟩:∃G,F=G+1:=⟨F-1,⋯⟩;rw[vP]
  cases hc:(TY (runEnd m i+1-i)).find? λk=>(owner.getD (i+k) (U 0)).isNone with
  |some k =>
   let:=Yg hc;exact⟨i+k,Y,this⟩
  |none =>
   let:=Y6.mp hc 0 (T6.mpr (by unfold runEnd;split<;>symm));exact absurd hs this
 |n+1,F,i,p,hF,hs=>by
  let⟨G,rfl⟩:∃G,F=G+1:=⟨F-1,⋯⟩;rw[vP]
  cases hc:(TY (runEnd m i+1-i)).find? λk=>(owner.getD (i+k) (U 0)).isNone with
  |some k =>
   let:=Yg hc;exact⟨i+k,Y,this⟩
  |none=>calc vQ n G _ _ ⋯ hs
end
structure Ow(m:Nat)(owner:Array (Option Nat))(k:Nat):Prop where
 size:owner.size=m+1
 cnt:owner.toList.countP Y0=k
 lt:∀x,U x∈owner.toList->x<k
theorem vR:∀{l:-(Option Nat)}{j k:Nat},l[j]?=U Z->(l.set j (U k)).countP Y0=l.countP Y0+1
 |[],j,k,h=>by simp at h
 |x::l,0,k,h=>by
  simp at h;subst h;rw[U7,Vy,Vy];rfl
 |x::l,j+1,k,h=>by
  simp at h;rw[U8,Vy,Vy,vR h];symm
theorem getD_none{owner:Array (Option Nat)}(h:(owner.getD j (U 0)).isNone=θ):owner.toList[j]?=U Z:=by
 rw[UT] at h;rw[TM]
 cases e:owner[j]? with
 |none=>rw[e] at h;cases h
 |some x =>
  rw[e] at h
  cases x with
  |none=>rfl
  |some y=>cases h
theorem Bi{owner:Array (Option Nat)}(O:Ow m owner k)(hk:k<=m):∃e,e<=m/\(owner.getD e (U 0)).isNone=θ:=by
 refine V0 λno=>?_
 let all:∀x∈owner.toList,x.isSome=θ:=by
  ext x hx;let⟨e,he⟩:=Tp.mp hx
  cases x with
  |some y=>rfl
  |none =>
   let hl:=(kP.mp he).1;rw[Jq,O.size] at hl;calc absurd ⟨e,VQ hl,?_⟩ no;rw[UT,<-TM,he];rfl
 let:=Yo.mpr all;rw[O.cnt,Jq,O.size] at this;symm
theorem G7{owner:Array (Option Nat)}(hm:Mk m)(O:Ow m owner k)(hk:k<=m)(h:Int):∃j,UJ m owner (turns m) (bits h%(m+1)) (bits h)=U j/\Ow m (owner.setIfInBounds j (U k)) (k+1):=by
 let⟨e,he,hn⟩:=Bi O hk;let⟨n,oZ,en⟩:=reach hm (i:=bits h%(m+1)) (vO h) he;let⟨j,ej,hj⟩:=vQ (m:=m) (owner:=owner) n (turns m) (bits h%(m+1)) (bits h) (by unfold turns;symm) (by rw[en];calc hn);refine⟨j,ej,by rw[XI];calc O.size,?_,λx hx=>?_⟩
 .rw[UY,vR (getD_none hj),O.cnt]
 .rw[UY] at hx
  rcases Xx hx with h|h
  .exact UZ (O.lt x h)
  .cases h;calc WN _
theorem Bj(m:Nat):Ow m (Yh (m+1) Z) 0:=by
 refine⟨by simp,?_,λx hx=>?_⟩
 .rw[Wo]
  exact List.countP_eq_zero.mpr λx hx=>by rw[V9 hx];decide
 .rw[Wo] at hx
  cases V9 hx
noncomputable def g5(m:Nat)(owner:Array (Option Nat)):-(Nat×Nat):=(TY (m+1)).filterMap λj=>(owner.getD j Z).map (j,·)
theorem Bk(O:Ow m owner k):↑(g5 m owner)=k:=by
 unfold g5;rw[WJ,<-O.cnt]
 let e:owner.toList=(TY (m+1)).map λj=>owner.getD j Z:=by
  calc XB λi=>?_;rw[TM,R1]
  by_cases hi:i<m+1
  .rw[U5 hi,Z5,My (by rw[O.size];calc hi),UT,My (by rw[O.size];calc hi)];rfl
  .rw[X9 (by rw[O.size];symm),VP (by rw[UE];symm)];rfl
 rw[e,List.countP_map];calc List.countP_congr λj _=>?_;simp
theorem G8{α:Type}{es:Array α}{order:Array Nat}(h:∀k∈order.toList,k<es.size):(order.filterMap (es[·]?)).size=order.size/\∀e∈(order.filterMap (es[·]?)).toList,e∈es.toList:=by
 constructor
 .rw[<-Jq,VG,WJ,Yo.mpr λk hk=>?_,Jq]
  rw[My (h k hk)];rfl
 .ext e he
  rw[VG] at he;let⟨k,_,q⟩:=Vg.mp he;calc Tp.mpr ⟨k,by rw[TM];calc q⟩
theorem G9(t:SetTable)(hd:t.dummies = #[])(j:Nat):(t.put j).1.dummies = #[]/\(t.put j).1.mask=t.mask/\(t.put j).1.place.size=t.place.size+1/\(t.put j).1.led=t.led/\(t.put j).1.plain=t.plain/\(t.put j).1.moves=t.moves/\(t.put j).1.finger=t.finger:=by
 unfold put;dsimp only;rw[hd,Bc];calc⟨Y,Y,?_,Y,Y,Y,Y⟩;unfold insertAt;erw[Zm,Z6,Y7];symm
theorem G_{α:Type}(xs:Array α)(p:Nat)(x:α):(insertAt xs p x).size=xs.size+1:=by
 unfold insertAt;erw[Zm,Z6,Y7];symm
end LJS
namespace LJS
open PySem PySem.SetTable PyProof.Rows
structure eS(t:SetTable)(es:Array (Int×B))(hs:-Int):Prop where
 ql:t.dummies = #[]
 qm:Mk t.mask
 l7:t.place.size=es.size
 num:es.size=↑hs
 gA:t.tooFull=ι
 ins:∀e∈es.toList,e.1∈hs
def jc(h:R)(S:O)(hs:-Int):Prop:=∃o es ep t,h.get? S=U o/\o.ExactSet/\o.data=.set es ep t/\eS t es hs
section
variable{t:SetTable}{es:Array (Int×B)}{hs:-Int}
theorem eS.fill(T:eS t es hs):t.fill=es.size:=by
 unfold Y1;rw[T.l7,T.ql];rfl
theorem eS.lt(T:eS t es hs):es.size*5<t.mask*3:=by
 let:=T.gA;unfold tooFull at this;rw[T.fill] at this;let:=of_decide_eq_false this;symm
theorem eS.fits(T:eS t es hs):t.fits es.size=θ:=by
 let:=T.lt;unfold q0Q;rw[T.fill,T.l7];simp;symm
theorem eS.qo(T:eS t es hs):t.gaveWay=ι:=by
 unfold SetTable.gaveWay;rcases T.qm with h|h|h<;>rw[h]<;>rfl
end
theorem Ha:sizeAbove (grown 5)-1=31:=by decide +kernel
theorem Hb:sizeAbove (grown 19)-1=127:=by decide +kernel
section
variable{prog:q}{w:I}{A:l}{E:aT}{s:L}
end
end LJS
namespace LJS
open PySem PySem.SetTable
def Up(xs:Array Nat):Prop:=xs.toList.Pairwise (· < ·)
theorem Up.lt{xs:Array Nat}(u:Up xs){i k:Nat}(Hc:i<k)(hk:k<xs.size):xs[i]'⋯<xs[k]:=by
 let:=Xy.mp u i k (by rw[Jq];symm) (by rw[Jq];calc hk) Hc;simpa using this
theorem vS{xs:Array Nat}(u:Up xs)(j:Nat):∀(fuel lo hi:Nat),hi<=xs.size->lo<=hi->hi-lo<=fuel->(∀i,(h:i<xs.size)->i<lo->xs[i]<j)->(∀i,(h:i<xs.size)->hi<=i->j<=xs[i]) →
  below.go xs j fuel lo hi<=xs.size/\(∀i,(h:i<xs.size)->i<below.go xs j fuel lo hi->xs[i]<j)/\(∀i,(h:i<xs.size)->below.go xs j fuel lo hi<=i->j<=xs[i])
 |0,lo,hi,h1,h2,h3,a,b=>by
  let:lo=hi:=by symm
  subst this;exact⟨h1,a,b⟩
 |fuel+1,lo,hi,h1,h2,h3,a,b=>by
  unfold below.go
  by_cases c:lo<hi
  .rw[Tw c]
   let hm:(lo+hi) / 2<xs.size:=by symm
   let em:xs.getD ((lo+hi) / 2) j=xs[(lo+hi) / 2]:=by rw[UT,My hm];rfl
   erw[em]
   by_cases d:xs[(lo+hi) / 2]<j
   .rw[Tw d]
    refine vS u j fuel _ hi h1 ⋯ ⋯ (λi eM hl=>?_) b
    by_cases e:i<(lo+hi) / 2
    .exact Zl (u.lt e hm) d
    .let:i=(lo+hi) / 2:=by symm
     subst this;exact d
   .rw[To d]
    refine vS u j fuel lo _ ⋯ ⋯ ⋯ a λi eM hl=>?_
    by_cases e:(lo+hi) / 2<i
    .exact Vo (Xg (XT d) (u.lt e eM))
    .let:i=(lo+hi) / 2:=by symm
     subst this;exact XT d
  .rw[To c]
   let:lo=hi:=by symm
   subst this;calc⟨h1,a,b⟩
theorem tR{xs:Array Nat}(u:Up xs)(j:Nat):below xs j<=xs.size/\(∀i,(h:i<xs.size)->i<below xs j->xs[i]<j)/\(∀i,(h:i<xs.size)->below xs j<=i->j<=xs[i]) :=
 vS u j xs.size 0 xs.size (ug _) (Ui _) ⋯ (λi _ h=>by symm) (λi h h'=>by symm)
theorem Hd{t:SetTable}(u:Up t.place){j:Nat}(hj:j∉t.place.toList):Up (t.put j).1.place:=by
 let⟨h0,h1,h2⟩:=tR u j;show Up (insertAt t.place (below t.place j) j);unfold Up insertAt;generalize below t.place j=p at h0 h1 h2
 let eL:(((t.place.extract 0 p).push j)++t.place.extract p t.place.size).toList=t.place.toList.take p++([j]++t.place.toList.drop p):=by
  erw[YL,Wq,Yu,Xz,Xh,Zn,U0];let e2:List.take (t.place.size-p) (q3T p t.place.toList)=q3T p t.place.toList:=T_ (by rw[Uh,Jq];calc ug _);rw[e2]
 rw[eL]
 let lo:∀x∈t.place.toList.take p,x<j:=by
  ext x hx;let⟨i,hi,e⟩:=UQ.mp hx;rw[TB,Jq] at hi;let:=h1 i ⋯ ⋯;rw[<-e];simpa using this
 let eM:∀x∈t.place.toList.drop p,j<x:=by
  ext x hx;let⟨i,hi,e⟩:=UQ.mp hx;rw[Uh,Jq] at hi;let:=h2 (p+i) ⋯ ⋯;let vT:j<=x:=by rw[<-e];simpa using this
  calc Nat.lt_of_le_of_ne vT λz=>hj ?_;rw[z];exact Yv hx
 refine List.pairwise_append.mpr ⟨u.sublist (Zo _ _),?_,λa ha b hb=>?_⟩
 .exact Y8.mpr ⟨eM,u.sublist (List.drop_sublist _ _)⟩
 .rcases Cy.mp hb with rfl|hb
  .exact lo a ha
  .calc Zl (lo a ha) (eM b hb)
theorem He(n:Nat)(f:Nat->Option Nat):(((TY n).filterMap λj=>(f j).map λx=>(j,x)).map (·.1)).Pairwise (· < ·):=by
 rw[Wr];calc List.Pairwise.filterMap _ (λa a' dF b hb b' hb'=>?_) (List.pairwise_lt_range (n:=n));let⟨x,_,rfl⟩:=Tq.mp hb;let⟨y,_,rfl⟩:=Tq.mp hb';calc dF
theorem Hf(m:Nat)(owner:Array (Option Nat)):((g5 m owner).map (·.1)).Pairwise (· < ·):=He (m+1) λj=>owner.getD j Z
theorem vU{t:SetTable}{f:Nat->Int}{h:Int}:∀{fuel:Nat}{p:Probe}{j:Nat}{d:Option Nat},VM t f h fuel p=U (.empty j d)->t.slot j=.empty
 |0,_,_,_,e=>nomatch e
 |fuel+1,p,j,d,e=>by
  rw[mT] at e
  cases q:t.slot p.j with
  |empty =>
   rw[q] at e;cases e
   exact q
  |dummy =>
   rw[q] at e;exact vU e
  |live i =>
   rw[q] at e
   by_cases c:(f i==h)=θ
   .erw[c,Ve] at e;cases e
   .erw[c,Um] at e;calc vU e
theorem Hg{t:SetTable}(u:Up t.place){j:Nat}(e:t.slot j=.empty):j∉t.place.toList:=by
 ext hm;let⟨i,hi,ei⟩:=UQ.mp hm;let eM:i<t.place.size:=by rw[<-Jq];exact hi
 let vV:t.place[i]=j:=by simpa using ei
 let⟨h0,h1,h2⟩:=tR u j;let a:¬ i<below t.place j:=λz=>by let:=h1 i eM z;symm
 let b:¬ below t.place j<i:=λz=>by
  let:=h2 (below t.place j) ⋯ (ug _);let:=u.lt z eM;symm
 let eb:below t.place j=i:=by symm
 unfold slot at e;rw[eb] at e;let:(t.place[i]?==U j)=θ:=by rw[My eM,vV];simp
 erw[this,Ve] at e;cases e
def jU(owner:Array (Option Nat))(k:Nat):Prop:=(owner.toList.filterMap id).Perm (TY k)
theorem vW:∀{l:-(Option Nat)}{j k:Nat},l[j]?=U Z->((l.set j (U k)).filterMap id).Perm (k::l.filterMap id)
 |[],j,k,h=>by simp at h
 |x::l,0,k,h=>by
  simp at h;subst h;exact Yw _
 |x::l,j+1,k,h=>by
  simp at h
  cases x with
  |none =>
   show((l.set j (U k)).filterMap id).Perm (k::l.filterMap id);exact vW h
  |some y =>
   calc(q0l y (vW h)).trans (q0m _ _ _)
theorem Hh{owner:Array (Option Nat)}{j k:Nat}(P:jU owner k)(h:owner.toList[j]?=U Z):jU (owner.setIfInBounds j (U k)) (k+1):=by
 unfold jU at P ⊢;rw[UY,List.range_succ];calc(vW h).trans ((q0l k P).trans (List.perm_append_singleton k _).symm)
theorem Hi{m:Nat}{owner:Array (Option Nat)}{k:Nat}(hm:Mk m)(O:Ow m owner k)(Pm:jU owner k)(hk:k<=m)(h:Int):∃j,UJ m owner (turns m) (bits h%(m+1)) (bits h)=U j/\Ow m (owner.setIfInBounds j (U k)) (k+1)/\jU (owner.setIfInBounds j (U k)) (k+1):=by
 let⟨e,he,hn⟩:=Bi O hk;let⟨n,oZ,en⟩:=reach hm (i:=bits h%(m+1)) (vO h) he;let⟨j,ej,hj⟩:=vQ (m:=m) (owner:=owner) n (turns m) (bits h%(m+1)) (bits h) (by unfold turns;symm) (by rw[en];calc hn);refine⟨j,ej,⟨by rw[XI];calc O.size,?_,λx hx=>?_⟩,Hh Pm (getD_none hj)⟩
 .rw[UY,vR (getD_none hj),O.cnt]
 .rw[UY] at hx
  rcases Xx hx with h|h
  .exact UZ (O.lt x h)
  .cases h;calc WN _
theorem Bl{m:Nat}(hm:Mk m):∀(hs:-Int)(owner:Array (Option Nat))(k:Nat),Ow m owner k->jU owner k->k+↑hs<=m+1 →
  ∃aW,(hs.foldl (init:=U (owner,k)) λacc h=>do
   let(owner,k) <- acc
   let j <- UJ m owner (turns m) (bits h%(m+1)) (bits h)
   pure (owner.setIfInBounds j (U k),k+1))=U (aW,k+↑hs)/\Ow m aW (k+↑hs)/\jU aW (k+↑hs)
 |[],owner,k,O,Pm,_=>⟨owner,Y,O,Pm⟩
 |h::hs,owner,k,O,Pm,hl=>by
  rw[Cw] at hl ⊢;let⟨j,ej,O',P'⟩:=Hi hm O Pm ⋯ h;let⟨o2,e2,O2,P2⟩:=Bl hm hs _ (k+1) O' P' ⋯;calc⟨o2,?_,by rw[show k+(↑hs+1)=k+1+↑hs by symm];calc⟨O2,P2⟩⟩;rw[Yi,show k+(↑hs+1)=k+1+↑hs by symm,<-e2];congr 1;show(do let j <- UJ m owner (turns m) (bits h%(m+1)) (bits h);pure (owner.setIfInBounds j (U k),k+1))=_;rw[ej];rfl
theorem Hj(m:Nat):jU (Yh (m+1) Z) 0:=by
 unfold jU;rw[Wo,List.filterMap_eq_nil_iff.mpr λx hx=>by rw[V9 hx];rfl];calc Yw _
theorem Hk{m:Nat}(hm:Mk m)(hs:Array Int)(hz:hs.size<=m+1):∃owner,layClean m hs=U owner/\Ow m owner hs.size/\jU owner hs.size:=by
 let⟨o,e,O,Pm⟩:=Bl hm hs.toList _ 0 (Bj m) (Hj m) (by rw[Jq];symm);rw[UX,Jq] at O Pm;calc⟨o,?_,O,Pm⟩;unfold layClean;rw[<-Y9,e];rfl
theorem Hl{m:Nat}{owner:Array (Option Nat)}(hs:owner.size=m+1):(g5 m owner).map (·.2)=owner.toList.filterMap id:=by
 unfold g5;rw[List.map_filterMap]
 let e:owner.toList=(TY (m+1)).map λj=>owner.getD j Z:=by
  calc XB λi=>?_;rw[TM,R1]
  by_cases hi:i<m+1
  .rw[U5 hi,Z5,My (by rw[hs];calc hi),UT,My (by rw[hs];calc hi)];rfl
  .rw[X9 (by rw[hs];symm),VP (by rw[UE];symm)];rfl
 rw[e,Xi];congr 1;funext j;show q3l (λx:Nat×Nat=>x.2) (q3l (λx=>(j,x)) (owner.getD j Z))=owner.getD j Z;cases owner.getD j Z<;>rfl
end LJS
namespace LJS
open PySem PySem.SetTable PyProof.Rows
section
variable{t:SetTable}{es:Array (Int×B)}{led:Bool}{ks:-Int}
end
section
variable{prog:q}{w:I}{A:l}{E:aT}{s:L}
theorem Bm{ks:-Int}:∀{vs:-B},ItemsAre (intKind prog w) ks vs->∀v∈vs,∃i t,v=.int i t:=by
 induction ks with
 |nil=>ext vs h v hv;cases h;cases hv
 |cons k ks ih =>
  ext vs h v hv
  cases h with
  |cons h1 h2 =>
   rcases Cy.mp hv with rfl|hv
   .let⟨t,e⟩:=Zp (k:=k) (v:=v) (by first|exact h1|simpa[intKind] using h1)
    exact⟨_,_,e⟩
   .calc ih h2 v hv
theorem Hm{ks:-Int}{a:O}{Q:Bool->L->Prop}(hk:IsTupleKey (intKind prog w) s.heap ks a)(h:∀b,Q b s):G (S prog w) A (hashByValue 8 (.ref a)) Q E s:=by
 let hT:=hk.typeIs;let⟨o,ah,n,ho,_,hd,hi⟩:=hk;show G _ _ (hashByValue (7+1) (.ref a)) _ _ _;unfold hashByValue;calc kb (Z7 hT F.slot_tuple_hash.lookup ?_);show G _ _ (seqItems? (.ref a) >>= _) _ _ s;calc kb (U1 ho hd ?_);calc kb ?_;show G _ _ (forIn ah _ _) _ _ s;rw[<-Y_];refine WQ _ (λrest _ s'=>s'=s/\∀v∈rest,∃i t,v=WR i t) _ ?_ ?_ _ _ ⟨Y,Bm hi⟩
 .ext v rest r s' ⟨rfl,eT⟩
  let⟨i,t,rfl⟩:=eT v Cu;let e:hashByValue 7 (.int i t)=pure θ:=by unfold hashByValue;rfl
  rw[e];calc kb (qY ?_);erw[Ue,Jr,Um];exact qY ⟨Y,λu hu=>eT u (Jp _ hu)⟩
 .ext ⟨r1,r2⟩ s' ⟨rfl,_⟩
  cases r1 with
  |none=>exact qY (h _)
  |some b=>calc qY (h _)
theorem vX{h h':R}{ks:-Int}{a:O}(x:IsTupleKey (intKind prog w) h ks a)(k:∀o,h.get? a=U o->h'.get? a=U o):IsTupleKey (intKind prog w) h' ks a:=by
 let⟨o,ah,n,ho,r⟩:=x;calc⟨o,ah,n,k o ho,r⟩
noncomputable abbrev hT(prog:q)(w:I)(ks:-Int):Int:=tupleKeyHash (intKind prog w) ks
theorem Hn{h h':R}{S:O}{hs:-Int}(x:jc h S hs)(k:∀o,h.get? S=U o->h'.get? S=U o):jc h' S hs:=by
 let⟨o,es,ep,t,ho,r⟩:=x;calc⟨o,es,ep,t,k o ho,r⟩
end
section
variable{prog:q}{w:ω}{A:l}{R:Result->L->Prop}{I S:O}{fp wr:-O}{G:Array GenState->Array GenState->Prop}{n:Nat}{P:Nat->B->Prop}{St:Nat->L->Prop}
end
noncomputable abbrev fA(led:Bool):f:={cls:=.type "set",dict:=none,data:=.set #[] 0 (.fresh 0 0 led)}
section
variable{prog:q}{w:I}{A:l}{E:aT}{s:L}
end
section
variable{prog:q}{w:ω}{A:l}{I S:O}{o:f}{es:Array (Int×B)}{ep:Nat}{t:SetTable}{ks:-Int}
end
section
variable{prog:q}{w:I}{A:l}{S:O}{o:f}{es:Array (Int×B)}{ep:Nat}{t:SetTable}{ks:-Int}
end
end LJS
namespace L2
open PySem PySem.Spec PyProof.Rows
abbrev Key:=Sum Int J
noncomputable def Bn:Key->B->Bool
 |.inl k,v=>Value.isInt k v
 |.inr x,v=>Value.isStrOf x v
noncomputable def vY(w:I):Key->Int
 |.inl k=>hashInt k
 |.inr x=>hashStr w x
theorem kv:∀{k:Key}{v:B},Bn k v=θ->(∃i t,k=X_ i/\v=WR i t)\/(∃x t,k=YJ x/\v=ZO x t)
 |.inl i,v,h=>by
  let⟨t,e⟩:=Zp (k:=i) (v:=v) h;exact .inl ⟨i,t,Y,e⟩
 |.inr x,v,h=>by
  let⟨t,e⟩:=Value.isStrOf_shape (x:=x) (v:=v) h;calc .inr ⟨x,t,Y,e⟩
theorem Ho(a b:Int):g ((X_ a:Key)=X_ b)=(a==b):=by
 by_cases e:a=b
 .subst e;simp
 .let h:¬ (X_ a:Key)=X_ b:=λq=>e (Sum.inl.inj q)
  rw[TH h];calc(V7.mpr e).symm
theorem Hq(a b:J):g ((YJ a:Key)=YJ b)=g (a=b):=by
 by_cases e:a=b
 .subst e;simp
 .let h:¬ (YJ a:Key)=YJ b:=λq=>e (Sum.inr.inj q)
  rw[TH h,TH e]
theorem Hr(a:Int)(b:J):g ((X_ a:Key)=YJ b)=ι:=TH (λq=>nomatch q)
theorem Hs(a:J)(b:Int):g ((YJ a:Key)=X_ b)=ι:=TH (λq=>nomatch q)
noncomputable def Bo(prog:q)(w:I):PySem.KeyKind prog w Key where
 is:=Bn
 hash:=vY w
 inj:=λv a b ha hb=>by
  rcases kv ha with⟨i,t,rfl,rfl⟩|⟨x,t,rfl,rfl⟩
  .rcases kv hb with⟨j,u,rfl,e⟩|⟨y,u,rfl,e⟩
   .injection e with e1 _;rw[e1]
   .exact nomatch e
  .rcases kv hb with⟨j,u,rfl,e⟩|⟨y,u,rfl,e⟩
   .exact nomatch e
   .injection e with e1 _;rw[e1]
 byValue:=λk v h=>by
  rcases kv h with⟨i,t,rfl,rfl⟩|⟨x,t,rfl,rfl⟩<;>rfl
 pyHash:=λhv h=>by
  rcases kv hv with⟨i,t,rfl,rfl⟩|⟨x,t,rfl,rfl⟩
  .exact wpAny_pyHash_int h
  .exact wpAny_pyHash_str h
 eqBool:=λhu hv h=>by
  rcases kv hu with⟨i,t,rfl,rfl⟩|⟨x,t,rfl,rfl⟩
  .rcases kv hv with⟨j,u,rfl,rfl⟩|⟨y,u,rfl,rfl⟩
   .rw[Ho] at h;exact wpAny_eqBool_int h
   .rw[Hr] at h;exact Xj i t y u _ _ _ _ h
  .rcases kv hv with⟨j,u,rfl,rfl⟩|⟨y,u,rfl,rfl⟩
   .rw[Hs] at h;exact Xk x t j u _ _ _ _ h
   .rw[Hq] at h;exact wpAny_eqBool_str h
 «strs» := λk x t v h=>by
  rcases kv h with⟨i,u,rfl,e⟩|⟨y,u,rfl,e⟩
  .exact nomatch e
  .injection e with e1 _
   subst e1;cases v<;>rfl
inductive V where
 |non|bl (b:Bool)|int (i:Int)|str (x:J)|byt (b:Array UInt8)|flt (b:UInt64)|ref (a:O)|ty (n:String)
 deriving DecidableEq
def RelV:V->B->Prop
 |.non,u=>u=UC
 |.bl b,u=>u=VW b
 |.int i,u=>∃t,u=WR i t
 |.str x,u=>∃t,u=ZO x t
 |.byt b,u=>∃t,u=Value.bytes b t
 |.flt b,u=>∃t,u=Z0 b t
 |.ref a,u=>u=TX a
 |.ty n,u=>u=Za n
abbrev Vals:-V->-B->Prop:=Paired RelV
theorem Vals.length{xs:-V}{us:-B}(r:Vals xs us):↑xs=↑us:=Paired.length r
theorem Vals.get:∀{xs:-V}{us:-B}{i:Nat}{x:V},Vals xs us->xs[i]?=U x->∃u,us[i]?=U u/\RelV x u
 |_,_,_,_,.nil,e=>by simp at e
 |_,_,0,_,.cons r _,e=>by simp at e;subst e;exact⟨_,Y,r⟩
 |_,_,i+1,x,.cons _ t,e=>by
  let⟨u,h1,h2⟩:=Vals.get (i:=i) (x:=x) t e⁻¹;calc⟨u,by simpa using h1,h2⟩
theorem Vals.set{x:V}{u:B}(r:RelV x u):∀{xs:-V}{us:-B}(i:Nat),Vals xs us->Vals (xs.set i x) (us.set i u)
 |_,_,_,.nil=>.nil
 |_,_,0,.cons _ t=>.cons r t
 |_,_,i+1,.cons q t=>.cons q (Vals.set r i t)
theorem Vals.append:∀{xs ys:-V}{us ws:-B},Vals xs us->Vals ys ws->Vals (xs++ys) (us++ws)
 |_,_,_,_,.nil,s=>s
 |_,_,_,_,.cons r t,s=>.cons r (Vals.append t s)
theorem Vals.take:∀{xs:-V}{us:-B}(n:Nat),Vals xs us->Vals (xs.take n) (us.take n)
 |_,_,0,_=>.nil
 |_,_,_+1,.nil=>.nil
 |_,_,n+1,.cons r t=>.cons r (Vals.take n t)
theorem Vals.drop:∀{xs:-V}{us:-B}(n:Nat),Vals xs us->Vals (xs.drop n) (us.drop n)
 |_,_,0,r=>r
 |_,_,_+1,.nil=>.nil
 |_,_,n+1,.cons _ t=>Vals.drop n t
def gB:Option V->Option B->Prop
 |some v,some u=>RelV v u
 |none,none=>True
 |_,_=>False
def KV{κ:Type}:-(κ×V)->-(κ×B)->Prop:=Paired λ(p:κ×V) (q:κ×Value)=>p.1=q.1/\RelV p.2 q.2
noncomputable def kV:Key->V
 |.inl i=>.int i
 |.inr x=>.str x
inductive HO where
 |lst (xs:-V)
 |tup (xs:-V)
 |dK (cj:-(Key×V))|dT (cj:-(-Key×V))
 |set (S:Int->Bool) (n:Nat)
 |ins (C dx:O) (fs:-(J×V))
 |own (x:O)
 |xd (fs:-(J×V))
 |met (f x:O)
 |rng (lo hi:Int)
 |frz (o:Γ) (u:HO)
 |tbl (ps:Array B)
 |ext (φ:R->Prop)
abbrev Hp:=O->Option HO
noncomputable def upd(H:Hp)(a:O)(o:HO):Hp:=λb=>if b=a then U o else H b
theorem bE{H:Hp}{a:O}{o:HO}:upd H a o a=U o:=by unfold upd;rw[Tw Y]
theorem bj{H:Hp}{a b:O}{o:HO}(h:b≠a):upd H a o b=H b:=by unfold upd;rw[To h]
theorem vZ{H:Hp}{a b:O}{o u:HO}(h:H a=U o)(h':H b=U u)(d:o≠u):a≠b:=by
 ext e;subst e;rw[h] at h';calc d (TU h')
theorem cm{H:Hp}{a b:O}{o:HO}(h:H a=U o)(h':H b=Z):a≠b:=by
 ext e;subst e;rw[h] at h';cases h'
section
variable(P:q)(w:I)
def bc(H:Hp)(h:R)(a:O):HO->Prop
 |.lst xs=>↑xs<=sizeLine/\∃(ah:-B)(n:Nat),Vals xs ah/\h.get? a=U {cls:=.type "list",data:=.seq ah.toArray n}
 |.tup xs=>↑xs<=sizeLine/\∃ah:-B,Vals xs ah/\IsTup h a ah.toArray
 |.dK cj=>↑cj<=sizeLine/\(a==sysModules)=ι/\∃vs,KV cj vs/\h.DictOf (Bo P w) a vs
 |.dT cj=>↑cj<=sizeLine/\(a==sysModules)=ι/\∃xs:-(-Key×O×B),
   Paired (λ(p:-Key×V) (q:-Key×Addr×Value)=>p.1=q.1/\H q.2.1=U (.tup (p.1.map kV))/\RelV p.2 q.2.2) cj xs ∧
   ∃o es ep,h.get? a=U o/\o.ExactDict/\o.data=.dict es ep/\es.toList=xs.map (entryOfKey (tupleKind (Bo P w)))/\(xs.map (·.1)).Nodup
 |.set S n=>h.SetOf (intKind P w) a S n
 |.ins C dx fs=>H dx=U (.own a)/\fs.length<=1000/\dx≠a/\h.get? a=U (Yj C dx) ∧
   ∃mA,h.Ns1 dx mA/\(∀f,gB (fs.lookup f) (mA f))/\q1r mA (fs.map (·.1))
 |.own _=>∃o,h.get? a=U o
 |.xd fs=>∃mA,h.Ns1 a mA/\∀f,gB (fs.lookup f) (mA f)
 |.rng lo hi=>∃t u v,h.get? a=U {cls:=.type "range",data:=.fields #[.int lo t,.int hi u,.int 1 v]}
 |.frz o u=>h.get? a=U o/\bc H h a u
 |.tbl ps=>h.get? a=U {cls:=.none,data:=.fields ps}
 |.met f x=>h.get? a=U (XC (.ref f) (.ref x))
 |.ext φ=>φ h/\(∃o,h.get? a=U o)/\∀h1 h2:R,φ h1->(∀o,h1.get? a=U o->h2.get? a=U o)->φ h2
def cK(H:Hp)(h:R):Prop:=∀a o,H a=U o->bc P w H h a o
end
section
variable{P:q}{w:I}{H H':Hp}{h h':R}{a:O}{o:HO}
theorem bc.lt(x:bc P w H h a o):a<h.objs.size:=by
 cases o with
 |lst xs=>let⟨_,_,_,_,e⟩:=x;exact Jo e
 |tup xs=>let⟨_,_,_,p⟩:=x;exact p.lt
 |dK cj=>let⟨_,_,_,_,o,_,_,e,_⟩:=x;exact Jo e
 |dT cj=>let⟨_,_,_,_,o,_,_,e,_⟩:=x;exact Jo e
 |set S n=>let⟨o,_,_,_,e,_⟩:=x;exact Jo e
 |ins C dx fs=>let⟨_,_,_,e,_⟩:=x;exact Jo e
 |own y=>let⟨_,e⟩:=x;exact Jo e
 |xd fs=>let⟨_,⟨_,_,_,e,_⟩,_⟩:=x;exact Jo e
 |rng lo hi=>let⟨_,_,_,e⟩:=x;exact Jo e
 |frz ob u=>let⟨e,_⟩:=x;exact Jo e
 |tbl ps=>exact Jo (show h.get? a=U _ from x)
 |met f y=>exact Jo (show h.get? a=U _ from x)
 |ext φ=>let⟨_,⟨_,e⟩,_⟩:=x;calc Jo e
theorem Paired.qp{α β:Type}{F G:α->β->Prop}:∀{l₁:-α}{l₂:-β},Paired F l₁ l₂->(∀a b,F a b->G a b)->Paired G l₁ l₂
 |_,_,.nil,_=>.nil
 |_,_,.cons r t,f=>.cons (f _ _ r) (Paired.qp t f)
theorem bc.dR(x:bc P w H h a o)(k:∀b u,(b=a\/H b=U (.own a))->h.get? b=U u->h'.get? b=U u)
  (ho:∀b,H b=U (.own a)->H' b=U (.own a)) (ht:∀b xs,H b=U (.tup xs)->H' b=U (.tup xs)):bc P w H' h' a o:=by
 induction o with
 |lst xs=>let⟨z,ah,n,r,e⟩:=x;exact⟨z,ah,n,r,k _ _ (.inl Y) e⟩
 |tup xs=>let⟨z,ah,r,ob,e,c⟩:=x;exact⟨z,ah,r,ob,k _ _ (.inl Y) e,c⟩
 |dK cj=>let⟨z,y,vs,r,ob,es,ep,e,c⟩:=x;exact⟨z,y,vs,r,ob,es,ep,k _ _ (.inl Y) e,c⟩
 |dT cj =>
  let⟨z,y,xs,r,ob,es,ep,e,c⟩:=x;exact⟨z,y,xs,Paired.qp r λp q z=>⟨z.1,ht _ _ z.2.1,z.2.2⟩,ob,es,ep,k _ _ (.inl Y) e,c⟩
 |set S n=>let⟨ob,es,ep,t,e,c⟩:=x;exact⟨ob,es,ep,t,k _ _ (.inl Y) e,c⟩
 |ins C dx fs =>
  let⟨d,z,ne,e,mA,⟨od,es,ep,e2,c⟩,r⟩:=x;exact⟨ho _ d,z,ne,k _ _ (.inl Y) e,mA,⟨od,es,ep,k _ _ (.inr d) e2,c⟩,r⟩
 |own y=>let⟨ob,e⟩:=x;exact⟨ob,k _ _ (.inl Y) e⟩
 |xd fs=>let⟨mA,⟨od,es,ep,e,c⟩,r⟩:=x;exact⟨mA,⟨od,es,ep,k _ _ (.inl Y) e,c⟩,r⟩
 |rng lo hi=>let⟨t,u,v,e⟩:=x;exact⟨t,u,v,k _ _ (.inl Y) e⟩
 |frz ob u ih=>let⟨e,q⟩:=x;exact⟨k _ _ (.inl Y) e,ih q⟩
 |tbl ps =>
  let e:h.get? a=U {cls:=.none,data:=.fields ps}:=x;show h'.get? a=U {cls:=.none,data:=.fields ps};exact k a _ (.inl Y) e
 |met f y =>
  let e:h.get? a=U (XC (.ref f) (.ref y)):=x;show h'.get? a=U (XC (.ref f) (.ref y));exact k a _ (.inl Y) e
 |ext φ=>let⟨p,⟨o,e⟩,st⟩:=x;calc⟨st _ _ p λo q=>k _ _ (.inl Y) q,⟨o,k _ _ (.inl Y) e⟩,st⟩
theorem cK.lt(x:cK P w H h)(e:H a=U o):a<h.objs.size:=(x a o e).lt
theorem cK.fresh(x:cK P w H h)(e:h.objs.size<=a):H a=Z:=by
 cases q:H a with
 |none=>rfl
 |some u=>calc absurd (TC (x.lt q) e) (U9 _)
theorem cK.kept(x:cK P w H h)(k:∀b u,h.get? b=U u->h'.get? b=U u):cK P w H h':=λa o e =>
 (x a o e).dR (λb u _ q=>k b u q) (λ_ q=>q) λ_ _ q=>q
theorem cK.laid(x:cK P w H h)(k:∀b u,h.get? b=U u->h'.get? b=U u)(hp:h.objs.size<=a)(new:bc P w (upd H a o) h' a o):cK P w (upd H a o) h':=λb u e=>by
 let hn:=x.fresh hp
 by_cases hb:b=a
 .subst hb;rw[bE] at e;cases e;exact new
 .rw[bj hb] at e
  calc(x b u e).dR (λc v _ q=>k c v q) (λc q=>by rw[bj (cm q hn)];calc q) λc xs q=>by rw[bj (cm q hn)];calc q
end
def Rd(H:Hp)(a:O)(u:HO):Prop:=H a=U u\/∃o,H a=U (.frz o u)
theorem Rd.ok{P:ψ}{w:I}{H:Hp}{h:R}{a:O}{u:HO}(r:Rd H a u)(x:cK P w H h):bc P w H h a u:=by
 rcases r with r|⟨o,r⟩
 .exact x a u r
 .let⟨_,q⟩:=x a _ r
  calc q
def tT:Option HO->Prop
 |some (.lst _)=>True
 |some (.dK _)=>True
 |some (.dT _)=>True
 |some (.set _ _)=>True
 |some (.ins _ _ _)=>True
 |some (.ext _)=>True
 |_=>False
section
variable{P:q}{w:I}{H:Hp}{h h':R}{x e:O}{o':HO}
theorem cK.write(ok:cK P w H h)(mu:tT (H x))(he:e=x\/H e=U (.own x))(k:∀b u,b≠e->h.get? b=U u->h'.get? b=U u)(l8:∃u,h'.get? e=U u)
  (new:bc P w (upd H x o') h' x o'):cK P w (upd H x o') h':=λb u q=>by
 let qq:∀c y,H c=U (.own y)->c≠x:=λc y r z=>by subst z;rw[r] at mu;exact mu
 let v3:∀c xs,H c=U (.tup xs)->c≠x:=λc xs r z=>by subst z;rw[r] at mu;exact mu
 by_cases hb:b=x
 .subst hb;rw[bE] at q;cases q;exact new
 .rw[bj hb] at q
  by_cases mU:b=e
  .let q':H b=U (.own x):=by
    rcases he with z|z
    .exact absurd (mU.trans z) hb
    .rw[mU];exact z
   rw[q] at q';cases q';let⟨v,hv⟩:=l8;exact⟨v,by rw[mU];calc hv⟩
  .refine (ok b u q).dR (λc v hc r=>k c v ?_ r) (λc r=>by rw[bj (qq c b r)];calc r) λc xs r=>by rw[bj (v3 c xs r)];exact r
   rcases hc with rfl|hc
   .exact mU
   .ext rfl
    rcases he with z|z
    .exact qq c b hc z
    .rw[hc] at z;cases z;calc hb Y
end
structure Un(fs ex:-O)(H H':Hp)(h h':R):Prop where
 keep:∀b o,h.get? b=U o->H b=Z->b∉fs->b∉ex->h'.get? b=U o
 slot:∀b o,h.get? b=U o->H b=Z->b∈fs->b∉ex->∃sl,h'.get? b=U {o with slots:=sl}
 free:∀b o,h.get? b=U o->H b=Z->b∉ex->H' b=Z
 there:∀b o,h.get? b=U o->b∉ex->∃o',h'.get? b=U o'
 cC:∀b xs,H b=U (.tup xs)->H' b=U (.tup xs)
 cM:∀b o u,H b=U (.frz o u)->H' b=U (.frz o u)
 dH:∀b ps,H b=U (.tbl ps)->∃more,H' b=U (.tbl (ps++more))
section
variable{fs Ht ex RW:-O}{H H1 H2:Hp}{h h1 h2 h':R}{a x e:O}{o:HO}
theorem Un.any(u:Un fs ex H H1 h h1){b:O}{ob:f}(q:h.get? b=U ob)(n:H b=Z)(hx:b∉ex):∃sl,h1.get? b=U {ob with slots:=sl}:=by
 by_cases hb:b∈fs
 .exact u.slot b ob q n hb hx
 .calc⟨ob.slots,u.keep b ob q n hb hx⟩
theorem Un.kept(k:∀b u,h.get? b=U u->h'.get? b=U u):Un fs ex H H h h' :=
 ⟨λb ob q _ _ _=>k b ob q,λb ob q _ _ _=>⟨ob.slots,k b ob q⟩,λ_ _ _ n _=>n,λb ob q _=>⟨ob,k b ob q⟩,λ_ _ q=>q,λ_ _ _ q=>q,λ_ ps q=>⟨#[],by rw[q];simp⟩⟩
theorem Un.refl:Un fs ex H H h h:=Un.kept λ_ _ q=>q
theorem Un.laid(k:∀b u,h.get? b=U u->h'.get? b=U u)(hp:h.objs.size<=a)(hn:H a=Z):Un fs ex H (upd H a o) h h' where
 keep:=λb u q _ _ _=>k b u q
 slot:=λb u q _ _ _=>⟨u.slots,k b u q⟩
 free:=λb u q n _=>by rw[bj (TN (TC (Jo q) hp))];exact n
 there:=λb u q _=>⟨u,k b u q⟩
 cC:=λb xs q=>by rw[bj (cm q hn)];exact q
 cM:=λb u xs q=>by rw[bj (cm q hn)];exact q
 dH:=λb ps q=>⟨#[],by rw[bj (cm q hn),q];simp⟩
theorem Un.write(mu:tT (H x))(he:e=x\/H e=U (.own x))(k:∀b u,b≠e->h.get? b=U u->h'.get? b=U u)(l8:∃u,h'.get? e=U u):Un fs ex H (upd H x o) h h':=by
 let hx:∀b,H b=Z->b≠x:=λb n z=>by subst z;rw[n] at mu;exact mu
 let hb:∀b,H b=Z->b≠e:=λb n z=>by
  subst z;rcases he with r|r
  .exact hx b n r
  .rw[n] at r;cases r
 let hm:∀b u,H b=U u->¬ tT (U u)->b≠x:=λb u q nm z=>by subst z;rw[q] at mu;exact nm mu
 refine⟨λb u q n _ _=>k b u (hb b n) q,λb u q n _ _=>⟨u.slots,k b u (hb b n) q⟩,λb u q n _=>by rw[bj (hx b n)];calc n,λb u q _=>?_,
  λb xs q=>by rw[bj (hm b _ q λz=>z)];calc q,λb u xs q=>by rw[bj (hm b _ q λz=>z)];calc q,λb ps q=>⟨#[],by rw[bj (hm b _ q λz=>z),q];simp⟩⟩
 by_cases mU:b=e
 .subst mU;exact l8
 .calc⟨u,k b u mU q⟩
end
noncomputable def tU(h:R)(H:Hp):-O:=(TY h.objs.size).filter λa=>(H a).isSome
noncomputable def fB(h:R)(H:Hp):R:=PySem.W.hideAll h (tU h H)
theorem Hu(h:R)(H:Hp):(fB h H).objs.size=h.objs.size:=PySem.W.hideAll_size _ _
theorem Hv{h:R}{H:Hp}{b:O}{o:f}(e:h.get? b=U o)(n:H b=Z):(fB h H).get? b=U o :=
 PySem.W.hideAll_get _ e λhm=>by
  let q:(H b).isSome=θ:=(W0.mp hm).2;rw[n] at q;simp at q
theorem Hw{h:R}{H:Hp}{b:O}{o:f}(e:(fB h H).get? b=U o):h.get? b=U o/\H b=Z:=by
 let e':h.get? b=U o:=PySem.W.of_hideAll (tU h H) e;refine⟨e',?_⟩
 cases q:H b with
 |none=>rfl
 |some x =>
  let hm:b∈tU h H:=W0.mpr ⟨T6.mpr (Jo e'),by simp[q]⟩;let z:(fB h H).get? b=Z:=PySem.W.hideAll_none (tU h H) hm;rw[z] at e;cases e
structure Mod(K:nG)(mg:J->Option B)(base:R):Prop where
 kz:K.In base
 glob:base.Ns mainGlobals mg
 blt:∃mb,base.Ns builtinsNs mb/\∀x:J,x≠"__name__" -> mb x=bootBuiltins x
 nolimit:base.NoLimit
structure Cx where
 prog:q
 w:I
 K:nG
 mg:J->Option B
 base:R
 A:l
 N:-J
 s₀:L
 H₀:Hp
 env:t
 outer:-t
 stack:-t
 ex:-O
 fn:J->Bool
 calm:Bool
 pn:-(O×f)
 xe:B->L->Prop
noncomputable def dG(l:-t):-O:=l.filterMap (·.frame)
noncomputable abbrev Cx.fs(X:Cx):-O:=dG X.outer
def o7(sc:u)(x:J):Prop:=sc.names.lookup x=U .local\/sc.names.lookup x=U .cell\/sc.names.lookup x=U .free
def Loc(sc:u)(x:J):Prop:=sc.names.lookup x=U .local\/sc.names.lookup x=U .cell
abbrev bw(x:J):Prop:=(x==("__debug__" : J))=ι
abbrev dS(X:Cx)(x:J):Prop:=X.fn x=θ\/X.env.scope.names.lookup x=U .local
abbrev cN(X:Cx)(e:M)(es:-M):Prop:=starEach (e::es) X.env=(ι,eval e X.env)::starEach es X.env
abbrev dI(X:Cx)(p:y)(es:-M):Prop:=(backTo p (starEach es X.env)).any (·.1)=ι
abbrev av:=-(O×f)
def Look(env:t)(h:R)(m:J->Option B)(x:J)(u:B):Prop :=
 (env.kindOf x=U .local/\m x=U u)\/((env.kindOf x=U .cell\/env.kindOf x=U .free)/\∃c,env.cells.lookup x=U c/\h.IsCell c (U u))
structure Cx.Ok(X:Cx):Prop where
 mod:Mod X.K X.mg X.base
 kind:X.env.scope.kind=.function
 glob:X.env.globals=mainGlobals
 blt:X.env.builtins=builtinsNs
 above:⇑X.s₀<=X.env.locals
 inj:∀x y c,X.env.cells.lookup x=U c->X.env.cells.lookup y=U c->x=y
 has:∀x,(X.env.kindOf x=U .cell\/X.env.kindOf x=U .free)->∃c,X.env.cells.lookup x=U c
 l9:∀x c,X.fn x=θ->X.env.cells.lookup x=U c->⇑X.s₀<=c
 hd:X.calm=θ->X.A.handled=Z
 frames:X.A.frames=U X.stack
 mV:X.stack=X.outer\/(X.stack=X.env::X.outer/\X.env.frame=U X.env.locals)
 qr:∀b∈X.ex,b≠X.env.locals/\∀x c,X.env.cells.lookup x=U c->c≠b
 bs:∀b o,X.base.get? b=U o->X.s₀.heap.get? b=U o/\X.H₀ b=Z
 jV:X.base.objs.size<=⇑X.s₀
 fU:∀b o,X.base.get? b=U o->b∉X.ex
 gC:∀b∈X.ex,b∉X.fs
 df:X.s₀.heap.FunFrames X.base X.outer
 kA:∀b∈X.fs,X.H₀ b=Z
structure Inv(X:Cx)(pins:av)(σ:-(Option V))(H:Hp)(s:L):Prop where
 ok:X.Ok
 os:s.os=X.s₀.os
 bare:AllBare s.gens
 base:Un X.fs X.ex X.H₀ H X.s₀.heap s.heap
 loc:∃m,s.heap.Ns X.env.locals m/\∀(i:Nat)(x:J)(v:V),X.N[i]?=U x->σ[i]?=U (U v)->o7 X.env.scope x->∃u,RelV v u/\Look X.env s.heap m x u
 cell:∀x c,X.env.cells.lookup x=U c->∃v,s.heap.IsCell c v
 free:H X.env.locals=Z
 bF:∀x c,X.env.cells.lookup x=U c->H c=Z
 pin:∀p∈X.pn++pins,s.heap.get? p.1=U p.2/\H p.1=Z/\p.1≠X.env.locals/\p.1∉X.fs/\∀v,p.2.data≠.cell v
 aX:cK X.prog X.w H s.heap
 len:↑σ=↑X.N
section
variable{X:Cx}{pins:av}{σ:-(Option V)}{H H':Hp}{s:L}{h':R}
theorem Cx.Ok.v5(ok:X.Ok){b:O}{o:f}(e:X.base.get? b=U o):b∉X.fs:=λhb=>by
 let:=(ok.df.mem hb).1;rw[e] at this;cases this
theorem Inv.bs(I:Inv X pins σ H s):∀b o,X.base.get? b=U o->s.heap.get? b=U o/\H b=Z:=λb o e =>
 ⟨I.base.keep b o (I.ok.bs b o e).1 (I.ok.bs b o e).2 (I.ok.v5 e) (I.ok.fU b o e),I.base.free b o (I.ok.bs b o e).1 (I.ok.bs b o e).2 (I.ok.fU b o e)⟩
theorem Inv.bk(I:Inv X pins σ H s):∀b o,X.base.get? b=U o->s.heap.get? b=U o:=λb o e=>(I.bs b o e).1
theorem Inv.mod(I:Inv X pins σ H s):Mod X.K X.mg X.base:=I.ok.mod
theorem Inv.dU(I:Inv X pins σ H s):X.K.In s.heap:=I.ok.mod.kz.keeps I.bk
theorem Inv.lt(I:Inv X pins σ H s):X.env.locals<⇑s:=let⟨_,hn,_⟩:=I.loc;hn.lt
theorem Inv.sz(I:Inv X pins σ H s):⇑X.s₀<=⇑s:=T5 I.ok.above (Vo I.lt)
theorem Inv.v7(I:Inv X pins σ H s){a:O}(h:⇑s<=a):a∉X.fs:=λhb=>by
 let⟨_,o,ho,_⟩:=I.ok.df.mem hb;calc absurd (TC (Jo ho) (T5 I.sz h)) (U9 _)
theorem Inv.kB(I:Inv X pins σ H s):∀x c,X.env.cells.lookup x=U c->c≠X.env.locals:=λx c e z=>by
 let⟨v,o,ho,hd⟩:=I.cell x c e;let⟨m,⟨o',es,ep,gD,qt,_⟩,_⟩:=I.loc;rw[z,gD] at ho;cases ho;rw[qt] at hd;cases hd
theorem Inv.df(I:Inv X pins σ H s):s.heap.FunFrames X.base X.outer:=by
 let all:∀(l:-t),(∀b∈dG l,b∈X.fs)->X.s₀.heap.FunFrames X.base l->s.heap.FunFrames X.base l:=by
  ext l
  induction l with
  |nil=>ext _ _;trivial
  |cons env r ih =>
   ext hs hl;let⟨hk,⟨L,o,hf,hn,ho,hd⟩,hr⟩:=hl;let hL:L∈X.fs:=hs L (by unfold dG;rw[U6,hf];calc Cu);let⟨sl,e⟩:=I.base.slot L o ho (I.ok.kA L hL) hL λz=>I.ok.gC L z hL;exact⟨hk,⟨L,_,hf,hn,e,hd⟩,ih (λb hb=>hs b (by unfold dG;rw[U6,hf];calc Jp _ hb)) hr⟩
 calc all X.outer (λ_ hb=>hb) I.ok.df
theorem Inv.stack(I:Inv X pins σ H s):s.heap.FunFrames X.base X.stack:=by
 rcases I.ok.mV with e|⟨e,hf⟩
 .rw[e];exact I.df
 .rw[e]
  let⟨m,hn,_⟩:=I.loc;calc .cons (by rw[I.ok.kind];decide) hf hn ?_ I.df;calc Yx (T5 I.ok.jV I.ok.above)
theorem Inv.fD(I:Inv X pins σ H s):∀b∈dG X.stack,b∈X.env.locals::X.fs:=λb hb=>by
 rcases I.ok.mV with e|⟨e,hf⟩
 .rw[e] at hb;exact Jp _ hb
 .rw[e] at hb
  unfold dG at hb;rw[U6,hf] at hb;calc hb
theorem Inv.dg(I:Inv X pins σ H s):∀b∈dG X.stack,H b=Z:=λb hb=>by
 rcases Cy.mp (I.fD b hb) with e|hb
 .rw[e];exact I.free
 .let⟨_,o,ho,_⟩:=I.ok.df.mem hb
  calc I.base.free b o ho (I.ok.kA b hb) λz=>I.ok.gC b z hb
theorem Inv.step{g':Array GenState}{t':Nat}{d':Drawn}{ch:-O}(I:Inv X pins σ H s)
  (iR:∀b∈ch,(b∈X.ex\/⇑X.s₀<=b)/\b≠X.env.locals/\(∀x c,X.env.cells.lookup x=U c->c≠b)/\∀p∈X.pn++pins,p.1≠b)
  (keep:∀b o,b≠X.env.locals->b∉X.fs->b∉ch->s.heap.get? b=U o->H b=Z->h'.get? b=U o)
  (slot:∀b o,b≠X.env.locals->b∈X.fs->b∉ch->s.heap.get? b=U o->H b=Z->∃sl,h'.get? b=U {o with slots:=sl}) (free:∀b o,b∉ch->s.heap.get? b=U o->H b=Z->H' b=Z)
  (there:∀b o,b∉ch->s.heap.get? b=U o->∃o',h'.get? b=U o')
  (cC:∀b xs,H b=U (.tup xs)->H' b=U (.tup xs)) (cM:∀b o u,H b=U (.frz o u)->H' b=U (.frz o u)) (dH:∀b ps,H b=U (.tbl ps)->∃more,H' b=U (.tbl (ps++more)))
  (ns:∀m,s.heap.Ns X.env.locals m->h'.Ns X.env.locals m) (aX:cK X.prog X.w H' h') (hg:AllBare g') :
  Inv X pins σ H' {s with heap:=h',gens:=g',drawn:=d',toks:=t'}:=by
 let Bp:∀b o,X.s₀.heap.get? b=U o->b≠X.env.locals:=λb o e=>TN (TC (Jo e) I.ok.above)
 let tV:∀b o,X.s₀.heap.get? b=U o->b∉X.ex->b∉ch:=λb o e hx hb=>by
  rcases(iR b hb).1 with z|z
  .exact hx z
  .exact absurd (TC (Jo e) z) (U9 _)
 let cellK:∀x c,X.env.cells.lookup x=U c->∀v,s.heap.IsCell c v->h'.IsCell c v:=λx c e v ⟨o,ho,hd⟩↦by
  let jd:c∉ch:=λz=>(iR c z).2.2.1 x c e Y
  by_cases hc:c∈X.fs
  .let⟨sl,q⟩:=slot c o (I.kB x c e) hc jd ho (I.bF x c e)
   exact⟨_,q,hd⟩
  .exact⟨o,keep c o (I.kB x c e) hc jd ho (I.bF x c e),hd⟩
 refine⟨I.ok,I.os,hg,⟨λb o e n hb hx=>?_,λb o e n hb hx=>?_,λb o e n hx=>?_,λb o e hx=>?_,λb xs e=>cC b xs (I.base.cC b xs e),λb o xs e=>cM b o xs (I.base.cM b o xs e),λb ps e=>?_⟩,?_,λx c e=>?_,?_,λx c e=>?_,λp hp=>?_,aX,I.len⟩
 .exact keep b o (Bp b o e) hb (tV b o e hx) (I.base.keep b o e n hb hx) (I.base.free b o e n hx)
 .let⟨sl,e1⟩:=I.base.slot b o e n hb hx
  let⟨kC,e2⟩:=slot b _ (Bp b o e) hb (tV b o e hx) e1 (I.base.free b o e n hx);exact⟨kC,e2⟩
 .let⟨o',e1⟩:=I.base.there b o e hx
  exact free b o' (tV b o e hx) e1 (I.base.free b o e n hx)
 .let⟨o',e1⟩:=I.base.there b o e hx
  exact there b o' (tV b o e hx) e1
 .let⟨m1,e1⟩:=I.base.dH b ps e
  let⟨m2,e2⟩:=dH b _ e1;exact⟨m1++m2,by rw[e2,Array.append_assoc]⟩
 .let⟨m,hn,hl⟩:=I.loc
  calc⟨m,ns m hn,λi x v e1 e2 e3=>?_⟩;let⟨u,r,l⟩:=hl i x v e1 e2 e3;calc⟨u,r,?_⟩;rcases l with l|⟨k,c,e,z⟩
  .exact .inl l
  .exact .inr ⟨k,c,e,cellK x c e _ z⟩
 .let⟨v,z⟩:=I.cell x c e
  exact⟨v,cellK x c e v z⟩
 .let⟨m,⟨o,_,_,ho,_⟩,_⟩:=I.loc
  exact free _ o (λz=>(iR _ z).2.1 Y) ho I.free
 .let⟨v,o,ho,hd⟩:=I.cell x c e
  exact free c o (λz=>(iR c z).2.2.1 x c e Y) ho (I.bF x c e)
 .let⟨e,n,ne,nf,d⟩:=I.pin p hp
  let jd:p.1∉ch:=λz=>(iR p.1 z).2.2.2 p hp Y;calc⟨keep p.1 p.2 ne nf jd e n,free p.1 p.2 jd e n,ne,nf,d⟩
theorem Inv.un{t':Nat}(I:Inv X pins σ H s)(u:Un X.fs [] H H' s.heap h')(aX:cK X.prog X.w H' h'):Inv X pins σ H' {s with heap:=h',toks:=t'}:=by
 let⟨m,⟨o,es,ep,ho,r⟩,_⟩:=id I.loc;let⟨sl,hL⟩:=u.any ho I.free (by simp)
 exact I.step (g':=s.gens) (d':=s.drawn) (ch:=[]) (λ_ z=>nomatch z) (λb o _ hb _ e n=>u.keep b o e n hb (by simp)) (λb o _ hb _ e n=>u.slot b o e n hb (by simp)) (λb o _ e n=>u.free b o e n (by simp)) (λb o _ e=>u.there b o e (by simp)) u.cC u.cM u.dH (λm' hm=>by
  let⟨o',qu,v8,gD,r'⟩:=hm;rw[ho] at gD;cases gD
  calc⟨_,qu,v8,hL,r'⟩) aX I.bare
theorem Inv.call{g':Array GenState}{t':Nat}{d':Drawn}{ch:-O}(I:Inv X pins σ H s)(u:Un (dG X.stack) ch H H' s.heap h')(aX:cK X.prog X.w H' h')(hg:AllBare g')
  (iR:∀b∈ch,(b∈X.ex\/⇑X.s₀<=b)/\b≠X.env.locals/\(∀x c,X.env.cells.lookup x=U c->c≠b)/\∀p∈X.pn++pins,p.1≠b) :
  Inv X pins σ H' {s with heap:=h',gens:=g',drawn:=d',toks:=t'}:=by
 let⟨m,⟨o,es,ep,ho,r⟩,_⟩:=id I.loc;let⟨sl,hL⟩:=u.any ho I.free λz=>(iR _ z).2.1 Y
 exact I.step (ch:=ch) iR (λb o hL hb hc e n=>u.keep b o e n (λz=>(Cy.mp (I.fD b z)).elim hL hb) hc) (λb o _ _ hc e n=>u.any e n hc) (λb o hc e n=>u.free b o e n hc) (λb o hc e=>u.there b o e hc) u.cC u.cM u.dH (λm' hm=>by
  let⟨o',qu,v8,gD,r'⟩:=hm;rw[ho] at gD;cases gD
  calc⟨_,qu,v8,hL,r'⟩) aX hg
theorem Inv.turned{t':Nat}{it:O}(I:Inv X pins σ H s)(k:∀b o,b≠it->s.heap.get? b=U o->h'.get? b=U o)(hn:H it=Z)(hL:it≠X.env.locals)
  (h1:it∈X.ex\/⇑X.s₀<=it) (h2:∀x c,X.env.cells.lookup x=U c->c≠it) (h3:∀p∈X.pn++pins,p.1≠it):Inv X pins σ H {s with heap:=h',toks:=t'}:=by
 let Bq:∀b u,H b=U u->b≠it:=λb u e z=>by rw[z,hn] at e;cases e
 refine I.step (g':=s.gens) (d':=s.drawn) (ch:=[it]) (λb hb=>?_) (λb o _ _ hc e _=>k b o (λz=>hc (by simp[z])) e) (λb o _ _ hc e _=>⟨o.slots,k b o (λz=>hc (by simp[z])) e⟩) (λ_ _ _ _ n=>n)
  (λb o hc e=>⟨o,k b o (λz=>hc (by simp[z])) e⟩) (λ_ _ e=>e) (λ_ _ _ e=>e) (λb ps e=>⟨#[],by rw[e];simp⟩) (λm hm=>?_) (λb u e=>?_) I.bare
 .let e:b=it:=by simpa using hb
  subst e;exact⟨h1,hL,h2,h3⟩
 .let⟨o,es,ep,ho,r⟩:=hm
  exact⟨o,es,ep,k _ o (Vv hL) ho,r⟩
 .refine (I.aX b u e).dR (λc v hc q=>k c v ?_ q) (λ_ q=>q) λ_ _ q=>q
  rcases hc with z|z
  .rw[z];exact Bq b u e
  .calc Bq c _ z
theorem Inv.tok(I:Inv X pins σ H s)(t:Nat):Inv X pins σ H {s with toks:=t}:=I.un (h':=s.heap) (t':=t) Un.refl I.aX
theorem Inv.kept{t':Nat}(I:Inv X pins σ H s)(k:∀b u,s.heap.get? b=U u->h'.get? b=U u):Inv X pins σ H {s with heap:=h',toks:=t'}:=I.un (Un.kept k) (I.aX.kept k)
theorem Inv.laid{a:O}{o:HO}{t':Nat}(I:Inv X pins σ H s)(k:∀b u,s.heap.get? b=U u->h'.get? b=U u)(hp:⇑s<=a)(new:bc X.prog X.w (upd H a o) h' a o):
  Inv X pins σ (upd H a o) {s with heap:=h',toks:=t'}:=I.un (Un.laid k hp (I.aX.fresh hp)) (I.aX.laid k hp new)
theorem Inv.write{x e:O}{o:HO}{t':Nat}(I:Inv X pins σ H s)(mu:tT (H x))(he:e=x\/H e=U (.own x))(k:∀b u,b≠e->s.heap.get? b=U u->h'.get? b=U u)(l8:∃u,h'.get? e=U u)
  (new:bc X.prog X.w (upd H x o) h' x o):Inv X pins σ (upd H x o) {s with heap:=h',toks:=t'}:=I.un (Un.write mu he k l8) (I.aX.write mu he k l8 new)
theorem Inv.g6{fV:av}(I:Inv X pins σ H s)(h:∀p∈fV,s.heap.get? p.1=U p.2/\H p.1=Z/\p.1≠X.env.locals/\p.1∉X.fs/\∀v,p.2.data≠.cell v):Inv X fV σ H s :=
 ⟨I.ok,I.os,I.bare,I.base,I.loc,I.cell,I.free,I.bF,λp hp=>(T1.mp hp).elim (λz=>I.pin p (Uw _ z)) (h p),I.aX,I.len⟩
theorem v9{N:-J}(hN:N.Nodup){i j:Nat}{x:J}(a:N[i]?=U x)(b:N[j]?=U x):i=j:=by
 let⟨h1,e1⟩:=kP.mp a;let⟨h2,e2⟩:=kP.mp b;calc(ZP hN).mp (e1.trans e2.symm)
theorem Br{M:Model}{A:l}{E:aT}{i:Nat}{x:J}{v:V}{u:B}{Q:Unit->L->Prop}(I:Inv X pins σ H s)(hN:X.N.Nodup)(hi:X.N[i]?=U x)(hx:Loc X.env.scope x)(r:RelV v u)
  (h:∀s',Inv X pins (σ.set i (U v)) H s'->(∃a,Ws a s.heap s'.heap/\(a=X.env.locals\/X.env.cells.lookup x=U a))->Q () s') (hf:dS X x:=by first|exact .inl Y|exact .inr Y|assumption):G M A (storeName X.env x u) Q E s:=by
 let⟨m,hn,hl⟩:=id I.loc;let v_:(X.env.scope.kind==.class||(X.env.scope.kind==.module&&X.env.locals != X.env.globals))=ι:=by rw[I.ok.kind];rfl
 let Bs:i<↑σ:=by rw[I.len];exact(kP.mp hi).1
 let kB:=I.kB
 let tracked:∀{a:O}{h':R},(∃o,s.heap.get? a=U o/\H a=Z)->Ws a s.heap h'->cK X.prog X.w H h':=λ{a h'} ha hs b ob e=>by
  let⟨_,_,l_⟩:=ha;calc(I.aX b ob e).dR (λc w' hc q=>(hs.2 c ?_).trans q) (λ_ q=>q) λ_ _ q=>q;ext rfl;rcases hc with rfl|hc
  .rw[l_] at e;cases e
  .rw[l_] at hc;cases hc
 rcases hx with hk|hk
 .refine wpAny_storeName_local hk hn (λh' oZ hs=>?_) v_
  let⟨oL,_,_,Bt,_⟩:=id hn;refine h _ ⟨I.ok,I.os,I.bare,⟨λb o e n hb hx=>?_,λb o e n hb hx=>?_,I.base.free,λb o e hx=>?_,I.base.cC,I.base.cM,I.base.dH⟩,⟨_,oZ,λj y v' e1 e2 e3=>?_⟩,λy c e=>?_,I.free,I.bF,λp hp=>?_,tracked ⟨oL,Bt,I.free⟩ hs,by simpa using I.len⟩ ⟨_,hs,.inl Y⟩
  .exact (hs.2 b (TN (TC (Jo e) I.ok.above))).trans (I.base.keep b o e n hb hx)
  .let⟨sl,e1⟩:=I.base.slot b o e n hb hx
   exact⟨sl,(hs.2 b (TN (TC (Jo e) I.ok.above))).trans e1⟩
  .let⟨o',e1⟩:=I.base.there b o e hx
   exact⟨o',(hs.2 b (TN (TC (Jo e) I.ok.above))).trans e1⟩
  .by_cases hj:j=i
   .subst hj
    rw[hi] at e1;cases e1;rw[TZ Bs] at e2;cases e2
    exact⟨u,r,.inl ⟨hk,by simp⟩⟩
   .rw[T8 (Vv hj)] at e2
    let⟨u',r',q⟩:=hl j y v' e1 e2 e3;calc⟨u',r',?_⟩;rcases q with⟨k,e⟩|⟨k,c,e,z⟩
    .refine .inl ⟨k,?_⟩
     let:y≠x:=λe=>hj (v9 hN e1 (e▸hi));simp[this,e]
    .exact .inr ⟨k,c,e,z.sameBut hs (kB y c e)⟩
  .let⟨w',z⟩:=I.cell y c e
   exact⟨w',z.sameBut hs (kB y c e)⟩
  .let⟨e,n,ne,nf,d⟩:=I.pin p hp
   exact⟨(hs.2 p.1 ne).trans e,n,ne,nf,d⟩
 .let kD:X.fn x=θ:=by
   rcases hf with z|z
   .exact z
   .rw[z] at hk;cases hk
  let⟨c,hc⟩:=I.ok.has x (.inl hk);let⟨w',z⟩:=I.cell x c hc;calc wpAny_storeName_cell I.ok.kind hk hc z (λh' me hs=>?_);let⟨oc,Bu,wa⟩:=id z;refine h {s with heap:=h'} ⟨I.ok,I.os,I.bare,⟨λb o e n hb hx=>?_,λb o e n hb hx=>?_,I.base.free,λb o e hx=>?_,I.base.cC,I.base.cM,I.base.dH⟩,⟨m,hn.sameBut hs (Vv (kB x c hc)),λj y v' e1 e2 e3=>?_⟩,λy c' e=>?_,I.free,I.bF,λp hp=>?_,tracked ⟨oc,Bu,I.bF x c hc⟩ hs,by simpa using I.len⟩ ⟨c,hs,.inr hc⟩
  .exact (hs.2 b (TN (TC (Jo e) (I.ok.l9 x c kD hc)))).trans (I.base.keep b o e n hb hx)
  .let⟨sl,e1⟩:=I.base.slot b o e n hb hx
   exact⟨sl,(hs.2 b (TN (TC (Jo e) (I.ok.l9 x c kD hc)))).trans e1⟩
  .let⟨o',e1⟩:=I.base.there b o e hx
   exact⟨o',(hs.2 b (TN (TC (Jo e) (I.ok.l9 x c kD hc)))).trans e1⟩
  .by_cases hj:j=i
   .subst hj
    rw[hi] at e1;cases e1;rw[TZ Bs] at e2;cases e2
    exact⟨u,r,.inr ⟨.inl hk,c,hc,me⟩⟩
   .rw[T8 (Vv hj)] at e2
    let⟨u',r',q⟩:=hl j y v' e1 e2 e3;calc⟨u',r',?_⟩;rcases q with q|⟨k,c',e,z'⟩
    .exact .inl q
    .refine .inr ⟨k,c',e,z'.sameBut hs ?_⟩
     ext rfl;exact hj (v9 hN e1 (I.ok.inj _ _ _ e hc▸hi))
  .by_cases hcc:c'=c
   .subst hcc;exact⟨_,me⟩
   .let⟨w2,z2⟩:=I.cell y c' e
    exact⟨w2,z2.sameBut hs hcc⟩
  .let⟨e,n,ne,nf,d⟩:=I.pin p hp
   calc⟨(hs.2 p.1 ?_).trans e,n,ne,nf,d⟩;ext q;rw[q,Bu] at e;let q':oc=p.2:=TU e;calc d w' (by rw[<-q'];calc wa)
theorem tW{M:Model}{A:l}{E:aT}{i:Nat}{x:J}{v:V}{u:B}{Q:Unit->L->Prop}(I:Inv X pins σ H s)(hN:X.N.Nodup)(hi:X.N[i]?=U x)(hx:Loc X.env.scope x)(r:RelV v u)
  (h:∀s',Inv X pins (σ.set i (U v)) H s'->Q () s') (hf:dS X x:=by first|exact .inl Y|exact .inr Y|assumption):G M A (storeName X.env x u) Q E s :=
 Br I hN hi hx r (λs' I' _=>h s' I') hf
theorem Inv.g7{s':L}{ch:-O}(I:Inv X pins σ H s)(ho:s'.os=s.os)(u:Un (dG X.stack) ch H H' s.heap s'.heap)(aX:cK X.prog X.w H' s'.heap)(hg:AllBare s'.gens)
  (iR:∀b∈ch,(b∈X.ex\/⇑X.s₀<=b)/\b≠X.env.locals/\(∀x c,X.env.cells.lookup x=U c->c≠b)/\∀p∈X.pn++pins,p.1≠b):Inv X pins σ H' s':=by
 let⟨h',g',d',t',o'⟩:=s';let e:o'=s.os:=ho;subst e;calc I.call (g':=g') (t':=t') (d':=d') u aX hg iR
end
abbrev XK:=B->Option O->Hp->Prop
abbrev St:=-(Option V)
abbrev VK:=V->Hp->Prop
abbrev TE:=St->Hp->VK->Prop
abbrev TT:=St->Hp->(Bool->Hp->Prop)->Prop
abbrev TA:=St->Hp->(-V->Hp->Prop)->Prop
structure Ends where
 nx:St->Hp->Prop
 rt:VK
 bk:St->Hp->Prop:=λ_ _=>False
 ct:St->Hp->Prop:=λ_ _=>False
abbrev TS:=Ends->St->Hp->Prop
def EP(X:Cx)(pins:av)(σ:St)(Q:VK)(u:B)(s':L):Prop:=∃v H',Inv X pins σ H' s'/\RelV v u/\Q v H'
def TP(X:Cx)(pins:av)(σ:St)(Q:Bool->Hp->Prop)(b:Bool)(s':L):Prop:=∃H',Inv X pins σ H' s'/\Q b H'
def AP(X:Cx)(pins:av)(σ:St)(Q:-V->Hp->Prop)(us:-B)(s':L):Prop:=∃vs H',Inv X pins σ H' s'/\Vals vs us/\Q vs H'
def SP(X:Cx)(pins:av)(D:Ends)(f:Flow)(s':L):Prop :=
 match f with
 |.next=>∃σ' H',Inv X pins σ' H' s'/\D.nx σ' H'
 |.brk=>∃σ' H',Inv X pins σ' H' s'/\D.bk σ' H'
 |.cont=>∃σ' H',Inv X pins σ' H' s'/\D.ct σ' H'
 |.ret u=>∃v σ' H',Inv X pins σ' H' s'/\RelV v u/\D.rt v H'
structure JE(X:Cx)(e:M)(t:TE):Prop where
 out:∀(pins:av)(s:L)(σ:St)(H:Hp)(Q:VK),Inv X pins σ H s->t σ H Q->G (S X.prog X.w) X.A (eval e X.env) (EP X pins σ Q) X.xe s
instance {X:Cx} {e:M} {t:TE}:CoeFun (JE X e t) (λ_=>∀(pins:av)(s:L)(σ:St)(H:Hp)(Q:VK),Inv X pins σ H s->t σ H Q->G (S X.prog X.w) X.A (eval e X.env) (EP X pins σ Q) X.xe s):=⟨JE.out⟩
structure JT(X:Cx)(e:M)(t:TT):Prop where
 out:∀(pins:av)(s:L)(σ:St)(H:Hp)(Q:Bool->Hp->Prop),Inv X pins σ H s->t σ H Q->G (S X.prog X.w) X.A (isTrue e X.env (eval e X.env)) (TP X pins σ Q) X.xe s
instance {X:Cx} {e:M} {t:TT}:CoeFun (JT X e t) (λ_=>∀(pins:av)(s:L)(σ:St)(H:Hp)(Q:Bool->Hp->Prop),Inv X pins σ H s->t σ H Q->G (S X.prog X.w) X.A (isTrue e X.env (eval e X.env)) (TP X pins σ Q) X.xe s):=⟨JT.out⟩
structure JW(X:Cx)(e:M)(t:TT):Prop where
 out:∀(whole:Sem B)(pins:av)(s:L)(σ:St)(H:Hp)(Q:Bool->Hp->Prop),Inv X pins σ H s->t σ H Q->G (S X.prog X.w) X.A (isTrue e X.env whole) (TP X pins σ Q) X.xe s
instance {X:Cx} {e:M} {t:TT}:CoeFun (JW X e t) (λ_=>∀(whole:Sem B)(pins:av)(s:L)(σ:St)(H:Hp)(Q:Bool->Hp->Prop),Inv X pins σ H s->t σ H Q->G (S X.prog X.w) X.A (isTrue e X.env whole) (TP X pins σ Q) X.xe s):=⟨JW.out⟩
theorem JW.jt{X:Cx}{e:M}{t:TT}(h:JW X e t):JT X e t:=⟨h.out _⟩
structure JA(X:Cx)(es:-M)(t:TA):Prop where
 out:∀(pos:y)(pins:av)(s:L)(σ:St)(H:Hp)(Q:-V->Hp->Prop),Inv X pins σ H s->t σ H Q->G (S X.prog X.w) X.A (spliced (backTo pos (starEach es X.env))) (AP X pins σ Q) X.xe s
instance {X:Cx} {es:-M} {t:TA}:CoeFun (JA X es t) (λ_=>∀(pos:y)(pins:av)(s:L)(σ:St)(H:Hp)(Q:-V->Hp->Prop),Inv X pins σ H s->t σ H Q->G (S X.prog X.w) X.A (spliced (backTo pos (starEach es X.env))) (AP X pins σ Q) X.xe s):=⟨JA.out⟩
structure JS(X:Cx)(st:o)(t:TS):Prop where
 out:∀(pins:av)(s:L)(σ:St)(H:Hp)(D:Ends),Inv X pins σ H s->t D σ H->G (S X.prog X.w) X.A (exec st X.env) (SP X pins D) X.xe s
instance {X:Cx} {st:o} {t:TS}:CoeFun (JS X st t) (λ_=>∀(pins:av)(s:L)(σ:St)(H:Hp)(D:Ends),Inv X pins σ H s->t D σ H->G (S X.prog X.w) X.A (exec st X.env) (SP X pins D) X.xe s):=⟨JS.out⟩
structure bZ(X:Cx)(st:-o)(t:TS):Prop where
 out:∀(pins:av)(s:L)(σ:St)(H:Hp)(D:Ends),Inv X pins σ H s->t D σ H->G (S X.prog X.w) X.A (execs st X.env) (SP X pins D) X.xe s
instance {X:Cx} {st:-o} {t:TS}:CoeFun (bZ X st t) (λ_=>∀(pins:av)(s:L)(σ:St)(H:Hp)(D:Ends),Inv X pins σ H s->t D σ H->G (S X.prog X.w) X.A (execs st X.env) (SP X pins D) X.xe s):=⟨bZ.out⟩
theorem bp{α:Type}{t:Sem α}{Q Q':α->L->Prop}{M:Model}{A:l}{E:aT}{s:L}(h:G M A t Q E s)(hQ:∀a s,Q a s->Q' a s):G M A t Q' E s:=UP h hQ λ_ _ x=>x
section
variable{X:Cx}
def fE(i:Nat):TE:=fun σ H Q=>∃v,σ[i]?=U (U v)/\Q v H
def tC(v:V):TE:=λ_ H Q=>Q v H
theorem Bv{i:Nat}{x:J}{pos:y}(hN:X.N[i]?=U x)(hv:o7 X.env.scope x)(hd:bw x:=by decide)(fW:(x==("__classdict__" : J))=ι:=by decide):JE X (.Name x pos) (fE i):=by
 calc⟨?_⟩;ext pins s σ H Q I h;let⟨v,e,h⟩:=h;let⟨m,hn,hl⟩:=I.loc;let⟨u,r,l⟩:=hl i x v hN e hv;let fin:EP X pins σ Q u s:=⟨v,H,I,r,h⟩;rcases l with⟨hk,hm⟩|⟨hk,c,hc,mf⟩
 .exact q0n (wpAny_loadName_local I.ok.kind hk hn hm fin) hd
 .rcases hk with hk|hk
  .exact q0n (wpAny_loadName_cell I.ok.kind hk hc mf fin) hd
  .calc q0n (wpAny_loadName_free I.ok.kind hk hc mf fin fW) hd
theorem je{i j pos}:JE X (.Constant (.int i) j pos) (tC (.int i)):=⟨λ_ _ _ H _ I h=>wpAny_Constant_int ⟨.int i,H,I.tok _,⟨_,Y⟩,h⟩⟩
theorem wb{b j pos}:JE X (.Constant (.bool b) j pos) (tC (.bl b)):=⟨λ_ _ _ H _ I h=>Constant_bool ⟨.bl b,H,I,Y,h⟩⟩
theorem Hx{j pos}:JE X (.Constant .none j pos) (tC .non):=⟨λ_ _ _ H _ I h=>Constant_none ⟨.non,H,I,Y,h⟩⟩
theorem o8{x j pos}:JE X (.Constant (.str x) j pos) (tC (.str x)):=⟨λ_ _ _ H _ I h=>Calls.Constant_str ⟨.str x,H,I.tok _,⟨_,Y⟩,h⟩
⟩
def Gl(X:Cx)(x:J):Prop:=X.env.kindOf x=U .globalImplicit
theorem tX{E:aT}{pins:av}{s:L}{σ:St}{H:Hp}{x:J}{u:B}{pos:y}{Q:aT}(I:Inv X pins σ H s)(hg:Gl X x)(hm:X.mg x=U u)(h:Q u s)
  (hd:bw x:=by decide):G (S X.prog X.w) X.A (eval (.Name x pos) X.env) Q E s :=
 Xl I.ok.kind hg (Calls.loadGlobal_global (by rw[I.ok.glob];calc I.mod.glob.keeps I.bk) hm h) hd
theorem mW{E:aT}{pins:av}{s:L}{σ:St}{H:Hp}{x:J}{u:B}{pos:y}{Q:aT}(I:Inv X pins σ H s)(hg:Gl X x)(hm:X.mg x=Z)(hv:bootBuiltins x=U u)(h:Q u s)
  (hn:x≠"__name__" := by decide) (hd:bw x:=by decide):G (S X.prog X.w) X.A (eval (.Name x pos) X.env) Q E s:=by
 let⟨mb,h1,h2⟩:=I.mod.blt;calc Xl I.ok.kind hg (Calls.loadGlobal_builtin (by rw[I.ok.glob];calc I.mod.glob.keeps I.bk) hm (by rw[I.ok.blt];calc h1.keeps I.bk) ((h2 x hn).trans hv) h) hd
theorem tY{x:J}{v:V}{u:B}{pos:y}(hg:Gl X x)(hm:X.mg x=U u)(r:RelV v u)(hd:bw x:=by decide):JE X (.Name x pos) (tC v):=⟨λ_ _ _ H _ I h=>tX I hg hm ⟨v,H,I,r,h⟩ hd⟩
theorem Bw{x:J}{v:V}{u:B}{pos:y}(hg:Gl X x)(hm:X.mg x=Z)(hv:bootBuiltins x=U u)(r:RelV v u)(hn:x≠"__name__" := by decide)(hd:bw x:=by decide):JE X (.Name x pos) (tC v):=⟨λ_ _ _ H _ I h=>mW I hg hm hv ⟨v,H,I,r,h⟩ hn hd
⟩
variable{a b:M}{ta tb:TE}{pos:y}
structure JC(X:Cx)(op:CmpOp)(a b:M)(t:TE):Prop where
 out:∀(pins:av)(s:L)(σ:St)(H:Hp)(Q:VK),Inv X pins σ H s->t σ H Q →
  G (S X.prog X.w) X.A (eval a X.env) (λv s₁=>G (S X.prog X.w) X.A (eval b X.env) (λu s₂=>G (S X.prog X.w) X.A (compareOp op v u) (EP X pins σ Q) X.xe s₂) X.xe s₁) X.xe s
instance {X:Cx} {op:CmpOp} {a b:M} {t:TE}:CoeFun (JC X op a b t) (λ_=>∀(pins:av)(s:L)(σ:St)(H:Hp)(Q:VK),Inv X pins σ H s->t σ H Q->G (S X.prog X.w) X.A (eval a X.env) (λv s₁=>G (S X.prog X.w) X.A (eval b X.env) (λu s₂=>G (S X.prog X.w) X.A (compareOp op v u) (EP X pins σ Q) X.xe s₂) X.xe s₁) X.xe s):=⟨JC.out⟩
theorem Hy(b:M){op:CmpOp}(h:op≠.In)(h2:op≠.NotIn):behindInMarks op b=ι:=by
 let e1:(op==CmpOp.In)=ι:=by cases op<;>first|rfl|exact absurd Y h
 let e2:(op==CmpOp.NotIn)=ι:=by cases op<;>first|rfl|exact absurd Y h2
 cases b<;>simp[behindInMarks,e1,e2]
def Bx(ta:TE):TE:=fun σ H Q=>ta σ H λx H1=>Q (.bl (!g (x=.non))) H1
theorem RelV.jf{x:V}{v:B}(r:RelV x v):(v==UC)=g (x=.non):=by
 cases x with
 |non=>cases r;rfl
 |bl _=>cases r;rfl
 |int _=>let⟨t,rfl⟩:=r;rfl
 |str _=>let⟨t,rfl⟩:=r;rfl
 |byt _=>let⟨t,rfl⟩:=r;rfl
 |flt _=>let⟨t,rfl⟩:=r;rfl
 |ref _=>cases r;rfl
 |ty _=>cases r;rfl
theorem Hz{j pos'}(ha:JE X a ta):JC X .IsNot a (.Constant .none j pos') (Bx ta):=by
 calc⟨?_⟩;ext pins s σ H Q I h;calc bp (ha pins s σ H _ I h) λv s1 h0_=>el5 h0_ λx H1 I1 r1 q1=>?_;calc Constant_none (isnot_none_gen ⟨.bl _,H1,I1,by rw[r1.jf];rfl,q1⟩)
def tB(t:TE):TT:=fun σ H Q=>t σ H λx H1=>∃c,x=.bl c/\Q c H1
theorem HA{op:CmpOp}{t:TE}(h:JC X op a b t)(h1:behindInMarks op b=ι:=by first|exact Hy _ (by decide) (by decide)|rfl):JE X (.Compare a [op] [b] pos) t:=⟨λpins s σ H Q I hw=>q0o (h pins s σ H Q I hw) h1⟩
theorem wc{e:M}{t:TE}(h:JE X e t)(he:∀whole,isTrue e X.env whole=(do let v <- whole;standAt e.pos;holding [v] (truthy v)):=by ext _;rfl):JT X e (tB t):=by
 calc⟨?_⟩;ext pins s σ H Q I hw;calc isTrue_plain (bp (h pins s σ H _ I hw) λv s1 h0_=>el5 h0_ λx H1 I1 r1 q1=>?_) (he _);let⟨d,rfl,q⟩:=q1;cases r1
 calc UG ⟨H1,I1,q⟩
variable{tA tZ:TT}{rest:-M}
def qv(t u:TT):TT:=fun σ H Q=>t σ H λc H1=>if c=θ then u σ H1 Q else Q ι H1
def By(t u:TT):TT:=fun σ H Q=>t σ H λc H1=>if c=θ then Q θ H1 else u σ H1 Q
def wd(t:TT):TT:=fun σ H Q=>t σ H λc H1=>Q (!c) H1
theorem HB(ha:JT X a tA):JW X (.BoolOp .And [a] pos) tA:=by
 calc⟨?_⟩;ext wh pins s σ H Q I h;refine isTrue_and (bp (ha pins s σ H Q I h) λc s1 e=>?_)
 cases c with
 |true=>exact isTrue_and_nil e
 |false=>calc e
theorem Bz(ha:JT X a tA):JW X (.BoolOp .Or [a] pos) tA:=by
 calc⟨?_⟩;ext wh pins s σ H Q I h;refine isTrue_or (bp (ha pins s σ H Q I h) λc s1 e=>?_)
 cases c with
 |false=>exact isTrue_or_nil e
 |true=>calc e
theorem HC(ha:JT X a tA)(hb:JW X (.BoolOp .And (b::rest) pos) tZ):JW X (.BoolOp .And (a::b::rest) pos) (qv tA tZ):=by
 calc⟨?_⟩;ext wh pins s σ H Q I h;refine isTrue_and (bp (ha pins s σ H _ I h) λc s1 h0_=>el3 h0_ λH1 I1 q1=>?_)
 cases c with
 |true=>exact hb wh pins s1 σ H1 Q I1 q1
 |false=>calc⟨H1,I1,q1⟩
theorem we(ha:JT X a tA)(hb:JW X (.BoolOp .Or (b::rest) pos) tZ):JW X (.BoolOp .Or (a::b::rest) pos) (By tA tZ):=by
 calc⟨?_⟩;ext wh pins s σ H Q I h;refine isTrue_or (bp (ha pins s σ H _ I h) λc s1 h0_=>el3 h0_ λH1 I1 q1=>?_)
 cases c with
 |true=>exact⟨H1,I1,q1⟩
 |false=>calc hb wh pins s1 σ H1 Q I1 q1
theorem wg(ha:JT X a tA):JT X (.UnaryOp .Not a pos) (wd tA):=by
 calc⟨?_⟩;ext pins s σ H Q I h;calc isTrue_not (ha pins s σ H (λc H1=>Q (!c) H1) I h)
def BA(ta tb:TE):TE:=fun σ H Q=>ta σ H λx H1=>∃c,x=.bl c/\if c=θ then tb σ H1 Q else Q (.bl ι) H1
def wj(ta tb:TE):TE:=fun σ H Q=>ta σ H λx H1=>∃c,x=.bl c/\if c=θ then Q (.bl θ) H1 else tb σ H1 Q
def HD(ta:TE):TE:=fun σ H Q=>ta σ H λx H1=>∃c,x=.bl c/\Q (.bl (!c)) H1
theorem BB{op}{t:TE}(h:JE X a t):JE X (.BoolOp op [a] pos) t:=⟨λpins s σ H Q I hw=>BoolOp_one (h pins s σ H Q I hw)⟩
theorem BC(ha:JE X a ta)(hb:JE X (.BoolOp .And (b::rest) pos) tb):JE X (.BoolOp .And (a::b::rest) pos) (BA ta tb):=by
 calc⟨?_⟩;ext pins s σ H Q I h;calc BoolOp_and (bp (ha pins s σ H _ I h) λv s1 h0_=>el5 h0_ λx H1 I1 r1 q1=>?_);let⟨c,rfl,q1⟩:=q1;cases r1
 refine UG ?_
 cases c with
 |true=>exact hb pins s1 σ H1 Q I1 q1
 |false=>calc⟨.bl ι,H1,I1,Y,q1⟩
theorem HE(ha:JE X a ta)(hb:JE X (.BoolOp .Or (b::rest) pos) tb):JE X (.BoolOp .Or (a::b::rest) pos) (wj ta tb):=by
 calc⟨?_⟩;ext pins s σ H Q I h;calc BoolOp_or (bp (ha pins s σ H _ I h) λv s1 h0_=>el5 h0_ λx H1 I1 r1 q1=>?_);let⟨c,rfl,q1⟩:=q1;cases r1
 refine UG ?_
 cases c with
 |false=>exact hb pins s1 σ H1 Q I1 q1
 |true=>calc⟨.bl θ,H1,I1,Y,q1⟩
theorem HF(ha:JE X a ta):JE X (.UnaryOp .Not a pos) (HD ta):=by
 calc⟨?_⟩;ext pins s σ H Q I h;calc UnaryOp_ (bp (ha pins s σ H _ I h) λv s1 h0_=>el5 h0_ λx H1 I1 r1 q1=>?_);let⟨c,rfl,q1⟩:=q1;cases r1
 calc not_of (UG ⟨.bl (!c),H1,I1,Y,q1⟩)
def HG(t:TT)(ta tb:TE):TE:=fun σ H Q=>t σ H λc H1=>if c=θ then ta σ H1 Q else tb σ H1 Q
theorem BE{c:M}(hc:JT X c tA)(ha:JE X a ta)(hb:JE X b tb):JE X (.IfExp c a b pos) (HG tA ta tb):=by
 calc⟨?_⟩;ext pins s σ H Q I h;refine wpAny_IfExp (bp (hc pins s σ H _ I h) λd s1 h0_=>el3 h0_ λH1 I1 q1=>?_)
 cases d with
 |true=>exact ha pins s1 σ H1 Q I1 q1
 |false=>calc hb pins s1 σ H1 Q I1 q1
end
def bq(K:nG)(H:Hp)(a:O)(xs:-V):Prop :=
 Rd H a (.lst xs) ∨
  ∃(o:f)(ah:Array B)(n:Nat),K.lookup a=U o/\o.cls=.type "list" /\ o.dict=Z/\o.data=.seq ah n/\ah.size<=sizeLine/\Vals xs ah.toList
def bJ(K:nG)(H:Hp)(a:O)(xs:-V):Prop :=
 Rd H a (.tup xs) ∨
  ∃(o:f)(ah:Array B)(n:Nat),K.lookup a=U o/\o.cls=.type "tuple" /\ o.data=.seq ah n/\ah.size<=sizeLine/\Vals xs ah.toList
noncomputable def wk:B->Option V
 |.none=>U .non
 |.bool b=>U (.bl b)
 |.int i _=>U (.int i)
 |.str x _=>U (.str x)
 |.bytes b _=>U (.byt b)
 |.float b _=>U (.flt b)
 |.ref a=>U (.ref a)
 |.type n=>U (.ty n)
 |_=>Z
theorem RelV.abs{x:V}{u:B}(r:RelV x u):wk u=U x:=by
 cases x with
 |non=>cases r;rfl
 |bl _=>cases r;rfl
 |int _=>let⟨t,rfl⟩:=r;rfl
 |str _=>let⟨t,rfl⟩:=r;rfl
 |byt _=>let⟨t,rfl⟩:=r;rfl
 |flt _=>let⟨t,rfl⟩:=r;rfl
 |ref _=>cases r;rfl
 |ty _=>cases r;rfl
theorem RelV.inj{x y:V}{u:B}(r:RelV x u)(q:RelV y u):x=y:=TU (r.abs.symm.trans q.abs)
theorem Vals.inj:∀{xs ys:-V}{us:-B},Vals xs us->Vals ys us->xs=ys
 |_,_,_,.nil,.nil=>Y
 |_,_,_,.cons r t,.cons r' t'=>by rw[r.inj r',Vals.inj t t']
section
variable{X:Cx}{pins:av}{σ:St}{H:Hp}{s:L}{a:O}{xs ys:-V}
theorem bq.of{K:nG}(h:H a=U (.lst xs)):bq K H a xs:=.inl (.inl h)
theorem bJ.of{K:nG}(h:H a=U (.tup xs)):bJ K H a xs:=.inl (.inl h)
theorem Inv.list(I:Inv X pins σ H s)(h:bq X.K H a xs):∃ah:-B,Vals xs ah/\PlainL s.heap a ah.toArray/\↑xs<=sizeLine:=by
 rcases h with h|⟨o,ah,n,hk,hc,hd,hs,hz,r⟩
 .let⟨z,ah,n,r,e⟩:=h.ok I.aX
  exact⟨ah,r,⟨_,n,e,Y,Y,Y⟩,z⟩
 .refine⟨ah.toList,r,⟨o,n,I.dU a o hk,hc,hd,by simpa using hs⟩,?_⟩
  let e:=↑r;erw[Jq] at e;symm
theorem Inv.tuple(I:Inv X pins σ H s)(h:bJ X.K H a xs):∃ah:-B,Vals xs ah/\IsTup s.heap a ah.toArray/\↑xs<=sizeLine:=by
 rcases h with h|⟨o,ah,n,hk,hc,hs,hz,r⟩
 .let⟨z,ah,r,p⟩:=h.ok I.aX
  exact⟨ah,r,p,z⟩
 .refine⟨ah.toList,r,⟨o,I.dU a o hk,hc,n,by simpa using hs⟩,?_⟩
  let e:=↑r;erw[Jq] at e;symm
theorem Inv.eg(I:Inv X pins σ H s)(h:bq X.K H a xs)(h':bq X.K H a ys):xs=ys:=by
 let⟨ah,r,⟨o,n,e,_,_,d⟩,_⟩:=I.list h;let⟨its',r',⟨o',n',e',_,_,d'⟩,_⟩:=I.list h';rw[e] at e';cases e';rw[d] at d';injection d' with d1 _;let:ah=its':=by simpa using congrArg q1s d1
 subst this;calc r.inj r'
theorem Inv.fh(I:Inv X pins σ H s)(h:bJ X.K H a xs)(h':bJ X.K H a ys):xs=ys:=by
 let⟨ah,r,⟨o,e,_,n,d⟩,_⟩:=I.tuple h;let⟨its',r',⟨o',e',_,n',d'⟩,_⟩:=I.tuple h';rw[e] at e';cases e';rw[d] at d';injection d' with d1 _;let:ah=its':=by simpa using congrArg q1s d1
 subst this;calc r.inj r'
end
noncomputable abbrev Cx.eU(X:Cx)(E:aT):Cx:={X with xe:=E}
noncomputable abbrev Cx.mi(X:Cx):Cx:=X.eU λ_ _=>False
theorem Cx.Ok.eU{X:Cx}(ok:X.Ok)(E:aT):(X.eU E).Ok :=
 ⟨ok.mod,ok.kind,ok.glob,ok.blt,ok.above,ok.inj,ok.has,ok.l9,ok.hd,ok.frames,ok.mV,ok.qr,ok.bs,ok.jV,ok.fU,ok.gC,ok.df,ok.kA⟩
theorem Cx.Ok.cn{X:Cx}{E:aT}(ok:(X.eU E).Ok):X.Ok :=
 ⟨ok.mod,ok.kind,ok.glob,ok.blt,ok.above,ok.inj,ok.has,ok.l9,ok.hd,ok.frames,ok.mV,ok.qr,ok.bs,ok.jV,ok.fU,ok.gC,ok.df,ok.kA⟩
section
variable{X:Cx}{pins:av}{σ:St}{H:Hp}{s:L}{E:aT}
theorem Inv.eU(I:Inv X pins σ H s)(E:aT):Inv (X.eU E) pins σ H s:=⟨I.ok.eU E,I.os,I.bare,I.base,I.loc,I.cell,I.free,I.bF,I.pin,I.aX,I.len⟩
theorem Inv.cn(I:Inv (X.eU E) pins σ H s):Inv X pins σ H s:=⟨I.ok.cn,I.os,I.bare,I.base,I.loc,I.cell,I.free,I.bF,I.pin,I.aX,I.len⟩
theorem SP.cn{D:Ends}{f:Flow}{s':L}(h:SP (X.eU E) pins D f s'):SP X pins D f s':=by
 cases f with
 |next=>let⟨σ',H',I,q⟩:=h;exact⟨σ',H',I.cn,q⟩
 |brk=>let⟨σ',H',I,q⟩:=h;exact⟨σ',H',I.cn,q⟩
 |cont=>let⟨σ',H',I,q⟩:=h;exact⟨σ',H',I.cn,q⟩
 |ret u=>let⟨v,σ',H',I,r,q⟩:=h;calc⟨v,σ',H',I.cn,r,q⟩
theorem bZ.mi{st:-o}{t:TS}(h:bZ X.mi st t):bZ X st t:=⟨λpins s σ H D I hw =>
 UP (h pins s σ H D (I.eU _) hw) (λ_ _ q=>q.cn) λ_ _ z=>Uu z⟩
end
section
variable{X:Cx}{st:o}{rest:-o}{t u:TS}{e:M}{te:TE}{pos:y}
def HH:TS:=λD σ H=>D.nx σ H
def qw(t u:TS):TS:=λD σ H=>t {D with nx:=u D} σ H
theorem g8:bZ X [] HH:=⟨λ_ _ σ H _ I h=>W5 ⟨σ,H,I,h⟩⟩
theorem o9(h1:JS X st t)(h2:bZ X rest u):bZ X (st::rest) (qw t u):=by
 calc⟨?_⟩;ext pins s σ H D I h;refine ZQ (bp (h1 pins s σ H {D with nx:=u D} I h) λf s1 q=>?_)
 cases f with
 |next =>
  let⟨σ',H',I',q⟩:=q;exact h2 pins s1 σ' H' D I' q
 |ret v=>exact q
 |brk=>exact q
 |cont=>calc q
theorem mX(h1:JS X st t):bZ X [st] t:=by
 calc⟨?_⟩;ext pins s σ H D I h;refine ZQ (bp (h1 pins s σ H D I h) λf s1 q=>?_)
 cases f with
 |next=>exact W5 q
 |ret v=>exact q
 |brk=>exact q
 |cont=>calc q
theorem Inv.quiet{pins:av}{σ:St}{H:Hp}{s:L}(I:Inv X pins σ H s):interactive X.env=ι:=by simp[interactive,I.ok.kind]
def HI(te:TE):TS:=λD σ H=>te σ H λ_ H1=>D.nx σ H1
theorem BF(he:JE X e te)(hs:swapsWith e Z pos.line X.env=pure ι:=by rfl):JS X (.Expr e pos) (HI te):=by
 calc⟨?_⟩;ext pins s σ H D I h;calc wpAny_Expr_any (bp (he pins s σ H _ I h) λv s1 h0_=>el5 h0_ λx H1 I1 r1 q1 =>⟨σ,H1,I1,q1⟩) I.quiet hs
def qA(te:TE):TS:=λD σ H=>te σ H D.rt
theorem qB(he:JE X e te):JS X (.Return (U e) pos) (qA te):=by
 calc⟨?_⟩;ext pins s σ H D I h;calc wpAny_Return_some (bp (he pins s σ H _ I h) λv s1 h0_=>el5 h0_ λx H1 I1 r1 q1 =>⟨x,σ,H1,I1,r1,q1⟩)
def wm(c:TT)(t u:TS):TS:=λD σ H=>c σ H λb H1=>if b=θ then t D σ H1 else u D σ H1
theorem BG{c:M}{a b:-o}{tc:TT}(hc:JT X c tc)(ha:bZ X a t)(hb:bZ X b u):JS X (.If c a b pos) (wm tc t u):=by
 calc⟨?_⟩;ext pins s σ H D I h;refine wpAny_If (bp (hc pins s σ H _ I h) λd s1 h0_=>el3 h0_ λH1 I1 q1=>?_)
 cases d with
 |true=>exact ha pins s1 σ H1 D I1 q1
 |false=>calc hb pins s1 σ H1 D I1 q1
end
abbrev TG:=V->St->Hp->(St->Hp->Prop)->Prop
abbrev iS:=-V->St->Hp->(St->Hp->Prop)->Prop
structure JG(X:Cx)(target:M)(t:TG):Prop where
 out:∀(pins:av)(s:L)(σ:St)(H:Hp)(v:V)(u:B)(Q:St->Hp->Prop),Inv X pins σ H s->RelV v u->t v σ H Q →
  G (S X.prog X.w) X.A (assign target X.env u) (λ_ s'=>∃σ' H',Inv X pins σ' H' s'/\Q σ' H') X.xe s
instance {X:Cx} {target:M} {t:TG}:CoeFun (JG X target t) (λ_=>∀(pins:av)(s:L)(σ:St)(H:Hp)(v:V)(u:B)(Q:St->Hp->Prop),Inv X pins σ H s->RelV v u->t v σ H Q->G (S X.prog X.w) X.A (assign target X.env u) (λ_ s'=>∃σ' H',Inv X pins σ' H' s'/\Q σ' H') X.xe s):=⟨JG.out⟩
structure g9(X:Cx)(ts:-M)(t:iS):Prop where
 out:∀(pins:av)(s:L)(σ:St)(H:Hp)(vs:-V)(us:-B)(Q:St->Hp->Prop),Inv X pins σ H s->Vals vs us->t vs σ H Q →
  G (S X.prog X.w) X.A (assignInOrder ((assignEach ts X.env).map (·.2)) us) (λ_ s'=>∃σ' H',Inv X pins σ' H' s'/\Q σ' H') X.xe s
instance {X:Cx} {ts:-M} {t:iS}:CoeFun (g9 X ts t) (λ_=>∀(pins:av)(s:L)(σ:St)(H:Hp)(vs:-V)(us:-B)(Q:St->Hp->Prop),Inv X pins σ H s->Vals vs us->t vs σ H Q->G (S X.prog X.w) X.A (assignInOrder ((assignEach ts X.env).map (·.2)) us) (λ_ s'=>∃σ' H',Inv X pins σ' H' s'/\Q σ' H') X.xe s):=⟨g9.out⟩
abbrev mY:=V->V->V->Hp->(Hp->Prop)->Prop
def qC(X:Cx)(t:mY):Prop :=
 ∀(pins:av)(s:L)(σ:St)(H:Hp)(o i v:V)(ov iv u:B)(Q:Hp->Prop),Inv X pins σ H s->RelV o ov->RelV i iv->RelV v u->t o i v H Q →
  G (S X.prog X.w) X.A (setItem ov iv u) (λ_ s'=>∃H',Inv X pins σ H' s'/\Q H') X.xe s
section
variable{X:Cx}{pos:y}
def g_(i:Nat):TG:=λv σ H Q=>Q (σ.set i (U v)) H
theorem wo{i:Nat}{x:J}(hN:X.N.Nodup)(hi:X.N[i]?=U x)(hx:Loc X.env.scope x)(hf:dS X x:=by first|exact .inl Y|exact .inr Y|assumption):JG X (.Name x pos) (g_ i):=by
 calc⟨?_⟩;ext pins s σ H v u Q I r h;calc Zq (tW I hN hi hx r (λs' I'=>⟨_,H,I',h⟩) hf)
def wq:iS:=λvs σ H Q=>vs=[]/\Q σ H
def HJ(t:TG)(u:iS):iS:=λvs σ H Q=>∃v r,vs=v::r/\t v σ H fun σ' H'=>u r σ' H' Q
theorem hJ:g9 X [] wq:=by
 calc⟨?_⟩;ext pins s σ H vs us Q I r h;let⟨e,h⟩:=h;subst e;cases r
 calc assignInOrder_nil ⟨σ,H,I,h⟩
theorem wt{e:M}{es:-M}{t:TG}{u:iS}(h1:JG X e t)(h2:g9 X es u)
  (hs:(assignEach (e::es) X.env).map (·.2)=assign e X.env::(assignEach es X.env).map (·.2):=by rfl):g9 X (e::es) (HJ t u):=by
 calc⟨?_⟩;ext pins s σ H vs us Q I r h;let⟨v,vr,e1,h⟩:=h;subst e1
 cases r with
 |cons r rr =>
  rw[hs];calc assignInOrder_cons (bp (h1 pins s σ H _ _ _ I r h) λ_ s1 ⟨σ1,H1,I1,q1⟩=>?_);calc h2 pins s1 σ1 H1 _ _ Q I1 rr q1
def wu(K:nG)(n:Nat)(t:iS):TG:=λv σ H Q=>∃a xs,v=.ref a/\bJ K H a xs/\↑xs=n/\t xs σ H Q
theorem BH{es:-M}{k:Nat}{t:iS}{n:Nat}(hc:X.calm=θ)(h:g9 X es t)
  (hn:↑(assignEach es X.env)=n:=by rfl) (fN:(assignEach es X.env).findIdx? (·.1)=Z:=by rfl):JG X (.Tuple es k pos) (wu X.K n t):=by
 calc⟨?_⟩;ext pins s σ H v u Q I r hw;let⟨a,xs,e1,hq,hl,hw⟩:=hw;subst e1;cases r
 let⟨ah,rv,ht,hz⟩:=I.tuple hq;calc assign_Tuple_tuple (I.ok.hd hc) ht (by simp[hn,<-hl,rv.length]) fN λh' hx=>?_;let I1:Inv X pins σ H {s with heap:=h'}:=I.kept (t':=s.toks) λb o e=>hx b o (TN (Jo e)) e;calc h pins _ σ H xs _ Q I1 rv⁻¹ hw
def qD(to ti:TE)(t:mY):TG:=λv σ H Q=>to σ H λo H1=>ti σ H1 λi H2=>t o i v H2 λH3=>Q σ H3
theorem BI{o i:M}{to ti:TE}{t:mY}(ho:JE X o to)(hi:JE X i ti)(hs:qC X t)
  (ha:∀v,assign (.Subscript o i pos) X.env v=(do
   let ov <- holding [v] (eval o X.env)
   let iv <- holding [v,ov] (eval i X.env)
   standAt pos
   holding [v,ov,iv] (setItem ov iv v)
   release [v,ov,iv] []):=by ext _;rfl):JG X (.Subscript o i pos) (qD to ti t):=by
 calc⟨?_⟩;ext pins s σ H v u Q I r h;rw[ha];calc kb (Ua (bp (ho pins s σ H _ I h) λov s1 h0_=>el5 h0_ λx H1 I1 r1 q1=>?_));calc kb (Ua (bp (hi pins s1 σ H1 _ I1 q1) λiv s2 h0_=>el5 h0_ λy H2 I2 r2 q2=>?_));calc kb (V_ (kb (Ua (bp (hs pins s2 σ H2 x y v ov iv u _ I2 r1 r2 r q2) λ_ s3 h0_=>el3 h0_ λH3 I3 q3=>?_))));calc wpAny_release ⟨σ,H3,I3,q3⟩
def cO(te:TE)(g:TG):TS:=λD σ H=>te σ H λx H1=>g x σ H1 D.nx
theorem wx{tg e:M}{te:TE}{g:TG}(he:JE X e te)(hg:JG X tg g)(hs:swapsWithSole [tg] e pos.line X.env=pure ι:=by rfl)(hw:swappedStores [tg] e X.env=pure Z:=by rfl)
  (h1:(assignEach [tg] X.env).map (·.2)=[assign tg X.env]:=by rfl):JS X (.Assign [tg] e pos) (cO te g):=by
 calc⟨?_⟩;ext pins s σ H D I h;calc wpAny_Assign_stores (bp (he pins s σ H _ I h) λv s1 h0_=>el5 h0_ λx H1 I1 r1 q1=>?_) hs hw;rw[h1];calc bp (hg pins s1 σ H1 x v _ I1 r1 q1) λ_ s2 q=>q
theorem mZ{i:Nat}{x:J}{e:M}{te:TE}{pos':Ε}(hN:X.N.Nodup)(hi:X.N[i]?=U x)(hx:Loc X.env.scope x)(he:JE X e te)(hs:swapsWith e (U (.Name x pos')) pos.line X.env=pure ι:=by rfl)(hf:dS X x:=by first|exact .inl Y|exact .inr Y|assumption):
  JS X (.Assign [.Name x pos'] e pos) (cO te (g_ i)):=by
 calc⟨?_⟩;ext pins s σ H D I h;calc wpAny_Assign_Name (bp (he pins s σ H _ I h) λv s1 h0_=>el5 h0_ λy H1 I1 r1 q1=>?_) hs;calc tW I1 hN hi hx r1 (λs2 I2=>⟨_,H1,I2,q1⟩) hf
end
structure It where
 go:Nat->Hp->Prop
 o_:Nat->Hp->V->Hp->Prop
 stop:Nat->Hp->Prop
def cq(X:Cx)(pins:av)(H:Hp)(b:O):Prop :=
 H b=Z/\b≠X.env.locals/\b∉X.fs/\(b∈X.ex\/⇑X.s₀<=b)/\(∀x c,X.env.cells.lookup x=U c->c≠b)/\∀p∈X.pn++pins,p.1≠b
theorem Inv.ip{X:Cx}{pins:av}{σ:St}{H H':Hp}{s:L}{b:O}(I:Inv X pins σ H s)(hb:⇑s<=b)(hn:H' b=Z):cq X pins H' b:=by
 refine⟨hn,VY (TC I.lt hb),I.v7 hb,.inr (T5 I.sz hb),λx c e z=>?_,λp hp z=>?_⟩
 .let⟨v,q⟩:=I.cell x c e
  exact absurd (TC q.lt (by rw[z];calc hb)) (U9 _)
 .calc absurd (TC (Jo (I.pin p hp).1) (by rw[z];calc hb)) (U9 _)
structure Turn(P:q)(w:I)(K:nG)(tg:M)(J:It)(fp:-O)(it:O)(tn:Nat->R->Prop):Prop where
 mem:it∈fp
 obj:∀i h,tn i h->∀b∈fp,∃o,h.get? b=U o/\∀v,o.data≠.cell v
 keep:∀i h h',tn i h->(∀b∈fp,∀o,h.get? b=U o->h'.get? b=U o)->tn i h'
 item:∀(X:Cx),X.prog=P->X.w=w->X.K=K->X.calm=θ->∀(i:Nat)(pins:av)(s:L)(σ:St)(H:Hp)(E:aT),Inv X pins σ H s->(∀b∈fp,cq X pins H b)->tn i s.heap->J.go i H →
  G (S P w) X.A (pyNext (.ref it)) (λr s1=>∃u,r=U u ∧
   G (S P w) X.A (letOwnedTupleGo tg (.ref it) u) (λ_ s2=>∃x H',Inv X pins σ H' s2/\RelV x u/\J.o_ i H x H'/\tn (i+1) s2.heap/\∀b∈fp,H' b=Z) E s1) E s
 done:∀(X:Cx),X.prog=P->X.w=w->X.K=K->X.calm=θ->∀(i:Nat)(pins:av)(s:L)(σ:St)(H:Hp)(E:aT),Inv X pins σ H s->(∀b∈fp,cq X pins H b)->tn i s.heap->J.stop i H →
  G (S P w) X.A (pyNext (.ref it)) (λr s1=>r=Z/\Inv X pins σ H s1) E s
 self:∀(A:l)(i:Nat)(s:L)(Q:aT)(E:aT),tn i s.heap->Q (.ref it) s->G (S P w) A (pyIter (.ref it)) Q E s
abbrev TI:=St->Hp->(It->Hp->Prop)->Prop
def t6(X:Cx)(pins:av)(σ:St)(tg:M)(R:It->Hp->Prop)(wy:B)(s2:L):Prop :=
 ∃(it:O)(fp:-O)(tn:Nat->Α->Prop)(J:It)(H':Hp),wy=.ref it/\Inv X pins σ H' s2/\Turn X.prog X.w X.K tg J fp it tn/\tn 0 s2.heap/\(∀b∈fp,cq X pins H' b)/\R J H'
structure JI(X:Cx)(tg iter:M)(wi:TI):Prop where
 out:∀(pins:av)(s:L)(σ:St)(H:Hp)(R:It->Hp->Prop),Inv X pins σ H s->wi σ H R →
  G (S X.prog X.w) X.A (eval iter X.env) (λv s1=>G (S X.prog X.w) X.A (pyIter v) (t6 X pins σ tg R) X.xe s1) X.xe s
instance {X:Cx} {tg iter:M} {wi:TI}:CoeFun (JI X tg iter wi) (λ_=>∀(pins:av)(s:L)(σ:St)(H:Hp)(R:It->Hp->Prop),Inv X pins σ H s->wi σ H R->G (S X.prog X.w) X.A (eval iter X.env) (λv s1=>G (S X.prog X.w) X.A (pyIter v) (t6 X pins σ tg R) X.xe s1) X.xe s):=⟨JI.out⟩
theorem wz {M:Model} {A:l} {E:aT} {s:L} {tg:υ} {it:O} {u:B} {o:f} {n:String} {vs:Array B} {Q:Unit->L->Prop} (ho:s.heap.get? it=U o) (hc:o.cls = .type n) (hd:o.data = .fields vs)
  (hn:["enumerate", "zip", "dict_itemiterator", "dict_reverseitemiterator", "odict_iterator", "itertools.zip_longest", "itertools.pairwise"].contains n=ι) (hQ:Q () s):G M A (letOwnedTupleGo tg (.ref it) u) Q E s:=by
 unfold letOwnedTupleGo
 cases tg<;>first
  | exact qY hQ
  | (cases u<;>first
    | exact qY hQ
    | (refine kb (wpAny_load ho ?_)
       rw[hc,hd];show G M A (if (["enumerate", "zip", "dict_itemiterator", "dict_reverseitemiterator", "odict_iterator", "itertools.zip_longest", "itertools.pairwise"].contains n && vs[0]? == U (rawInt _))=θ then _ else _) Q E s;rw[To (by ext h;rw[hn,Yy] at h;cases h)]
       calc qY hQ))
noncomputable def BJ(K:nG)(a:O):It :=
 ⟨λi H=>∃xs x,bq K H a xs/\xs[i]?=U x,λi H x H'=>H'=H/\∀xs,bq K H a xs->xs[i]?=U x,λi H=>∃xs,bq K H a xs/\↑xs<=i⟩
noncomputable def BK(K:nG)(a:O):It :=
 ⟨λi H=>∃xs x,bJ K H a xs/\xs[i]?=U x,λi H x H'=>H'=H/\∀xs,bJ K H a xs->xs[i]?=U x,λi H=>∃xs,bJ K H a xs/\↑xs<=i⟩
noncomputable def qE(lo:Int)(n:Nat):It:=⟨λi _=>i<n,λi H x H'=>H'=H/\x=.int (lo+i),λi _=>n<=i⟩
theorem HK{P:q}{w:ω}{K:nG}{tg:M}(a it:O):Turn P w K tg (BJ K a) [it] it (λi h=>h.IsListIter it a i) where
 mem:=by simp
 obj:=λi h st b hb=>by
  let e:b=it:=by simpa using hb
  subst e;let⟨o,e,c,d⟩:=st;exact⟨o,e,λv z=>by rw[d] at z;cases z⟩
 keep:=λi h h' st k=>st.at λo e=>k it (by simp) o e
 item:=by
  ext X hP hw hK hc i pins s σ H E I hf st hg;subst hP hw hK;let⟨xs,x,hq,hx⟩:=hg;let⟨ah,rv,p,hz⟩:=I.list hq;let⟨u,hu,ru⟩:=rv.get hx;let⟨f0,f1,f2,f3,f4,f5⟩:=hf it (by simp);calc wpAny_pyNext_list_item st p.isList (x:=u) hu⁻¹ λh' fO sb=>?_;let I1:Inv X pins σ H {s with heap:=h'}:=I.turned (t':=s.toks) (λb o hb e=>(sb.2 b hb).trans e) f0 f1 f3 f4 f5;let⟨o,e,c,d⟩:=id fO;exact⟨u,Y,wz (s:={s with heap:=h'}) e c d (by decide) ⟨x,H,I1,ru,⟨Y,λys hy=>by rw[I.eg hy hq];calc hx⟩,fO,λb hb=>(hf b hb).1⟩⟩
 done:=by
  ext X hP hw hK hc i pins s σ H E I hf st hg;subst hP hw hK;let⟨xs,hq,hx⟩:=hg;let⟨ah,rv,p,hz⟩:=I.list hq;let⟨f0,f1,f2,f3,f4,f5⟩:=hf it (by simp);let hl:=↑rv;exact wpAny_pyNext_list_end (I.ok.hd hc) st p.isList (by simp;symm) λh' eb=>⟨Y,I.turned (t':=s.toks) (λb o hb e=>eb b o hb e) f0 f1 f3 f4 f5⟩
 self:=λ_ _ _ _ _ st h=>wpAny_pyIter_listiter st h
theorem HL{P:q}{w:ω}{K:nG}{tg:M}(a it:O):Turn P w K tg (BK K a) [it] it (λi h=>h.IsTupleIter it a i) where
 mem:=by simp
 obj:=λi h st b hb=>by
  let e:b=it:=by simpa using hb
  subst e;let⟨o,e,c,d⟩:=st;exact⟨o,e,λv z=>by rw[d] at z;cases z⟩
 keep:=λi h h' st k=>st.at λo e=>k it (by simp) o e
 item:=by
  ext X hP hw hK hc i pins s σ H E I hf st hg;subst hP hw hK;let⟨xs,x,hq,hx⟩:=hg;let⟨ah,rv,p,hz⟩:=I.tuple hq;let⟨u,hu,ru⟩:=rv.get hx;let⟨f0,f1,f2,f3,f4,f5⟩:=hf it (by simp);calc wpAny_pyNext_tuple_item st (show s.heap.IsTuple a ah.toArray from p) (x:=u) hu⁻¹ λh' fO sb=>?_;let I1:Inv X pins σ H {s with heap:=h'}:=I.turned (t':=s.toks) (λb o hb e=>(sb.2 b hb).trans e) f0 f1 f3 f4 f5;let⟨o,e,c,d⟩:=id fO;exact⟨u,Y,wz (s:={s with heap:=h'}) e c d (by decide) ⟨x,H,I1,ru,⟨Y,λys hy=>by rw[I.fh hy hq];calc hx⟩,fO,λb hb=>(hf b hb).1⟩⟩
 done:=by
  ext X hP hw hK hc i pins s σ H E I hf st hg;subst hP hw hK;let⟨xs,hq,hx⟩:=hg;let⟨ah,rv,p,hz⟩:=I.tuple hq;let⟨f0,f1,f2,f3,f4,f5⟩:=hf it (by simp);let hl:=↑rv;exact wpAny_pyNext_tuple_end (I.ok.hd hc) st (show s.heap.IsTuple a ah.toArray from p) (by simp;symm) λh' eb=>⟨Y,I.turned (t':=s.toks) (λb o hb e=>eb b o hb e) f0 f1 f3 f4 f5⟩
 self:=λ_ _ _ _ _ st h=>wpAny_pyIter_tupleiter st h
theorem HM{P:q}{w:ω}{K:nG}{tg:M}(it:O)(lo:Int)(n:Nat):Turn P w K tg (qE lo n) [it] it (λi h=>IsRangeIter h it (lo+(i:Nat)*1) ((n:Int)-(i:Nat)) 1) where
 mem:=by simp
 obj:=λi h st b hb=>by
  let e:b=it:=by simpa using hb
  subst e
  exact⟨_,st,λv z=>by
   let z':Data.fields _=Data.cell v:=z
   cases z'⟩
 keep:=λi h h' st k=>k it (by simp) _ st
 item:=by
  ext X hP hw hK hc i pins s σ H E I hf st hg;subst hP hw hK;let⟨f0,f1,f2,f3,f4,f5⟩:=hf it (by simp);let W:=Walks.range (prog:=X.prog) (w:=X.w) (I.ok.hd hc) it lo 1 n;calc W.item i s _ _ hg st λv h' tk hv fO kk=>?_;let⟨t,rfl⟩:=hv;let I1:Inv X pins σ H {s with heap:=h',toks:=tk}:=I.turned (λb o hb e=>kk b o hb⁻¹ e) f0 f1 f3 f4 f5;calc⟨_,Y,wz (s:={s with heap:=h',toks:=tk}) (n:="range_iterator") fO Y Y (by decide) ⟨.int (lo+i),H,I1,⟨t,?_⟩,⟨Y,Y⟩,fO,λb hb=>(hf b hb).1⟩⟩;rw[q2r]
 done:=by
  ext X hP hw hK hc i pins s σ H E I hf st hg;subst hP hw hK;let⟨f0,f1,f2,f3,f4,f5⟩:=hf it (by simp);exact wpAny_pyNext_range_end (I.ok.hd hc) st (by let:n<=i:=hg;symm) λh' eb=>⟨Y,I.turned (t':=s.toks) (λb o hb e=>eb b o hb e) f0 f1 f3 f4 f5⟩
 self:=λ_ _ _ _ _ st h=>wpAny_pyIter_rangeiter st h
section
variable{X:Cx}{tg:M}
theorem BL{pins:av}{σ:St}{H:Hp}{s:L}{R:It->Hp->Prop}{E:aT}{lo hi:Int}{t u v:Tok}{tk:Nat}(I:Inv X pins σ H s)(h1 : -(2 ^ 62)<=lo)(h2:lo<2 ^ 62)(h3 : -(2 ^ 62)<=hi)(h4:hi<2 ^ 62)
  (q:R (qE lo (hi-lo).toNat) H):G (S X.prog X.w) X.A (pyIter (.ref ⇑s)) (t6 X pins σ tg R) E {s with heap:=s.heap.push {cls:=.type "range",data:=.fields #[.int lo t,.int hi u,.int 1 v]},toks:=tk}:=by
 calc wpAny_pyIter_range (IsRange.new ..) (small_one h1 h2 h3 h4) ?_;let I1:Inv X pins σ H {s with heap:=s.heap.push {cls:=.type "range",data:=.fields #[.int lo t,.int hi u,.int 1 v]},toks:=tk}:=I.kept λb o e=>nF _ e
 refine⟨(s.heap.push {cls:=.type "range",data:=.fields #[.int lo t,.int hi u,.int 1 v]}).objs.size,[(s.heap.push {cls:=.type "range",data:=.fields #[.int lo t,.int hi u,.int 1 v]}).objs.size],_,_,H,Y,
  I1.kept (t':=tk) λb o e=>nF _ e,HM _ lo (hi-lo).toNat,?_,λb hb=>?_,q⟩
 .let e1:lo+((0:Nat):Int)*1=lo:=by simp
  let e2:(((hi-lo).toNat:Nat):Int)-((0:Nat):Int)=XU lo hi 1:=by rw[q0S];split<;>symm
  show IsRangeIter _ _ (lo+((0:Nat):Int)*1) ((((hi-lo).toNat:Nat):Int)-((0:Nat):Int)) 1;rw[e1,e2];exact R0 _ Y
 .let e:b=(s.heap.push {cls:=.type "range",data:=.fields #[.int lo t,.int hi u,.int 1 v]}).objs.size:=by simpa using hb
  subst e;calc I1.ip (ug _) (I1.aX.fresh (ug _))
def HN(ta:TA):TI:=fun σ H R=>ta σ H λvs H1=>∃j:Int,vs=[.int j] /\ -(2 ^ 62)<=j/\j<2 ^ 62/\R (qE 0 j.toNat) H1
def HP(ta:TA):TI:=fun σ H R=>ta σ H λvs H1=>∃i j:Int,vs=[.int i,.int j]/\(-(2 ^ 62)<=i/\i<2 ^ 62 /\ -(2 ^ 62)<=j/\j<2 ^ 62)/\R (qE i (j-i).toNat) H1
theorem HQ{a:M}{ta:TA}{p pos:y}(hg:Gl X "range")(hm:X.mg "range" = Z)(ha:JA X [a] ta)(hs:starEach [a] X.env=[(ι,eval a X.env)]:=by rfl):JI X tg (.Call (.Name "range" p) [a] [] pos) (HN ta):=by
 calc⟨?_⟩;ext pins s σ H R I h;calc Call_ (mW I hg hm boot_range (UU (bp (ha pos pins s σ H _ I h) λus s1 h0_=>el5 h0_ λvs H1 I1 r1 q1=>?_) hs Y));let⟨j,e,q1,q2,q⟩:=q1;subst e
 cases r1 with
 |cons r rr =>
  cases rr
  let⟨t,rfl⟩:=r;calc call_range_1 (BL I1 ⋯ ⋯ q1 q2 q⁻¹)
theorem HR{a b:M}{ta:TA}{p pos:y}(hg:Gl X "range")(hm:X.mg "range" = Z)(ha:JA X [a,b] ta)(hs:starEach [a,b] X.env=[(ι,eval a X.env),(ι,eval b X.env)]:=by rfl)(dW:starEach [b] X.env=[(ι,eval b X.env)]:=by rfl):
  JI X tg (.Call (.Name "range" p) [a,b] [] pos) (HP ta):=by
 calc⟨?_⟩;ext pins s σ H R I h;calc Call_ (mW I hg hm boot_range (UU (bp (ha pos pins s σ H _ I h) λus s1 h0_=>el5 h0_ λvs H1 I1 r1 q1=>?_) (by rw[hs,dW]) (by rw[dW];rfl)));let⟨i,j,e,⟨q1,q2,q3,q4⟩,q⟩:=q1;subst e
 cases r1 with
 |cons r rr =>
  cases rr with
  |cons r' rr =>
   cases rr
   let⟨t,rfl⟩:=r;let⟨t',rfl⟩:=r';calc call_range_2 (BL I1 q1 q2 q3 q4 q)
def wA(wi:TI)(g:TG)(tb:TS):TS:=λD σ H=>wi σ H λJ H1=>∃W:Nat->Nat->St->Hp->Prop,(∃m,W 0 m σ H1)/\∀i m σ H,W i m σ H →
 (J.stop i H/\D.nx σ H)\/(J.go i H/\∃N:St->Hp->Prop,(∀σ' H',N σ' H'->∃m',m'<m/\W (i+1) m' σ' H')/\∀x H',J.o_ i H x H'->g x σ H' fun σ2 H2=>tb {D with nx:=N,ct:=N,bk:=D.nx} σ2 H2)
noncomputable def qF(fp:-O)(h:R):-(O×f):=fp.filterMap λb=>(h.get? b).map λo=>(b,o)
theorem t7{fp:-O}{h:R}{b:O}{o:f}(hb:b∈fp)(e:h.get? b=U o):(b,o)∈qF fp h:=Vg.mpr ⟨b,hb,by rw[e];rfl⟩
theorem HS{fp:-O}{h:R}{p:O×f}(hp:p∈qF fp h):p.1∈fp/\h.get? p.1=U p.2:=by
 let⟨b,hb,e⟩:=Vg.mp hp
 cases q:h.get? b with
 |none=>rw[q] at e;cases e
 |some o =>
  rw[q] at e;let e':(b,o)=p:=TU e;subst e';calc⟨hb,q⟩
theorem Inv.pinned{pins:av}{σ:St}{H:Hp}{s:L}{fp:-O}(I:Inv X pins σ H s)(hf:∀b∈fp,cq X pins H b)(ho:∀b∈fp,∃o,s.heap.get? b=U o/\∀v,o.data≠.cell v):Inv X (pins++qF fp s.heap) σ H s :=
 I.g6 λp hp=>(T1.mp hp).elim (λz=>I.pin p (T7 _ z)) λz=>by
  let⟨hb,e⟩:=HS z;let⟨f0,f1,f2,_⟩:=hf p.1 hb;let⟨o,e',d⟩:=ho p.1 hb;rw[e] at e';cases e';calc⟨e,f0,f1,f2,d⟩
theorem Inv.dh{pins pl:av}{σ:St}{H:Hp}{s:L}(I:Inv X (pins++pl) σ H s):Inv X pins σ H s:=I.g6 λp hp=>I.pin p (T7 _ (Uw _ hp))
theorem BM{iter:M}{body:-χ}{wi:TI}{g:TG}{tb:TS}{pos:y}(hp:PassesOwn (S X.prog X.w) X.A X.env X.xe)(hc:X.calm=θ)(hi:JI X tg iter wi)(hg:JG X tg g)(hb:bZ X body tb)
  (hs:∀x,foldedSetIterable iter X.env x=pure x:=by ext _;rfl):JS X (.For tg iter body [] pos) (wA wi g tb):=by
 calc⟨?_⟩;ext pins s σ H D I h;calc wpAny_For (bp (hi pins s σ H _ I h) λv s1 h1=>bp h1 λwy s2 h2=>?_) hs;let⟨it,fp,tn,J,H2,e,I2,T,jg,f2,W,⟨m0,w0⟩,turn⟩:=h2;subst e;let gE:∀{H':Hp},(∀b∈fp,H' b=Z)->∀b∈fp,cq X pins H' b:=λhn b hb=>⟨hn b hb,(f2 b hb).2⟩;calc codeAny_forLoop_any (λn s'=>∃i σ' H',Inv X pins σ' H' s'/\tn i s'.heap/\(∀b∈fp,H' b=Z)/\W i n σ' H') ?_ m0 ⟨0,σ,H2,I2,jg,λb hb=>(f2 b hb).1,w0⟩;ext n s3 ⟨i,σ3,H3,I3,mj,qG,w3⟩;rcases turn i n σ3 H3 w3 with⟨stop,qn⟩|⟨go,N,hN,step⟩
 .refine Wd hp (bp (T.done X Y Y Y hc i pins s3 σ3 H3 X.xe I3 (gE qG) mj stop) λr s4 ⟨hr,I4⟩=>?_)
  subst hr;exact W5 ⟨σ3,H3,I4,qn⟩
 .refine Wd hp (bp (T.item X Y Y Y hc i pins s3 σ3 H3 X.xe I3 (gE qG) mj go) λr s4 ⟨u,hr,h4⟩=>?_)
  subst hr;calc Wd hp (bp h4 λ_ s5 ⟨x,H5,I5,r5,y5,m8,wB⟩=>?_);let wC:=I5.pinned (gE wB) (T.obj _ _ m8);calc Wd hp (bp (hg _ s5 σ3 H5 x u _ wC r5 (step x H5 y5)) λ_ s6 ⟨σ6,H6,I6,q6⟩=>?_);refine Wd hp (bp (hb _ s6 σ6 H6 _ I6 q6) λf s7 q7=>?_)
  let again:∀{σ7:St}{H7:Hp},Inv X (pins++qF fp s5.heap) σ7 H7 s7->N σ7 H7->∃m,m<n/\∃i σ' H',Inv X pins σ' H' s7/\tn i s7.heap/\(∀b∈fp,H' b=Z)/\W i m σ' H':=λ{σ7 H7} I7 n7=>by
   let⟨m',hm,w7⟩:=hN σ7 H7 n7;calc⟨m',hm,i+1,σ7,H7,I7.dh,T.keep _ _ _ m8 λb hb o e=>(I7.pin (b,o) (T7 _ (T7 _ (t7 hb e)))).1,λb hb=>?_,w7⟩;let⟨o,e,d⟩:=T.obj _ _ m8 b hb;exact(I7.pin (b,o) (T7 _ (T7 _ (t7 hb e)))).2.1
  cases f with
  |next=>let⟨σ7,H7,I7,n7⟩:=q7;exact again I7 n7
  |cont=>let⟨σ7,H7,I7,n7⟩:=q7;exact again I7 n7
  |brk=>let⟨σ7,H7,I7,q7⟩:=q7;exact⟨σ7,H7,I7.dh,q7⟩
  |ret v=>let⟨x7,σ7,H7,I7,r7,q7⟩:=q7;calc⟨x7,σ7,H7,I7.dh,r7,q7⟩
end
abbrev R2:=V->V->Hp->VK->Prop
def cP(X:Cx)(f:B->B->Sem B)(r:R2):Prop :=
 ∀(pins:av)(s:L)(σ:St)(H:Hp)(x y:V)(v u:B)(Q:VK),Inv X pins σ H s->RelV x v->RelV y u->r x y H Q →
  G (S X.prog X.w) X.A (f v u) (EP X pins σ Q) X.xe s
def wD(X:Cx)(f:B->Sem B)(r:V->Hp->VK->Prop):Prop :=
 ∀(pins:av)(s:L)(σ:St)(H:Hp)(x:V)(v:B)(Q:VK),Inv X pins σ H s->RelV x v->r x H Q →
  G (S X.prog X.w) X.A (f v) (EP X pins σ Q) X.xe s
def gF(X:Cx)(f:B)(r:-V->Hp->VK->Prop):Prop :=
 ∀(pins:av)(s:L)(σ:St)(H:Hp)(xs:-V)(us:-B)(Q:VK),Inv X pins σ H s->Vals xs us->r xs H Q →
  G (S X.prog X.w) X.A (call f us) (EP X pins σ Q) X.xe s
def pb(r:R2)(ta tb:TE):TE:=fun σ H Q=>ta σ H λx H1=>tb σ H1 λy H2=>r x y H2 Q
def HU(r:V->Hp->VK->Prop)(ta:TE):TE:=fun σ H Q=>ta σ H λx H1=>r x H1 Q
def rI(C:Int->Int->Prop)(g:Int->Int->V):R2:=λx y H Q=>∃i j,x=.int i/\y=.int j/\C i j/\Q (g i j) H
def kE(g:Int->Int->V):R2:=λx y H Q=>∃i j,x=.int i/\y=.int j/\Q (g i j) H
def rU(g:Int->V):V->Hp->VK->Prop:=λx H Q=>∃i,x=.int i/\Q (g i) H
section
variable{X:Cx}{a b c:M}{ta tb tc:TE}{pos:y}
theorem m9(ha:JE X a ta)(hb:JE X b tb){pins:av}{s:L}{σ:St}{H:Hp}{R:V->V->Hp->Prop}(I:Inv X pins σ H s)
  (h:ta σ H λx H1=>tb σ H1 λy H2=>R x y H2) {Q:aT} {f:B->B->Sem B}
  (hf:∀v u s2 x y H2,Inv X pins σ H2 s2->RelV x v->RelV y u->R x y H2->G (S X.prog X.w) X.A (f v u) Q X.xe s2) :
  G (S X.prog X.w) X.A (eval a X.env) (λv s₁=>G (S X.prog X.w) X.A (eval b X.env) (λu s₂=>G (S X.prog X.w) X.A (f v u) Q X.xe s₂) X.xe s₁) X.xe s:=by
 calc bp (ha pins s σ H _ I h) λv s1 h0_=>el5 h0_ λx H1 I1 r1 q1=>?_;calc bp (hb pins s1 σ H1 _ I1 q1) λu s2 h0_=>el5 h0_ λy H2 I2 r2 q2=>?_;calc hf v u s2 x y H2 I2 r1 r2 q2
theorem m_{op:Operator}{r:R2}(ho:cP X (binaryOp op) r)(ha:JE X a ta)(hb:JE X b tb):JE X (.BinOp a op b pos) (pb r ta tb):=by
 calc⟨?_⟩;ext pins s σ H Q I h;calc wpAny_BinOp (m9 ha hb I h λv u s2 x y H2 I2 rx ry q=>ho pins s2 σ H2 x y v u Q I2 rx ry q)
theorem BN{op:UnaryOp}{r:V->Hp->VK->Prop}(ho:wD X (unaryOp op) r)(ha:JE X a ta):JE X (.UnaryOp op a pos) (HU r ta):=by
 calc⟨?_⟩;ext pins s σ H Q I h;calc UnaryOp_ (bp (ha pins s σ H _ I h) λv s1 h0_=>el5 h0_ λx H1 I1 r1 q1 =>ho pins s1 σ H1 x v Q I1 r1 q1)
theorem t8{f:B->B->Sem B}{C:Int->Int->Prop}{g:Int->Int->Int}
  (rule:∀(i j:Int)(t u:Tok)(s:L)(Q:aT)(E:aT),C i j->Q (.int (g i j) s.toks) {s with toks:=s.toks+1}->G (S X.prog X.w) X.A (f (.int i t) (.int j u)) Q E s) :
  cP X f (rI C λi j=>.int (g i j)):=by
 ext pins s σ H x y v u Q I rx ry h;let⟨i,j,rfl,rfl,hc,q⟩:=h;let⟨t,rfl⟩:=rx;let⟨t',rfl⟩:=ry;calc rule i j t t' s _ _ hc ⟨.int (g i j),H,I.tok _,⟨_,Y⟩,q⟩
theorem qH{f:B->B->Sem B}{g:Int->Int->Int}
  (rule:∀(i j:Int)(t u:Tok)(s:L)(Q:aT)(E:aT),Q (.int (g i j) s.toks) {s with toks:=s.toks+1}->G (S X.prog X.w) X.A (f (.int i t) (.int j u)) Q E s) :
  cP X f (kE λi j=>.int (g i j)):=by
 ext pins s σ H x y v u Q I rx ry h;let⟨i,j,rfl,rfl,q⟩:=h;let⟨t,rfl⟩:=rx;let⟨t',rfl⟩:=ry;calc rule i j t t' s _ _ ⟨.int (g i j),H,I.tok _,⟨_,Y⟩,q⟩
theorem kF{f:B->B->Sem B}{g:Int->Int->Bool}
  (rule:∀(i j:Int)(t u:Tok)(s:L)(Q:aT)(E:aT),Q (.bool (g i j)) s->G (S X.prog X.w) X.A (f (.int i t) (.int j u)) Q E s) :
  cP X f (kE λi j=>.bl (g i j)):=by
 ext pins s σ H x y v u Q I rx ry h;let⟨i,j,rfl,rfl,q⟩:=h;let⟨t,rfl⟩:=rx;let⟨t',rfl⟩:=ry;calc rule i j t t' s _ _ ⟨.bl (g i j),H,I,Y,q⟩
def bO(i j:Int):Prop:=0<=j/\j<=1000000/\i.natAbs<2 ^ 64
def kG(i j:Int):Prop:=(-(2 ^ 64)<i/\i<2 ^ 64)\/(-(2 ^ 64)<j/\j<2 ^ 64)
theorem kG.ok{i j:Int}(h:kG i j):IntMulOk i j:=by
 rcases h with⟨h1,h2⟩|⟨h1,h2⟩
 .exact .of_left (q0T h1 h2)
 .calc .of_right (q0T h1 h2)
theorem BO:cP X (binaryOp .Add) (kE λi j=>.int (i+j)):=qH λ_ _ _ _ _ _ _ q=>add_int q
theorem HV:cP X (binaryOp .Sub) (kE λi j=>.int (i-j)):=qH λ_ _ _ _ _ _ _ q=>sub_int q
theorem HW:cP X (binaryOp .Mult) (rI kG λi j=>.int (i*j)):=t8 λ_ _ _ _ _ _ _ hc q=>mul_int q hc.ok
theorem wF:cP X (binaryOp .Mod) (rI (λ_ j=>0<j) λi j=>.int (i%j)):=t8 λi j _ _ _ _ _ hc q=>by
 let h1:(0:Int)<j:=hc;calc mod_int' ⋯ (by rw[Int.fmod_eq_emod_of_nonneg i ⋯];calc q)
theorem HX:cP X (binaryOp .Pow) (rI bO λi j=>.int (i ^ j.toNat)):=t8 λ_ _ _ _ _ _ _ hc q=>pow_int_small hc.1 hc.2.1 hc.2.2 q
theorem HY{f:B->Sem B}{g:Int->Int}
  (rule:∀(i:Int)(t:Tok)(s:L)(Q:aT)(E:aT),Q (.int (g i) s.toks) {s with toks:=s.toks+1}->G (S X.prog X.w) X.A (f (.int i t)) Q E s) :
  wD X f (rU λi=>.int (g i)):=by
 ext pins s σ H x v Q I rx h;let⟨i,rfl,q⟩:=h;let⟨t,rfl⟩:=rx;calc rule i t s _ _ ⟨.int (g i),H,I.tok _,⟨_,Y⟩,q⟩
theorem BP:wD X (unaryOp .USub) (rU λi=>.int (-(i:Int))):=HY λ_ _ _ _ _ q=>neg_int q
end
noncomputable def wG:V->V->Bool
 |.non,.non=>θ|.non,.int _=>θ|.int _,.non=>θ|.non,.bl _=>θ|.bl _,.non=>θ|.non,.str _=>θ|.str _,.non=>θ
 |.int _,.int _=>θ|.bl _,.bl _=>θ|.str _,.str _=>θ|.byt _,.byt _=>θ
 |.int _,.str _=>θ|.str _,.int _=>θ|.bl _,.str _=>θ|.str _,.bl _=>θ
 |_,_=>ι
def HZ:R2:=λx y H Q=>wG x y=θ/\Q (.bl (!g (x=y))) H
theorem H_{i j:Int}:g (V.int i=V.int j)=(i==j):=by
 rw[We];simp
theorem Ia{i j:Bool}:g (V.bl i=V.bl j)=(i==j):=by
 rw[We];simp
theorem Ib{i j:J}:g (V.str i=V.str j)=(i==j):=by
 rw[We];simp
theorem Ic{i j:Array UInt8}:g (V.byt i=V.byt j)=(i.toList==j.toList):=by
 rw[We];cases i
 cases j
 simp
section
variable{X:Cx}{a b c:M}{ta tb tc:TE}{pos:y}
theorem gw{pins:av}{σ:St}{H:Hp}{s:L}{Q:VK}{k k':Bool}(I:Inv X pins σ H s)(q:Q (.bl k) H)(e:k=k'):EP X pins σ Q (.bool k') s:=by
 subst e;calc⟨.bl k,H,I,Y,q⟩
theorem Ie:cP X (compareOp .NotEq) HZ:=by
 ext pins s σ H x y v u Q I rx ry h;let⟨hs,q⟩:=h
 cases x with
 |non =>
  cases rx
  cases y with
  |non=>cases ry;exact PySem.EqNone.ne_none_none (gw I q (by simp))
  |bl j=>cases ry;exact PySem.EqNone.ne_none_bool (gw I q (by simp))
  |int j=>let⟨t',rfl⟩:=ry;exact PySem.EqNone.ne_none_int (gw I q (by simp))
  |str j=>let⟨t',rfl⟩:=ry;exact PySem.EqNone.ne_none_str (gw I q (by simp))
  |_=>exact absurd (show ι=θ from hs) Jn
 |bl i =>
  cases rx
  cases y with
  |non=>cases ry;exact PySem.EqNone.ne_bool_none (gw I q (by simp))
  |bl j=>cases ry;exact ne_bool (gw I q (congrArg not Ia))
  |str j=>let⟨t',rfl⟩:=ry;exact PySem.EqMixed.ne_bool_str (gw I q (by simp))
  |_=>exact absurd (show ι=θ from hs) Jn
 |int i =>
  let⟨t,rfl⟩:=rx
  cases y with
  |non=>cases ry;exact PySem.EqNone.ne_int_none (gw I q (by simp))
  |int j=>let⟨t',rfl⟩:=ry;exact ne_int (gw I q (congrArg not H_))
  |str j=>let⟨t',rfl⟩:=ry;exact PySem.EqMixed.ne_int_str (gw I q (by simp))
  |_=>exact absurd (show ι=θ from hs) Jn
 |str i =>
  let⟨t,rfl⟩:=rx
  cases y with
  |non=>cases ry;exact PySem.EqNone.ne_str_none (gw I q (by simp))
  |bl j=>cases ry;exact PySem.EqMixed.ne_str_bool (gw I q (by simp))
  |int j=>let⟨t',rfl⟩:=ry;exact PySem.EqMixed.ne_str_int (gw I q (by simp))
  |str j=>let⟨t',rfl⟩:=ry;exact ne_str (gw I q (congrArg not Ib))
  |_=>exact absurd (show ι=θ from hs) Jn
 |byt i =>
  let⟨t,rfl⟩:=rx
  cases y with
  |byt j=>let⟨t',rfl⟩:=ry;exact PySem.W.ne_bytes (gw I q (congrArg not Ic))
  |_=>exact absurd (show ι=θ from hs) Jn
 |_=>cases y<;>calc absurd (show ι=θ from hs) Jn
theorem BQ:cP X (compareOp .Lt) (kE λi j=>.bl (g (i<j))):=kF λ_ _ _ _ _ _ _ q=>lt_int q
theorem Ig:cP X (compareOp .LtE) (kE λi j=>.bl (g (i<=j))):=kF λ_ _ _ _ _ _ _ q=>le_int q
theorem Ih:cP X (compareOp .Gt) (kE λi j=>.bl (g (j<i))):=kF λ_ _ _ _ _ _ _ q=>gt_int q
theorem Ii:cP X (compareOp .GtE) (kE λi j=>.bl (g (j<=i))):=kF λ_ _ _ _ _ _ _ q=>ge_int q
theorem Ij:cP X (compareOp .Is) (λx y H Q=>y=.non/\Q (.bl (g (x=.non))) H):=by
 ext pins s σ H x y v u Q I rx ry h;let⟨rfl,q⟩:=h;cases ry
 refine is_none_gen (gw I q ?_)
 cases x<;>first
  |(cases rx;rfl)
  |(let⟨t,rfl⟩:=rx;rfl)
theorem BR(b:M){op:CmpOp}(h:op≠.In:=by decide)(h2:op≠.NotIn:=by decide):behindInMarks op b=ι:=by
 let e1:(op==CmpOp.In)=ι:=by cases op<;>first|rfl|exact absurd Y h
 let e2:(op==CmpOp.NotIn)=ι:=by cases op<;>first|rfl|exact absurd Y h2
 cases b<;>simp[behindInMarks,e1,e2]
theorem BS{op:CmpOp}{r:R2}(ho:cP X (compareOp op) r)(ha:JE X a ta)(hb:JE X b tb)(hm:behindInMarks op b=ι):JE X (.Compare a [op] [b] pos) (pb r ta tb):=by
 calc⟨?_⟩;ext pins s σ H Q I h;calc q0o (m9 ha hb I h λv u s2 x y H2 I2 rx ry q=>ho pins s2 σ H2 x y v u Q I2 rx ry q) hm
def BU(t:TE):TT:=fun σ H Q=>t σ H λx H'=>∃k,x=.bl k/\Q k H'
theorem wH{op:CmpOp}{r:R2}(ho:cP X (compareOp op) r)(ha:JE X a ta)(hb:JE X b tb)(hm:behindInMarks op b=ι):JT X (.Compare a [op] [b] pos) (BU (pb r ta tb)):=by
 calc⟨?_⟩;ext pins s σ H Q I h
 refine wpAny_isTrue_Compare1 (bp (ha pins s σ H _ I h) λv s1 h0_=>el5 h0_ λx H1 I1 r1 q1 =>bp (hb pins s1 σ H1 _ I1 q1) λu s2 h0_=>el5 h0_ λy H2 I2 r2 q2 =>
  bp (ho pins s2 σ H2 x y v u _ I2 r1 r2 q2) λc s3 ⟨z,H3,I3,r3,k,e,q3⟩=>?_) hm
 subst e;cases r3
 calc UG ⟨H3,I3,q3⟩
def BV(r r':R2)(ta tb tc:TE):TE:=fun σ H Q=>ta σ H λx H1=>tb σ H1 λy H2=>r x y H2 λz H3=>∃k,z=.bl k ∧
 (if k=θ then tc σ H3 λw' H4=>r' y w' H4 Q else Q (.bl ι) H3)
theorem Ik{op gG:CmpOp}{r r':R2}(ho:cP X (compareOp op) r)(gD:cP X (compareOp gG) r')(ha:JE X a ta)(hb:JE X b tb)(hc:JE X c tc)
  (hm:lastMarks [op,gG] [b,c]=ι:=by with_unfolding_all rfl):JE X (.Compare a [op,gG] [b,c] pos) (BV r r' ta tb tc):=by
 calc⟨?_⟩;ext pins s σ H Q I h
 refine Compare_chain (bp (ha pins s σ H _ I h) λv s1 h0_=>el5 h0_ λx H1 I1 r1 q1 =>chain_link (bp (hb pins s1 σ H1 _ I1 q1) λu s2 h0_=>el5 h0_ λy H2 I2 r2 q2 =>
  bp (ho pins s2 σ H2 x y v u _ I2 r1 r2 q2) λd s3 ⟨z,H3,I3,r3,k,e,q3⟩=>?_)) hm
 subst e;cases r3
 refine UG ?_
 cases k with
 |false=>exact ite_ff ⟨.bl ι,H3,I3,Y,q3⟩
 |true=>calc ite_tt (chain_last (bp (hc pins s3 σ H3 _ I3 q3) λw' s4 ⟨z',H4,I4,r4,q4⟩↦gD pins s4 σ H4 y z' u w' Q I4 r2 r4 q4))
theorem Il{op gG:CmpOp}{r r':R2}(ho:cP X (compareOp op) r)(gD:cP X (compareOp gG) r')(ha:JE X a ta)(hb:JE X b tb)(hc:JE X c tc)
  (hm:lastMarks [op,gG] [b,c]=ι:=by with_unfolding_all rfl):JT X (.Compare a [op,gG] [b,c] pos) (BU (BV r r' ta tb tc)):=by
 calc⟨?_⟩;ext pins s σ H Q I h
 refine isTrue_chain (bp (ha pins s σ H _ I h) λv s1 h0_=>el5 h0_ λx H1 I1 r1 q1 =>test_link (bp (hb pins s1 σ H1 _ I1 q1) λu s2 h0_=>el5 h0_ λy H2 I2 r2 q2 =>
  bp (ho pins s2 σ H2 x y v u _ I2 r1 r2 q2) λd s3 ⟨z,H3,I3,r3,k,e,q3⟩=>?_)) hm
 subst e;cases r3
 refine UG ?_
 cases k with
 |false =>
  let⟨k',e',q'⟩:=q3;cases e'
  exact ite_ff ⟨H3,I3,q'⟩
 |true =>
  calc ite_tt (test_last (bp (hc pins s3 σ H3 _ I3 q3) λw' s4 ⟨z',H4,I4,r4,q4⟩=>bp (gD pins s4 σ H4 y z' u w' _ I4 r2 r4 q4) λd' s5 ⟨z2,H5,I5,r5,k2,e2,q5⟩=>?_));subst e2;cases r5
  calc UG ⟨H5,I5,q5⟩
theorem nh:(sizeLine:Nat)<2 ^ 63:=by rw[Yz];decide
theorem Im:cP X (binaryOp .Add) (λx y H Q=>∃i j,x=.str i/\y=.str j/\↑i+↑j<=sizeLine/\Q (.str (i++j)) H):=by
 ext pins s σ H x y v u Q I rx ry h;let⟨i,j,rfl,rfl,hz,q⟩:=h;let⟨t,rfl⟩:=rx;let⟨t',rfl⟩:=ry;calc add_str (λt' tk=>⟨.str (i++j),H,I.tok _,⟨_,Y⟩,q⟩) hz
theorem vals1{x:V}{us:-B}(r:Vals [x] us):∃u,us=[u]/\RelV x u:=by
 cases r with
 |cons r1 r2=>cases r2;calc⟨_,Y,r1⟩
theorem vals2{x y:V}{us:-B}(r:Vals [x,y] us):∃u w',us=[u,w']/\RelV x u/\RelV y w':=by
 cases r with
 |cons r1 r2 =>
  cases r2 with
  |cons r3 r4=>cases r4;calc⟨_,_,Y,r1,r3⟩
theorem Io(hc:X.calm=θ):gF X (.builtin "min") (λxs H Q=>∃i j,xs=[.int i,.int j]/\Q (.int (if j<i then j else i)) H):=by
 ext pins s σ H xs us Q I r h;let⟨i,j,rfl,q⟩:=h;let⟨u,w',rfl,⟨t,rfl⟩,⟨t',rfl⟩⟩:=vals2 r;refine min_two_ints (I.ok.hd hc) λh' tk k=>⟨_,H,I.kept k,?_,q⟩
 by_cases hj:j<i
 .rw[Tw hj,Tw hj];exact⟨_,Y⟩
 .rw[To hj,To hj];calc⟨_,Y⟩
end
structure ni(h:R)(x dx C:O)(mA:J->Option B):Prop where
 obj:h.get? x=U (Yj C dx)
 ns:h.Ns1 dx mA
 ne:dx≠x
theorem wI{h:R}{dx:O}{mA:J->Option B}(n:h.Ns1 dx mA):∃od,h.get? dx=U od/\∀name,YA name od=U (mA name):=by
 let⟨o,es,ep,ho,hd,hk,_,hm⟩:=n;calc⟨o,ho,λname=>?_⟩;let e:=hm name;unfold nsFind findBy at e;rw[<-Array.find?_toList] at e;unfold YA;rw[hd];dsimp only;split
 .rename_i y q
  rw[q] at e;exact congrArg U e
 .rename_i q
  rw[q] at e
  let a:es.toList.any (·.refKey)=ι:=by
   rw[VR];ext y hy;let⟨z,t,wJ⟩:=hk y (WY.mp hy);simp[DictEntry.refKey,wJ]
  let a':¬ es.toList.any (·.refKey)=θ:=by rw[a];exact Jn
  rw[To a'];calc congrArg U e
theorem ni.look{h:R}{x dx C:O}{mA:J->Option B}(I:ni h x dx C mA):∃od,q0p h x (Yj C dx) C (U od)/\∀name,YA name od=U (mA name) :=
 let⟨od,ho,hl⟩:=wI I.ns
 ⟨od,⟨I.obj,Y,Y,ho⟩,hl⟩
section
variable{prog:q}{w:I}{A:l}{E:aT}{s:L}{K:nG}{x dx C f:O}{mA:J->Option B}{name:J}{v:B}
end
theorem gB.some_of{v:V}{o:Option B}(r:gB (U v) o):∃u,o=U u/\RelV v u:=by
 cases o with
 |none=>exact(show False from r).elim
 |some u=>calc⟨u,Y,r⟩
theorem Ip{v:V}{u:B}(r:RelV v u):PySem.W.handedIn u=θ:=by
 cases v with
 |non=>cases(show u=UC from r);rfl
 |bl b=>cases(show u=VW b from r);rfl
 |int i=>let⟨t,e⟩:=(show ∃t,u=WR i t from r);cases e;rfl
 |str x=>let⟨t,e⟩:=(show ∃t,u=ZO x t from r);cases e;rfl
 |byt b=>let⟨t,e⟩:=(show ∃t,u=Value.bytes b t from r);cases e;rfl
 |flt b=>let⟨t,e⟩:=(show ∃t,u=Z0 b t from r);cases e;rfl
 |ref a=>cases(show u=TX a from r);rfl
 |ty n=>cases(show u=Za n from r);rfl
section
variable{P:q}{w:I}{H H':Hp}{h h':R}{a C dx:O}{fs Ht:-(J×V)}
theorem Iq(aX:cK P w H h)(e:H a=U (.ins C dx fs)):∃mA,ni h a dx C mA/\(∀f,gB (fs.lookup f) (mA f))/\q1r mA (fs.map (·.1))/\fs.length<=1000/\H dx=U (.own a):=by
 let⟨d,z,ne,ob,mA,n,r,q⟩:=(show bc P w H h a (.ins C dx fs) from aX a _ e);calc⟨mA,⟨ob,n,ne⟩,r,q,z,d⟩
end
structure wK(K:nG)(C:O):Prop where
 pg:ZR K C q1d=θ
 hd:Zr K C=θ
 po:PySem.W.plainOver K C=θ
 sa:Vh K (.ref C) "__setattr__" = U (U (.builtin "object.__setattr__"))
theorem wK.get{K:nG}{C:O}(c:wK K C)(f:J):ZR K C f=θ:=c.pg
def wL(K:nG)(C:O)(f:J):Prop:=Vh K (.ref C) f=U Z
section
variable{X:Cx}{pins:av}{σ:St}{H:Hp}{s:L}{a C dx:O}{fs:-(J×V)}{f:J}{v:V}{A:l}{E:aT}
theorem Ir{prog:q}{w:I}{env:t}{e:M}{f:J}{pos:y}{s:L}{Q:aT}(hb:attributeBase e f env (eval e env)=eval e env)
  (h:G (S prog w) A (eval e env) (λo s₁=>G (S prog w) A (getAttr o f θ) Q E s₁) E s):G (S prog w) A (eval (.Attribute e f pos) env) Q E s :=
 Attribute_any_ h (by rw[arm_eval_Attribute,hb])
end
section
variable{X:Cx}{o e value:M}{f:J}{pos pos' wM:y}{ta tv:TE}
end
section
variable{X:Cx}{pins:av}{σ:St}{H:Hp}{s:L}{A:l}{E:aT}{Q:aT}{c:B}{b:Bool}
inductive di (K:nG) (H:Hp):V->B->Prop where
 |non:di K H .non (.type "NoneType")
 |bl (x:Bool):di K H (.bl x) (.type "bool")
 |int (i:Int):di K H (.int i) (.type "int")
 |str (x:J):di K H (.str x) (.type "str")
 |flt (x:UInt64):di K H (.flt x) (.type "float")
 |lst {a:O} {xs:-V} (e:H a=U (.lst xs)):di K H (.ref a) (.type "list")
 |frz {a:O} {o:f} {xs:-V} (e:H a=U (.frz o (.lst xs))):di K H (.ref a) (.type "list")
 |tup {a:O} {xs:-V} (e:H a=U (.tup xs)):di K H (.ref a) (.type "tuple")
 |dK {a:O} {cj:-(Key×V)} (e:H a=U (.dK cj)):di K H (.ref a) (.type "dict")
 |dT {a:O} {cj:-(-Key×V)} (e:H a=U (.dT cj)):di K H (.ref a) (.type "dict")
 |ins {a C dx:O} {fs:-(J×V)} (e:H a=U (.ins C dx fs)) (cl:wK K C) (ha:Vh K (.ref C) "__class__" = U (U (.builtin "object.__class__")))
   (hn:Zs K (.builtin "object.__class__") "__get__" = U (U (.builtin "getset_descriptor.__get__"))) (t9:Z8 K (.builtin "object.__class__")=U θ)
   (hm:PySem.W.mroIn K C (.type "object")=U θ):di K H (.ref a) (.ref C)
theorem Iu{x:V}{u t:B}(I:Inv X pins σ H s)(rx:RelV x u)(ty:di X.K H x t)(e:Ts X.K t c=U b)(h:∀tk,Q (.bool b) {s with toks:=tk}):
  G (S X.prog X.w) A (call (.builtin "isinstance") [u,c]) Q E s:=by
 cases ty with
 |non=>cases(show u=UC from rx);exact Us PySem.W.kitx_none I.dU Ya e (λz=>nomatch z) h
 |bl y=>cases(show u=VW y from rx);exact Us PySem.W.kitx_bool I.dU Ya e (λz=>nomatch z) h
 |int i=>let⟨t,q⟩:=(show ∃t,u=WR i t from rx);cases q;exact Us PySem.W.kitx_int I.dU Ya e (λz=>nomatch z) h
 |str y=>let⟨t,q⟩:=(show ∃t,u=ZO y t from rx);cases q;exact Us PySem.W.kitx_str I.dU Ya e (λz=>nomatch z) h
 |flt y=>let⟨t,q⟩:=(show ∃t,u=Z0 y t from rx);cases q;exact Us PySem.W.kitx_float I.dU Ya e (λz=>nomatch z) h
 | @lst a xs ea =>
  cases(show u=TX a from rx)
  let⟨_,_,n,_,h1⟩:=(show bc X.prog X.w H s.heap a (.lst xs) from I.aX a _ ea);exact Us Zt I.dU ⟨_,h1,Y⟩ e (λz=>nomatch z) h
 | @frz a ob xs ea =>
  cases(show u=TX a from rx)
  let⟨_,_,_,n,_,h1⟩:=(show bc X.prog X.w H s.heap a (.frz ob (.lst xs)) from I.aX a _ ea);exact Us Zt I.dU ⟨_,h1,Y⟩ e (λz=>nomatch z) h
 | @tup a xs ea =>
  cases(show u=TX a from rx)
  let⟨_,_,_,p⟩:=(show bc X.prog X.w H s.heap a (.tup xs) from I.aX a _ ea);let⟨o,h1,h2,_⟩:=p;exact Us PySem.W.kitx_tuple I.dU ⟨o,h1,h2⟩ e (λz=>nomatch z) h
 | @dK a cj ea =>
  cases(show u=TX a from rx)
  let⟨_,_,vs,_,p⟩:=(show bc X.prog X.w H s.heap a (.dK cj) from I.aX a _ ea);let⟨o,es,ep,h1,h2,_⟩:=p;exact Us Zu I.dU ⟨o,h1,h2.1⟩ e (λz=>nomatch z) h
 | @dT a cj ea =>
  cases(show u=TX a from rx)
  let⟨_,_,xs,_,o,es,ep,h1,h2,_⟩:=(show bc X.prog X.w H s.heap a (.dT cj) from I.aX a _ ea);exact Us Zu I.dU ⟨o,h1,h2.1⟩ e (λz=>nomatch z) h
 | @ins a C dx fs ea cl ha hn t9 hm =>
  cases(show u=TX a from rx)
  let⟨mA,O,_⟩:=Iq I.aX ea;let⟨od,J,_⟩:=O.look;calc Us (PySem.W.kitx_own (cl.get _) cl.hd ha hn t9 hm) I.dU J e (λz=>nomatch z) h
end
structure bx(k:Nat)(A:l):Prop where
 hd:A.handled=Z
 dp:A.depth+3*k+5<recursionLimit
 un:A.units+16*k+200<cLine
 gd:A.guards=U []
theorem bx.mono{j k:Nat}{A:l}(r:bx k A)(h:j<=k):bx j A:=⟨r.hd,by let:=r.dp;symm,by let:=r.un;symm,r.gd⟩
theorem bx.deeper{k:Nat}{A:l}(r:bx (k+1) A)(env:t):bx k (A.deeper env) :=
 ⟨r.hd,by let:=r.dp;show A.depth+1+3*k+5<_;symm,by let:=r.un;show A.units+3+16*k+200<_;symm,r.gd⟩
theorem bx.depth{k:Nat}{A:l}(r:bx k A):A.depth<recursionLimit:=by let:=r.dp;symm
theorem bx.units{k:Nat}{A:l}(r:bx k A):A.units+64<cLine:=by let:=r.un;symm
def jh:TA:=λ_ H Q=>Q [] H
def iq(ta:TE)(tr:TA):TA:=fun σ H Q=>ta σ H λx H1=>tr σ H1 λxs H2=>Q (x::xs) H2
section
variable{X:Cx}{e:M}{es:-M}{te:TE}{t:TA}{pos:y}
theorem bg:JA X [] jh:=⟨λ_ _ _ _ H Q I h=>Calls.spliced_nil ⟨[],H,I,.nil,h⟩⟩
theorem hU(ha:JE X e te)(hr:JA X es t)(hs:cN X e es:=by rfl):JA X (e::es) (iq te t):=by
 calc⟨?_⟩;ext pos pins s σ H Q I h;rw[hs];show G _ _ (spliced ((ι,eval e X.env)::backTo pos (starEach es X.env))) _ _ s;calc Calls.spliced_cons (bp (ha pins s σ H _ I h) λu s1 h0_=>el5 h0_ λx H1 I1 r1 q1=>?_);calc bp (hr pos pins s1 σ H1 _ I1 q1) λus s2 h0_=>el5 h0_ λxs H2 I2 r2 q2 =>⟨x::xs,H2,I2,.cons r1 r2,q2⟩
def wN(t:TA):TE:=fun σ H Q=>t σ H λxs H1=>↑xs<=sizeLine/\∀p,H1 p=Z->Q (.ref p) (upd H1 p (.tup xs))
def qI(t:TA):TE:=fun σ H Q=>t σ H λxs H1=>↑xs<=sizeLine/\∀p,H1 p=Z->Q (.ref p) (upd H1 p (.lst xs))
theorem Iv{x1}(h:JA X es t):JE X (.Tuple es x1 pos) (wN t):=by
 calc⟨?_⟩;ext pins s σ H Q I hq;calc wpAny_Tuple_spliced (bp (h pos pins s σ H _ I hq) λus s1 ⟨xs,H1,I1,r,z,q⟩=>⟨by rw[<-↑r];calc z,?_⟩);let hf:H1 ⇑s1=Z:=I1.aX.fresh (ug _);calc⟨.ref ⇑s1,upd H1 ⇑s1 (.tup xs),I1.laid (t':=s1.toks) (λb u e=>nF _ e) (ug _) ?_,Y,q _ hf⟩;calc⟨z,us,r,⟨_,R0 _ Y,Y,_,Y⟩⟩
theorem jW(h:JA X es t):JE X (.List es pos) (qI t):=by
 calc⟨?_⟩;ext pins s σ H Q I hq;calc wpAny_List_spliced (bp (h pos pins s σ H _ I hq) λus s1 ⟨xs,H1,I1,r,z,q⟩=>⟨by rw[<-↑r];calc z,?_⟩);let hf:H1 ⇑s1=Z:=I1.aX.fresh (ug _);calc⟨.ref ⇑s1,upd H1 ⇑s1 (.lst xs),I1.laid (t':=s1.toks) (λb u e=>nF _ e) (ug _) ?_,Y,q _ hf⟩;calc⟨z,us,0,r,R0 _ Y⟩
end
abbrev Sp:=-V->Hp->VK->XK->Prop
abbrev hV:=-t->Hp->L->XK->B->L->Prop
structure kH(P:q)(w:I)(K:nG)(mg:J->Option B)(base:R)(A:l)(outer:-t)(s:L)(H:Hp):Prop where
 frames:A.frames=U outer
 mod:Mod K mg base
 bs:∀b o,base.get? b=U o->s.heap.get? b=U o/\H b=Z
 jV:base.objs.size<=⇑s
 df:s.heap.FunFrames base outer
 kA:∀b∈dG outer,H b=Z
 aX:cK P w H s.heap
 bare:AllBare s.gens
def CE(outer:-t)(P:q)(w:I)(H:Hp)(s:L)(Q:VK)(u:B)(s':L):Prop :=
 ∃v H',s'.os=s.os/\AllBare s'.gens/\Un (dG outer) [] H H' s.heap s'.heap/\cK P w H' s'.heap/\RelV v u/\Q v H'
def CR(CX:hV)(outer:-t)(P:q)(w:I)(H:Hp)(s:L)(Q:VK)(E:XK)(r:Result)(s':L):Prop :=
 match r with
 |.ok (.ret u)=>CE outer P w H s Q u s'
 |.ok _=>False
 |.error e=>CX outer H s E e s'
structure bP(P:q)(w:I)(K:nG)(mg:J->Option B)(base:R)(CX:hV)(k:Nat)(f:O)(fd:FuncData)(ps:-J)(sp:Sp):Prop where
 len:∀vs H Q E,sp vs H Q E->↑vs=↑ps
 run:∀(A:l)(outer:-t)(s:L)(H:Hp)(args:Args)(us:-B)(vs:-V)(Q:VK)(E:XK),bx k A->kH P w K mg base A outer s H->BindsTo s fd args (ps.zip us)->Vals vs us->sp vs H Q E →
  codeAny (S P w) A (.call (.ref f) args) (CR CX outer P w H s Q E) s
theorem bP.imp{P:ψ}{w:I}{K:nG}{mg:J->Option B}{base:R}{CX:hV}{k:Nat}{f:O}{fd:FuncData}{ps:-J}{sp BW:Sp}(F:bP P w K mg base CX k f fd ps sp)
  (h:∀vs H Q E,BW vs H Q E->sp vs H Q E):bP P w K mg base CX k f fd ps BW :=
 ⟨λvs H Q E q=>F.len vs H Q E (h _ _ _ _ q),λA outer s H args us vs Q E hr he hb hv hs=>F.run A outer s H args us vs Q E hr he hb hv (h _ _ _ _ hs)⟩
section
variable{X:Cx}{pins:av}{σ:St}{H:Hp}{s s':L}
theorem Inv.wO(I:Inv X pins σ H s):kH X.prog X.w X.K X.mg X.base X.A X.stack s H :=
 ⟨I.ok.frames,I.ok.mod,I.bs,T5 I.ok.jV I.sz,I.stack,I.dg,I.aX,I.bare⟩
theorem Inv.after{Q:VK}{u:B}(I:Inv X pins σ H s)(h:CE X.stack X.prog X.w H s Q u s'):EP X pins σ Q u s':=by
 let⟨v,H',os,bare,un,aX,r,q⟩:=h;let⟨hh,g,d,t,wQ⟩:=s';obtain rfl:wQ=s.os:=os;calc⟨v,H',I.call (h':=hh) (g':=g) (d':=d) (t':=t) (ch:=[]) un aX bare (λb z=>absurd z (by simp)),r,q⟩
end
def qJ(sp:Sp)(mn:-V)(E:XK)(t:TA):TE:=fun σ H Q=>t σ H λvs H1=>sp (vs++mn) H1 Q E
def Binds(K:nG)(fd:FuncData)(ps:-J)(ds:-B):Prop :=
 ∀(s:L)(us:-B),K.In s.heap->↑(us++ds)=↑ps->BindsTo s fd ⟨us,[]⟩ (ps.zip (us++ds))
theorem Binds.all{K:nG}{fd:FuncData}{ps:-J}(h:∀us:-B,↑us=↑ps->bindArgs fd ⟨us,[]⟩=pure (ps.zip us)):Binds K fd ps []:=λs us _ hl=>by
 rw[W6] at hl ⊢;calc .of_eq (h us hl)
def nk(CX:hV)(X:Cx)(E:XK):Prop:=∀(pins:av)(σ:St)(H:Hp)(s:L)(e:B)(s':L),Inv X pins σ H s->CX X.stack H s E e s'->X.xe e s'
section
variable{X:Cx}{CX:hV}{k:Nat}{f C:O}{fd:FuncData}{ps:-J}{sp:Sp}{mn:-V}{ds:-B}{E:XK}{x m:J}{p pos apos:y}{e o:M}{es:-M}{ta:TE}{t:TA}
theorem Iw{pins:av}{σ:St}{H:Hp}{s:L}{Q:VK}{us:-B}{vs:-V}(F:bP X.prog X.w X.K X.mg X.base CX k f fd ps sp)(hr:bx k X.A)(hb:Binds X.K fd ps ds)(hd:Vals mn ds)(hx:nk CX X E)
  (I:Inv X pins σ H s) (r:Vals vs us) (h:sp (vs++mn) H Q E):G (S X.prog X.w) X.A (call (.ref f) us) (EP X pins σ Q) X.xe s:=by
 let r2:Vals (vs++mn) (us++ds):=r.append hd;let hl:↑(us++ds)=↑ps:=by rw[<-↑r2];exact F.len _ _ _ _ h
 refine Zb (Xd (F.run X.A X.stack s H ⟨us,[]⟩ (us++ds) (vs++mn) Q E hr I.wO (hb s us I.dU hl) r2 h) λr s' hq=>?_)
 cases r with
 |error e=>exact hx pins σ H s e s' I hq
 |ok fl =>
  cases fl with
  |ret u=>exact I.after hq
  |next=>exact Uu hq
  |brk=>exact Uu hq
  |cont=>calc Uu hq
theorem qK(F:bP X.prog X.w X.K X.mg X.base CX k f fd ps sp)(hr:bx k X.A)(hg:Gl X x)(hm:X.mg x=U (.ref f))(hk:UK X.K (.ref f)=θ)(hb:Binds X.K fd ps ds)(hd:Vals mn ds)(hx:nk CX X E)
  (ha:JA X (e::es) t) (dj:bw x:=by decide) (he:cN X e es:=by rfl) (dm:dI X pos es:=by rfl) :
  JE X (.Call (.Name x p) (e::es) [] pos) (qJ sp mn E t):=by
 calc⟨?_⟩;ext pins s σ H Q I h;calc Wg (tX I hg hm ?_ dj);calc Zc (h₀:=X.base) I.ok.mod.kz hk (bp (ha pos pins s σ H _ I h) λus s1 h0_=>el5 h0_ λvs H1 I1 r q =>⟨I1.dU,?_⟩) he dm;calc Iw F hr hb hd hx I1 r q
end
section
variable{X:Cx}{CX:hV}{k:Nat}{f C:O}{fd:FuncData}{ps ks:-J}{sp:Sp}{E:XK}{x m:J}{p pos apos qL:y}{e o:M}{es:-M}{RX:-Keyword}{te ta:TE}{t tk:TA}{nm:Option J}
variable{g:-B->-B->-B}{gV:-V->-V->-V}
end
structure kI(N P:-J)(sc:u):Prop where
 kind:sc.kind=.function
 co:sc.isCoroutine=ι
 gen:sc.isGenerator=ι
 nd:N.Nodup
 pre:N.take ↑P=P
 par:∀x∈P,sc.names.lookup x=U .local\/sc.names.lookup x=U .cell
 nq:∀y∈sc.names,y.2≠.free
theorem BX{kindOf:J->Option NameKind}{x:J}:∀{binds:-(J×B)}{m:J->Option B},(∀v,(x,v)∉binds)->bindL kindOf binds m x=m x
 |[],_,_=>Y
 |(n,v)::r,m,h=>by
  unfold bindL;rw[BX λw hw=>h w (Jp _ hw)];split
  .let:x≠n:=by ext rfl;exact h v Cu
   simp[this]
  .rfl
theorem BY{kindOf:J->Option NameKind}{x:J}:∀{binds:-(J×B)}{m:J->Option B},(∀v,(x,v)∉binds)->bindC kindOf binds m x=m x
 |[],_,_=>Y
 |(n,v)::r,m,h=>by
  unfold bindC;rw[BY λw hw=>h w (Jp _ hw)];split
  .rfl
  .let:x≠n:=by ext rfl;exact h v Cu
   simp[this]
theorem BZ{kindOf:J->Option NameKind}{x:J}{v:B}:∀{P:-J}{vs:-B}{i:Nat}{m:J->Option B},P.Nodup->P[i]?=U x->vs[i]?=U v->kindOf x=U .local →
  bindL kindOf (P.zip vs) m x=U v
 |[],_,_,_,_,h,_,_=>by simp at h
 |_::_,[],_,_,_,_,h,_=>by simp at h
 |p::P,w::vs,0,m,nd,h1,h2,hk=>by
  simp at h1 h2;subst h1;subst h2;show bindL kindOf ((p,w)::P.zip vs) m p=_;unfold bindL;rw[BX λv hv=>(VL.mp nd).1 (Yk hv).1,Tw hk];simp
 |p::P,w::vs,i+1,m,nd,h1,h2,hk=>by
  show bindL kindOf ((p,w)::P.zip vs) m x=_;unfold bindL;calc BZ (i:=i) (VL.mp nd).2 h1⁻¹ h2⁻¹ hk
theorem B0{kindOf:J->Option NameKind}{x:J}{v:B}:∀{P:-J}{vs:-B}{i:Nat}{m:J->Option B},P.Nodup->P[i]?=U x->vs[i]?=U v->kindOf x≠U .local →
  bindC kindOf (P.zip vs) m x=U v
 |[],_,_,_,_,h,_,_=>by simp at h
 |_::_,[],_,_,_,_,h,_=>by simp at h
 |p::P,w::vs,0,m,nd,h1,h2,hk=>by
  simp at h1 h2;subst h1;subst h2;show bindC kindOf ((p,w)::P.zip vs) m p=_;unfold bindC;rw[BY λv hv=>(VL.mp nd).1 (Yk hv).1,To hk];simp
 |p::P,w::vs,i+1,m,nd,h1,h2,hk=>by
  show bindC kindOf ((p,w)::P.zip vs) m x=_;unfold bindC;calc B0 (i:=i) (VL.mp nd).2 h1⁻¹ h2⁻¹ hk
noncomputable def start(N:-J)(vs:-V):St:=vs.map U++R5 (↑N-↑vs) Z
noncomputable def bt(CX:hV)(P:q)(w:I)(K:nG)(mg:J->Option B)(base:R)(N:-J)(qual:J)(scope:u)(f:O)(cd:B)(A:l)(outer:-t)(s:L)(H:Hp)(E:XK):Cx where
 prog:=P
 w:=w
 K:=K
 mg:=mg
 base:=base
 A:=A.deeper (envOfC qual scope ⇑s f cd)
 N:=N
 s₀:=s
 H₀:=H
 env:=envOfC qual scope ⇑s f cd
 outer:=outer
 stack:=envOfC qual scope ⇑s f cd::outer
 ex:=[]
 calm:=true
 fn:=λ_=>θ
 pn:=[]
 xe:=λe s'=>G (S P w) (A.deeper (envOfC qual scope ⇑s f cd)) (leaving (envOfC qual scope ⇑s f cd) e) (λ_ qM=>CX outer H s E e qM) (λe' qM=>CX outer H s E e' qM) s'
theorem B2{sc:u}{n:Nat}{x:J}(h:sc.names.lookup x=U .cell):∃c,(cellsFrom n sc.names []).lookup x=U c:=by
 let q:=Wt sc.names n [] (.inl h);calc Vr.mp q
theorem Iy{CX:hV}{P:ψ}{w:I}{K:nG}{mg:J->Option B}{base:R}{N ps:-J}{qual:J}{scope:Δ}{f:O}{cd:B}{A:l}{outer:-t}{s s1:L}{H:Hp}{E:XK}{us:-B}{vs:-V}
  (S:kI N ps scope) (hd:A.handled=Z) (e0:kH P w K mg base A outer s H) (hl:↑vs=↑ps) (r:Vals vs us)
  (x:InCallC s ⇑s (bindL (envOfC qual scope ⇑s f cd).kindOf (ps.zip us) λ_=>Z) (cellsFrom (⇑s+1) scope.names []) (bindC (envOfC qual scope ⇑s f cd).kindOf (ps.zip us) λ_=>Z) s1) :
  Inv (bt CX P w K mg base N qual scope f cd A outer s H E) [] (start N vs) H s1:=by
 let dm:↑ps<=↑N:=by let:=congrArg Z1 S.pre;rw[TB] at this;symm
 let⟨h1,tk,rfl,hk⟩:=x.done;let qN:∀b:O,b∉(bt CX P w K mg base N qual scope f cd A outer s H E).ex:=λb z=>absurd (show b∈([]:-O) from z) (by simp)
 refine⟨⟨e0.mod,S.kind,Y,Y,ug _,λy z c h1 h2=>?_,λy hy=>?_,λy c _ h=>?_,λ_=>hd,Around.frames_deeper e0.frames,.inr ⟨Y,Y⟩,λb z=>absurd z (qN b),e0.bs,e0.jV,λb _ _=>qN b,λb z=>absurd z (qN b),e0.df,e0.kA⟩,
  Y,e0.bare,Un.kept hk,⟨_,x.toInCall.ns,λi y v h1 h2 h3=>?_⟩,λy c h=>⟨_,x.cell y c h⟩,e0.aX.fresh (ug _),λy c h=>?_,λp hp=>absurd (show p∈([]:av) from hp) (by simp),e0.aX.kept hk,?_⟩
 .exact name_of_addr x.apart (UD h1) (UD h2)
 .let hy:scope.names.lookup y=U .cell\/scope.names.lookup y=U .free:=hy
  rcases hy with hy|hy
  .exact B2 hy
  .exact absurd Y (S.nq _ (UD hy))
 .exact Vo (x.above y c (UD h))
 .let hi:i<↑vs:=by
   unfold start at h2
   by_cases hi:i<↑vs
   .exact hi
   .rw[Tn hi⁻¹] at h2
    rw[Vz] at h2;split at h2<;>cases h2
  let ha:vs[i]?=U v:=by
   unfold start at h2;rw[R4 hi⁻¹,R1] at h2
   cases e:vs[i]? with
   |none=>rw[e] at h2;cases h2
   |some a=>rw[e] at h2;cases h2;rfl
  let⟨u,hu,rv⟩:=r.get ha
  let hp:ps[i]?=U y:=by
   rw[<-S.pre,Ub ⋯];exact h1
  let B3:ps.Nodup:=by rw[<-S.pre];exact S.nd.sublist (Zo _ _)
  calc⟨u,rv,?_⟩;rcases S.par y (T2 hp) with k|k
  .exact .inl ⟨k,BZ B3 hp hu k⟩
  .let⟨c,e⟩:=B2 (n:=⇑s+1) k
   calc .inr ⟨.inl k,c,e,?_⟩;let q:=x.cell y c e;rw[B0 B3 hp hu (by show scope.names.lookup y≠_;rw[k];decide)] at q;exact q
 .exact e0.aX.fresh (Vo (x.above y c (UD h)))
 .unfold start
  show _=↑N;rw[Cv,pj,UH];symm
theorem B4{CX:hV}{P:ψ}{w:ω}{K:nG}{mg:π->Option B}{base:R}{k:Nat}{f:O}{name qual:π}{params:Arguments}{body:-χ}{scope:Δ}{dV kV doc pm bh ct oc:B}{an od:Option O}
  {kJ:Array (Option B)} {N ps:-π} {sp:Sp} (lk:K.lookup f=U ⟨oc,od,.func (U_ name qual params body scope dV kV doc pm an bh ct),kJ⟩) (fW:Xm K bh qual=θ) (S:kI N ps scope)
  (len:∀vs H Q E,sp vs H Q E->↑vs=↑ps)
  (eA:∀(A:l)(outer:-Ζ)(s:L)(H:Hp)(vs:-V)(Q:VK)(E:XK),bx k (A.deeper (envOfC qual scope ⇑s f bh))->sp vs H Q E →
   ∃t,bZ (bt CX P w K mg base N qual scope f bh A outer s H E) body t/\t {nx:=λ_ H'=>Q .non H',rt:=Q} (start N vs) H) :
  bP P w K mg base CX (k+1) f (U_ name qual params body scope dV kV doc pm an bh ct) ps sp:=by
 calc⟨len,λA outer s H args us vs Q E hr e0 hb r jX=>?_⟩;let hl:=len _ _ _ _ jX;let KX:K.In s.heap:=e0.mod.kz.keeps λb o e=>(e0.bs b o e).1;let lim:s.heap.NoLimit:=e0.mod.nolimit.keeps λb o e=>(e0.bs b o e).1
 let qO:∀y∈ps.zip us,scope.names.lookup y.1=U .local\/(scope.names.lookup y.1=U .cell/\((cellsFrom (⇑s+1) scope.names []).lookup y.1).isSome=θ):=λ⟨n,v⟩ hy↦by
  rcases S.par n (Yk hy).1 with q|q
  .exact .inl q
  .exact .inr ⟨q,Wt _ _ _ (.inl q)⟩
 calc codeAny_call_function hr.depth (KX _ _ lk) Y S.co S.gen Y (PySem.W.codeRec_of KX fW) (hb _ _ _ _ ?_);calc wpAny_newFunctionEnv_cells S.kind qO λenv he s1 x=>?_;subst he;calc⟨lim.keeps x.toInCall.keep,codeAny_func ?_⟩;let⟨t,ht,hq⟩:=eA A outer s H vs Q E (hr.deeper _) jX;let I:Inv (bt CX P w K mg base N qual scope f bh A outer s H E) [] (start N vs) H s1:=Iy S hr.hd e0 hl r x;refine UP (ht [] s1 (start N vs) H _ I hq) (λfl s' hs=>?_) λe s' hs=>hs
 let fin:∀{σ':St}{H':Hp}{v:V}{u:B},Inv (bt CX P w K mg base N qual scope f bh A outer s H E) [] σ' H' s'->RelV v u->Q v H'->CE outer P w H s Q u s' :=
  λ{σ' H' v u} J rv q=>⟨v,H',J.os,J.bare,J.base,J.aX,rv,q⟩
 cases fl with
 |ret u =>
  let⟨v,σ',H',J,rv,q⟩:=hs;exact fin J rv q
 |next =>
  let⟨σ',H',J,q⟩:=hs;exact fin (v:=V.non) (u:=UC) J Y q
 |brk =>
  let⟨_,_,_,q⟩:=hs;exact Uu q
 |cont =>
  let⟨_,_,_,q⟩:=hs;calc Uu q
section
variable{X:Cx}{x:J}{p pos:y}{e:M}{es:-M}{t:TA}{id T:String}{r:-V->Hp->VK->Prop}
def wR(r:-V->Hp->VK->Prop)(t:TA):TE:=fun σ H Q=>t σ H λvs H1=>r vs H1 Q
theorem t_(hc:gF X (.builtin id) r)(hg:Gl X x)(hm:X.mg x=Z)(hv:bootBuiltins x=U (.builtin id))(ha:JA X (e::es) t)(hn:x≠"__name__" := by decide)(dj:bw x:=by decide)
  (he:cN X e es:=by rfl) (dm:dI X pos es:=by rfl):JE X (.Call (.Name x p) (e::es) [] pos) (wR r t):=by
 calc⟨?_⟩;ext pins s σ H Q I h;calc Wg (mW I hg hm hv ?_ hn dj);calc ZS (bp (ha pos pins s σ H _ I h) λus s1 h0_=>el5 h0_ λvs H1 I1 r1 q1 =>hc pins s1 σ H1 vs us Q I1 r1 q1) he dm
theorem qP(hc:gF X (.type T) r)(hg:Gl X x)(hm:X.mg x=Z)(hv:bootBuiltins x=U (.type T))(ha:JA X (e::es) t)(hn:x≠"__name__" := by decide)(dj:bw x:=by decide)
  (he:cN X e es:=by rfl) (dm:dI X pos es:=by rfl):JE X (.Call (.Name x p) (e::es) [] pos) (wR r t):=by
 calc⟨?_⟩;ext pins s σ H Q I h;calc Wg (mW I hg hm hv ?_ hn dj);calc UU (bp (ha pos pins s σ H _ I h) λus s1 h0_=>el5 h0_ λvs H1 I1 r1 q1 =>hc pins s1 σ H1 vs us Q I1 r1 q1) he dm
end
end L2
namespace HT
open PySem PyProof.Rows
noncomputable def lexLt:-Int->-Int->Bool
 |[],[]=>ι
 |[],_::_=>θ
 |_::_,[]=>ι
 |x::xs,y::ys=>if x=y then lexLt xs ys else g (x<y)
theorem Iz(x y:Int)(xs ys:-Int):lexLt (x::xs) (y::ys)=if x=y then lexLt xs ys else g (x<y):=rfl
theorem IA:lexLt [] []=ι:=rfl
theorem IB(y:Int)(ys:-Int):lexLt [] (y::ys)=θ:=rfl
theorem IC(x:Int)(xs:-Int):lexLt (x::xs) []=ι:=rfl
theorem ID(A:l)(s:L)(a:Int)(t:Tok)(c:Int)(u:Tok):∃e,WU A s (.int a t) (.int c u) e/\(e=θ↔a=c) :=
 ⟨(a==c),Xn a t c u,by simp⟩
theorem IE(A:l)(s:L)(a:Int)(t:Tok)(c:Int)(u:Tok)(prog:q)(w:I)(E:aT)(Q:aT)(h:Q (.bool (g (a<c))) s):
  G (S prog w) A (richCompare .Lt (.int a t) (.int c u)) Q E s :=
 (PyProof.Rows.lt_int h:G (S prog w) A (compareOp .Lt (.int a t) (.int c u)) Q E s)
section
open PySem.SeqAt
open PySem.AutoSeq1 (wpAny_loadPart')
open PySem.MeetsSeq PySem.MeetsSeq2 PySem.MeetsSeq3
theorem IF(l b:O)(items bQ:Array B)(n n2:Nat)(dd mq:Option O)(sl mw:Array (Option B))(ns ms:-Int)(hi:IntsAre items.toList ns)(hj:IntsAre bQ.toList ms):
  Meets (Builtin.«tuple.__lt__» ⟨[.ref l,.ref b],[]⟩)
   (λ_ R s=>s.heap.get? l=U {cls:=.type "tuple",dict:=dd,data:=.seq items n,slots:=sl}/\s.heap.get? b=U {cls:=.type "tuple",dict:=mq,data:=.seq bQ n2,slots:=mw} ∧
    R (.ok (.ret (.bool (lexLt ns ms)))) s) :=
 .of_wp λprog w A R s h=>by
  let⟨hp,g,d,tk,os⟩:=s;let⟨hl,hb,h⟩:=h;let f2:=AutoSeq1.sub_tuple_tuple;let z1:items.size=ns.length:=by rw[<-↑hi];simp
  let z2:bQ.size=↑ms:=by rw[<-↑hj];simp
  wp_walk using VN hl,VN hb,WQ _ (λrest b s'=>b.1=Z/\s'=⟨hp,g,d,tk,os⟩/\∃(vs ws:-B)(pd pe:-Int),rest=vs.zip ws ∧
   IntsAre vs pd/\IntsAre ws pe/\↑pd+bQ.size=↑pe+items.size/\R (.ok (.ret (.bool (lexLt pd pe)))) ⟨hp,g,d,tk,os⟩) _
  case turn =>
   ext⟨y,x⟩ rest b s' ⟨hb',rfl,vs,ws,pd,pe,hz,wU,ua,hlen,hR⟩
   cases wU with
   |nil=>rw[List.zip_nil_left] at hz;cases hz
   |cons a t wV =>
    cases ua with
    |nil=>rw[List.zip_nil_right] at hz;cases hz
    |cons c u wW =>
     rw[Zd] at hz;injection hz with IG qQ;injection IG with hy hx;subst hy hx;rw[Iz] at hR;erw[Cw] at hlen;let⟨e,he,qR⟩:=ID A.in1 ⟨hp,g,d,tk,os⟩ a t c u;refine kb (he prog w _ _ ?_)
     cases e with
     |true =>
      rw[Tw (qR.mp Y)] at hR
      wp_walk
      exact⟨Y,Y,_,_,_,_,qQ,wV,wW,⋯,hR⟩
     |false =>
      rw[To (λq=>absurd (qR.mpr q) Jn)] at hR;let IH:=IE A.in1 ⟨hp,g,d,tk,os⟩ a t c u prog w
      wp_walk using IH
      exact⟨_,Y,by simpa using hR⟩
  case fin =>
   ext⟨b1,b2⟩ s' ⟨hb',rfl,vs,ws,pd,pe,hz,wU,ua,hlen,hR⟩;simp only at hb';subst hb'
   let hv:lexLt pd pe=μ (items.size<bQ.size):=by
    cases wU with
    |nil =>
     cases ua with
     |nil =>
      erw[Wf] at hlen;rw[IA];exact(TH ⋯).symm
     |cons c u hw =>
      erw[Wf,Cw] at hlen;rw[IB];exact(Tt ⋯).symm
    |cons a t hv =>
     cases ua with
     |nil =>
      erw[Wf,Cw] at hlen;rw[IC];exact(TH ⋯).symm
     |cons c u hw =>
      rw[Zd] at hz;cases hz
   rw[hv] at hR
   wp_walk
   exact⟨_,Y,by simpa[Builtin.Tuple.tupleCompareSizes] using hR⟩
  case h =>
   calc⟨Y,Y,items.toList,bQ.toList,ns,ms,Y,hi,hj,⋯,h⟩
end
section
variable{prog:q}{w:I}{A:l}{E:aT}{s:L}
theorem II{l b:O}{items bQ:Array B}{ns ms:-Int}{Q:aT}(hl:IsTup s.heap l items)(hb:IsTup s.heap b bQ)(hi:IntsAre items.toList ns)(hj:IntsAre bQ.toList ms)
  (hu:A.units<cLine) (h:Q (.bool (lexLt ns ms)) s):G (S prog w) A (compareOp .Lt (.ref l) (.ref b)) Q E s:=by
 let⟨⟨cls,dd,data,sl⟩,ho,hc,n,hd⟩:=id hl;let⟨⟨qS,mq,data2,mw⟩,iT,mx,n2,hd2⟩:=id hb;simp only at hc hd mx hd2;subst hc hd mx hd2
 exact richCompare_meets_room (op:=.Lt) ⟨_,ho,Y⟩ ⟨_,iT,Y⟩ PySem.F.slot_tuple_lt PySem.F.entry_tuple_lt (PySem.F.args_tuple_lt_2 _ _) (IF l b items bQ n n2 dd mq sl mw ns ms hi hj)
  ⟨ho,iT,show VW (lexLt ns ms)≠Value.notImplemented/\Q (.bool (lexLt ns ms)) s from⟨(λx=>nomatch x),h⟩⟩ hu
theorem IJ{t b:O}{vs ws:-B}{Q:aT}(ht:IsTup s.heap t vs.toArray)(hb:IsTup s.heap b ws.toArray)(hv:vs≠[])
  (h1:ws=[]->Q (.ref t) s) (h2:ws≠[]->Q (.ref ⇑s) {s with heap:=s.heap.push {cls:=.type "tuple",data:=.seq (vs++ws).toArray}})
  (iU:↑vs+↑ws<=sizeLine):G (S prog w) A (binaryOp .Add (.ref t) (.ref b)) Q E s:=by
 let⟨⟨cls,dd,data,sl⟩,ho,hc,n,hd⟩:=id ht;let⟨⟨qS,mq,data2,mw⟩,iT,mx,n2,hd2⟩:=id hb;simp only at hc hd mx hd2;subst hc hd mx hd2;let e:vs.toArray++ws.toArray=(vs++ws).toArray:=by simp
 by_cases hw:ws=[]
 .exact Zv ⟨_,ho,Y⟩ ⟨_,iT,Y⟩ XW Y2 Wu Wj (Wa _ _)
   (tuple_addW1 t b vs.toArray ws.toArray n n2 dd mq sl mw hv⁻¹ (by simp[hw])) ⟨ho,iT,h1 hw⟩
 .refine Zv ⟨_,ho,Y⟩ ⟨_,iT,Y⟩ XW Y2 Wu Wj (Wa _ _)
   (tuple_addW2 t b vs.toArray ws.toArray n n2 dd mq sl mw hv⁻¹ hw⁻¹ (by rw[xu,xu];calc iU)) ⟨ho,iT,?_⟩
  rw[e];calc h2 hw
noncomputable def bf(n d:Nat):Option Int->Nat
 |none=>d
 |some v=>if v<0 then(v+(n:Int)).toNat else min v.toNat n
theorem B5(n d:Nat):bf n d Z=d:=rfl
theorem nv(n d k:Nat):bf n d (U (k:Int))=min k n:=by
 show(if(k:Int)<0 then((k:Int)+(n:Int)).toNat else min (k:Int).toNat n)=min k n;rw[To ⋯,VS]
theorem IK(n d:Nat)(hd:d<=n)(o:Option Int):bf n d o<=n:=by
 cases o with
 |none=>exact hd
 |some v =>
  show(if v<0 then(v+(n:Int)).toNat else min v.toNat n)<=n
  by_cases hv:v<0
  .rw[Tw hv];symm
  .rw[To hv];calc Nat.min_le_right _ _
theorem B6(v:Int)(n d:Nat):(if v<0 then max (v+(n:Int)) 0 else min v (n:Int))=((bf n d (U v):Nat):Int):=by
 show(if v<0 then max (v+(n:Int)) 0 else min v (n:Int))=(((if v<0 then(v+(n:Int)).toNat else min v.toNat n):Nat):Int)
 by_cases hv:v<0
 .erw[Tw hv];symm
 .erw[To hv];symm
theorem IL(lo hi:Option Int)(n:Nat):V6 lo hi 1 (n:Int)=(((bf n 0 lo:Nat):Int),((bf n n hi:Nat):Int)):=by
 let h1:¬ ((1:Int)<0):=by symm
 unfold V6;erw[h1,Um];refine Prod.ext ?_ ?_
 .cases lo with
  |none=>rfl
  |some v=>exact B6 v n 0
 .cases hi with
  |none=>rfl
  |some v=>calc B6 v n n
theorem IM(i j:Nat):Uq (i:Int) (j:Int) 1=j-i:=by
 unfold Uq;let h1:(1:Int)>0:=by symm
 erw[h1,Ve,Zw];split<;>symm
theorem qT{v:B}{o:Option Int}{Q:Option Int->L->Prop}(p:IsPart v o)(h:Q o s):G (S prog w) A (Builtin.Slice.slicePartIndex v) Q E s:=by
 cases p with
 |none=>exact slicePart_none h
 |int i t=>calc slicePart_int h
theorem B7{sl:O}{vl vu:B}{lo hi:Option Int}{n:Nat}{Q:Int×Int×Nat->L->Prop}(hs:s.heap.IsSliceOf sl vl vu .none)(pl:IsPart vl lo)(pu:IsPart vu hi)
  (h:Q (((bf n 0 lo:Nat):Int),1,bf n n hi-bf n 0 lo) s):G (S prog w) A (Vi (.ref sl) (pure (n:Int))) Q E s:=by
 let⟨os,ir,kK,jY⟩:=id hs;unfold Vi XA;calc kb (kb (Uj ir jY (x:=vl) Y (kb (Uj ir jY (x:=vu) Y (kb (Uj ir jY (x:=.none) Y (qY ?_)))))));calc kb (slicePart_none ?_);show G _ _ (if((1:Int)==0)=θ then _ else _) _ _ s;rw[To (by decide)];refine kb (qT pl (kb (qT pu (kb (qY ?_)))))
 show G _ _ (match V6 lo hi 1 (n:Int) with|(lo,hi)=>pure (lo,(1:Int),Uq lo hi 1)) _ _ s;rw[IL lo hi n];show G _ _ (pure (((bf n 0 lo:Nat):Int),(1:Int),Uq ((bf n 0 lo:Nat):Int) ((bf n n hi:Nat):Int) 1)) _ _ s;rw[IM];calc qY h
theorem IP(xs:Array B)(i k:Nat):((TY k).filterMap λ(m:Nat)=>xs[((i:Int)+(m:Int)*1).toNat]?).toArray=((xs.toList.drop i).take k).toArray:=by
 let e:(λ(m:Nat)=>xs[((i:Int)+(m:Int)*1).toNat]?)=λm=>xs[i+m]?:=by
  funext m;let:((i:Int)+(m:Int)*1).toNat=i+m:=by symm
  rw[this]
 rw[e];let:=pick_run xs i k;rw[Xi] at this;let e2:((λx=>xs[x]?)∘λx=>i+x)=λm=>xs[i+m]?:=Y;rw[e2] at this;rw[this]
theorem IQ{t sl:O}{items:Array B}{vl vu:B}{lo hi:Option Int}{Q:aT}(ht:IsTup s.heap t items)(hs:s.heap.IsSliceOf sl vl vu .none)(pl:IsPart vl lo)(pu:IsPart vu hi)
  (hw:¬ (bf items.size 0 lo=0/\bf items.size items.size hi=items.size))
  (h:Q (.ref ⇑s) {s with heap:=s.heap.push {cls:=.type "tuple",data:=.seq ((items.toList.drop (bf items.size 0 lo)).take (bf items.size items.size hi-bf items.size 0 lo)).toArray}})
  (iU:items.size<=sizeLine):G (S prog w) A (getItem (.ref t) (.ref sl)) Q E s:=by
 let dq:sizeOk (.seq ((items.toList.drop (bf items.size 0 lo)).take (bf items.size items.size hi-bf items.size 0 lo)).toArray):=by
  show((items.toList.drop (bf items.size 0 lo)).take (bf items.size items.size hi-bf items.size 0 lo)).toArray.size<=sizeLine;rw[xu,TB,Uh,Jq];symm
 let hj:bf items.size items.size hi<=items.size:=IK _ _ (ug _) hi;let⟨os,ir,kK,jY⟩:=id hs;let qU:s.TypeIs (.ref sl) "slice" := ⟨os,ir,kK⟩;unfold getItem
 try with_reducible refine Ua ?_
 first|refine kb (qY ?_)|skip
 refine kb (XD ht.typeIs (by decide) ?_)
 refine kb (Uv (name:=R3 "__getitem__") ht.typeIs TR
  (Vf TR ht.typeIs Xa ?_ (Xo _ _)))
 show G _ _ (VX (.ref t) >>= _) _ _ s;calc kb (Y3 ht ?_);calc kb (Xe qU ?_);rw[Tw (by decide)];refine kb (B7 hs pl pu ?_)
 let IS:¬ ((((bf items.size 0 lo:Nat):Int)==0&&(1:Int)==1&&(bf items.size items.size hi-bf items.size 0 lo)==items.size)=θ):=by
  ext q;rw[Tv,Tv] at q;let q1:((bf items.size 0 lo:Nat):Int)=0:=TF q.1.1;let q2:bf items.size items.size hi-bf items.size 0 lo=items.size:=TF q.2;exact hw ⟨⋯,⋯⟩
 show G _ _ (if(((bf items.size 0 lo:Nat):Int)==0&&(1:Int)==1&&(bf items.size items.size hi-bf items.size 0 lo)==items.size)=θ then _ else _) _ _ s;rw[To IS,IP]
 first
  |exact kb (m:=Uk _) (Uo (qY ⟨_,Y,qY h⟩) dq)
  |exact kb (m:=Uk _) (Uo (kb (qY (qY ⟨_,Y,qY h⟩))) dq)
  |exact kb (kb (m:=Uk _) (Uo (qY (qY ⟨_,Y,qY h⟩)) dq))
  |calc kb (kb (m:=Uk _) (Uo (qY ⟨_,Y,qY h⟩) dq))
end
end HT
namespace L2
open PySem PySem.Spec PyProof.Rows
abbrev TO:=St->Hp->(Option Int->Hp->Prop)->Prop
def PO(X:Cx)(e:Option M)(t:TO):Prop :=
 ∀(pins:av)(s:L)(σ:St)(H:Hp)(Q:Option Int->Hp->Prop),Inv X pins σ H s->t σ H Q →
  G (S X.prog X.w) X.A (evalPart e X.env) (λu s'=>∃o H',Inv X pins σ H' s'/\IsPart u o/\Q o H') X.xe s
def IT:TO:=λ_ H Q=>Q Z H
def IU(t:TE):TO:=fun σ H Q=>t σ H λx H1=>∃i,x=.int i/\Q (U i) H1
theorem intsAre_of{ns:-Int}:∀{us:-B},Vals (ns.map V.int) us->IntsAre us ns:=by
 induction ns with
 |nil=>ext us r;rw[VH] at r;cases r;exact .nil
 |cons n ns ih =>
  ext us r;rw[TJ] at r
  cases r with
  |cons r1 r2 =>
   let⟨t,e⟩:=r1;subst e;calc .cons n t (ih r2)
section
variable{X:Cx}{e:M}{te:TE}{lo hi:Option M}{tl th:TO}{pos p2:y}
theorem B8:PO X Z IT:=by
 ext pins s σ H Q I h;rw[Y4];calc qY ⟨Z,H,I,.none,h⟩
theorem ub(h:JE X e te):PO X (U e) (IU te):=by
 ext pins s σ H Q I hw;rw[q01];calc bp (h pins s σ H _ I hw) λu s1 h0_=>el5 h0_ λx H1 I1 r1 q1=>?_;let⟨i,rfl,q⟩:=q1;let⟨t,rfl⟩:=r1;calc⟨U i,H1,I1,.int i t,q⟩
def my(X:Cx)(r:V->Option Int->Option Int->Hp->VK->Prop):Prop :=
 ∀(pins:av)(s:L)(σ:St)(H:Hp)(x:V)(v vl vu:B)(lo hi:Option Int)(sl:O)(Q:VK),Inv X pins σ H s->RelV x v->s.heap.IsSliceOf sl vl vu .none->IsPart vl lo->IsPart vu hi->r x lo hi H Q →
  ∃T id,typeLookup (.type T) "__getitem__" = pure (U (.builtin id))/\s.TypeIs v T/\G (S X.prog X.w) X.A (getItem v (.ref sl)) (EP X pins σ Q) X.xe s
theorem my.or{r r':V->Option Int->Option Int->Hp->VK->Prop}(h:my X r)(h':my X r'):my X (λx lo hi H Q=>r x lo hi H Q\/r' x lo hi H Q):=by
 ext pins s σ H x v vl vu lo hi sl Q I rx hs pl pu q;rcases q with q|q
 .exact h pins s σ H x v vl vu lo hi sl Q I rx hs pl pu q
 .calc h' pins s σ H x v vl vu lo hi sl Q I rx hs pl pu q
def IV(r:V->Option Int->Option Int->Hp->VK->Prop)(te:TE)(tl th:TO):TE:=fun σ H Q=>te σ H λx H1=>tl σ H1 λl H2=>th σ H2 λu H3=>r x l u H3 Q
theorem wX{r:V->Option Int->Option Int->Hp->VK->Prop}(hr:my X r)(he:JE X e te)(hl:PO X lo tl)(hu:PO X hi th):JE X (.Subscript e (.Slice lo hi Z p2) pos) (IV r te tl th):=by
 calc⟨?_⟩;ext pins s σ H Q I h;calc Subscript_ (bp (he pins s σ H _ I h) λv s1 h0_=>el5 h0_ λx H1 I1 r1 q1=>?_);calc wpAny_Slice (bp (hl pins s1 σ H1 _ I1 q1) λvl s2 h0_=>el5 h0_ λl H2 I2 pl q2 =>bp (hu pins s2 σ H2 _ I2 q2) λvu s3 h0_=>el5 h0_ λu H3 I3 pu q3=>?_);rw[Y4];calc qY ?_;let I4:Inv X pins σ H3 {s3 with heap:=s3.heap.push {cls:=.type "slice",data:=.fields #[vl,vu,.none]}}:=I3.kept (t':=s3.toks) λb ob q=>nF _ q;let⟨T,id,hT,ht,hg⟩:=hr pins {s3 with heap:=s3.heap.push {cls:=.type "slice",data:=.fields #[vl,vu,.none]}} σ H3 x v vl vu l u ⇑s3 Q I4 r1 (Xp ..) pl pu q3
 show G (S X.prog X.w) X.A (subscriptTail e (.Slice lo hi Z p2) v (.ref ⇑s3)) (EP X pins σ Q) X.xe {s3 with heap:=s3.heap.push {cls:=.type "slice",data:=.fields #[vl,vu,.none]}};calc q0s (ops:=[.ref ⇑s3,v]) ht hT hg (by with_unfolding_all rfl)
noncomputable def cw(xs:-V)(lo hi:Option Int):-V:=(xs.drop (HT.bf ↑xs 0 lo)).take (HT.bf ↑xs ↑xs hi-HT.bf ↑xs 0 lo)
theorem B9(xs:-V)(lo hi:Option Int):↑(cw xs lo hi)<=↑xs:=by
 unfold cw;rw[TB,Uh];symm
def wY(K:nG):V->Option Int->Option Int->Hp->VK->Prop:=λx lo hi H Q=>∃a xs,x=.ref a/\bJ K H a xs ∧
 ¬ (HT.bf ↑xs 0 lo=0/\HT.bf ↑xs ↑xs hi=↑xs)/\∀p,H p=Z->Q (.ref p) (upd H p (.tup (cw xs lo hi)))
theorem IW:my X (wY X.K):=by
 ext pins s σ H x v vl vu lo hi sl Q I rx hs pl pu h;let⟨a,xs,rfl,hx,hw,q⟩:=h;cases rx
 let⟨ah,r,ht,hz⟩:=I.tuple hx;let hlen:ah.toArray.size=↑xs:=by rw[xu];exact r.length.symm
 calc⟨"tuple",_,TR.lookup,ht.typeIs,?_⟩;calc HT.IQ ht hs pl pu (by rw[hlen];calc hw) ?_ (by rw[hlen];calc hz);rw[hlen];calc⟨.ref ⇑s,_,I.laid (t':=s.toks) (o:=.tup (cw xs lo hi)) (λb ob q=>nF _ q) (ug _) ?_,Y,q _ (I.aX.fresh (ug _))⟩;calc⟨T5 (B9 xs lo hi) hz,_,(r.drop (HT.bf ↑xs 0 lo)).take (HT.bf ↑xs ↑xs hi-HT.bf ↑xs 0 lo),YK _ _⟩
def wZ(K:nG):R2:=λx y H Q=>∃a b ns ms,x=.ref a/\y=.ref b/\bJ K H a (ns.map V.int)/\bJ K H b (ms.map V.int)/\Q (.bl (HT.lexLt ns ms)) H
theorem IX(hu:X.A.units<cLine):cP X (compareOp .Lt) (wZ X.K):=by
 ext pins s σ H x y v u Q I rx ry h;let⟨a,b,ns,ms,rfl,rfl,ha,hb,q⟩:=h;cases rx
 cases ry
 let⟨ah,r1,p1,_⟩:=I.tuple ha;let⟨bo,r2,p2,_⟩:=I.tuple hb;let i1:IntsAre ah.toArray.toList ns:=intsAre_of r1;let i2:IntsAre bo.toArray.toList ms:=intsAre_of r2;calc HT.II p1 p2 i1 i2 hu ⟨.bl (HT.lexLt ns ms),H,I,Y,q⟩
def IY(K:nG):R2:=λx y H Q=>∃a b xs ys,x=.ref a/\y=.ref b/\bJ K H a xs/\bJ K H b ys/\xs≠[]/\↑xs+↑ys<=sizeLine ∧
 (ys=[]->Q (.ref a) H)/\(ys≠[]->∀p,H p=Z->Q (.ref p) (upd H p (.tup (xs++ys))))
theorem Vals.d6{xs:-V}{us:-B}(r:Vals xs us):us=[]↔xs=[]:=by
 cases r with
 |nil=>simp
 |cons _ _=>simp
theorem IZ:cP X (binaryOp .Add) (IY X.K):=by
 ext pins s σ H x y v u Q I rx ry h;let⟨a,b,xs,ys,rfl,rfl,ha,hb,hx,hz,q1,q2⟩:=h;cases rx
 cases ry
 let⟨ah,r1,p1,_⟩:=I.tuple ha;let⟨bo,r2,p2,_⟩:=I.tuple hb;calc HT.IJ p1 p2 (λz=>hx (r1.d6.mp z)) (λz=>⟨.ref a,H,I,Y,q1 (r2.d6.mp z)⟩) (λz=>?_) (by rw[<-↑r1,<-↑r2];calc hz);calc⟨.ref ⇑s,_,I.laid (t':=s.toks) (o:=.tup (xs++ys)) (λb ob q=>nF _ q) (ug _) ?_,Y,q2 (λw=>z (r2.d6.mpr w)) _ (I.aX.fresh (ug _))⟩;calc⟨by rw[Cv];calc hz,_,r1.append r2,YK _ _⟩
end
noncomputable def iu(n:Nat)(i:Int):Option Nat:=if 0<=i then(if i<n then U i.toNat else Z) else if -(n:Int)<=i then U (i+n).toNat else Z
noncomputable def d7{α:Type}(xs:-α)(i:Int):Option α:=(iu ↑xs i).bind λj=>xs[j]?
theorem B_{n:Nat}{i:Int}{j:Nat}(h:iu n i=U j):seqIndex? i n=U j/\j<n /\ -(n:Int)<=i/\i<n:=by
 unfold iu at h
 by_cases h0:0<=i
 .rw[Tw h0] at h
  by_cases h1:i<n
  .rw[Tw h1] at h
   let e:i.toNat=j:=TU h;exact⟨by rw[Z2 h0 h1,e],⋯,⋯,h1⟩
  .rw[To h1] at h;cases h
 .rw[To h0] at h
  by_cases h1 : -(n:Int)<=i
  .rw[Tw h1] at h
   let e:(i+n).toNat=j:=TU h;exact⟨by rw[Zx ⋯ h1,e],⋯,h1,⋯⟩
  .rw[To h1] at h;cases h
theorem w4{α:Type}{xs:-α}{i:Int}{v:α}(h:d7 xs i=U v):∃j,seqIndex? i ↑xs=U j/\xs[j]?=U v/\j<↑xs /\ -(↑xs:Int)<=i/\i<↑xs:=by
 unfold d7 at h
 cases e:iu ↑xs i with
 |none=>rw[e] at h;cases h
 |some j =>
  rw[e] at h;let⟨h1,h2,h3,h4⟩:=B_ e;calc⟨j,h1,h,h2,h3,h4⟩
theorem kM{α:Type}{xs:-α}{j:Nat}{v:α}(h:xs[j]?=U v):d7 xs (j:Int)=U v:=by
 let hj:j<↑xs:=(kP.mp h).1
 let e:iu ↑xs (j:Int)=U j:=by
  unfold iu;rw[Tw ⋯,Tw ⋯];simp
 unfold d7;rw[e];calc h
def Ca(b:M):Prop:=∀o i,subscripted b ι o i=operate [o,i] (getItem o i)
def qV(X:Cx)(r:R2):Prop :=
 ∀(value slice:M)(pins:av)(s:L)(σ:St)(H:Hp)(x y:V)(v u:B)(Q:VK),Inv X pins σ H s->RelV x v->RelV y u->r x y H Q →
  subscripted slice ι v u=operate [v,u] (getItem v u)->G (S X.prog X.w) X.A (subscriptTail value slice v u) (EP X pins σ Q) X.xe s
def w5(X:Cx)(id:String)(r:V->-V->Hp->VK->Prop):Prop :=
 ∀(pins:av)(s:L)(σ:St)(H:Hp)(x:V)(xs:-V)(v:B)(us:-B)(Q:VK),Inv X pins σ H s->RelV x v->Vals xs us->r x xs H Q →
  G (S X.prog X.w) X.A (call (.builtin id) (v::us)) (EP X pins σ Q) X.xe s
section
variable{X:Cx}{a b:M}{ta tb:TE}{pos:y}
theorem uc{r:R2}(hr:qV X r)(ha:JE X a ta)(hb:JE X b tb)(hs:Ca b):JE X (.Subscript a b pos) (pb r ta tb):=by
 calc⟨?_⟩;ext pins s σ H Q I h;calc Subscript_ (m9 ha hb I h λv u s2 x y H2 I2 rx ry q=>hr a b pins s2 σ H2 x y v u Q I2 rx ry q (hs _ _))
def w6(K:nG):R2:=λx y H Q=>∃p xs i v,x=.ref p/\y=.int i/\bq K H p xs/\d7 xs i=U v/\Q v H
def w9(K:nG):R2:=λx y H Q=>∃p xs i v,x=.ref p/\y=.int i/\bJ K H p xs/\d7 xs i=U v/\Q v H
def w_:R2:=λx y H Q=>∃z i c,x=.str z/\y=.int i/\↑z<=sizeLine/\d7 z.cps.toList i=U c/\Q (.str ⟨#[c]⟩) H
theorem ud:qV X (w6 X.K):=by
 ext value slice pins s σ H x y v u Q I rx ry h hs;let⟨p,xs,i,z,rfl,rfl,hq,he,q⟩:=h;cases rx
 let⟨t,rfl⟩:=ry;let⟨ah,r,pl,hz⟩:=I.list hq;let⟨j,h1,h2,h3,h4,h5⟩:=w4 he;let⟨w,ew,qW⟩:=r.get h2;let hl:=↑r;let hn:=nh;let fin:EP X pins σ Q w s:=⟨z,H,I,qW,q⟩
 by_cases h0:0<=i
 .let hj:i.toNat=j:=by
   rw[Z2 h0 h5] at h1;exact TU h1
  exact item_listR pl.isList h0 ⋯ (by rw[hj];simpa using ew) fin hs
 .let hj:(i+(ah.toArray.size:Int)).toNat=j:=by
   rw[Zx ⋯ h4] at h1;rw[xu,<-hl];exact TU h1
  exact Yb (x:=w) pl.isList.typeIs XF.lookup
   (wpAny_getItem_list_neg (Q:=λr s'=>r=w/\EP X pins σ Q r s') pl.isList ⋯ (by rw[xu]<;>symm) ⋯ (by rw[hj];simpa using ew) ⟨Y,fin⟩) hs
theorem I0:qV X (w9 X.K):=by
 ext value slice pins s σ H x y v u Q I rx ry h hs;let⟨p,xs,i,z,rfl,rfl,hq,he,q⟩:=h;cases rx
 let⟨t,rfl⟩:=ry;let⟨ah,r,pl,hz⟩:=I.tuple hq;let⟨j,h1,h2,h3,h4,h5⟩:=w4 he;let⟨w,ew,qW⟩:=r.get h2;let hl:=↑r;let hn:=nh;let fin:EP X pins σ Q w s:=⟨z,H,I,qW,q⟩
 exact Yb (x:=w) pl.typeIs slot_tuple_getitem.lookup
  (getItem_tuple (j:=j) (Q:=λr s'=>r=w/\EP X pins σ Q r s') pl ⋯ ⋯ (by rw[xu,<-hl];calc h1) ew⁻¹ ⟨Y,fin⟩) hs
theorem I_:qV X w_:=by
 ext value slice pins s σ H x y v u Q I rx ry h hs;let⟨z,i,c,rfl,rfl,hz,he,q⟩:=h;let⟨t,rfl⟩:=rx;let⟨t',rfl⟩:=ry;let⟨j,h1,h2,h3,h4,h5⟩:=w4 he;let hl:↑z.cps.toList=↑z:=by simp[Str.length]
 rw[hl] at h1 h4 h5;let hn:=nh
 exact q0s (Xq s z t) slot_str_getitem.lookup (getItem_str (c:=c) (by
  let e1:g (i < -(2 ^ 63:Int))=ι:=TH ⋯;let e2:g (i ≥ 2 ^ 63)=ι:=TH ⋯
  rw[e1,e2,q02]) (by rw[h1];simpa using h2) ⟨.str ⟨#[c]⟩,H,I.tok _,⟨_,Y⟩,q⟩) hs
theorem Ja(ah:-B)(n j:Nat)(u:B):Yc (·.setIfInBounds j u) {cls:=.type "list",data:=.seq ah.toArray n}={cls:=.type "list",data:=.seq (ah.set j u).toArray n}:=by
 simp[Yc]
theorem Inv.lst{pins:av}{σ:St}{H:Hp}{s:L}{p:O}{xs:-V}(I:Inv X pins σ H s)(h:H p=U (.lst xs)):
  ∃(ah:-B)(n:Nat),Vals xs ah/\s.heap.get? p=U {cls:=.type "list",data:=.seq ah.toArray n}/\↑xs<=sizeLine:=by
 let⟨z,ah,n,r,e⟩:=I.aX p _ h;calc⟨ah,n,r,e,z⟩
theorem Inv.ny{pins:av}{σ:St}{H:Hp}{s:L}{p:O}{xs ys:-V}{ah its':-B}{n n':Nat}{f:Γ->Γ}(I:Inv X pins σ H s)(h:H p=U (.lst xs))
  (ho:s.heap.get? p=U {cls:=.type "list",data:=.seq ah.toArray n}) (hf:f {cls:=.type "list",data:=.seq ah.toArray n}={cls:=.type "list",data:=.seq its'.toArray n'}) (r:Vals ys its') (hz:↑ys<=sizeLine) (t:Nat) :
  Inv X pins σ (upd H p (.lst ys)) {s with heap:=s.heap.update p f,toks:=t}:=by
 let e:(s.heap.update p f).get? p=U {cls:=.type "list",data:=.seq its'.toArray n'}:=by
  rw[UI f ho (by rw[hf]<;>rfl),hf]
 calc I.write (x:=p) (e:=p) (by rw[h];trivial) (.inl Y) (λb u hb q=>(U2 _ _ (Vv hb)).trans q) ⟨_,e⟩ ?_;calc⟨hz,its',n',r,e⟩
def Cb:V->V->V->Hp->(Hp->Prop)->Prop:=λo i v H Q=>∃p xs k j,o=.ref p/\i=.int k/\H p=U (.lst xs)/\iu ↑xs k=U j/\Q (upd H p (.lst (xs.set j v)))
theorem set_list:qC X Cb:=by
 ext pins s σ H o i v ov iv u Q I ro ri rv h;let⟨p,xs,k,j,rfl,rfl,hp,hj,q⟩:=h;cases ro
 let⟨t,rfl⟩:=ri;let⟨ah,n,r,ho,hz⟩:=I.lst hp;let⟨h1,h2,h3,h4⟩:=B_ hj;let hl:=↑r;let hn:=nh
 let I':Inv X pins σ (upd H p (.lst (xs.set j v))) {s with heap:=s.heap.update p (Yc (·.setIfInBounds j u))} :=
  I.ny hp ho (Ja ah n j u) (r.set rv j) (by rw[Ux];calc hz) s.toks
 by_cases h0:0<=k
 .let hk:k.toNat=j:=by
   rw[Z2 h0 h4] at h1;exact TU h1
  exact PySem.W.ki_setAt ho h0 ⋯ (by rw[xu,<-hl];calc h4) (by rw[hk];calc⟨_,I',q⟩)
 .let hk:(k+(ah.toArray.size:Int)).toNat=j:=by
   rw[Zx ⋯ h3] at h1;rw[xu,<-hl];exact TU h1
  calc PySem.W.ki_setBack ho ⋯ (by rw[xu,<-hl];calc h3) ⋯ (by rw[hk];calc⟨_,I',q⟩)
theorem Jb(lo hi:Option Int)(n:Nat):(sliceBounds lo hi Z n).1=((HT.bf n 0 lo:Nat):Int)/\(sliceBounds lo hi Z n).2.1=((HT.bf n n hi:Nat):Int)/\(sliceBounds lo hi Z n).2.2=1:=by
 refine⟨?_,?_,Y⟩
 .cases lo with
  |none=>simp[sliceBounds,HT.bf]
  |some i =>
   erw[sliceBounds,HT.bf,WV,show(1:Int)>0 by decide,Ve]
   by_cases h:i<0
   .erw[h,Ve]<;>symm
   .erw[h,Um]<;>symm
 .cases hi with
  |none=>simp[sliceBounds,HT.bf]
  |some i =>
   erw[sliceBounds,HT.bf,WV,show(1:Int)>0 by decide,Ve]
   by_cases h:i<0
   .erw[h,Ve]<;>symm
   .erw[h,Um]<;>symm
theorem Jc(ah:-B)(lo hi:Option Int):slicePick ah.toArray lo hi Z=((ah.drop (HT.bf ↑ah 0 lo)).take (HT.bf ↑ah ↑ah hi-HT.bf ↑ah 0 lo)).toArray:=by
 let⟨h1,h2,h3⟩:=Jb lo hi ah.toArray.size;unfold slicePick;rw[h1,h2,h3];erw[sliceRange_one,pick_run,xu]<;>rfl
def xa(K:nG):V->Option Int->Option Int->Hp->VK->Prop:=λx lo hi H Q=>∃a xs,x=.ref a/\bq K H a xs/\∀p,H p=Z->Q (.ref p) (upd H p (.lst (cw xs lo hi)))
theorem fF:my X (xa X.K):=by
 ext pins s σ H x v vl vu lo hi sl Q I rx hs pl pu h;let⟨a,xs,rfl,hx,q⟩:=h;cases rx
 let⟨ah,r,ht,hz⟩:=I.list hx;let hlen:=↑r;calc⟨"list",_,XF.lookup,ht.isList.typeIs,?_⟩;calc XJ ht.isList hs pl pu .none (by simp) ?_ (by rw[xu]<;>symm);rw[Jc,<-hlen];calc⟨.ref ⇑s,_,I.laid (t':=s.toks) (o:=.lst (cw xs lo hi)) (λb ob q=>nF _ q) (ug _) ?_,Y,q _ (I.aX.fresh (ug _))⟩;calc⟨T5 (B9 xs lo hi) hz,_,0,(r.drop (HT.bf ↑xs 0 lo)).take (HT.bf ↑xs ↑xs hi-HT.bf ↑xs 0 lo),R0 _ Y⟩
noncomputable def iV:V->Bool
 |.non=>θ
 |.bl _=>θ
 |.int _=>θ
 |.str _=>θ
 |_=>ι
noncomputable def fj:V->V->Bool
 |.non,.non=>θ
 |.bl a,.bl b=>a==b
 |.bl a,.int b=>(if a then 1 else 0)==b
 |.int a,.bl b=>a==(if b then 1 else 0)
 |.int a,.int b=>a==b
 |.str a,.str b=>a==b
 |_,_=>ι
theorem Jd{A:l}{s:L}{y x:V}{u v:B}(ry:RelV y u)(rx:RelV x v)(fy:iV y=θ)(fx:iV x=θ):WU A s u v (fj y x):=by
 cases y with
 |non =>
  cases ry
  cases x with
  |non=>cases rx;exact W7 _
  |bl b=>cases rx;exact YB b
  |int b=>let⟨t,rfl⟩:=rx;exact YM b t
  |str b=>let⟨t,rfl⟩:=rx;exact YN b t
  |_=>exact absurd (show ι=θ from fx) Jn
 |bl a =>
  cases ry
  cases x with
  |non=>cases rx;exact YC a
  |bl b=>cases rx;exact YD a b
  |int b=>let⟨t,rfl⟩:=rx;exact YO a b t
  |str b=>let⟨t,rfl⟩:=rx;exact YQ a b t
  |_=>exact absurd (show ι=θ from fx) Jn
 |int a =>
  let⟨t',rfl⟩:=ry
  cases x with
  |non=>cases rx;exact YR a t'
  |bl b=>cases rx;exact YS a t' b
  |int b=>let⟨t,rfl⟩:=rx;exact Xn a t' b t
  |str b=>let⟨t,rfl⟩:=rx;exact Xj a t' b t
  |_=>exact absurd (show ι=θ from fx) Jn
 |str a =>
  let⟨t',rfl⟩:=ry
  cases x with
  |non=>cases rx;exact YT a t'
  |bl b=>cases rx;exact YU a t' b
  |int b=>let⟨t,rfl⟩:=rx;exact Xk a t' b t
  |str b=>let⟨t,rfl⟩:=rx;exact Ze a t' b t
  |_=>exact absurd (show ι=θ from fx) Jn
 |_=>calc absurd (show ι=θ from fy) Jn
noncomputable def mz(x:V)(u:B):Bool:=match u with
 |.none=>fj .non x
 |.bool b=>fj (.bl b) x
 |.int i _=>fj (.int i) x
 |.str z _=>fj (.str z) x
 |_=>ι
theorem xb{x y:V}{u:B}(r:RelV y u)(f:iV y=θ):mz x u=fj y x:=by
 cases y with
 |non=>cases r;rfl
 |bl b=>cases r;rfl
 |int i=>let⟨t,rfl⟩:=r;rfl
 |str z=>let⟨t,rfl⟩:=r;rfl
 |_=>calc absurd (show ι=θ from f) Jn
theorem xc{A:l}{s:L}{x:V}{v:B}(rx:RelV x v)(fx:iV x=θ):∀{xs:-V}{us:-B},Vals xs us->xs.all iV=θ->∀u∈us,WU A s u v (mz x u)
 |_,_,.nil,_=>λu hu=>by cases hu
 |y::xs,u::us,.cons r t,f=>λu' hu=>by
  rw[XM,Tv] at f;rcases Cy.mp hu with rfl|hu
  .rw[xb r f.1];exact Jd r rx f.1 fx
  .calc xc rx fx t f.2 u' hu
theorem Cc:gF X (.builtin "len") (λxs H Q=>∃p ys,xs=[.ref p]/\(bq X.K H p ys\/bJ X.K H p ys)/\Q (.int ↑ys) H):=by
 ext pins s σ H xs us Q I r h;let⟨p,ys,rfl,hq,q⟩:=h;let⟨u,rfl,rx⟩:=vals1 r;cases rx
 let hn:=nh;rcases hq with hq|hq
 .let⟨ah,r',pl,hz⟩:=I.list hq
  let hlen:=↑r';exact Calls.call_len_list pl.isList (by erw[xu]<;>symm) ⟨.int ↑ys,H,I.tok _,⟨s.toks+1,by rw[xu,hlen]⟩,q⟩
 .let⟨ah,r',pl,hz⟩:=I.tuple hq
  let hlen:=↑r';calc len_tuple pl (by erw[xu]<;>symm) ⟨.int ↑ys,H,I.tok _,⟨s.toks+1,by rw[xu,hlen]⟩,q⟩
theorem Je:gF X (.builtin "len") (λxs H Q=>∃z,xs=[.str z]/\↑z<=sizeLine/\Q (.int ↑z) H):=by
 ext pins s σ H xs us Q I r h;let⟨z,rfl,hz,q⟩:=h;let⟨u,rfl,t,rfl⟩:=vals1 r;let hn:=nh;calc len_str ⋯ ⟨.int ↑z,H,I.tok _,⟨_,Y⟩,q⟩
theorem xf:gF X (.type "list") (λxs H Q=>∃p ys,xs=[.ref p]/\(bq X.K H p ys\/bJ X.K H p ys)/\∀l,H l=Z->Q (.ref l) (upd H l (.lst ys))):=by
 ext pins s σ H xs us Q I r h;let⟨p,ys,rfl,hq,q⟩:=h;let⟨u,rfl,rx⟩:=vals1 r;cases rx
 let fin:∀(ah:-B),Vals ys ah->↑ys<=sizeLine->∀(h':R)(c':Nat),(∀b o',s.heap.get? b=U o'->h'.get? b=U o') →
   h'.get? ⇑s=U {cls:=.type "list",dict:=none,data:=.seq ah.toArray c',slots := #[]}->EP X pins σ Q (.ref ⇑s) {s with heap:=h'}:=λah r' hz h' c' kp e =>
  ⟨.ref ⇑s,_,I.laid (t':=s.toks) kp (ug _) (show bc X.prog X.w _ h' _ (.lst ys) from⟨hz,ah,c',r',e⟩),Y,q _ (I.aX.fresh (ug _))⟩
 rcases hq with hq|hq
 .let⟨ah,r',pl,hz⟩:=I.list hq
  let hlen:=↑r';let⟨o,ho,hc,n,hd⟩:=pl.isList;exact q03 p (.inl Y) ho hc hd (λh' c' kp e=>fin ah r' hz h' c' kp e) (by erw[xu]<;>symm)
 .let⟨ah,r',pl,hz⟩:=I.tuple hq
  let hlen:=↑r';let⟨o,ho,hc,n,hd⟩:=pl;calc q03 p (.inr Y) ho hc hd (λh' c' kp e=>fin ah r' hz h' c' kp e) (by erw[xu]<;>symm)
theorem Cd:gF X (.type "tuple") (λxs H Q=>∃p ys,xs=[.ref p]/\((bq X.K H p ys/\∀l,H l=Z->Q (.ref l) (upd H l (.tup ys)))\/(bJ X.K H p ys/\Q (.ref p) H))):=by
 ext pins s σ H xs us Q I r h;let⟨p,ys,rfl,h⟩:=h;let⟨u,rfl,rx⟩:=vals1 r;cases rx
 rcases h with⟨hq,q⟩|⟨hq,q⟩
 .let⟨ah,r',pl,hz⟩:=I.list hq
  let hlen:=↑r';calc call_tuple_list pl.isList (λh' kp=>?_) (by erw[xu]<;>symm);let I1:Inv X pins σ H {s with heap:=h'}:=I.kept (t':=s.toks) kp
  let I2:Inv X pins σ (upd H h'.objs.size (.tup ys)) {s with heap:=h'.push {cls:=.type "tuple",data:=.seq ah.toArray}} :=
   I1.laid (t':=s.toks) (λb o e=>nF _ e) (ug _) (show bc X.prog X.w _ _ _ (.tup ys) from⟨hz,ah,r',YK _ _⟩)
  exact⟨.ref h'.objs.size,_,I2,Y,q _ (I1.aX.fresh (ug _))⟩
 .let⟨ah,r',pl,hz⟩:=I.tuple hq
  calc call_tuple_same pl ⟨.ref p,H,I,Y,q⟩
def xg(K:nG)(T:String)(x:V)(H:Hp):Prop:=match x with
 |.str _=>T="str"
 |.int _=>T="int"
 |.ref p=>(T="list" /\ ∃xs,bq K H p xs)\/(T="tuple" /\ ∃o,K.lookup p=U o/\o.cls=.type "tuple" /\ o.dict=Z) ∨
   (T="dict" /\ ((∃cj,H p=U (.dK cj))\/∃cj,H p=U (.dT cj)))\/(T="set" /\ ∃S n,H p=U (.set S n))
 |_=>False
theorem Jf{pins:av}{σ:St}{H:Hp}{s:L}{T:String}{x:V}{v:B}(I:Inv X pins σ H s)(r:RelV x v)(ty:xg X.K T x H):
  s.TypeIs v T/\∀a,v=.ref a->∃ob,s.heap.get? a=U ob/\ob.dict=Z:=by
 cases x with
 |str z =>
  let⟨t,rfl⟩:=r;cases(show T="str" from ty)
  exact⟨Xq s z t,λ_ e=>nomatch e⟩
 |int i =>
  let⟨t,rfl⟩:=r;cases(show T="int" from ty)
  exact⟨q0t s i t,λ_ e=>nomatch e⟩
 |ref p =>
  cases r
  rcases ty with⟨rfl,xs,hq⟩|⟨rfl,o,hk,hc,hd⟩|⟨rfl,hk⟩|⟨rfl,S,n,hk⟩
  .let⟨ah,_,pl,_⟩:=I.list hq
   calc⟨pl.isList.typeIs,λa e=>?_⟩;cases e
   let⟨o,n,e,c,hd,_⟩:=pl;exact⟨o,e,hd⟩
  .refine⟨⟨o,I.dU p o hk,hc⟩,λa e=>?_⟩
   cases e
   exact⟨o,I.dU _ o hk,hd⟩
  .let z:∃o,s.heap.get? p=U o/\o.ExactDict:=by
    rcases hk with⟨cj,hk⟩|⟨cj,hk⟩
    .let⟨_,_,_,_,o,_,_,e,ex,_⟩:=I.aX p _ hk
     exact⟨o,e,ex⟩
    .let⟨_,_,_,_,o,_,_,e,ex,_⟩:=I.aX p _ hk
     exact⟨o,e,ex⟩
   let⟨o,e,ex⟩:=z;calc⟨⟨o,e,ex.1⟩,λa e2=>?_⟩;cases e2
   exact⟨o,e,ex.2.1⟩
  .let⟨o,_,_,_,e,ex,_⟩:=I.aX p _ hk
   calc⟨⟨o,e,ex.1⟩,λa e2=>?_⟩;cases e2
   exact⟨o,e,ex.2.1⟩
 |_=>calc Uu ty
def qX(K:nG)(T:String)(r:V->-V->Hp->VK->Prop)(to:TE)(t:TA):TE:=fun σ H Q=>to σ H λx H1=>xg K T x H1/\t σ H1 λxs H2=>r x xs H2 Q
variable{o e:M}{es:-M}{to:TE}{t:TA}{name:J}{apos dr:y}{T id:String}{r:V->-V->Hp->VK->Prop}
theorem pf(pa:PlainAttrs T)(slot:Slot T name id)(xh:typeOf (.builtin id)=pure (.type "method_descriptor"))(hm:w5 X id r)(ho:JE X o to)(ha:JA X (e::es) t)
  (ji:attributeBase o name X.env (eval o X.env)=eval o X.env:=by rfl)
  (nA:((backTo dr (starEach (e::es) X.env)).all (λx => !x.1)&&(backToKw dr (keywordEach [] X.env)).all (λx=>x.1.isSome)
   && g (↑(e::es)+↑([]:-Keyword)+(if([]:-Keyword).isEmpty then 0 else 1)<30))=θ:=by rfl)
  (jj:(apos.endLine==dr.line)=θ:=by rfl) (hs:cN X e es:=by rfl) (gH:dI X dr es:=by rfl) :
  JE X (.Call (.Attribute o name apos) (e::es) [] dr) (qX X.K T r to t):=by
 calc⟨?_⟩;ext pins s σ H Q I h;calc wpAny_Call_method_late ji nA jj Y (bp (ho pins s σ H _ I h) λv s1 ⟨x,H1,I1,r1,ty,q1⟩=>?_);let⟨h1,h2⟩:=Jf I1 r1 ty;calc⟨T,id,pa,slot,xh,h1,h2,?_⟩;let hA:=ha dr pins s1 σ H1 _ I1 q1;rw[hs] at hA ⊢;calc Calls.callWith_builtin (by show(ι||(backTo dr (starEach es X.env)).any (·.1))=ι;rw[gH]<;>rfl) (Calls.evalArgs_plain ?_);calc bp hA λus s2 h0_=>el5 h0_ λvs H2 I2 r2 q2 =>hm pins s2 σ H2 x vs v us Q I2 r1 r2 q2
end
def qZ(X:Cx)(id:String)(r:V->-V->Hp->VK->Prop):Prop :=
 ∀(pins:av)(s:L)(σ:St)(H:Hp)(x:V)(xs:-V)(v:B)(us:-B)(Q:VK),Inv X pins σ H s->RelV x v->Vals xs us->r x xs H Q →
  G (S X.prog X.w) X.A (call (.builtin id) (v::us)) (EP X pins σ Q) X.xe s
theorem Vals.one:∀{x:V}{us:-B},Vals [x] us->∃u,us=[u]/\RelV x u:=by
 ext x us h
 cases h with
 |cons r h=>cases h;calc⟨_,Y,r⟩
theorem Vals.two:∀{x y:V}{us:-B},Vals [x,y] us->∃u v,us=[u,v]/\RelV x u/\RelV y v:=by
 ext x y us h
 cases h with
 |cons r h =>
  let⟨v,rfl,q⟩:=Vals.one h;calc⟨_,_,Y,r,q⟩
theorem Vals.eraseIdx:∀{xs:-V}{us:-B}(i:Nat),Vals xs us->Vals (xs.eraseIdx i) (us.eraseIdx i)
 |_,_,_,.nil=>.nil
 |_,_,0,.cons _ t=>t
 |_,_,i+1,.cons r t=>.cons r (Vals.eraseIdx i t)
theorem Vals.rep{xs:-V}{us:-B}(h:Vals xs us):∀k:Nat,Vals (R5 k xs).flatten (R5 k us).flatten
 |0=>.nil
 |k+1=>by
  rw[Ut,Ut,Vp,Vp];calc Vals.append h (Vals.rep h k)
theorem Ce{α:Type}:∀(l:-α)(i:Nat),↑(l.eraseIdx i)<=↑l
 |[],_=>ug _
 |_::_,0=>q2t _
 |_::r,i+1=>Nat.succ_le_succ (Ce r i)
theorem foldl_rep(ah:-B):∀(k:Nat)(acc:-B),
  q0u (λx1 x2=>x1++x2) acc.toArray (R5 k ah.toArray)=(acc++(R5 k ah).flatten).toArray
 |0,acc=>by simp
 |k+1,acc=>by
  let e:acc.toArray++ah.toArray=(acc++ah).toArray:=by simp
  let e2:(acc++ah)++(R5 k ah).flatten=acc++(R5 (k+1) ah).flatten:=by
   rw[Ut,Vp,U0]
  rw[<-e2,<-foldl_rep ah k (acc++ah),<-e,Ut,Yi]
section
variable{X:Cx}{pins:av}{σ:St}{H:Hp}{s:L}{l b:O}{xs ys zs:-V}
theorem Inv.nB{ah its':-B}{n:Nat}{f:Array B->Array B}{t':Nat}(I:Inv X pins σ H s)(hH:H l=U (.lst xs))
  (e:s.heap.get? l=U {cls:=.type "list",data:=.seq ah.toArray n}) (hf:f ah.toArray=its'.toArray) (hv:Vals ys its') (hz:↑ys<=sizeLine) :
  Inv X pins σ (upd H l (.lst ys)) {s with heap:=s.heap.update l (Yc f),toks:=t'}:=by
 let q:=PySem.IsL.update e f;rw[hf] at q;calc I.write (x:=l) (e:=l) (by rw[hH];calc trivial) (.inl Y) (λb' u hb hu=>(U2 s.heap (Yc f) (Vv hb)).trans hu) ⟨_,q⟩ ?_;calc⟨hz,its',_,hv,q⟩
theorem Inv.bR{ah:-B}{t':Nat}(I:Inv X pins σ H s)(hv:Vals ys ah)(hz:↑ys<=sizeLine):
  Inv X pins σ (upd H ⇑s (.lst ys)) {s with heap:=s.heap.push {cls:=.type "list",data:=.seq ah.toArray},toks:=t'} :=
 I.laid (λ_ _ q=>nF _ q) (ug _) ⟨hz,ah,0,hv,R0 _ Y⟩
theorem Inv.fresh(I:Inv X pins σ H s):H ⇑s=Z:=I.aX.fresh (ug _)
theorem Inv.gJ(I:Inv X pins σ H s)(hH:H l=U (.lst xs)):↑xs<=sizeLine/\∃(ah:-B)(n:Nat),Vals xs ah/\↑xs=↑ah/\s.heap.get? l=U {cls:=.type "list",data:=.seq ah.toArray n}:=by
 let⟨z,ah,n,r,e⟩:=I.aX l _ hH;calc⟨z,ah,n,r,↑r,e⟩
theorem Cf{n:Nat}(h:n<=sizeLine):Vs n=ι:=by
 unfold Vs;calc TH ⋯
end
section
variable{X:Cx}
def Cg:V->-V->Hp->VK->Prop:=λx vs H Q=>∃l xs y,x=.ref l/\vs=[y]/\H l=U (.lst xs)/\↑xs<sizeLine/\Q .non (upd H l (.lst (xs++[y])))
theorem Ci:qZ X "list.append" Cg:=by
 ext pins s σ H x vs v us Q I rx rv h;let⟨l,xs,y,rfl,rfl,hH,hz,q⟩:=h;cases rx
 let⟨u,rfl,ru⟩:=rv.one;let⟨z,ah,n,r,hl,e⟩:=I.gJ hH;calc Vt F.slot_list_append ⟨_,e,Y⟩ F.entry_list_append (F.args_list_append_2 _ _) (PySem.list_append l ah.toArray n u (by rw[xu];symm)) ⟨e,?_⟩;calc⟨.non,_,I.nB (its':=ah++[u]) hH e (by simp) (r.append (.cons ru .nil)) ?_,Y,q⟩;rw[Cv,T9];symm
def Cj:V->-V->Hp->VK->Prop:=λx vs H Q=>∃l b xs zs,x=.ref l/\vs=[.ref b]/\H l=U (.lst xs)/\H b=U (.lst zs)/\↑xs+↑zs<=sizeLine/\Q .non (upd H l (.lst (xs++zs)))
theorem Jg:qZ X "list.extend" Cj:=by
 ext pins s σ H x vs v us Q I rx rv h;let⟨l,b,xs,zs,rfl,rfl,hH,hB,hz,q⟩:=h;cases rx
 let⟨u,rfl,ru⟩:=rv.one;cases ru
 let⟨z,ah,n,r,hl,e⟩:=I.gJ hH;let⟨z2,bo,n2,r2,ph,e2⟩:=I.gJ hB;let iU:ah.toArray.size+bo.toArray.size<=sizeLine:=by rw[xu,xu];symm
 let jk:¬ (!ah.toArray.isEmpty&&Vs (ah.toArray.size+bo.toArray.size))=θ:=by
  rw[Cf iU,Wv];exact Jn
 refine Vt F.slot_list_extend ⟨_,e,Y⟩ F.entry_list_extend (F.args_list_extend_2 _ _)
  (AutoSeq1.list_extend_list_list_0 l ah.toArray n b bo.toArray n2 jk (by rw[xu];symm) ⋯) ⟨e,e2,?_⟩
 calc⟨.non,_,I.nB (its':=ah++bo) hH e (by simp) (r.append r2) ?_,Y,q⟩;rw[Cv];symm
def Cm:V->-V->Hp->VK->Prop:=λx vs H Q=>∃l xs i k y,x=.ref l/\vs=[.int i]/\H l=U (.lst xs) /\ -(2 ^ 63)<=i/\i<2 ^ 63/\seqIndex? i ↑xs=U k/\xs[k]?=U y/\Q y (upd H l (.lst (xs.eraseIdx k)))
theorem Jh:qZ X "list.pop" Cm:=by
 ext pins s σ H x vs v us Q I rx rv h;let⟨l,xs,i,k,y,rfl,rfl,hH,h1,h2,hk,hy,q⟩:=h;cases rx
 let⟨u,rfl,ru⟩:=rv.one;let⟨t,rfl⟩:=ru;let⟨z,ah,n,r,hl,e⟩:=I.gJ hH;let⟨w,hw,qW⟩:=r.get hy
 refine Vt F.slot_list_pop ⟨_,e,Y⟩ F.entry_list_pop (F.args_list_pop_2 _ _)
  (MeetsSeq.list_pop_at l ah.toArray n i t k w (q0v h1 h2) (by rw[xu,<-hl];calc hk) (by rw[<-TM];calc hw) (by rw[xu];symm)) ⟨e,?_⟩
 refine⟨y,_,I.nB (its':=ah.eraseIdx k) hH e ?_ (r.eraseIdx k) ?_,qW,q⟩
 .show ah.toArray.eraseIdxIfInBounds k=(ah.eraseIdx k).toArray
  rw[List.eraseIdxIfInBounds_toArray]
 .let:=Ce xs k
  symm
def xi:R2:=λx y H Q=>∃l b xs zs,x=.ref l/\y=.ref b/\H l=U (.lst xs)/\H b=U (.lst zs)/\↑xs+↑zs<=sizeLine/\∀p,H p=Z->Q (.ref p) (upd H p (.lst (xs++zs)))
theorem ue:cP X (binaryOp .Add) xi:=by
 ext pins s σ H x y v u Q I rx ry h;let⟨l,b,xs,zs,rfl,rfl,hH,hB,hz,q⟩:=h;cases rx
 cases ry
 let⟨z,ah,n,r,hl,e⟩:=I.gJ hH;let⟨z2,bo,n2,r2,ph,e2⟩:=I.gJ hB;calc PySem.P.add_list e e2 ?_ (by rw[xu,xu];symm);let ea:ah.toArray++bo.toArray=(ah++bo).toArray:=by simp
 rw[ea];calc⟨.ref _,_,I.bR (t':=s.toks) (r.append r2) (by rw[Cv];symm),Y,q _ I.fresh⟩
def xj:R2:=λx y H Q=>∃l k xs,x=.ref l/\y=.int k/\H l=U (.lst xs) /\ -(2 ^ 63)<=k/\k<2 ^ 63/\↑xs*k.toNat<=sizeLine ∧
 ∀p,H p=Z->Q (.ref p) (upd H p (.lst (R5 k.toNat xs).flatten))
theorem len_rep{α:Type}(xs:-α)(k:Nat):(R5 k xs).flatten.length=k*↑xs:=by
 induction k with
 |zero=>simp
 |succ k ih=>rw[Ut,Vp,Cv,ih,Nat.succ_mul,Nat.add_comm]
theorem Ji:cP X (binaryOp .Mult) xj:=by
 ext pins s σ H x y v u Q I rx ry h;let⟨l,k,xs,rfl,rfl,hH,h1,h2,hz,q⟩:=h;cases rx
 let⟨t,rfl⟩:=ry;let⟨z,ah,n,r,hl,e⟩:=I.gJ hH;let hlen:ah.toArray.size*k.toNat<=sizeLine:=by rw[xu,<-hl];exact hz
 let xk:¬ ah.toArray.size*k.toNat>(2 ^ 63-1) / 8:=by
  let:(sizeLine:Nat)<=(2 ^ 63-1) / 8:=by decide
  symm
 let xl:¬ (!Builtin.List.listFitsIndex k)=θ:=by
  rw[q0v h1 h2];exact Jn
 let jk:¬ Vs (ah.toArray.size*k.toNat)=θ:=by
  rw[Cf hlen];exact Jn
 let xm:q0u (λx1 x2=>x1++x2) #[] (R5 (if ah.toArray.isEmpty=θ then 0 else k.toNat) ah.toArray)=(R5 k.toNat ah).flatten.toArray:=by
  let f0:∀m:Nat,q0u (λx1 x2=>x1++x2) #[] (R5 m ah.toArray)=(R5 m ah).flatten.toArray:=λm=>by
   let:=foldl_rep ah m [];rw[Yl] at this;exact this
  rw[f0]
  cases ah with
  |nil=>simp
  |cons a r'=>rw[To (by simp)]
 refine wpAny_binaryOp_repeat_ref (T:="list") (U:="int") (by decide) ⟨_,e,Y⟩ (λs'=>q0t s' k t) noFill_list_mul F.fills_int_mul Z_ repeat_list F.slot_int_index.lookup
  (Vt Z_ (q0t s k t) F.entry_int_rmul (F.args_int_rmul_2 _ _) (int___rmul___int_list k t l ah.toArray n)
   ⟨e,Y,⟨_,e,Y⟩,Vt F.slot_list_mul ⟨_,e,Y⟩ F.entry_list_mul (F.args_list_mul_2 _ _) (AutoListH.list___mul___list_int_3 l ah.toArray n k t xl xk jk) ⟨e,?_⟩⟩)
 rw[xm];calc⟨.ref _,_,I.bR (t':=s.toks) (r.rep k.toNat) (by rw[len_rep,q1q];calc hz),Y,q _ I.fresh⟩
end
section
variable{prog:q}{w:I}{A:l}{E:aT}{s:L}
end
section
variable{X:Cx}
end
end L2
namespace Att
open PySem PySem.W PySem.Calls PyProof.Rows
theorem dX{P:Params}{h:R}:∀(ns:-Int)(vs:-B),WellAll P h vs (ns.map WData.int)->IntsAre vs ns:=by
 ext ns
 induction ns with
 |nil =>
  ext vs w;rw[VH] at w;cases w
  exact .nil
 |cons n ns ih =>
  ext vs w;rw[TJ] at w
  cases w with
  |cons a b =>
   cases a
   calc .cons _ _ (ih _ b)
theorem iw{l:OpenLaw}{n:Nat}(hn:l.most=U n){P:Params}{h:R}{args:-WData}{vals:-B}
  (kN:l.row.toRowW.claim.pre args=θ) (xn:WellAll P h vals args) :
  ∃a vs ns,vals=[TX a]/\args=[WData.list (ns.map WData.int)]/\h.get? a=U {cls:=.type "list",data:=.seq vs.toArray}/\IntsAre vs ns/\ns.length<=n:=by
 let Jj:WShape.hasAll [] args [.list .int]=θ:=(pre_splitW kN).1;let hc:l.pre.holds [] {args:=args}=θ:=(pre_splitW kN).2;let⟨d,r,rfl,h1,h2⟩:=hasAllW_cons Jj;obtain rfl:=hasAllW_nil h2;let⟨xs,rfl,h3⟩:=hasW_list h1;let⟨ns,rfl⟩:=items_int h3
 let hlen:ns.length<=n:=by
  unfold OpenLaw.pre at hc
  let h4:(WTm.not (.lt (.lit (.int (n:Int))) (.len (.arg 0)))).holds [] {args:=[.list (ns.map .int)]}=θ:=by
   let h4:=(holds_andW hc).1;rw[hn] at h4;exact h4
  let h5:=condW_of h4 (w_not (w_lt w_lit (w_len_list (w_arg Y))));rw[pj] at h5;calc XT λq=>?_;let q':(n:Int)<((ns.length:Nat):Int):=by symm
  first
   |(rw[Tt q'] at h5;calc absurd h5 (by decide))
   |(simp at h5;symm)
 cases xn with
 |cons w1 w2 =>
  cases w2
  cases w1 with
  |list ho eT=>calc⟨_,_,ns,Y,Y,ho,dX ns _ eT,hlen⟩
theorem iy(l:OpenLaw)(args:-WData):l.row.toRowW.claim.post args (.bool θ) args=θ :=
 postW_of (r:=l.row.toRowW) (X:=(θ==θ))
  (show WShape.has [] (.bool θ) .bool=θ by first|rfl|decide|simp[WShape.has,WShape.arms,WShape.armsAll])
  (show(WTm.eq .res (.lit (.bool θ))).value [] {args:=args,res:=U (.bool θ),after:=args}=U (.bool (θ==θ)) from w_eq_bool (w_res Y) w_lit) Y
theorem fX{l:OpenLaw}{n:Nat}{q:ψ}{loose:-J}{XP:(J->Option B)->R->Prop}{YP:I->R->Prop}{d:DefRec}
  (hn:l.most=U n) (q_:d.params.defaults=[])
  (call:∀(w:I)(s₀ s₁:L)(mg mb:J->Option B)(fa:O)(o:Γ)(pm cd doc:B)(a:O)(vs:-B)(ns:-Int),
   Ground q loose [] XP w s₀ mg mb s₁.heap->YP w s₁.heap →
   s₁.heap.get? fa=U o->o.data=.func (docDef d.name d.params d.body d.scope pm cd doc)->s₁.heap.CodeRec cd d.name->mg d.name=U (.ref fa) →
   s₁.heap.get? a=U {cls:=.type "list",data:=.seq vs.toArray}->IntsAre vs ns->ns.length<=n->s₁.gens = #[] →
   codeAny (S l.prog w) callerA (.call (.ref fa) ⟨[.ref a],[]⟩) (λr s'=>r=.ok (.ret (.bool θ))/\OldK s₁.heap s'.heap/\s'.os=s₁.os/\AllBare s'.gens) s₁) :
  WalkO q loose XP YP l.row.toRowW d [] (λf vs=>q0x f vs):=by
 ext w s₀ s₁ mg mb G Y fa o pm cd doc dV kV ho hd fW hD kO hg args vals as kN Jk RY xn RZ;obtain rfl:dV=.none:=Dflts.none hD q_;obtain rfl:kV=.none:=Dflts.noKw hD;let⟨a,vs,ns,rfl,rfl,nD,hints,hlen⟩:=iw hn kN xn;calc enter_call (Xd (call w s₀ s₁ mg mb fa o pm cd doc a vs ns G Y ho (fd_plain hd) fW kO nD hints hlen hg) λr s' hq=>?_);let⟨rfl,h2,h3,h4⟩:=hq;calc⟨.inl ⟨.bool θ,.bool θ,[],rfl,λ_=>rfl,.bool θ,iy l _,λ_=>⟨Zz,λ_ hm=>(nomatch hm)⟩⟩,h2,h3,h4⟩
section
variable{prog:q}{w:I}{A:l}{E:aT}{s:L}{K:Frag}
end
end Att
namespace L2
open PySem PySem.Spec PyProof.Rows
theorem Co:∀{vs:-B}{ns:-Int},IntsAre vs ns->Vals (ns.map V.int) vs
 |_,_,.nil=>.nil
 |_,_,.cons n t h=>.cons ⟨t,Y⟩ (Co h)
def nE(H:Hp):Prop:=∀b,H b=Z\/∃o xs,H b=U (.frz o (.lst xs))
theorem Jl{P:ψ}{w:I}{K:nG}{mg mb:J->Option B}{CX:hV}{k:Nat}{fa a:O}{fd:FuncData}{x:J}{sp:Sp}{s₁:L}{vs:-B}{ns:-Int}
  (KX:K.In s₁.heap) (Cp:s₁.heap.Ns mainGlobals mg) (hb:s₁.heap.Ns builtinsNs mb) (Jm:∀x:J,x≠"__name__" -> mb x=bootBuiltins x) (xo:s₁.heap.NoLimit) (hg:s₁.gens = #[])
  (ha:s₁.heap.get? a=U {cls:=.type "list",data:=.seq vs.toArray}) (hi:IntsAre vs ns) (hl:ns.length<=sizeLine) (hr:bx k callerA)
  (F:∀base:R,K.In base->base.Ns mainGlobals mg->bP P w K mg base CX k fa fd [x] sp) (rf:∀(s:L)(u:B),BindsTo s fd ⟨[u],[]⟩ [(x,u)])
  (jX:∀H:Hp,nE H->bq K H a (ns.map V.int)->sp [.ref a] H (λv _=>v=.bl θ) λ_ _ _=>False)
  (xp:∀H e s',CX [] H s₁ (λ_ _ _=>False) e s'->False) :
  codeAny (S P w) callerA (.call (.ref fa) ⟨[.ref a],[]⟩) (λr s'=>r=.ok (.ret (.bool θ))/\OldK s₁.heap s'.heap/\s'.os=s₁.os/\AllBare s'.gens) s₁:=by
 let rv:=Co hi;let xq:=↑hi
 let core:∀H:Hp,nE H->bq K H a (ns.map V.int)->cK P w H s₁.heap->(∀b,H b≠Z->b=a)->(H a≠Z->K.lookup a=Z) →
   codeAny (S P w) callerA (.call (.ref fa) ⟨[.ref a],[]⟩) (λr s'=>r=.ok (.ret (.bool θ))/\OldK s₁.heap s'.heap/\s'.os=s₁.os/\AllBare s'.gens) s₁:=by
  ext H hO hS aX hA hK;let hW:∀{b:O}{o:f},s₁.heap.get? b=U o->H b=Z->(fB s₁.heap H).get? b=U o:=λe n=>Hv e n
  let qN:∀{b:O}{o:f}{es:Array DictEntry}{ep:Nat},s₁.heap.get? b=U o->o.data=.dict es ep->H b=Z:=λ{b o es ep} e d=>by
   cases q:H b with
   |none=>rfl
   |some u =>
    let e':b=a:=hA b (by rw[q];simp);subst e';rw[ha] at e;cases e;let d':Data.seq vs.toArray _=Data.dict es ep:=d;cases d'
  let uf:∀{b:O}{m:J->Option B},s₁.heap.Ns b m->(fB s₁.heap H).Ns b m:=λ{b m} ⟨o,es,ep,e,d,r⟩=>⟨o,es,ep,hW e (qN e d),d,r⟩
  let Cq:K.In (fB s₁.heap H):=λb o e=>hW (KX b o e) (by
   cases q:H b with
   |none=>rfl
   |some u =>
    let e':b=a:=hA b (by rw[q];simp);subst e'
    rw[hK (by rw[q];simp)] at e;cases e)
  let hM:Mod K mg (fB s₁.heap H):=⟨Cq,uf Cp,⟨mb,uf hb,Jm⟩,let⟨mc,h1,h2⟩:=xo;⟨mc,uf h1,h2⟩⟩;let e0:kH P w K mg (fB s₁.heap H) callerA [] s₁ H:=⟨Y,hM,λb o e=>Hw e,Nat.le_of_eq (Hu _ _),trivial,λb hb=>absurd (show b∈([]:-O) from hb) (by simp),aX,.of_eq hg⟩;refine Xd ((F _ Cq (uf Cp)).run callerA [] s₁ H ⟨[.ref a],[]⟩ [.ref a] [.ref a] _ _ hr e0 (rf s₁ (.ref a)) (.cons Y .nil) (jX H hO hS)) λr s' h=>?_
  cases r with
  |error e=>exact(xp H e s' h).elim
  |ok fl =>
   cases fl with
   |next=>exact Uu h
   |brk=>exact Uu h
   |cont=>exact Uu h
   |ret u =>
    let⟨v,H',os,bare,un,xr,r',q⟩:=h;let q':v=.bl θ:=q;subst q';obtain rfl:u=VW θ:=r';refine⟨Y,OldK.of_keep λb o e=>?_,os,bare⟩
    cases q:H b with
    |none=>exact un.keep b o e q (by ext z;calc absurd (show b∈([]:-O) from z) (by simp)) (by simp)
    |some u =>
     rcases hO b with z|⟨ob,xs,z⟩
     .rw[q] at z;cases z
     .let z2:=un.cM b ob _ z
      let⟨e1,_⟩:=aX b _ z;let⟨e2,_⟩:=xr b _ z2;rw[e] at e1;cases e1;exact e2
 cases hk:K.lookup a with
 |some o =>
  let e:=KX a o hk;rw[ha] at e;cases e
  refine core (λ_=>Z) (λ_=>.inl Y) (.inr ⟨_,vs.toArray,_,hk,Y,Y,Y,by rw[xu,xq];calc hl,by simpa using rv⟩) (λb u z=>by let z':(Z:Option HO)=U u:=z;cases z') (λb z=>absurd Y z) λz=>absurd Y z
 |none =>
  refine core (λb=>if b=a then U (.frz {cls:=.type "list",data:=.seq vs.toArray} (.lst (ns.map V.int))) else Z) (λb=>?_) (.inl (.inr ⟨{cls:=.type "list",data:=.seq vs.toArray},Tw Y⟩)) (λb u z=>?_) (λb z=>?_) λ_=>hk
  .by_cases hb:b=a
   .exact .inr ⟨_,_,Tw hb⟩
   .exact .inl (To hb)
  .by_cases hb:b=a
   .let z':=(Tw hb).symm.trans z
    cases z'
    subst hb;exact⟨ha,by rw[pj];calc hl,vs,_,rv,ha⟩
   .let z':=(To hb).symm.trans z
    cases z'
  .by_cases hb:b=a
   .exact hb
   .calc absurd (To hb) z
theorem Cr{l:q0a}{n k:Nat}{q:ψ}{loose:-J}{XP:(J->Option B)->R->Prop}{YP:I->R->Prop}{d:DefRec}{K:Params->nG}{CX:I->hV}{sp:I->Sp}{x:J}
  (hn:l.most=U n) (xt:n<=sizeLine) (q_:d.params.defaults=[]) (hr:bx k callerA)
  (hY:∀(w:I)(h:R),YP w h->(K w.params).In h)
  (F:∀(w:I)(mg:J->Option B)(fa:O)(h:R),(K w.params).In h->h.Ns mainGlobals mg->mg d.name=U (.ref fa) →
   ∃fd:FuncData,(∀(s:L)(u:B),BindsTo s fd ⟨[u],[]⟩ [(x,u)]) ∧
    ∀base:R,(K w.params).In base->base.Ns mainGlobals mg->bP l.prog w (K w.params) mg base (CX w) k fa fd [x] (sp w))
  (jX:∀(w:I)(H:Hp)(a:O)(ns:-Int),ns.length<=n->nE H->bq (K w.params) H a (ns.map V.int)->sp w [.ref a] H (λv _=>v=.bl θ) λ_ _ _=>False)
  (xp:∀(w:I)(H:Hp)(s:L)(e:B)(s':L),CX w [] H s (λ_ _ _=>False) e s'->False) :
  PySem.W.WalkO q loose XP YP l.row.toRowW d [] (λf vs=>q0x f vs):=by
 calc Att.fX hn q_ λw s₀ s₁ mg mb fa o pm cd doc a vs ns G Y ho hd fW kO nD hints hlen hg=>?_;let KX:=hY w _ Y;let⟨fd,hb,hF⟩:=F w mg fa _ KX G.T.g kO;calc Jl KX G.T.g G.T.b G.T.builtins G.T.nolimit hg nD hints (T5 hlen xt) hr hF hb (λH hO hS=>jX w H a ns hlen hO hS) λH e s'=>xp w H s₁ e s'
noncomputable def kQ(s:o):Arguments:=match s with
 |.FunctionDef _ a _ _ _ _ _ _ _ _=>a
 |_=>{posonlyargs:=[],args:=[],vararg:=none,kwonlyargs:=[],kw_defaults:=[],kwarg:=none,defaults:=[]}
noncomputable def d8(s:o):-o:=match s with
 |.FunctionDef _ _ b _ _ _ _ _ _ _=>b
 |_=>[]
noncomputable def cQ(s:o):u:=match s with
 |.FunctionDef _ _ _ _ _ _ sc _ _ _=>sc
 |_=>{kind:=.function,names:=[],isGenerator:=false,isCoroutine:=false}
abbrev fP:hV:=λ_ _ _ _ _ _=>False
abbrev E0:XK:=λ_ _ _=>False
theorem uh{X:Cx}:nk fP X E0:=λ_ _ _ _ _ _ _ h=>h.elim
structure fY(K:nG)(x qual:J)(st:o)(f:O)(fd:FuncData):Prop where
 ex:∃(oc:B)(od:Option O)(kV doc pm:B)(an:Option O)(bh ct:B)(kJ:Array (Option B)),
  fd=U_ x qual (kQ st) (d8 st) (cQ st) .none kV doc pm an bh ct/\K.lookup f=U ⟨oc,od,.func fd,kJ⟩/\Xm K bh qual=θ
 kp:UK K (.ref f)=θ
section
variable{P:q}{w:I}{K:nG}{mg:J->Option B}{base:R}
theorem fY.ui{x qual:J}{st:o}{f:O}{fd:FuncData}{N ps:-J}{k:Nat}{sp:Sp}(F:fY K x qual st f fd)(S:kI N ps (cQ st))(len:∀vs H Q E,sp vs H Q E->↑vs=↑ps)
  (eA:∀(bh:B)(A:l)(outer:-Ζ)(s:L)(H:Hp)(vs:-V)(Q:VK)(E:XK),bx k (A.deeper (envOfC qual (cQ st) ⇑s f bh))->sp vs H Q E →
   ∃t,bZ (bt fP P w K mg base N qual (cQ st) f bh A outer s H E).mi (d8 st) t/\t {nx:=λ_ H'=>Q .non H',rt:=Q} (start N vs) H):bP P w K mg base fP (k+1) f fd ps sp:=by
 let⟨oc,od,kV,doc,pm,an,bh,ct,kJ,rfl,lk,fW⟩:=F.ex;calc B4 lk fW S len λA outer s H vs Q E hr jX=>?_;let⟨t,h,q⟩:=eA bh A outer s H vs Q E hr jX;calc⟨t,h.mi,q⟩
theorem fY.binds{x qual:J}{st:o}{f:O}{fd:FuncData}{ps:-J}(F:fY K x qual st f fd)
  (h:∀(kV doc pm:B)(an:Option O)(bh ct:B)(us:-B),↑us=↑ps->bindArgs (U_ x qual (kQ st) (d8 st) (cQ st) .none kV doc pm an bh ct) ⟨us,[]⟩=pure (ps.zip us)):Binds K fd ps []:=by
 let⟨oc,od,kV,doc,pm,an,bh,ct,kJ,rfl,lk,fW⟩:=F.ex;calc .all (h kV doc pm an bh ct)
theorem Js{x qual:J}{st:o}{f:O}{oc:B}{od an:Option O}{kJ:Array (Option B)}{kV doc pm bh ct:B}(l:K.lookup f=U ⟨oc,od,.func (U_ x qual (kQ st) (d8 st) (cQ st) .none kV doc pm an bh ct),kJ⟩)
  (c:Xm K bh qual=θ) (k:UK K (.ref f)=θ):fY K x qual st f (U_ x qual (kQ st) (d8 st) (cQ st) .none kV doc pm an bh ct):=⟨⟨oc,od,kV,doc,pm,an,bh,ct,kJ,Y,l,c⟩,k⟩
end
theorem rg{n:Nat}(h:n<=1000):n<sizeLine:=Xg h (by decide)
section
variable{X:Cx}
theorem jv(i:Nat){x:J}{pos:y}(hN:X.N[i]?=U x:=by rfl)(hv:o7 X.env.scope x:=by first|exact Wm Y|exact ZN (Wm Y)|calc ZN (ZN Y))(hd:bw x:=by decide)
  (fW:(x==("__classdict__" : J))=ι:=by decide):JE X (.Name x pos) (fE i):=Bv hN hv hd fW
end
theorem nJ{A B:Prop}(h:B):if ι=θ then A else B:=by
 rw[To Jn];calc h
theorem xv{A B:Prop}(h:A):if θ=θ then A else B:=by
 rw[Tw Y];calc h
theorem xw{c A B:Prop}[Decidable c](h1:c->A)(h2:¬ c->B):if c then A else B:=by
 by_cases h:c
 .rw[Tw h]
  exact h1 h
 .rw[To h]
  calc h2 h
theorem Jt{c A B:Prop}[Decidable c](hc:c)(h:B):if(!g c)=θ then A else B:=by
 rw[Tt hc];calc nJ h
def aw(H H':Hp):Prop:=∀b o,H b=U o->H' b=U o
theorem aw.trans{H H1 H2:Hp}(a:aw H H1)(b:aw H1 H2):aw H H2:=λc o h=>b c o (a c o h)
theorem aw.free{H H':Hp}(e:aw H H'){l:O}(h:H' l=q2v):H l=q2v:=by
 cases q:H l with
 |none=>rfl
 |some o =>
  rw[e l o q] at h;cases h
theorem aw.seq{K:nG}{H H':Hp}{a:O}{xs:-V}(e:aw H H')(h:bq K H a xs):bq K H' a xs:=by
 rcases h with(h|⟨o,h⟩)|h
 .exact .inl (.inl (e _ _ h))
 .exact .inl (.inr ⟨o,e _ _ h⟩)
 .calc .inr h
theorem Ju{prog:q}{w:ω}{A:l}{R:Result->L->Prop}{s:L}{elt target iter:M}{ifs:-M}{scope:u}{pos:y}{it acc:B}{env:t}(I:Nat->L->Prop)
  (turn:∀n s,I n s->G (S prog w) A (pyNext it) (λr s₁=>match r with
   |none=>R (.ok .next) s₁
   |some v=>G (S prog w) A (letOwnedTupleGo target it v) (λ_ s₂=>G (S prog w) A (assign target env v) (λ_ s₃ =>
     G (S prog w) A (forIn ifs θ λc r=>if r=θ then do let ok <- isTrue c env (eval c env);pure (UO ok) else pure (UO r)) (λok s₄ =>
      if ok=θ then G (S prog w) A (eval elt env) (λx s₅ =>
       G (S prog w) A (call (.builtin "list.append") [acc,x]) (λ_ s₆=>∃m,m<n/\I m s₆) (λ_ _=>False) s₅) (λ_ _=>False) s₄
      else ∃m,m<n/\I m s₄) (λ_ _=>False) s₃) (λ_ _=>False) s₂) (λ_ _=>False) s₁) (λ_ _=>False) s)
  (n:Nat) (h:I n s) :
  codeAny (S prog w) A (.compLoop (.ListComp elt [⟨target,iter,ifs,0⟩] scope pos) 0 it acc env) R s:=by
 calc codeAny_loop Y I (λn s hI=>?_) n h;show G _ A ((compTurn (.ListComp elt [⟨target,iter,ifs,0⟩] scope pos) 0 it acc env).onRaise (λx=>do noteFrame x env;theTreesLotGoes x)) _ _ s;calc wpAny_noted ?_;rw[compTurn_list];refine kb (V_ (kb (UP (turn n s hI) (λr s₁ h₁=>?_) λ_ _ h'=>Uu h')))
 cases r with
 |none=>exact qY h₁
 |some v =>
  calc kb (UP h₁ (λ_ s₂ h₂=>?_) λ_ _ h'=>Uu h');refine kb (UP h₂ (λ_ s₃ h₃=>kb (UP h₃ (λok s₄ h₄=>?_) λ_ _ h'=>Uu h')) λ_ _ h'=>Uu h')
  cases ok with
  |false=>exact qY ⟨Y,h₄⟩
  |true =>
   calc kb (kb (UP h₄ (λx s₄ h₄=>kb (UP h₄ (λ_ s₅ h₅=>qY (qY ⟨Y,h₅⟩)) λ_ _ h'=>Uu h')) λ_ _ h'=>Uu h'))
theorem xx{env:t}:∀(names:-(J×NameKind))(acc:-(J×O)),(∀y∈names,y.2=.free->∃c,env.cells.lookup y.1=U c)->(∀x c,acc.lookup x=U c->env.cells.lookup x=U c) →
  ∃cl,(forIn names acc (λ(x:Str×NameKind) (cs:-(Str×Addr))=>if x.2==UW then cellOf env x.1 >>= λa=>pure (UO ((x.1,a)::cs)) else pure (UO cs)):Sem (-(J×O)))=pure cl ∧
   (∀x c,cl.lookup x=U c->env.cells.lookup x=U c)/\(∀y∈names,y.2=.free->∃c,cl.lookup y.1=U c)/\(∀x c,acc.lookup x=U c->∃c,cl.lookup x=U c)
 |[],acc,_,h2=>⟨acc,Y,h2,λ_ hy=>absurd hy (by simp),λx c e=>⟨c,e⟩⟩
 |(n,k)::r,acc,h1,h2=>by
  rw[Ym]
  by_cases hk:k=.free
  .subst hk
   let⟨c,hc⟩:=h1 (n,.free) Cu Y;let me:env.cells.lookup n=U c:=hc;let ec:cellOf env n=pure c:=by unfold cellOf;rw[me]
   let gK:∀x d,((n,c)::acc).lookup x=U d->env.cells.lookup x=U d:=λx d e=>by
    rw[TQ] at e
    cases q:x==n with
    |true =>
     rw[q] at e;cases e
     rw[TF q];exact me
    |false =>
     rw[q] at e;exact h2 x d e
   let⟨cl,e,p1,p2,p3⟩:=xx r ((n,c)::acc) (λy hy=>h1 y (Jp _ hy)) gK;refine⟨cl,?_,p1,λy hy hf=>?_,λx d e=>?_⟩
   .dsimp only
    rw[Tw (by decide),ec];exact e
   .rcases Cy.mp hy with rfl|hy
    .exact p3 n c (by simp)
    .exact p2 y hy hf
   .cases q:x==n with
    |true=>exact p3 x c (by rw[TQ,q])
    |false=>exact p3 x d (by rw[TQ,q];calc e)
  .let⟨cl,e,p1,p2,p3⟩:=xx r acc (λy hy=>h1 y (Jp _ hy)) h2
   refine⟨cl,?_,p1,λy hy hf=>?_,p3⟩
   .dsimp only
    rw[To hk⁻¹];exact e
   .rcases Cy.mp hy with rfl|hy
    .exact absurd hf hk
    .calc p2 y hy hf
theorem Jv{scope:u}{env:t}(h:∀y∈scope.names,y.2=.free->∃c,env.cells.lookup y.1=U c):
  ∃cl,closureFor scope env=pure cl/\(∀x c,cl.lookup x=U c->env.cells.lookup x=U c)/\∀y∈scope.names,y.2=.free->∃c,cl.lookup y.1=U c:=by
 let⟨cl,e,p1,p2,_⟩:=xx scope.names [] h (λx c e=>by simp at e);calc⟨cl,?_,p1,p2⟩;let e':closureFor scope env=(forIn scope.names ([]:-(J×O)) (λ(x:Str×NameKind) (cs:-(Str×Addr))=>if x.2==UW then cellOf env x.1 >>= λa=>pure (UO ((x.1,a)::cs)) else pure (UO cs)):Sem (-(J×O))) >>= pure:=Y;rw[e',e];rfl
structure BD where
 cl:-(J×O)
 C:O
 s:L
 H:Hp
 fp:-O
@[reducible] noncomputable def bT (X:Cx) (scope:u) (Nb:-J) (d:BD):Cx where
 prog:=X.prog
 w:=X.w
 K:=X.K
 mg:=X.mg
 base:=X.base
 A:=X.A
 N:=Nb
 s₀:=d.s
 H₀:=d.H
 env:=compEnvC scope d.cl d.C X.env
 outer:=X.stack
 stack:=X.stack
 ex:=d.fp
 fn:=λx=>g (scope.names.lookup x=U .cell)
 calm:=X.calm
 pn:=[]
 xe:=λ_ _=>False
noncomputable def jZ(cp:-(Option Nat))(σ:St):St:=cp.map λo=>match o with
 |some i=>(σ[i]?).join
 |none=>Z
noncomputable def j2(N:-J)(Cz scope:u)(Nb:-J)(cp:-(Option Nat)):Bool :=
 (scope.names.all λy=>(g (y.2≠.cell)||g (scope.names.lookup y.1=U .cell))&&(g (y.2≠.local)||g (scope.names.lookup y.1=U .local))&&(g (y.2≠.free)||g (Cz.names.lookup y.1=U .cell)||g (Cz.names.lookup y.1=U .free))) &&
 g (↑cp=↑Nb)&&(cp.zip Nb).all λz=>match z.1 with
  |none=>θ
  |some i=>g (N[i]?=U z.2)&&g (scope.names.lookup z.2=U .free)
structure uj(X:Cx)(scope:u)(Nb:-J)(cp:-(Option Nat)):Prop where
 kind:scope.kind=.function
 cell:∀y∈scope.names,y.2=.cell->scope.names.lookup y.1=U .cell
 names:∀y∈scope.names,y.2=.local->scope.names.lookup y.1=U .local
 free:∀y∈scope.names,y.2=.free->(X.env.kindOf y.1=U .cell\/X.env.kindOf y.1=U .free)
 len:↑cp=↑Nb
 xy:∀(j i:Nat)(x:J),cp[j]?=U (U i)->Nb[j]?=U x->X.N[i]?=U x/\scope.names.lookup x=U .free
theorem x5W{X:Cx}{scope:u}{Nb:-J}{cp:-(Option Nat)}(hk:scope.kind=.function)(h:j2 X.N X.env.scope scope Nb cp=θ):uj X scope Nb cp:=by
 unfold j2 at h;erw[Tv,Uc,Bool.or_eq_true,Vb] at h;let⟨⟨h1,h2⟩,h3⟩:=h;refine⟨hk,λy hy e=>(h1 y hy).1.1.resolve_left (λz=>z e),λy hy e=>?_,λy hy e=>?_,h2,λj i x e1 e2=>?_⟩
 .rcases (h1 y hy).1.2 with z|z
  .exact absurd e z
  .exact z
 .rcases (h1 y hy).2 with(z|z)|z
  .exact absurd e z
  .exact .inl z
  .exact .inr z
 .let hm:(U i,x)∈cp.zip Nb:=by
   let:(cp.zip Nb)[j]?=U (U i,x):=by
    rw[List.getElem?_zip_eq_some];exact⟨e1,e2⟩
   exact T2 this
  let:=h3 _ hm;simpa using this
theorem xA{env:t}{x:J}:∀{names:-(J×NameKind)}{k:NameKind},names.lookup x=U k →
  (names.map λ(n,k)=>if(k==UW&&env.scope.kind==.function&&env.kindOf n==U .cell) then(n,UL) else(n,k)).lookup x =
   U (if(k==UW&&env.scope.kind==.function&&env.kindOf x==U .cell) then UL else k)
 |[],k,h=>by simp at h
 |(n,k')::r,k,h=>by
  let ih:=@xA env x r k;show Z3 x ((if(k'==UW&&env.scope.kind==.function&&env.kindOf n==U .cell)=θ then(n,UL) else(n,k'))::_)=_
  cases hx:x==n with
  |true =>
   erw[TQ,hx] at h;cases h
   let e:x=n:=TF hx;subst e
   by_cases hc:(k'==UW&&env.scope.kind==.function&&env.kindOf x==U .cell)=θ
   .rw[Tw hc,Tw hc];simp[TQ]
   .rw[To hc,To hc];simp[TQ]
  |false =>
   erw[TQ,hx] at h
   by_cases hc:(k'==UW&&env.scope.kind==.function&&env.kindOf n==U .cell)=θ
   .rw[Tw hc];erw[TQ,hx];exact ih h
   .rw[To hc];erw[TQ,hx];calc ih h
theorem CA{env:t}{x:J}:∀{names:-(J×NameKind)},names.lookup x=Z →
  (names.map λ(n,k)=>if(k==UW&&env.scope.kind==.function&&env.kindOf n==U .cell) then(n,UL) else(n,k)).lookup x=Z
 |[],h=>by simp
 |(n,k')::r,h=>by
  let ih:=@CA env x r;show Z3 x ((if(k'==UW&&env.scope.kind==.function&&env.kindOf n==U .cell)=θ then(n,UL) else(n,k'))::_)=_
  cases hx:x==n with
  |true=>erw[TQ,hx] at h;cases h
  |false =>
   erw[TQ,hx] at h
   by_cases hc:(k'==UW&&env.scope.kind==.function&&env.kindOf n==U .cell)=θ
   .rw[Tw hc];erw[TQ,hx];exact ih h
   .rw[To hc];erw[TQ,hx];calc ih h
structure JF(X:Cx)(ifs:-M)(t:TT):Prop where
 out:∀(pins:av)(s:L)(σ:St)(H:Hp)(Q:Bool->Hp->Prop),Inv X pins σ H s->t σ H Q →
  G (S X.prog X.w) X.A (forIn ifs θ λc r=>if r=θ then do let ok <- isTrue c X.env (eval c X.env);pure (UO ok) else pure (UO r)) (TP X pins σ Q) X.xe s
instance {X:Cx} {ifs:-M} {t:TT}:CoeFun (JF X ifs t) (λ_=>∀(pins:av)(s:L)(σ:St)(H:Hp)(Q:Bool->Hp->Prop),Inv X pins σ H s->t σ H Q->G (S X.prog X.w) X.A (forIn ifs θ λc r=>if r=θ then do let ok <- isTrue c X.env (eval c X.env);pure (UO ok) else pure (UO r)) (TP X pins σ Q) X.xe s):=⟨JF.out⟩
def xB:TT:=λ_ H Q=>Q θ H
theorem nK{X:Cx}:JF X [] xB:=⟨λ_ _ _ H _ I h=>wpAny_tests_nil ⟨H,I,h⟩⟩
theorem Jw{X:Cx}{c:M}{t:TT}(h:JT X c t):JF X [c] t:=⟨λpins s σ H Q I hw=>wpAny_tests_one (h pins s σ H Q I hw)
⟩
def Jx(g:TG)(tf:TT)(te:TE)(l:O)(x:V)(τ:St)(H:Hp)(N:St->Hp->Prop):Prop :=
 g x τ H fun τ2 H2=>tf τ2 H2 λb H3=>if b=θ then te τ2 H3 λy H4=>∃ys,H4 l=U (.lst ys)/\↑ys<sizeLine/\N τ2 (upd H4 l (.lst (ys++[y]))) else N τ2 H3
def CB(J:It)(g:TG)(tf:TT)(te:TE)(l:O)(τ0:St)(H0:Hp)(Q:VK):Prop :=
 ∃W:Nat->Nat->St->Hp->Prop,(∃m,W 0 m τ0 H0)/\∀i m τ H,W i m τ H →
  (J.stop i H/\Q (.ref l) H)\/(J.go i H/\∃N:St->Hp->Prop,(∀τ' H',N τ' H'->∃m',m'<m/\W (i+1) m' τ' H')/\∀x H',J.o_ i H x H'->Jx g tf te l x τ H' N)
def rh(wi:TI)(cp:-(Option Nat))(g:BD->TG)(tf:BD->TT)(te:BD->TE):TE:=fun σ H Q=>wi σ H λJ H1=>∀(d:BD)(l:O),H1 l=Z->CB J (g d) (tf d) (te d) l (jZ cp σ) (upd H1 l (.lst [])) Q
theorem pk:∀{names:-(J×NameKind)}{n:Nat}{acc:-(J×O)}{x:J}{c:O},(cellsFrom n names acc).lookup x=U c->acc.lookup x=U c\/(n<=c/\(x,UL)∈names)
 |[],n,acc,x,c,h=>.inl h
 |(y,k)::r,n,acc,x,c,h=>by
  unfold cellsFrom at h;split at h
  .rename_i hk
   let ek:k=.cell:=TF hk;subst ek;rcases pk h with h|⟨h,m⟩
   .rw[TQ] at h
    cases q:x==y with
    |true=>rw[q] at h;cases h;rw[TF q];exact .inr ⟨ug _,Cu ..⟩
    |false=>rw[q] at h;exact .inl h
   .exact .inr ⟨⋯,Jp _ m⟩
  .rcases pk h with h|⟨h,m⟩
   .exact .inl h
   .calc .inr ⟨h,Jp _ m⟩
theorem xC:∀{names:-(J×NameKind)}{n:Nat}{acc:-(J×O)}{x:J}{c:O},(x,UL)∈names->(cellsFrom n names acc).lookup x=U c->n<=c
 |[],n,acc,x,c,m,h=>by cases m
 |(y,k)::r,n,acc,x,c,m,h=>by
  unfold cellsFrom at h
  by_cases mr:(x,UL)∈r
  .split at h
   .let:=xC mr h;symm
   .exact xC mr h
  .let e:(x,UL)=(y,k):=by
    rcases Cy.mp m with e|e
    .exact e
    .exact absurd e mr
   cases e
   rw[Tw (by decide)] at h;rcases pk h with h|⟨h,_⟩
   .rw[TQ,XX] at h
    cases h;exact ug _
   .omega
theorem xD:∀{names:-(J×NameKind)}{n:Nat}{acc:-(J×O)}{x y:J}{c:O},(∀u v c,acc.lookup u=U c->acc.lookup v=U c->u=v)->(∀u c,acc.lookup u=U c->c<n)->(cellsFrom n names acc).lookup x=U c->(cellsFrom n names acc).lookup y=U c->x=y
 |[],n,acc,x,y,c,hi,_,h1,h2=>hi x y c h1 h2
 |(z,k)::r,n,acc,x,y,c,hi,hb,h1,h2=>by
  unfold cellsFrom at h1 h2;split at h1
  .rename_i hk
   rw[Tw hk] at h2;refine xD (λu v c q1 q2=>?_) (λu c q=>?_) h1 h2
   .rw[TQ] at q1 q2
    cases e1:u==z with
    |true =>
     rw[e1] at q1;cases q1
     cases e2:v==z with
     |true=>rw[TF e1,TF e2]
     |false=>rw[e2] at q2;exact absurd (hb v _ q2) (U9 _)
    |false =>
     rw[e1] at q1
     cases e2:v==z with
     |true=>rw[e2] at q2;cases q2;exact absurd (hb u _ q1) (U9 _)
     |false=>rw[e2] at q2;exact hi u v c q1 q2
   .rw[TQ] at q
    cases e1:u==z with
    |true=>rw[e1] at q;cases q;exact WN _
    |false=>rw[e1] at q;exact UZ (hb u c q)
  .rename_i hk
   rw[To hk] at h2;calc xD hi hb h1 h2
theorem xE:∀{names:-(J×NameKind)}{n:Nat}{acc:-(J×O)}{x:J},(x,UL)∉names->(cellsFrom n names acc).lookup x=acc.lookup x
 |[],n,acc,x,_=>Y
 |(y,k)::r,n,acc,x,m=>by
  unfold cellsFrom;split
  .rename_i hk
   let ek:k=.cell:=TF hk;subst ek;rw[xE λz=>m (Jp _ z),TQ]
   cases q:x==y with
   |true=>exact absurd (by rw[TF q];calc Cu ..) m
   |false=>rfl
  .calc xE λz=>m (Jp _ z)
theorem xF:∀{names:-(J×NameKind)}{h:R}{acc:-(J×O)}{x:J}{c:O},(∀u c,acc.lookup u=U c->∃v,h.IsCell c v)->(cellsFrom h.objs.size names acc).lookup x=U c->∃v,(pushCells h names).IsCell c v
 |[],h,acc,x,c,hc,e=>hc x c e
 |(y,k)::r,h,acc,x,c,hc,e=>by
  unfold cellsFrom at e;unfold pushCells;split at e
  .rename_i hk
   rw[Tw hk];let hz:(h.push {cls:=.type "cell",data:=.cell Z}).objs.size=h.objs.size+1:=Vj ..;rw[<-hz] at e;calc xF (λu c q=>?_) e;rw[TQ] at q
   cases e1:u==y with
   |true=>rw[e1] at q;cases q;exact⟨Z,_,R0 _ Y,Y⟩
   |false =>
    rw[e1] at q;let⟨v,o,g1,g2⟩:=hc u c q;exact⟨v,o,nF _ g1,g2⟩
  .rename_i hk
   rw[To hk];calc xF hc e
theorem Jy{M:Model}{A:l}{E:aT}{s:L}{scope:u}{g:O}{cl:-(J×O)}{qual:J}{env:t}{Q:t->L->Prop}
  (h:Q (newEnv scope ⇑s g (cellsFrom (⇑s+1) scope.names cl) qual Z .none (U env) builtinsNs) {s with heap:=pushCells (s.heap.push {cls:=.type "dict",data:=.dict #[]}) scope.names}) :
  G M A (newFunctionEnv scope g cl [] qual Z .none (U env)) Q E s:=by
 erw[newFunctionEnv,Option.isSome_some,Ve];calc kb (wpAny_alloc ?_);calc kb (wpAny_layCells _ (λname kind cells=>by cases Jz:kind==UL<;>simp[Jz]) _ _ _ _ ?_);rw[show({s with heap:=s.heap.push {cls:=.type "dict",data:=.dict #[]}}:L).heap.objs.size=⇑s+1 from Vj ..];calc kb ?_;rw[YE];calc qY (qY h)
section
variable{X:Cx}{elt tg iter:M}{ifs:-M}{scope:u}{pos:y}{Nb:-J}{cp:-(Option Nat)}{wi:TI}{g:BD->TG}{tf:BD->TT}{te:BD->TE}
variable{pins:av}{σ:St}{H:Hp}{s:L}
noncomputable abbrev rk(scope:u)(s:L)(cl:-(J×O)):-(J×O):=cellsFrom (⇑s+1) scope.names cl
theorem JB{fp:-O}{cl:-(J×O)}(S:uj X scope Nb cp)(I:Inv X pins σ H s)(hf:∀b∈fp,cq X pins H b)(ho:∀b∈fp,∃o,s.heap.get? b=U o)
  (c1:∀x c,cl.lookup x=U c->X.env.cells.lookup x=U c) (c2:∀y∈scope.names,y.2=.free->∃c,cl.lookup y.1=U c):(bT X scope Nb ⟨rk scope s cl,⇑s,s,H,fp⟩).Ok:=by
 let JD:∀b∈fp,b∉dG X.stack:=λb hb z=>by
  let⟨_,f1,f2,_⟩:=hf b hb;rcases Cy.mp (I.fD b z) with e|e
  .exact f1 e
  .exact f2 e
 let lt:∀u c,cl.lookup u=U c->c<⇑s:=λu c e=>by
  let⟨v,q⟩:=I.cell u c (c1 _ _ e);exact q.lt
 refine⟨I.ok.mod,?_,I.ok.glob,I.ok.blt,ug _,λx y c h1 h2=>?_,λx hx=>?_,λx c h hc=>?_,I.ok.hd,I.ok.frames,.inl Y,λb hb=>⟨?_,λx c e=>?_⟩,I.bs,T5 I.ok.jV I.sz,λb o e hb=>?_,JD,I.stack,I.dg⟩
 .exact S.kind
 .exact xD (λu v c q1 q2=>I.ok.inj u v c (c1 _ _ q1) (c1 _ _ q2)) (λu c e=>UZ (lt u c e)) h1 h2
 .cases q:scope.names.lookup x with
  |none =>
   let z:(relabel scope X.env).names.lookup x=Z:=CA q;let kR:(relabel scope X.env).names.lookup x=U .cell\/(relabel scope X.env).names.lookup x=U .free:=hx;rw[z] at kR;rcases kR with h|h<;>cases h
  |some k =>
   let hm:=UD q;let z:(relabel scope X.env).names.lookup x=_:=xA (env:=X.env) q;let kR:(relabel scope X.env).names.lookup x=U .cell\/(relabel scope X.env).names.lookup x=U .free:=hx;rw[z] at kR
   let kf:k=.free\/k=.cell:=by
    by_cases hk:k=.free
    .exact .inl hk
    .let:(k==UW)=ι:=by simpa using hk
     erw[this,Yy,Jr,Um] at kR;rcases kR with h|h
     .exact .inr (TU h)
     .exact absurd (TU h) hk
   calc Vr.mp (Wt scope.names _ cl ?_);rcases kf with rfl|rfl
   .let⟨c,e⟩:=c2 (x,.free) hm Y
    exact .inr (by rw[show cl.lookup x=U c from e];rfl)
   .exact .inl q
 .let hl:scope.names.lookup x=U .cell:=U3 h
  let:=xC (UD hl) hc;exact ZA this
 .let⟨o,e⟩:=ho b hb
  exact TN (Jo e)
 .rcases pk e with e|⟨e,_⟩
  .exact (hf b hb).2.2.2.2.1 x c (c1 _ _ e)
  .let⟨o,eo⟩:=ho b hb
   let xG:=Jo eo;ext z;subst z;exact absurd (ZC e) (q3t.mpr (Vo xG))
 .rcases (hf b hb).2.2.2.1 with z|z
  .exact I.ok.fU b o e z
  .calc absurd (TC (Jo (I.ok.bs b o e).1) z) (U9 _)
theorem JH{cp:-(Option Nat)}{σ:St}{j:Nat}{v:V}(h:(jZ cp σ)[j]?=U (U v)):∃i,cp[j]?=U (U i)/\σ[i]?=U (U v):=by
 unfold jZ at h;rw[R1] at h
 cases e:cp[j]? with
 |none=>rw[e] at h;cases h
 |some o =>
  rw[e] at h
  cases o with
  |none=>cases h
  |some i =>
   calc⟨i,Y,?_⟩;let h':(σ[i]?).join=U v:=TU h
   cases q:σ[i]? with
   |none=>rw[q] at h';cases h'
   |some z =>
    rw[q] at h';let:z=U v:=h';rw[this]
theorem JJ{fp:-O}{cl:-(J×O)}{h1:R}{tk:Nat}(S:uj X scope Nb cp)(I:Inv X pins σ H s)(hf:∀b∈fp,cq X pins H b)(ho:∀b∈fp,∃o,s.heap.get? b=U o)
  (c1:∀x c,cl.lookup x=U c->X.env.cells.lookup x=U c) (c2:∀y∈scope.names,y.2=.free->∃c,cl.lookup y.1=U c)
  (hn:h1.Ns ⇑s (λx=>([]:-(J×B)).reverse.lookup x)) (hk:∀b o,s.heap.get? b=U o->h1.get? b=U o) (kK:∀x c,(rk scope s cl).lookup x=U c->∃v,h1.IsCell c v) :
  Inv (bT X scope Nb ⟨rk scope s cl,⇑s,s,H,fp⟩) [] (jZ cp σ) H {s with heap:=h1,toks:=tk}:=by
 refine⟨JB S I hf ho c1 c2,Y,I.bare,Un.kept hk,⟨_,hn,λj x v e1 e2 e3=>?_⟩,kK,I.aX.fresh (ug _),λx c e=>?_,λp hp=>absurd (show p∈([]:av) from hp) (by simp),I.aX.kept hk,?_⟩
 .let⟨i,q1,q2⟩:=JH e2
  let⟨q3,q4⟩:=S.xy j i x q1 e1;let hm:=UD q4;let mB:=S.free _ hm Y;let⟨m,_,hl⟩:=I.loc
  let JK:o7 X.env.scope x:=by
   rcases mB with h|h
   .exact .inr (.inl h)
   .exact .inr (.inr h)
  let⟨u,ru,lk⟩:=hl i x v q3 q2 JK;refine⟨u,ru,?_⟩
  let nl:X.env.kindOf x≠U .local:=by
   rcases mB with h|h
   .ext z;rw[h] at z;cases z
   .ext z;rw[h] at z;cases z
  rcases lk with⟨k,_⟩|⟨_,c,ec,hc⟩
  .exact absurd k nl
  .let⟨c',rl⟩:=c2 (x,.free) hm Y
   let CC:=c1 _ _ rl;rw[ec] at CC;cases CC;let nc:(x,UL)∉scope.names:=λz=>by let:=S.cell _ z Y;rw[show scope.names.lookup x=U .free from q4] at this;cases this
   refine .inr ⟨?_,c,(xE nc).trans rl,?_⟩
   .let z:(relabel scope X.env).names.lookup x=_:=xA (env:=X.env) q4
    show(relabel scope X.env).names.lookup x=U .cell\/(relabel scope X.env).names.lookup x=U .free;rw[z];split
    .exact .inl Y
    .exact .inr Y
   .let⟨o,e,d⟩:=hc
    exact⟨o,hk _ _ e,d⟩
 .rcases pk e with e|⟨e,_⟩
  .exact I.bF x c (c1 _ _ e)
  .exact I.aX.fresh (ZA e)
 .unfold jZ
  rw[pj];calc S.len
theorem JL{fp:-O}{d:BD}{it l:O}{tn:Nat->Α->Prop}{J:It}{R:Result->L->Prop}{Q:VK}{H1:Hp}{s1:L}{τ:St}(hc:X.calm=θ)
  (hg:JG (bT X scope Nb d) tg (g d)) (hf:JF (bT X scope Nb d) ifs (tf d)) (he:JE (bT X scope Nb d) elt (te d)) (T:Turn X.prog X.w X.K tg J fp it tn)
  (R6:d.fp=fp) (I1:Inv (bT X scope Nb d) [] τ H1 s1) (fN:tn 0 s1.heap) (CD:∀b∈fp,cq (bT X scope Nb d) [] H1 b)
  (W:Nat->Nat->St->Hp->Prop) (w0:∃m,W 0 m τ H1)
  (turn:∀i m τ H,W i m τ H->(J.stop i H/\Q (.ref l) H)\/(J.go i H/\∃N:St->Hp->Prop,(∀τ' H',N τ' H'->∃m',m'<m/\W (i+1) m' τ' H')/\∀x H',J.o_ i H x H'->g d x τ H' fun τ2 H2=>tf d τ2 H2 λb H3 =>
   if b=θ then te d τ2 H3 λy H4=>∃ys,H4 l=U (.lst ys)/\↑ys<sizeLine/\N τ2 (upd H4 l (.lst (ys++[y]))) else N τ2 H3))
  (fin:∀τ' H' s',Inv (bT X scope Nb d) [] τ' H' s'->Q (.ref l) H'->R (.ok .next) s') :
  codeAny (S X.prog X.w) X.A (.compStart (.ListComp elt [⟨tg,iter,ifs,0⟩] scope pos) 0 (.ref it) (.ref l) (compEnvC scope d.cl d.C X.env)) R s1:=by
 let gE:∀{H':Hp},(∀b∈fp,H' b=Z)->∀b∈fp,cq (bT X scope Nb d) [] H' b:=λhn b hb=>⟨hn b hb,(CD b hb).2⟩
 let loop:codeAny (S X.prog X.w) X.A (.compLoop (.ListComp elt [⟨tg,iter,ifs,0⟩] scope pos) 0 (.ref it) (.ref l) (compEnvC scope d.cl d.C X.env)) R s1:=by
  let⟨m0,w0⟩:=w0;calc Ju (λn s'=>∃i τ' H',Inv (bT X scope Nb d) [] τ' H' s'/\tn i s'.heap/\(∀b∈fp,H' b=Z)/\W i n τ' H') ?_ m0 ⟨0,τ,H1,I1,fN,λb hb=>(CD b hb).1,w0⟩;ext n s3 ⟨i,σ3,H3,I3,mj,qG,w3⟩;rcases turn i n σ3 H3 w3 with⟨stop,qn⟩|⟨go,N,hN,step⟩
  .refine bp (T.done (bT X scope Nb d) Y Y Y hc i [] s3 σ3 H3 (λ_ _=>False) I3 (gE qG) mj stop) λr s4 ⟨hr,I4⟩=>?_
   subst hr;exact fin σ3 H3 s4 I4 qn
  .refine bp (T.item (bT X scope Nb d) Y Y Y hc i [] s3 σ3 H3 (λ_ _=>False) I3 (gE qG) mj go) λr s4 ⟨u,hr,h4⟩=>?_
   subst hr;calc bp h4 λ_ s5 ⟨x,H5,I5,r5,y5,m8,wB⟩=>?_;let wC:=I5.pinned (gE wB) (T.obj _ _ m8);refine bp (hg _ s5 σ3 H5 x u _ wC r5 (step x H5 y5)) λ_ s6 ⟨σ6,H6,I6,q6⟩=>?_
   let again:∀{σ7:St}{H7:Hp}{s7:L}{m':Nat},Inv (bT X scope Nb d) ([]++qF fp s5.heap) σ7 H7 s7->m'<n->W (i+1) m' σ7 H7->∃m,m<n/\∃i σ' H',Inv (bT X scope Nb d) [] σ' H' s7/\tn i s7.heap/\(∀b∈fp,H' b=Z)/\W i m σ' H':=λ{σ7 H7 s7 m'} I7 hm w7=>by
    calc⟨m',hm,i+1,σ7,H7,I7.dh,T.keep _ _ _ m8 λb hb o e=>(I7.pin (b,o) (T7 _ (T7 _ (t7 hb e)))).1,λb hb=>?_,w7⟩;let⟨o,e,d⟩:=T.obj _ _ m8 b hb;exact(I7.pin (b,o) (T7 _ (T7 _ (t7 hb e)))).2.1
   refine bp (hf _ s6 σ6 H6 _ I6 q6) λok s7 h0_=>el3 h0_ λH7 I7 q7=>?_
   cases ok with
   |false =>
    rw[To Jn] at q7 ⊢;let⟨m',hm,w7⟩:=hN _ _ q7;exact again I7 hm w7
   |true =>
    rw[Tw Y] at q7 ⊢;calc bp (he _ s7 σ6 H7 _ I7 q7) λy s8 ⟨yv,H8,I8,r8,ys,hy,hz,q8⟩=>?_;let⟨m',hm,w8⟩:=hN _ _ q8;calc bp (Ci _ s8 σ6 H8 (.ref l) [yv] (.ref l) [y] (λ_ H9=>H9=upd H8 l (.lst (ys++[yv]))) I8 Y (.cons r8 .nil) ⟨l,ys,yv,Y,Y,hy,hz,Y⟩) λ_ s9 h0_=>el5 h0_ λ_ H9 I9 _ e9=>?_;subst e9;exact again I9 hm w8
 calc codeAny_compStart_list loop (T.self _ 0 s1 _ _ fN loop)
theorem JM{fp:-O}{d:BD}{τ:St}{H1 H':Hp}{s1 s':L}(I1:Inv X pins σ H1 s1)(hs:d.s=s1)(hH:d.H=H1)(hd:d.fp=fp)(hf:∀b∈fp,cq X pins H1 b)(J:Inv (bT X scope Nb d) [] τ H' s'):Inv X pins σ H' s':=by
 subst hs hH hd;calc I1.g7 (ch:=d.fp) J.os J.base J.aX J.bare λb hb=>⟨(hf b hb).2.2.2.1,(hf b hb).2.1,(hf b hb).2.2.2.2.1,(hf b hb).2.2.2.2.2⟩
theorem CF{use:Option (B->Sem Unit)}{P:aT}{Q:VK}(hc:X.calm=θ)(S:uj X scope Nb cp)(hi:JI X tg iter wi)(hg:∀d,JG (bT X scope Nb d) tg (g d))(hf:∀d,JF (bT X scope Nb d) ifs (tf d))(he:∀d,JE (bT X scope Nb d) elt (te d))
  (hs:∀x,foldedSetIterable iter X.env x=pure x) (I:Inv X pins σ H s) (h:rh wi cp g tf te σ H Q)
  (fin:∀(l C:O)(H':Hp)(s':L)(m:π->Option B),Inv X pins σ H' s'->cq X pins H' C->(∀p c,X.env.cells.lookup p=U c->c≠C)->s'.heap.Ns C m->Q (.ref l) H'->compPost (ς X.prog X.w) X.A X.xe use P (.ref l) C (.ok .next) s') :
  G (ς X.prog X.w) X.A (comprehension (.ListComp elt [⟨tg,iter,ifs,0⟩] scope pos) scope X.env (firstIterPos [⟨tg,iter,ifs,0⟩] pos) (newList []) ι (eval iter X.env) use) P X.xe s:=by
 let⟨cl,JN,c1,c2⟩:=Jv (scope:=scope) (env:=X.env) λy hy iW=>by
  rcases S.free y hy iW with z|z
  .exact I.ok.has _ (.inl z)
  .exact I.ok.has _ (.inr z)
 calc wpAny_comprehension_free (cl:=cl) Y hs JN S.kind S.names (bp (hi pins s σ H _ I h) λv s1 h1=>bp h1 λwy s2 h2=>?_);let⟨it,fp,tn,J,H2,e,I2,T,jg,f2,q2⟩:=h2;subst e;calc Uo ?_;let hl:H2 ⇑s2=Z:=I2.fresh;let I3:Inv X pins σ (upd H2 ⇑s2 (.lst [])) {s2 with heap:=s2.heap.push {cls:=.type "list",data:=.seq ([]:-B).toArray}}:=I2.bR (t':=s2.toks) (ys:=[]) .nil (Ui _);let k3:∀b o,s2.heap.get? b=U o->(s2.heap.push {cls:=.type "list",data:=.seq ([]:-B).toArray}).get? b=U o:=λb o e=>nF _ e
 let f3:∀b∈fp,cq X pins (upd H2 ⇑s2 (.lst [])) b:=λb hb=>by
  let⟨o,e,_⟩:=T.obj _ _ jg b hb;calc⟨?_,(f2 b hb).2⟩;rw[bj (TN (Jo e))];exact(f2 b hb).1
 generalize JO:upd H2 ⇑s2 (.lst [])=H3 at I3 f3;generalize JP:({s2 with heap:=s2.heap.push {cls:=.type "list",data:=.seq ([]:-B).toArray}}:L)=s3 at I3;let CG:∀b o,s2.heap.get? b=U o->s3.heap.get? b=U o:=by rw[<-JP];exact k3
 let o3:∀b∈fp,∃o,s3.heap.get? b=U o:=λb hb=>let⟨o,e,_⟩:=T.obj _ _ jg b hb;⟨o,CG b o e⟩;calc Jy ?_;let k4:∀b o,s3.heap.get? b=U o->(pushCells (s3.heap.push {cls:=.type "dict",data:=.dict #[]}) scope.names).get? b=U o:=λb o e=>q0b _ _ _ _ (nF _ e);let rm:(pushCells (s3.heap.push {cls:=.type "dict",data:=.dict #[]}) scope.names).Ns ⇑s3 (λx=>([]:-(π×B)).reverse.lookup x):=(Heap.Ns.new s3.heap (.type "dict")).keeps (q0b _ _)
 let I4:=JJ (Nb:=Nb) (tk:=s3.toks) S I3 f3 o3 c1 c2 rm k4 λx c e=>by
  let hz:(s3.heap.push {cls:=.type "dict",data:=.dict #[]}).objs.size=⇑s3+1:=Vj ..;let e':(cellsFrom (s3.heap.push {cls:=.type "dict",data:=.dict #[]}).objs.size scope.names cl).lookup x=U c:=by rw[hz];exact e
  calc xF (λu c q=>?_) e';let⟨v,o,g1,g2⟩:=I3.cell u c (c1 _ _ q);exact⟨v,o,nF _ g1,g2⟩
 generalize R7:pushCells (s3.heap.push {cls:=.type "dict",data:=.dict #[]}) scope.names=h₁ at k4 rm I4 ⊢;let⟨W,w0,turn⟩:=q2 ⟨rk scope s3 cl,⇑s3,s3,H3,fp⟩ ⇑s2 hl;rw[JO] at w0;refine JL (d:=⟨rk scope s3 cl,⇑s3,s3,H3,fp⟩) (fp:=fp) (tn:=tn) (J:=J) (Q:=Q) hc (hg _) (hf _) (he _) T Y I4 (T.keep _ _ _ jg λb hb o e=>k4 b o (CG b o e)) (λb hb=>?_) W w0 turn fun τ' H' s' I5 q5=>?_
 .let⟨o,e⟩:=o3 b hb
  refine⟨(f3 b hb).1,TN (Jo e),λz=>?_,.inl hb,λx c ec=>?_,λp hp=>absurd (show p∈([]:av) from hp) (by simp)⟩
  .rcases Cy.mp (I3.fD b z) with r|r
   .exact (f3 b hb).2.1 r
   .exact (f3 b hb).2.2.1 r
  .rcases pk ec with q|⟨q,_⟩
   .exact (f3 b hb).2.2.2.2.1 x c (c1 _ _ q)
   .let xG:=Jo e
    ext z;subst z;exact absurd (ZC q) (q3t.mpr (Vo xG))
 .let I6:Inv X pins σ H' s':=JM I3 Y Y Y f3 I5
  let⟨m,hn,_⟩:=I5.loc;let fC:cq X pins H' ⇑s3:=I3.ip (ug _) I5.free;calc fin _ _ _ _ m I6 fC (λp c e=>fC.2.2.2.2.1 p c e) hn q5
theorem CH(cp:-(Option Nat))(Nb:-J)(hc:X.calm=θ)(hi:JI X tg iter wi)(hg:∀d,JG (bT X scope Nb d) tg (g d))(hf:∀d,JF (bT X scope Nb d) ifs (tf d))(he:∀d,JE (bT X scope Nb d) elt (te d))
  (hk:scope.kind=.function:=by rfl) (ho:j2 X.N X.env.scope scope Nb cp=θ:=by first|rfl|kernel_rfl) (hs:∀x,foldedSetIterable iter X.env x=pure x:=by ext _;rfl) :
  JE X (.ListComp elt [⟨tg,iter,ifs,0⟩] scope pos) (rh wi cp g tf te):=by
 calc⟨?_⟩;ext pins s σ H Q I h;rw[eval_ListComp];calc CF (use:=none) hc (x5W hk ho) hi hg hf he hs I h λl C H' s' m I' fC hcc hn q=>⟨m,hn,λh' xH=>⟨.ref l,H',?_,Y,q⟩⟩;calc I'.turned (t':=s'.toks) (λb o hb e=>(xH.2 b hb).trans e) fC.1 fC.2.1 fC.2.2.2.1 fC.2.2.2.2.1 fC.2.2.2.2.2
theorem JQ(cp:-(Option Nat))(Nb:-J){i:Nat}{x:J}{pos' fZ:y}(hN:X.N.Nodup)(hi:X.N[i]?=U x)(hx:Loc X.env.scope x)(hc:X.calm=θ)(hit:JI X tg iter wi)(hg:∀d,JG (bT X scope Nb d) tg (g d))(hf:∀d,JF (bT X scope Nb d) ifs (tf d))(he:∀d,JE (bT X scope Nb d) elt (te d))
  (hk:scope.kind=.function:=by rfl) (ho:j2 X.N X.env.scope scope Nb cp=θ:=by first|rfl|kernel_rfl) (hs:∀x,foldedSetIterable iter X.env x=pure x:=by ext _;rfl)
  (rp:swapsWith (.ListComp elt [⟨tg,iter,ifs,0⟩] scope pos) (U (.Name x pos')) fZ.line X.env=pure θ:=by rfl)
  (kD:dS X x:=by first|exact .inl Y|exact .inr Y|assumption) :
  JS X (.Assign [.Name x pos'] (.ListComp elt [⟨tg,iter,ifs,0⟩] scope pos) fZ) (cO (rh wi cp g tf te) (g_ i)):=by
 calc⟨?_⟩;ext pins s σ H D I h;rw[exec_Assign_Name_used _ _ _ _ rp];calc kb (V_ (kb ?_));show G _ X.A (do let _ <- comprehension (.ListComp elt [⟨tg,iter,ifs,0⟩] scope pos) scope X.env _ (newList []) ι (eval iter X.env) (U (assign (.Name x pos') X.env))) _ _ s;calc kb (bp (CF (use:=U (assign (.Name x pos') X.env)) (P:=λ_ s'=>SP X pins D .next s') hc (x5W hk ho) hit hg hf he hs I h λl C H' s' m I' fC hcc hn q=>?_) λ_ s' hq=>qY (qY hq));show G _ X.A (assign (.Name x pos') X.env (.ref l)) _ _ s';refine Zq (Br I' hN hi hx (v:=.ref l) Y (λqM JR ⟨a,sb,ha⟩=>?_) kD)
 let nC:C≠a:=by
  rcases ha with e|e
  .rw[e];exact fC.2.1
  .exact Vv (hcc _ _ e)
 calc⟨m,hn.sameBut sb nC,λh' xH=>⟨_,H',?_,q⟩⟩;calc JR.turned (t':=qM.toks) (λb o hb e=>(xH.2 b hb).trans e) fC.1 fC.2.1 fC.2.2.2.1 fC.2.2.2.2.1 fC.2.2.2.2.2
end
section
variable{g:TG}{tf:TT}{te:TE}
end
section
variable{X:Cx}{pins:av}{σ:St}{H:Hp}{s:L}{h':R}{T:O}{o:HO}{ch:-O}{t':Nat}
theorem Inv.f6(I:Inv X pins σ H s)(hf:∀b∈ch,cq X pins H b)(k:∀b u,b∉ch->s.heap.get? b=U u->h'.get? b=U u)(hT:⇑s<=T)(new:bc X.prog X.w (upd H T o) h' T o):
  Inv X pins σ (upd H T o) {s with heap:=h',toks:=t'}:=by
 let hn:H T=Z:=I.aX.fresh hT;let jd:∀b u,H b=U u->b∉ch:=λb u e hb=>by rw[(hf b hb).1] at e;cases e
 refine I.step (g':=s.gens) (d':=s.drawn) (ch:=ch) (λb hb=>⟨(hf b hb).2.2.2.1,(hf b hb).2.1,(hf b hb).2.2.2.2.1,(hf b hb).2.2.2.2.2⟩) (λb u _ _ hc e _=>k b u hc e) (λb u _ _ hc e _=>⟨u.slots,k b u hc e⟩)
  (λb u _ e n=>by rw[bj (TN (TC (Jo e) hT))];calc n) (λb u hc e=>⟨u,k b u hc e⟩) (λb xs e=>by rw[bj (cm e hn)];calc e)
  (λb u xs e=>by rw[bj (cm e hn)];calc e) (λb ps e=>⟨#[],by rw[bj (cm e hn),e];simp⟩) (λm hm=>?_) (λb u e=>?_) I.bare
 .let⟨u,es,ep,ho,r⟩:=hm
  exact⟨u,es,ep,k _ u (λhb=>(hf _ hb).2.1 Y) ho,r⟩
 .by_cases hb:b=T
  .subst hb;rw[bE] at e;cases e;exact new
  .rw[bj hb] at e
   refine(I.aX b u e).dR (λc v hc q=>k c v ?_ q) (λc q=>by rw[bj (cm q hn)];calc q) λc xs q=>by rw[bj (cm q hn)];exact q
   rcases hc with z|z
   .rw[z];exact jd b u e
   .calc jd c _ z
theorem Inv.iz(I:Inv X pins σ H s)(hf:∀b∈ch,cq X pins H b)(k:∀b u,b∉ch->s.heap.get? b=U u->h'.get? b=U u):Inv X pins σ H {s with heap:=h',toks:=t'}:=by
 let jd:∀b u,H b=U u->b∉ch:=λb u e hb=>by rw[(hf b hb).1] at e;cases e
 refine I.step (g':=s.gens) (d':=s.drawn) (ch:=ch) (λb hb=>⟨(hf b hb).2.2.2.1,(hf b hb).2.1,(hf b hb).2.2.2.2.1,(hf b hb).2.2.2.2.2⟩) (λb u _ _ hc e _=>k b u hc e) (λb u _ _ hc e _=>⟨u.slots,k b u hc e⟩)
  (λb u _ e n=>n) (λb u hc e=>⟨u,k b u hc e⟩) (λb xs e=>e)
  (λb u xs e=>e) (λb ps e=>⟨#[],by rw[e];simp⟩) (λm hm=>?_) (λb u e=>?_) I.bare
 .let⟨u,es,ep,ho,r⟩:=hm
  exact⟨u,es,ep,k _ u (λhb=>(hf _ hb).2.1 Y) ho,r⟩
 .refine (I.aX b u e).dR (λc v hc q=>k c v ?_ q) (λc q=>q) λc xs q=>q
  rcases hc with z|z
  .rw[z];exact jd b u e
  .calc jd c _ z
end
noncomputable def rq(K:nG)(a:O):It :=
 ⟨λi H=>∃xs x,bq K H a xs/\xs[i]?=U x,λi H x H'=>∃T v,x=.ref T/\H T=Z/\H'=upd H T (.tup [.int (i:Nat),v])/\∀xs,bq K H a xs->xs[i]?=U v,λi H=>∃xs,bq K H a xs/\↑xs<=i⟩
theorem JU{P:ψ}{w:ω}{K:nG}{elts:-M}{x1}{tp:y}(a e it:O)(jl:e≠it):
  Turn P w K (.Tuple elts x1 tp) (rq K a) [e,it] e (λi h=>(∃old,IsEnum h e it (i:Nat) old)/\h.IsListIter it a i) where
 mem:=by simp
 obj:=λi h st b hb=>by
  let⟨⟨old,he⟩,o,hi,hc,hd⟩:=st;rcases Cy.mp hb with rfl|hb
  .exact⟨_,he,λv z=>by cases z⟩
  .let z:b=it:=by simpa using hb
   subst z;exact⟨o,hi,λv z=>by rw[hd] at z;cases z⟩
 keep:=λi h h' st k=>by
  let⟨⟨old,he⟩,hi⟩:=st;exact⟨⟨old,k e (by simp) _ he⟩,hi.at λo q=>k it (by simp) o q⟩
 item:=by
  ext X hP hw hK hc i pins s σ H E I hf st hg;subst hP hw hK;let⟨⟨old,he⟩,hi⟩:=st;let⟨xs,x,hq,hx⟩:=hg;let⟨ah,rv,p,hz⟩:=I.list hq;let⟨u,hu,ru⟩:=rv.get hx;calc wpAny_pyNext_enum_item he hi p.isList (x:=u) hu⁻¹ jl λh1 l8 xI xJ iU hk=>⟨_,Y,?_⟩;calc wpAny_letOwnedTupleGo_enum l8 λh2 CI dW=>?_;let hT:⇑s≠e:=VY (Jo he);let kS:h2.get? ⇑s=U {cls:=.type "tuple",data:=.seq #[.int i s.toks,u]}:=(dW.2 _ hT).trans xJ
  let k2:∀b o,b∉[e,it]->s.heap.get? b=U o->h2.get? b=U o:=λb o hb q=>by
   let CJ:b≠e:=λz=>hb (by simp[z]);let gK:b≠it:=λz=>hb (by simp[z]);exact(dW.2 _ CJ).trans (hk b o CJ gK q)
  let hn:H ⇑s=Z:=I.aX.fresh (ug _);refine⟨.ref ⇑s,upd H ⇑s (.tup [.int i,x]),I.f6 (ch:=[e,it]) (t':=s.toks+1) hf k2 (ug _) ?_,Y,⟨_,x,Y,hn,Y,λys hy=>by rw[I.eg hy hq];calc hx⟩,⟨⟨u,?_⟩,?_⟩,λb hb=>?_⟩
  .exact⟨by show 2<=sizeLine;decide,[.int i s.toks,u],.cons ⟨_,Y⟩ (.cons ru .nil),_,kS,Y,_,Y⟩
  .let e3:((i:Int)+1)=(((i+1:Nat)):Int):=by symm
   rw[e3] at CI;exact CI
  .exact xI.at λo q=>(dW.2 _ (Vv jl)).trans q
  .let:b<⇑s:=by
    let⟨o,q,_⟩:=hi;rcases Cy.mp hb with rfl|hb
    .exact Jo he
    .let z:b=it:=by simpa using hb
     subst z;exact Jo q
   rw[bj (TN this)];exact(hf b hb).1
 done:=by
  ext X hP hw hK hc i pins s σ H E I hf st hg;subst hP hw hK;let⟨⟨old,he⟩,hi⟩:=st;let⟨xs,hq,hx⟩:=hg;let⟨ah,rv,p,hz⟩:=I.list hq;let hl:=↑rv;calc wpAny_pyNext_enum_end (I.ok.hd hc) he hi p.isList (by simp;symm) λh1 eb=>⟨Y,?_⟩;let⟨f0,f1,f2,f3,f4,f5⟩:=hf it (by simp);exact I.turned (t':=s.toks) (λb o hb q=>eb b o hb q) f0 f1 f3 f4 f5
 self:=λA i s Q E st h=>by
  let⟨⟨old,he⟩,hi⟩:=st;let hT:s.TypeIs (.ref e) "enumerate" := ⟨_,he,Y⟩;calc XY he h
section
variable{X:Cx}{elts:-M}{x1:Nat}{tp:y}
def JV(K:nG)(ta:TA):TI:=fun σ H R=>ta σ H λvs H1=>∃a,vs=[.ref a]/\(∃xs,bq K H1 a xs)/\R (rq K a) H1
theorem JX:bootBuiltins "enumerate" = U (.type "enumerate"):=by decide +kernel
theorem JY:bootBuiltins "zip" = U (.type "zip"):=by decide +kernel
theorem JZ{a:M}{ta:TA}{p pos:y}(hg:Gl X "enumerate")(hm:X.mg "enumerate" = Z)(ha:JA X [a] ta)(hs:starEach [a] X.env=[(ι,eval a X.env)]:=by rfl):
  JI X (.Tuple elts x1 tp) (.Call (.Name "enumerate" p) [a] [] pos) (JV X.K ta):=by
 calc⟨?_⟩;ext pins s σ H R I h;calc Call_ (mW I hg hm JX (UU (bp (ha pos pins s σ H _ I h) λus s1 h0_=>el5 h0_ λvs H1 I1 r1 q1=>?_) hs Y));let⟨l,e,⟨xs,hq⟩,q⟩:=q1;subst e
 cases r1 with
 |cons r rr =>
  cases rr
  cases r
  let⟨ah,rv,p,hz⟩:=I1.list hq;calc call_enumerate_list p.isList λh' he hi iU hk=>?_;let I2:Inv X pins σ H1 {s1 with heap:=h'}:=I1.kept (t':=s1.toks) hk;calc XY he ?_;refine⟨_,_,_,_,H1,Y,I2,JU l (⇑s1+1) ⇑s1 (Nat.succ_ne_self _),⟨⟨_,he⟩,hi⟩,λb hb=>?_,q⟩
  let hb':⇑s1<=b:=by
   rcases Cy.mp hb with rfl|hb
   .exact q2t _
   .let z:b=⇑s1:=by simpa using hb
    rw[z];exact ug _
  calc I1.ip hb' (I1.aX.fresh hb')
end
noncomputable def CK(x:J):It:=⟨λi _=>i<x.cps.size,λi H v H'=>H'=H/\∃c,x.cps[i]?=U c/\v=.str ⟨#[c]⟩,λi _=>i=x.cps.size⟩
theorem J0{P:q}{w:ω}{K:nG}{nm:J}{tp:y}{x:J}{it:O}{Sx:Nat->R->Prop}(W:∀A':l,A'.handled=Z->Walks P w A' it [it] [it] x.cps.size (SignAt x) Sx)
  (J1:∀i h,Sx i h->∃o,h.get? it=U o/\∀v,o.data≠.cell v)
  (rz:∀(A:l)(i:Nat)(s:L)(Q:aT)(E:aT),Sx i s.heap->Q (.ref it) s->G (S P w) A (pyIter (.ref it)) Q E s):Turn P w K (.Name nm tp) (CK x) [it] it Sx where
 mem:=by simp
 obj:=λi h st b hb=>by
  let e:b=it:=by simpa using hb
  subst e;exact J1 i h st
 keep:=λi h h' st k=>(W {} Y).frame i h h' st k
 item:=by
  ext X hP hw hK hc i pins s σ H E I hf st hg;subst hP hw hK;calc(W X.A (I.ok.hd hc)).item i s _ _ hg st λv h' tk hv fO kk=>?_;let⟨c,u,J2,rfl⟩:=hv;let⟨f0,f1,f2,f3,f4,f5⟩:=hf it (by simp);let I1:Inv X pins σ H {s with heap:=h',toks:=tk}:=I.turned (λb o hb e=>kk b o hb⁻¹ e) f0 f1 f3 f4 f5;exact⟨_,Y,qY ⟨.str ⟨#[c]⟩,H,I1,⟨_,Y⟩,⟨Y,c,J2,Y⟩,fO,λb hb=>(hf b hb).1⟩⟩
 done:=by
  ext X hP hw hK hc i pins s σ H E I hf st hg;subst hP hw hK;let e:i=x.cps.size:=hg;subst e;let⟨f0,f1,f2,f3,f4,f5⟩:=hf it (by simp);exact(W X.A (I.ok.hd hc)).done s _ _ st λh' tk kk=>⟨Y,I.turned (λb o hb e=>kk b o hb⁻¹ e) f0 f1 f3 f4 f5⟩
 self:=rz
section
variable{X:Cx}{nm:J}{tp:y}
def xK(ta:TE):TI:=fun σ H R=>ta σ H λv H1=>∃x,v=.str x/\R (CK x) H1
theorem J3{a:M}{ta:TE}(ha:JE X a ta):JI X (.Name nm tp) a (xK ta):=by
 calc⟨?_⟩;ext pins s σ H R I h;calc bp (ha pins s σ H _ I h) λv s1 h0_=>el5 h0_ λx H1 I1 r1 q1=>?_;let⟨y,e,q⟩:=q1;subst e;let⟨t,rfl⟩:=r1
 let fin:∀(ty:String)(W:∀A':l,A'.handled=Z->Walks X.prog X.w A' ⇑s1 [⇑s1] [⇑s1] y.cps.size (SignAt y) (λi h=>h.IsStrIter ⇑s1 ty y t i))(o:f)
   (h0:(s1.heap.push o).IsStrIter ⇑s1 ty y t 0) (hs:∀(A:l)(i:Nat)(s:L)(Q:aT)(E:aT),s.heap.IsStrIter ⇑s1 ty y t i->Q (.ref ⇑s1) s->G (S X.prog X.w) A (pyIter (.ref ⇑s1)) Q E s),
   t6 X pins σ (.Name nm tp) R (.ref ⇑s1) {s1 with heap:=s1.heap.push o}:=λty W o h0 hs=>by
  calc⟨_,[⇑s1],_,_,H1,Y,I1.kept (t':=s1.toks) λb o e=>nF _ e,J0 W (λi h ⟨o,q,_,d⟩↦⟨o,q,λv z=>by rw[d] at z;cases z⟩) hs,h0,λb hb=>?_,q⟩;let e:b=⇑s1:=by simpa using hb
  subst e;exact I1.ip (ug _) (I1.aX.fresh (ug _))
 cases ha:y.cps.all (· < 128)
 .exact wpAny_pyIter_wide ha (fin _ (λA' hA=>Walks.strWide hA _ y t) _ ⟨_,R0 _ Y,Y,Y⟩ λ_ _ _ _ _ st h=>wpAny_pyIter_striter_wide st h)
 .calc wpAny_pyIter_ascii ha (fin _ (λA' hA=>Walks.strAscii hA _ y t) _ ⟨_,R0 _ Y,Y,Y⟩ λ_ _ _ _ _ st h=>wpAny_pyIter_striter_ascii st h)
end
end L2
namespace L2
open PySem PySem.Spec PyProof.Rows PySem.W
open Builtin Builtin.ObjectAttr
section
variable{prog:q}{w:I}{A:l}{E:aT}{s:L}{K:Frag}{x D:O}{ox:f}{j3:Option f}{name:J}
theorem J4:builtinKind "BaseException.__getattribute__" = U .slot:=by decide +kernel
theorem J7:splitId "BaseException.__getattribute__" = U ("BaseException", "__getattribute__"):=by decide +kernel
theorem J8:plainId "BaseException.__getattribute__" = θ:=XZ.ga.plain
theorem J_{tk:Tok}{Q:Unit->L->Prop}(X:K.In s.heap)(I:InstAt s.heap x ox D j3)(hb:mroIn K D (.type "BaseException")=U θ)(q:Q () s):
  G (S prog w) A (checkBuiltinCall "BaseException.__getattribute__" ⟨[.ref x,.str name tk],[]⟩) Q E s:=by
 let sub:Looks (S prog w) s.heap (isInstance (.ref x) (.type "BaseException")) θ:=(I.type (M:=S prog w)).andThen (looks_mroIn X hb);calc @check_slot (S prog w) A E s "BaseException.__getattribute__" "BaseException" "__getattribute__" (.ref x) [.str name tk] [] Q J4 J7 sub (PySem.F.args_bexc_ga (.ref x) (.str name tk)) q
theorem Ka{tk:Tok}{Q:aT}(X:K.In s.heap)(I:InstAt s.heap x ox D j3)(hb:mroIn K D (.type "BaseException")=U θ)
  (h:G (S prog w) A.in1 (Builtin.«object.__getattribute__» ⟨[.ref x,.str name tk],[]⟩) (λfin s'=>∃v,fin=.done (.ret v)/\Q v s') E s) :
  G (S prog w) A (call (.builtin "BaseException.__getattribute__") [.ref x,.str name tk]) Q E s:=by
 calc Zb (YF J8 PySem.F.entry_bexc_ga ?_);calc J_ X I hb ?_;calc UP h (λfin s' hf=>?_) λ_ _ z=>z;let⟨v,rfl,q⟩:=hf;calc q
theorem CL{fill expr:Bool}{tk:Tok}{Q:aT}(X:K.In s.heap)(I:InstAt s.heap x ox D j3)(rA:findIn K (.ref D) "__getattribute__" = U (U (.builtin "BaseException.__getattribute__")))
  (rB:findIn K (.ref D) "__getattr__" = U Z) (hb:mroIn K D (.type "BaseException")=U θ)
  (h:G (S prog w) A.in1 (Builtin.«object.__getattribute__» ⟨[.ref x,.str name tk],[]⟩) (λfin s'=>∃v,fin=.done (.ret v)/\handedIn v=θ/\Q v s') (λ_ _=>False) s) :
  G (S prog w) A (getAttrBy (.ref x) (.str name tk) fill expr) Q E s:=by
 let L0:=I.type (M:=S prog w);let L1:=looks_findIn (M:=S prog w) X rA;let L2:=looks_findIn (M:=S prog w) X rB
 let vT:(onTheHeap (TX D)&&(Wb "BaseException.__getattribute__" == Wb "object.__getattribute__"))=ι:=by
  rw[show(Wb "BaseException.__getattribute__" == Wb "object.__getattribute__")=ι by decide +kernel];rfl
 let Kb:(expr&&onTheHeap (Wb "BaseException.__getattribute__"))=ι:=by cases expr<;>rfl
 let Kc:=XZ.ga.bind (.ref x)
 let main:G (S prog w) A (callGetattribute (.ref x) (.str name tk) (.builtin "BaseException.__getattribute__") expr) (λv s'=>handedIn v=θ/\Q v s') (λ_ _=>False) s:=by
  unfold callGetattribute;rw[Kb,To Jn];unfold boundAndCalled;rw[Kc];calc kb (qY ?_);exact Ka (Q:=λv s'=>handedIn v=θ/\Q v s') X I hb h
 unfold getAttrBy;calc Ua (kb (L0.here (kb (L1.here ?_))));dsimp only;rw[vT,To Jn];unfold getAttrByItsOwn;calc kb (L2.here (kb (XN (Ua (UP main (λv s' hf=>?_) λ_ _ z=>z.elim)))));dsimp only;rw[handedOut_of hf.1];calc qY hf.2
theorem Kd{tk:Tok}{v:B}{Q:Fin->L->Prop}(X:K.In s.heap)(I:InstAt s.heap x ox D j3)(hf:findObj K D j3 name=U (.value v))(h:Q (.done (.ret v)) s):
  G (S prog w) A (Builtin.«object.__getattribute__» ⟨[.ref x,.str name tk],[]⟩) Q E s:=by
 let L0:=I.type (M:=S prog w);let L1:=looks_find (M:=S prog w) X I hf;calc kb (qY ?_);dsimp only;calc kb (qY (kb (L0.here (kb (L1.here ?_)))));calc qY h
theorem Ke{expr:Bool}{v:B}{Q:aT}(X:K.In s.heap)(I:InstAt s.heap x ox D j3)(rA:findIn K (.ref D) "__getattribute__" = U (U (.builtin "BaseException.__getattribute__")))
  (rB:findIn K (.ref D) "__getattr__" = U Z) (hb:mroIn K D (.type "BaseException")=U θ) (hf:findObj K D j3 name=U (.value v)) (hv:handedIn v=θ) (h:Q v {s with toks:=s.toks+1}) :
  G (S prog w) A (getAttr (.ref x) name expr) Q E s:=by
 unfold getAttr;calc kb (wpAny_mkText ?_);calc CL (s:={s with toks:=s.toks+1}) X I rA rB hb (Kd (s:={s with toks:=s.toks+1}) X I hf ⟨v,Y,hv,h⟩)
theorem Kf{Q:Option B->L->Prop}(X:K.In s.heap)(I:InstAt s.heap x ox D j3)(rA:findIn K (.ref D) "__getattribute__" = U (U (.builtin "BaseException.__getattribute__")))
  (rB:findIn K (.ref D) "__getattr__" = U Z) (hb:mroIn K D (.type "BaseException")=U θ) (hm:mroIn K D (.type "object")=U θ)
  (hf:findObj K D j3 "__class__" = U (.bind (.builtin "getset_descriptor.__get__") (.builtin "object.__class__"))) (h:Q (U (.ref D)) {s with toks:=s.toks+1}) :
  G (S prog w) A (getAttr? (.ref x) "__class__") Q E s:=by
 unfold getAttr? getAttrBy?;calc kb (wpAny_mkText (kb (XN ?_)));calc CL (s:={s with toks:=s.toks+1}) X I rA rB hb ?_;let L0:=I.type (M:=S prog w);let L1:=looks_find (M:=S prog w) X I hf;calc kb (qY ?_);dsimp only;calc kb (qY (kb (Looks.here (s:={s with toks:=s.toks+1}) L0 (kb (Looks.here (s:={s with toks:=s.toks+1}) L1 ?_)))));show G _ _ (holding [Wb "object.__class__"] (call (.builtin "getset_descriptor.__get__") [.builtin "object.__class__",.ref x,.ref D]) >>= ret) _ _ _;refine kb (Ua (Zb (class_get (s:={s with toks:=s.toks+1}) (ox:=ox) (od:=j3) X I hm ?_)))
 calc qY ⟨.ref D,Y,Y,qY h⟩
noncomputable def gx:-B->Bool
 |.ref _::r=>gx r
 |l=>l==[.type "ValueError",.type "Exception",.type "BaseException",.type "object"]
theorem rC:∀{l:-B},gx l=θ->l.contains (.type "object")=θ/\l.contains (.type "BaseException")=θ/\l.isEmpty=ι
 |.ref c::r,e=>by
  let ih:=rC (l:=r) (by unfold gx at e;calc e);exact⟨by rw[Wh,ih.1,Yd],by rw[Wh,ih.2.1,Yd],Y⟩
 |[],e=>by
  unfold gx at e;rw[TF e];decide +kernel
 |.type n::r,e=>by
  unfold gx at e;rw[TF e];decide +kernel
 |.none::r,e=>by unfold gx at e;cases TF e
 |.bool _::r,e=>by unfold gx at e;cases TF e
 |.int _ _::r,e=>by unfold gx at e;cases TF e
 |.float _ _::r,e=>by unfold gx at e;cases TF e
 |.str _ _::r,e=>by unfold gx at e;cases TF e
 |.bytes _ _::r,e=>by unfold gx at e;cases TF e
 |.builtin _::r,e=>by unfold gx at e;cases TF e
 |.notImplemented::r,e=>by unfold gx at e;cases TF e
 |.ellipsis::r,e=>by unfold gx at e;cases TF e
structure bz(K:Frag)(C:O):Prop where
 cd:∃cd,clsIn K C=U cd/\gx cd.mro=θ/\cd.hasDict=θ
 ga:findIn K (.ref C) "__getattribute__" = U (U (.builtin "BaseException.__getattribute__"))
 gh:findIn K (.ref C) "__getattr__" = U Z
 sa:findIn K (.ref C) "__setattr__" = U (U (.builtin "object.__setattr__"))
 cl:findIn K (.ref C) "__class__" = U (U (.builtin "object.__class__"))
 hn:specialIn K (.builtin "object.__class__") "__get__" = U (U (.builtin "getset_descriptor.__get__"))
 tk:takesIn K (.builtin "object.__class__")=U θ
theorem bz.base{C:O}(c:bz K C):mroIn K C (.type "BaseException")=U θ:=by
 let⟨cd,h1,h2,_⟩:=c.cd;unfold mroIn;rw[h1,VA,To (by rw[(rC h2).2.2];decide),(rC h2).2.1]
theorem bz.obj{C:O}(c:bz K C):mroIn K C (.type "object")=U θ:=by
 let⟨cd,h1,h2,_⟩:=c.cd;unfold mroIn;rw[h1,VA,To (by rw[(rC h2).2.2];decide),(rC h2).1]
theorem Kg{C:O}{cd:ClassData}{od:Option f}{nm:J}{g a:B}(hc:clsIn K C=U cd)(ha:findIn K (.ref C) nm=U (U a))(hn:specialIn K a "__get__" = U (U g))(t9:takesIn K a=U θ):
  findObj K C od nm=U (.bind g a):=by
 unfold findObj;rw[hc,VA,ha,VA];dsimp only;rw[hn,VA];dsimp only;rw[t9,VA]
theorem Kh{C:O}(c:bz K C):KitX K (.ref x) (.ref C) (λh=>∃ox od,InstAt h x ox C od) where
 ty:=λ_ _ _ I=>by let⟨_,_,I⟩:=I;exact I.type
 it:=λ_ _ X _=>by
  let⟨CM,kT,_⟩:=c.cd;unfold clsIn at kT;split at kT
  .rename_i c' d' Ki kC ho
   ext A' Q' E' s' k q;unfold isType loadHead;exact kb (wpAny_loadPart (k _ _ (X _ _ ho)) (qY q))
  .cases kT
 ne:=λh tp dd ah n sl X Kj=>by
  let⟨CM,kT,_⟩:=c.cd;calc ZD.mpr λq=>?_;let e:C=tp:=Value.ref.inj (beq_iff_eq.mp q);subst e;unfold clsIn at kT;split at kT
  .rename_i c' d' Ki kC ho
   let z:=(X _ _ ho).symm.trans Kj;cases z
  .cases kT
 ca:=λX I k=>by
  let⟨ox,od,I⟩:=I;let⟨CM,kT,_⟩:=c.cd;calc Kf X I c.ga c.gh c.base c.obj (Kg kT c.cl c.hn c.tk) k
variable{h:R}{g:Array GenState}{d:Drawn}{t:Nat}{os:OsState}{nm q:J}{C N:O}{bs bm R8:-ν}{f7:Bool}{sn:-J}{sub:-ν}{ab:Bool}{col:Option Bool}{dd:Option O}{k0 k1 k2 k3 k5:Option ν}{B newId xM:String}
end
end L2
namespace L2
open PySem PySem.Spec PyProof.Rows
noncomputable def eV(a C:O)(dx:Option O):HO:=.ext λh=>∃t,h.get? a=U ⟨.ref C,dx,.fields #[.ref t,.none,.none,.none,.bool ι,.none],#[]⟩
theorem Kk{P:q}{w:I}{H:Hp}{h:R}{a C t:O}{dx:Option O}(e:h.get? a=U ⟨.ref C,dx,.fields #[.ref t,.none,.none,.none,.bool ι,.none],#[]⟩):bc P w H h a (eV a C dx) :=
 ⟨⟨t,e⟩,⟨_,e⟩,λh1 h2 ⟨t',e1⟩ k↦⟨t',k _ e1⟩⟩
theorem Kl{P:q}{w:I}{H:Hp}{h:R}{a C:O}{dx:Option O}(x:bc P w H h a (eV a C dx)):∃t,h.get? a=U ⟨.ref C,dx,.fields #[.ref t,.none,.none,.none,.bool ι,.none],#[]⟩:=x.1
def rD(K:nG)(N:O)(name:J)(r:Option B):Prop:=∃oc od es ep sl,K.lookup N=U ⟨oc,od,.dict es ep,sl⟩/\(es.all λe=>match e.key with|.str _ _=>θ|_=>ι)=θ/\nsFind es name=r
theorem rD.ns{K:nG}{N:O}{name:J}{r:Option B}(x:rD K N name r){h:R}(k:K.In h):∃m,h.Ns N m/\m name=r:=by
 let⟨oc,od,es,ep,sl,l,hk,e⟩:=x;calc⟨λn=>nsFind es n,⟨_,es,ep,k _ _ l,Y,λen Km=>?_,λ_=>Y⟩,e⟩;let:=(Array.all_eq_true'.mp hk) en Km;split at this
 .rename_i s t q;exact⟨s,t,q⟩
 .cases this
noncomputable abbrev nM:-B:=[.type "ValueError",.type "Exception",.type "BaseException",.type "object"]
inductive bS (K:nG):-B->Prop
 |base:bS K nM
 |own {A:O} {c0:B} {dd:Option O} {cd:ClassData} {sl:Array (Option B)} {tl:-B}:K.lookup A=U ⟨c0,dd,.cls cd,sl⟩->rD K cd.ns "__init__" Z->bS K tl->bS K (.ref A::tl)
theorem bS.tail{K:nG}{l:-B}(x:bS K l){h:R}(k:K.In h):OwnTail h nM l:=by
 induction x with
 |base=>exact .base
 |own l n _ ih =>
  let⟨m,hn,e⟩:=n.ns k;calc .own (k _ _ l) hn e ih
structure pq(K:nG)(C:O)(jm:Option B):Prop where
 CN:∃(nm q:J)(N:O)(bs bm:-B)(f7:Bool)(sn:-J)(sub:-B)(ab:Bool)(col:Option Bool)(dd:Option O)(k0 k1 k2 k3 k5:Option B),
  K.lookup C=U (excClassObj nm q C N bs bm f7 sn sub ab col dd k0 k1 k2 k3 k5 "ValueError.__new__")/\bS K bm/\rD K N "__init__" jm
 kp:UK K (.ref C)=θ
section
variable{X:Cx}{pins:av}{σ:St}{H:Hp}{s:L}{C f:O}{CX:hV}{k:Nat}{fd:FuncData}{ps:-J}{sp:Sp}{E:XK}{x:J}{p pos pos':y}{e o value:M}{es:-M}{ta tv:TE}{t:TA}
theorem CO{P:q}{w:I}{H:Hp}{h:R}{a:O}{o:HO}(x:bc P w H h a o):∃ob,h.get? a=U ob:=by
 cases o with
 |lst xs=>let⟨_,_,_,_,e⟩:=x;exact⟨_,e⟩
 |tup xs=>let⟨_,_,_,p⟩:=x;let⟨o,e,_⟩:=p;exact⟨_,e⟩
 |dK cj=>let⟨_,_,_,_,o,_,_,e,_⟩:=x;exact⟨_,e⟩
 |dT cj=>let⟨_,_,_,_,o,_,_,e,_⟩:=x;exact⟨_,e⟩
 |set S n=>let⟨o,_,_,_,e,_⟩:=x;exact⟨_,e⟩
 |ins C dx fs=>let⟨_,_,_,e,_⟩:=x;exact⟨_,e⟩
 |own y=>exact x
 |xd fs=>let⟨_,⟨_,_,_,e,_⟩,_⟩:=x;exact⟨_,e⟩
 |rng lo hi=>let⟨_,_,_,e⟩:=x;exact⟨_,e⟩
 |frz ob u=>let⟨e,_⟩:=x;exact⟨_,e⟩
 |tbl ps=>exact⟨_,(show h.get? a=U _ from x)⟩
 |met f y=>exact⟨_,(show h.get? a=U _ from x)⟩
 |ext φ=>let⟨_,e,_⟩:=x;calc e
theorem Inv.mC{a:O}(I:Inv X pins σ H s)(hn:s.heap.get? a=Z):H a=Z:=by
 cases q:H a with
 |none=>rfl
 |some u =>
  let⟨o,ho⟩:=CO (I.aX a u q);rw[hn] at ho;cases ho
theorem Inv.rE{h':R}{a:O}{u:HO}{t':Nat}(I:Inv X pins σ H s)(k:∀b u,s.heap.get? b=U u->h'.get? b=U u)(hn:s.heap.get? a=Z)(new:bc X.prog X.w (upd H a u) h' a u):
  Inv X pins σ (upd H a u) {s with heap:=h',toks:=t'}:=by
 let hf:=I.mC hn;let ne:∀b ob,s.heap.get? b=U ob->b≠a:=λb ob e z=>by rw[z,hn] at e;cases e
 refine I.un ⟨λb o q _ _ _=>k b o q,λb o q _ _ _=>⟨o.slots,k b o q⟩,λb o q n _=>by rw[bj (ne b o q)];calc n,λb o q _=>⟨o,k b o q⟩,λb xs q=>by rw[bj (cm q hf)];calc q,λb o xs q=>by rw[bj (cm q hf)];calc q,λb ps q=>⟨#[],by rw[bj (cm q hf),q];simp⟩⟩ λb o q=>?_
 by_cases hb:b=a
 .subst hb;rw[bE] at q;cases q;exact new
 .rw[bj hb] at q
  calc(I.aX b o q).dR (λc v _ z=>k c v z) (λc z=>by rw[bj (cm z hf)];calc z) λc xs z=>by rw[bj (cm z hf)];calc z
theorem Inv.kU{h':R}{a:O}{us:-B}(I:Inv X pins σ H s)(m:Heap.MadeExcOf s.heap h' a (.ref C) us):H a=Z/\Inv X pins σ (upd H a (eV a C Z)) {s with heap:=h'}:=by
 let⟨t,ht,_,_⟩:=m.there;calc⟨I.mC m.new,I.rE (t':=s.toks) m.keeps m.new (Kk ht)⟩
def xN(C:O)(t:TA):TE:=fun σ H Q=>t σ H λvs H1=>↑vs<=sizeLine/\∀a,H1 a=Z->Q (.ref a) (upd H1 a (eV a C Z))
theorem Kn(M:pq X.K C Z)(hg:Gl X x)(hm:X.mg x=U (.ref C))(ha:JA X (e::es) t)(dj:bw x:=by decide)
  (he:cN X e es:=by rfl) (dm:dI X pos es:=by rfl) :
  JE X (.Call (.Name x p) (e::es) [] pos) (xN C t):=by
 calc⟨?_⟩;ext pins s σ H Q I h;calc Wg (tX I hg hm ?_ dj);calc Zc (h₀:=X.base) I.ok.mod.kz M.kp (bp (ha pos pins s σ H _ I h) λus s1 ⟨vs,H1,I1,r,hz,q⟩=>⟨I1.dU,?_⟩) he dm;let⟨nm,q',N,bs,bm,f7,sn,sub,ab,col,dd,k0,k1,k2,k3,k5,l,T,n⟩:=M.CN;let⟨mN,hN,hi⟩:=n.ns I1.dU;let⟨hp,g,d,tk,os⟩:=s1;calc wpAny_call_exc_subT PySem.F.excBase_ValueError (T.tail I1.dU) (I1.dU _ _ l) hN hi (λh' a hm=>?_) (by rw[Yl,<-↑r];calc hz);let⟨hf,I2⟩:=I1.kU hm;calc⟨.ref a,_,I2,Y,q a hf⟩
end
section
variable{X:Cx}
noncomputable def kW:V->Option B
 |.ty n=>U (.type n)
 |.ref a=>U (.ref a)
 |_=>Z
theorem CP{y:V}{u c:B}(r:RelV y u)(e:kW y=U c):u=c:=by
 cases y with
 |ty n=>cases e;exact r
 |ref a=>cases e;exact r
 |_=>cases e
theorem Ko:gF X (.builtin "isinstance") (λxs H Q=>∃x y c t b,xs=[x,y]/\kW y=U c/\di X.K H x t/\Ts X.K t c=U b/\Q (.bl b) H):=by
 ext pins s σ H xs us Q I rv h;let⟨x,y,c,t,b,rfl,hc,ty,e,q⟩:=h;let⟨u,w',rfl,rx,ry⟩:=rv.two;rw[CP ry hc];calc Iu I rx ty e λtk=>⟨.bl b,H,I.tok tk,Y,q⟩
theorem CQ{x:V}:∀{xs:-V}{us:-B},Vals xs us->xs.all iV=θ->us.countP (mz x)=xs.countP λy=>fj y x
 |_,_,.nil,_=>Y
 |y::xs,u::us,.cons r t,f=>by
  rw[XM,Tv] at f;rw[Vy,Vy,CQ t f.2,xb r f.1]
theorem IsList.parts{h:R}{l:O}{items:Array B}(x:h.IsList l items):∃dd n sl,h.get? l=U {cls:=.type "list",dict:=dd,data:=.seq items n,slots:=sl}:=by
 let⟨⟨cls,dd,data,sl⟩,ho,hc,n,hd⟩:=x;simp only at hc hd;subst hc hd;calc⟨dd,n,sl,ho⟩
def Kq(K:nG):V->-V->Hp->VK->Prop:=λx vs H Q=>∃l xs y,x=.ref l/\vs=[y]/\bq K H l xs/\iV y=θ/\xs.all iV=θ/\Q (.int (xs.countP λz=>fj z y:Nat)) H
theorem Kr:qZ X "list.count" (Kq X.K):=by
 ext pins s σ H x vs v us Q I rx rv h;let⟨l,xs,y,rfl,rfl,hq,fy,fs,q⟩:=h;cases rx
 let⟨u,rfl,ru⟩:=rv.one;let⟨ah,r,pl,hz⟩:=I.list hq;let⟨dd,n,sl,e⟩:=IsList.parts pl.isList;calc Vt F.slot_list_count ⟨_,e,Y⟩ F.entry_list_count (F.args_list_count_2 _ _) (SeqAt.list_countAt l ah.toArray n dd sl u (mz y)) ⟨e,λw hw=>xc ru fy r fs w hw⁻¹,?_⟩;calc⟨.int _,H,I.tok _,⟨_,Y⟩,?_⟩;let e2:ah.toArray.toList.countP (mz y)=xs.countP λz=>fj z y:=by rw[List.toList_toArray];exact CQ r fs
 rw[e2];calc q
def Ks(K:nG):V->-V->Hp->VK->Prop:=λx vs H Q=>∃l xs y j,x=.ref l/\vs=[y]/\bq K H l xs/\iV y=θ/\xs.all iV=θ/\j<↑xs/\(∀z,xs[j]?=U z->fj z y=θ)/\(∀m z,m<j->xs[m]?=U z->fj z y=ι)/\Q (.int (j:Nat)) H
theorem Kt{x:V}{xs:-V}{us:-B}(r:Vals xs us)(f:xs.all iV=θ){j:Nat}{u:B}(hu:us[j]?=U u):∃z,xs[j]?=U z/\mz x u=fj z x:=by
 let hl:=↑r;let hj:j<↑us:=(kP.mp hu).1;let hz:xs[j]?=U (xs[j]'⋯):=nH _;let⟨u',e,ru⟩:=r.get hz;rw[hu] at e;cases e;calc⟨_,hz,xb ru ((Uc.mp f) _ (WW _))⟩
theorem Ku:qZ X "list.index" (Ks X.K):=by
 ext pins s σ H x vs v us Q I rx rv h;let⟨l,xs,y,j,rfl,rfl,hq,fy,fs,hj,h1,h2,q⟩:=h;cases rx
 let⟨u,rfl,ru⟩:=rv.one;let⟨ah,r,pl,hz⟩:=I.list hq;let⟨dd,n,sl,e⟩:=IsList.parts pl.isList;let hl:=↑r;let line:=nh;let at_:∀(m:Nat)(hm:m<ah.toArray.size),∃z,xs[m]?=U z/\mz y ah.toArray[m]=fj z y:=λm hm=>Kt r fs (by simp[nH (show m<↑ah by simpa using hm)]);refine Vt F.slot_list_index ⟨_,e,Y⟩ F.entry_list_index (F.args_list_index_2 _ _) (SeqAt.list_indexAt l ah.toArray n dd sl u (mz y) j (by simp;symm) ⋯ ?_ ?_) ⟨e,λw hw=>xc ru fy r fs w hw⁻¹,?_⟩
 .let⟨z,e1,e2⟩:=at_ j (by simp;symm)
  rw[e2];exact h1 z e1
 .ext m hm Kv
  let⟨z,e1,e2⟩:=at_ m hm;rw[e2];exact h2 m z Kv e1
 .calc⟨.int _,H,I.tok _,⟨_,Y⟩,q⟩
end
theorem Kw{K:nG}{a:O}{xs:-V}{g:TG}{tb:TS}{D:Ends}{σ:St}{H:Hp}(Pv:Nat->St->Hp->Prop)(h0:Pv 0 σ H)(hl:∀i σ H,i<=↑xs->Pv i σ H->bq K H a xs)
  (hs:∀i x T σ H,xs[i]?=U x->Pv i σ H->H T=Z->g (.ref T) σ (upd H T (.tup [.int (i:Nat),x])) fun σ2 H2=>tb {D with nx:=Pv (i+1),ct:=Pv (i+1),bk:=D.nx} σ2 H2) (hd:∀σ H,Pv ↑xs σ H->D.nx σ H) :
  ∃W:Nat->Nat->St->Hp->Prop,(∃m,W 0 m σ H)/\∀i m σ H,W i m σ H →
   ((rq K a).stop i H/\D.nx σ H)\/((rq K a).go i H/\∃N:St->Hp->Prop,(∀σ' H',N σ' H'->∃m',m'<m/\W (i+1) m' σ' H')/\∀x H',(rq K a).o_ i H x H'->g x σ H' fun σ2 H2=>tb {D with nx:=N,ct:=N,bk:=D.nx} σ2 H2):=by
 calc⟨λi m σ H=>m=↑xs-i/\i<=↑xs/\Pv i σ H,⟨↑xs,by simp,Ui _,h0⟩,?_⟩;ext i m σ H ⟨rfl,hi,p⟩;let q:=hl i σ H hi p
 by_cases dF:i<↑xs
 .refine .inr ⟨⟨xs,xs[i],q,by simp[dF]⟩,Pv (i+1),fun σ' H' p'=>⟨↑xs-(i+1),⋯,Y,dF,p'⟩,λx H' y=>?_⟩
  let⟨T,v,rfl,hT,rfl,y⟩:=y;exact hs i v T σ H (y xs q) p hT
 .let e:i=↑xs:=by symm
  subst e;calc .inl ⟨⟨xs,q,ug _⟩,hd σ H p⟩
section
variable{g:TG}{tf:TT}{te:TE}{l:O}{τ0:St}{H0:Hp}{Q:VK}
end
section
variable{X:Cx}{es:-M}{te:TE}{t:TA}
theorem f9{c j p}(ha:JE X (.Constant c j p) te)(hr:JA X es t):JA X (.Constant c j p::es) (iq te t):=hU ha hr Y
theorem iA{x p}(ha:JE X (.Name x p) te)(hr:JA X es t):JA X (.Name x p::es) (iq te t):=hU ha hr Y
theorem kX{f a k p}(ha:JE X (.Call f a k p) te)(hr:JA X es t):JA X (.Call f a k p::es) (iq te t):=hU ha hr Y
theorem xO{a p}(ha:JE X (.List a p) te)(hr:JA X es t):JA X (.List a p::es) (iq te t):=hU ha hr Y
theorem xP{a k p}(ha:JE X (.Tuple a k p) te)(hr:JA X es t):JA X (.Tuple a k p::es) (iq te t):=hU ha hr Y
theorem nN{a k p}(ha:JE X (.Subscript a k p) te)(hr:JA X es t):JA X (.Subscript a k p::es) (iq te t):=hU ha hr Y
theorem xQ{a k p}(ha:JE X (.Attribute a k p) te)(hr:JA X es t):JA X (.Attribute a k p::es) (iq te t):=hU ha hr Y
end
inductive D where
 |non|bl (b:Bool)|int (i:Int)|str (x:J)|tup (xs:-D)|lst (xs:-D)
mutual
def Is (H:Hp):D->V->Prop
 |.non,v=>v=.non
 |.bl b,v=>v=.bl b
 |.int i,v=>v=.int i
 |.str x,v=>v=.str x
 |.tup ds,v=>∃a vs,v=.ref a/\H a=U (.tup vs)/\ae H ds vs
 |.lst ds,v=>∃a vs,v=.ref a/\H a=U (.lst vs)/\ae H ds vs
def ae (H:Hp):-D->-V->Prop
 |[],vs=>vs=[]
 |d::ds,vs=>∃v r,vs=v::r/\Is H d v/\ae H ds r
end
mutual
theorem Is.same {H H':Hp} (s:aw H H'):∀{d:D}{v:V},Is H d v->Is H' d v
 |.non,_,h=>h
 |.bl _,_,h=>h
 |.int _,_,h=>h
 |.str _,_,h=>h
 |.tup _,_,h=>by
  erw[Is] at h ⊢;let⟨a,vs,e,h1,h2⟩:=h;exact⟨a,vs,e,s _ _ h1,ae.same s h2⟩
 |.lst _,_,h=>by
  erw[Is] at h ⊢;let⟨a,vs,e,h1,h2⟩:=h;calc⟨a,vs,e,s _ _ h1,ae.same s h2⟩
theorem ae.same {H H':Hp} (s:aw H H'):∀{d:-D}{v:-V},ae H d v->ae H' d v
 |[],_,h=>h
 |_::_,_,h=>by
  erw[ae] at h ⊢;let⟨v,r,e,h1,h2⟩:=h;calc⟨v,r,e,Is.same s h1,ae.same s h2⟩
end
theorem ae.length{H:Hp}:∀{ds:-D}{vs:-V},ae H ds vs->↑vs=↑ds
 |[],_,h=>by erw[ae] at h;rw[h];rfl
 |_::_,_,h=>by
  erw[ae] at h;let⟨v,r,rfl,_,h2⟩:=h;rw[Cw,Cw,ae.length h2]
theorem ae.get{H:Hp}:∀{ds:-D}{vs:-V}{i:Nat}{v:V},ae H ds vs->vs[i]?=U v->∃d,ds[i]?=U d/\Is H d v
 |[],_,i,v,h,e=>by erw[ae] at h;rw[h] at e;simp at e
 |d::ds,_,i,v,h,e=>by
  erw[ae] at h;let⟨v',r,rfl,h1,h2⟩:=h
  cases i with
  |zero=>simp at e;subst e;exact⟨d,Y,h1⟩
  |succ i=>simp at e;simpa using ae.get h2 e
theorem ae.nil{H:Hp}:ae H [] []:=by erw[ae]
theorem ae.cons{H:Hp}{d:D}{ds:-D}{v:V}{vs:-V}(h:Is H d v)(r:ae H ds vs):ae H (d::ds) (v::vs):=by
 erw[ae];calc⟨v,vs,Y,h,r⟩
theorem ae.snoc{H:Hp}{d:D}{v:V}:∀{ds:-D}{vs:-V},ae H ds vs->Is H d v->ae H (ds++[d]) (vs++[v])
 |[],_,h,q=>by erw[ae] at h;subst h;exact .cons q .nil
 |_::_,_,h,q=>by
  erw[ae] at h;let⟨v',r,rfl,h1,h2⟩:=h;exact .cons h1 (ae.snoc h2 q)
mutual
noncomputable def dep:D->Nat
 |.tup ds=>aZ ds+1
 |.lst ds=>aZ ds+1
 |_=>0
noncomputable def aZ:-D->Nat
 |[]=>0
 |d::ds=>max (dep d) (aZ ds)
end
theorem xS:∀{ds:-D}{i:Nat}{d:D},ds[i]?=U d->dep d<=aZ ds
 |[],i,d,e=>by simp at e
 |d'::ds,0,d,e=>by simp at e;subst e;erw[aZ];exact Nat.le_max_left _ _
 |d'::ds,i+1,d,e=>by simp at e;erw[aZ];calc T5 (xS e) (Nat.le_max_right _ _)
noncomputable def bC:D->String
 |.non=>"NoneType" | .bl _=>"bool" | .int _=>"int" | .str _=>"str" | .tup _=>"tuple" | .lst _=>"list"
theorem Is.ty{K:nG}{H:Hp}:∀{d:D}{v:V},Is H d v->di K H v (.type (bC d))
 |.non,_,h=>by cases(show _=_ from h);exact .non
 |.bl b,_,h=>by cases(show _=_ from h);exact .bl b
 |.int i,_,h=>by cases(show _=_ from h);exact .int i
 |.str x,_,h=>by cases(show _=_ from h);exact .str x
 |.tup _,_,h=>by
  erw[Is] at h;let⟨a,vs,rfl,h1,_⟩:=h;exact .tup h1
 |.lst _,_,h=>by
  erw[Is] at h;let⟨a,vs,rfl,h1,_⟩:=h;calc .lst h1
noncomputable def aQ(T c:String):Bool:=T==c||(T=="bool" && c=="int")
section
variable{K:nG}
theorem Kx:∀T∈["NoneType", "bool", "int", "str", "tuple", "list"],Ts K (.type T) (.type "bool")=U (aQ T "bool"):=by
 ext T hT;erw[Cy,Tr,UA] at hT;rcases hT with rfl|rfl|rfl|rfl|rfl|rfl<;>kernel_rfl
theorem Ky:∀T∈["NoneType", "bool", "int", "str", "tuple", "list"],Ts K (.type T) (.type "int")=U (aQ T "int"):=by
 ext T hT;erw[Cy,Tr,UA] at hT;rcases hT with rfl|rfl|rfl|rfl|rfl|rfl<;>kernel_rfl
theorem Kz:∀T∈["NoneType", "bool", "int", "str", "tuple", "list"],Ts K (.type T) (.type "str")=U (aQ T "str"):=by
 ext T hT;erw[Cy,Tr,UA] at hT;rcases hT with rfl|rfl|rfl|rfl|rfl|rfl<;>kernel_rfl
theorem kit_tuple:∀T∈["NoneType", "bool", "int", "str", "tuple", "list"],Ts K (.type T) (.type "tuple")=U (aQ T "tuple"):=by
 ext T hT;erw[Cy,Tr,UA] at hT;rcases hT with rfl|rfl|rfl|rfl|rfl|rfl<;>kernel_rfl
theorem KA:∀T∈["NoneType", "bool", "int", "str", "tuple", "list"],Ts K (.type T) (.type "list")=U (aQ T "list"):=by
 ext T hT;erw[Cy,Tr,UA] at hT;rcases hT with rfl|rfl|rfl|rfl|rfl|rfl<;>kernel_rfl
theorem rF(d:D):bC d∈["NoneType", "bool", "int", "str", "tuple", "list"]:=by cases d<;>simp[bC]
end
section
variable{X:Cx}
noncomputable def rG:M->Option J
 |.Constant (.str x) _ _=>U x
 |_=>Z
noncomputable def strsOf:-M->Option (-J)
 |[]=>U []
 |e::r=>(rG e).bind λx=>(strsOf r).map (x :: ·)
theorem CS:∀{es:-M}{ss:-J},strsOf es=U ss->JA X es (λ_ H Q=>Q (ss.map V.str) H)
 |[],ss,h=>by
  cases h
  exact⟨λpos pins s σ H Q I h=>bg pos pins s σ H Q I h⟩
 |e::r,ss,h=>by
  let h:(rG e).bind (λx=>(strsOf r).map (x :: ·))=U ss:=h
  cases e with
  |Constant c j p =>
   cases c with
   |str x =>
    let⟨s2,h2,rfl⟩:=Tq.mp (show(strsOf r).map (x :: ·)=U ss from h);let ih:=CS h2;exact⟨λpos pins s σ H Q I h=>f9 (o8 (j:=j) (pos:=p)) ih pos pins s σ H Q I h⟩
   |_=>cases h
  |_=>cases h
theorem KC{es:-M}{ss:-J}{pos:y}(h:strsOf es=U ss)(hz:↑ss<=sizeLine):JE X (.List es pos) (λ_ H Q=>∀p,H p=Z->Q (.ref p) (upd H p (.lst (ss.map V.str)))):=by
 calc⟨?_⟩;ext pins s σ H Q I hq;calc jW (CS h) pins s σ H Q I ⟨by rw[pj];calc hz,hq⟩
theorem JE.weak{e:M}{t t':TE}(h:JE X e t)(k:∀σ H Q,t' σ H Q->t σ H Q):JE X e t':=⟨λpins s σ H Q I q=>h pins s σ H Q I (k σ H Q q)⟩
theorem JT.weak{e:M}{t t':TT}(h:JT X e t)(k:∀σ H Q,t' σ H Q->t σ H Q):JT X e t':=⟨λpins s σ H Q I q=>h pins s σ H Q I (k σ H Q q)⟩
theorem JA.weak{es:-M}{t t':TA}(h:JA X es t)(k:∀σ H Q,t' σ H Q->t σ H Q):JA X es t':=⟨λpos pins s σ H Q I q=>h pos pins s σ H Q I (k σ H Q q)⟩
theorem JS.weak{st:o}{t t':TS}(h:JS X st t)(k:∀D σ H,t' D σ H->t D σ H):JS X st t':=⟨λpins s σ H D I q=>h pins s σ H D I (k D σ H q)⟩
theorem bZ.weak{st:-o}{t t':TS}(h:bZ X st t)(k:∀D σ H,t' D σ H->t D σ H):bZ X st t':=⟨λpins s σ H D I q=>h pins s σ H D I (k D σ H q)⟩
theorem CT{i:Nat}{x:J}{es:-M}{te:TE}{pos' p pos:y}(hN:X.N.Nodup)(hi:X.N[i]?=U x)(hx:Loc X.env.scope x)(he:JE X (.List es p) te)(hf:dS X x):JS X (.Assign [.Name x pos'] (.List es p) pos) (cO te (g_ i)):=mZ hN hi hx he Y hf
theorem uk{i:Nat}{x:J}{a b:M}{op:Operator}{te:TE}{pos' p pos:y}(hN:X.N.Nodup)(hi:X.N[i]?=U x)(hx:Loc X.env.scope x)(he:JE X (.BinOp a op b p) te)(hf:dS X x):JS X (.Assign [.Name x pos'] (.BinOp a op b p) pos) (cO te (g_ i)):=mZ hN hi hx he Y hf
theorem KD{i:Nat}{x:J}{f:M}{as:-M}{ks:-Keyword}{te:TE}{pos' p pos:y}(hN:X.N.Nodup)(hi:X.N[i]?=U x)(hx:Loc X.env.scope x)(he:JE X (.Call f as ks p) te)(hf:dS X x):JS X (.Assign [.Name x pos'] (.Call f as ks p) pos) (cO te (g_ i)):=mZ hN hi hx he Y hf
theorem KG{c A B:Prop}[Decidable c](hc:¬ c)(h:A):if(!g c)=θ then A else B:=by
 rw[TH hc];calc h
theorem mD{L:-o}{k:Nat}{d:o}{t u:TS}(hk:k<↑L)(h:JS X (L.getD k d) t)(r:bZ X (L.drop (k+1)) u):bZ X (L.drop k) (qw t u):=by
 let e:L.drop k=L.getD k d::L.drop (k+1):=by
  rw[Ug hk,Tx,nH hk];rfl
 rw[e];calc o9 h r
theorem KH{L:-o}{k:Nat}{d:o}{t:TS}(hk:↑L=k+1)(h:JS X (L.getD k d) t):bZ X (L.drop k) t:=by
 let hZ:k<↑L:=by symm
 let e:L.drop k=[L.getD k d]:=by
  rw[Ug hZ,Tx,nH hZ,Ww ⋯];rfl
 rw[e];calc mX h
theorem KI{L:-o}{t:TS}(h:bZ X (L.drop 0) t):bZ X L t:=h
theorem f_{n:Nat}(h:n<=20):n<=sizeLine:=Vo (rg (T5 h (by decide)))
end
section
variable{κ:Type}[DecidableEq κ]
end
section
variable{P:q}{w:I}{H:Hp}{h:R}{a:O}
end
section
variable{X:Cx}{pins:av}{σ:St}{H:Hp}{s:L}{a:O}{y v:V}{u r:B}{o:Option V}{A:l}{E:aT}
end
section
variable{X:Cx}{pins:av}{σ:St}{H:Hp}{s:L}{a:O}{cj:-(Key×V)}{k:Key}{u:B}{A:l}{E:aT}
end
section
variable{X:Cx}{o i e value:M}{pos pos' wM:y}{td ty tv:TE}
end
section
variable{X:Cx}{pos:y}
end
section
variable{X:Cx}{pins:av}{σ:St}{H:Hp}{s:L}{a:O}{y d:V}{u r:B}{o:Option V}{A:l}{E:aT}
end
section
variable{X:Cx}{o e f:M}{apos dr:y}{td ty tx:TE}
end
section
variable{X:Cx}{pins:av}{σ:St}{H:Hp}{s:L}{a:O}{cj:-(Key×V)}{A:l}{E:aT}
end
section
variable{X:Cx}{pins:av}{σ:St}{H:Hp}{s:L}{a:O}{y:V}{u:B}{A:l}{E:aT}
end
end L2
namespace L2
section
variable{κ:Type}[DecidableEq κ]
end
end L2
namespace L2
open PySem PySem.Spec PyProof.Rows
end L2
namespace LJS
open PySem
noncomputable def hp(i j:Int):Int:=reduceHash (Builtin.Tuple.tupleHashOf [hashInt i,hashInt j])
theorem CU{prog:q}{w:I}(i j:Int):hT prog w [i,j]=hp i j:=rfl
noncomputable def um:-(Int×Int):=(TY 12).flatMap λj=>(TY j).map λi:Nat=>(ZT i,ZT j)
theorem KJ:∀a∈um,∀b∈um,hp a.1 a.2=hp b.1 b.2->a=b:=by decide +kernel
theorem CV{i j:Int}(h0:0<=i)(h1:i<j)(h2:j<12):(i,j)∈um:=by
 let⟨a,rfl⟩:∃a:Nat,i=a:=⟨i.toNat,⋯⟩;let⟨b,rfl⟩:∃b:Nat,j=b:=⟨j.toNat,⋯⟩;unfold um;calc List.mem_flatMap.mpr ⟨b,T6.mpr ⋯,Tz.mpr ⟨a,T6.mpr ⋯,Y⟩⟩
end LJS
namespace L2
open PySem PySem.Spec PyProof.Rows
noncomputable def jn(S:O)(n:Nat):HO:=.ext λh=>∃hs:-Int,↑hs=n/\LJS.jc h S hs
theorem KN{P:q}{w:I}{H:Hp}{h:R}{S:O}{hs:-Int}{n:Nat}(e:LJS.jc h S hs)(hn:↑hs=n):bc P w H h S (jn S n) :=
 ⟨⟨hs,hn,e⟩,let⟨o,_,_,_,ho,_⟩:=e;⟨o,ho⟩,λh1 h2 ⟨uo,en,e1⟩ k↦⟨uo,en,LJS.Hn e1 λo eo=>k o eo⟩⟩
section
variable{X:Cx}
theorem CW:∀{ps:-O}{ah:-B},Vals (ps.map V.ref) ah->ah=ps.map TX
 |[],_,.nil=>Y
 |_::_,_,.cons r rs=>by cases r;rw[CW rs];rfl
theorem KO:gF X (.builtin "len") (λxs H Q=>∃(p:O)(n:Nat),xs=[.ref p]/\H p=U (jn p n)/\n<1000/\Q (.int n) H):=by
 ext pins s σ H xs us Q I r h;let⟨p,n,rfl,hp,hn,q⟩:=h;let⟨u,rfl,rx⟩:=vals1 r;cases rx
 let⟨⟨hs,hl,o,es,ep,t,ho,hex,hd,T⟩,_⟩:=I.aX p _ hp;let e:es.size=n:=by rw[T.num,hl]
 calc call_len_set ho hex hd T.fits ⋯ ⟨.int n,H,I.tok _,⟨_,by rw[e]⟩,q⟩
theorem CY:∀{bs:-Bool}{ah:-B},Vals (bs.map V.bl) ah->ah=bs.map VW
 |[],_,.nil=>Y
 |_::_,_,.cons r rs=>by cases r;rw[CY rs];rfl
theorem all_range(bs:-Bool):(TY bs.length).all (λi=>bs.getD i θ)=bs.all id:=by
 rw[We,Uc,Uc]
 constructor
 .ext h b hb
  let⟨i,hi⟩:=Tp.mp hb;let hl:=(kP.mp hi).1;let:=h i (T6.mpr hl);rw[Tx,hi] at this;exact this
 .ext h i hi
  let hl:=T6.mp hi;rw[Tx,nH hl];calc h _ (WW hl)
theorem KP(hc:X.calm=θ):gF X (.builtin "all") (λxs H Q=>∃(l:O)(bs:-Bool),xs=[.ref l]/\bq X.K H l (bs.map V.bl)/\Q (.bl (bs.all id)) H):=by
 ext pins s σ H xs us Q I r h;let⟨l,bs,rfl,hq,q⟩:=h;let⟨u,rfl,rx⟩:=vals1 r;cases rx
 let⟨ah,r',pl,_⟩:=I.list hq;obtain rfl:=CY r';let hL:=pl.isList;let ll:l<⇑s:=by let⟨o,e,_⟩:=hL;exact Jo e
 let nI:l≠⇑s:=TN ll;calc call_all_walk (VT hL ?_);refine⟨⇑s,_,_,_,_,_,λi=>bs.getD i θ,Y,q0z (by rw[Xr];calc I.ok.hd hc) ⇑s l nI _,⟨⟨_,R0 _ Y,Y,Y⟩,hL.push _⟩,λi v s' Q' E' hv uq=>?_,λh' tk kp=>?_⟩
 .let hv:(bs.map VW).toArray[i]?=U v:=hv
  let uq:Q' (bs.getD i θ) s':=uq;rw[Vn,R1] at hv;let⟨b,eb,rfl⟩:=Tq.mp hv;rw[Tx,eb] at uq;exact UG uq
 .refine⟨.bl (bs.all id),H,I.kept (t':=tk) λb o e=>kp b o (λz=>?_) (nF _ e),?_,q⟩
  .let:=Jo e
   rw[Ul.mp z] at this;exact U9 _ this
  .show VW _=VW _
   rw[xu,pj,all_range]
end
end L2
namespace LJ
open PySem L2
structure Fn(P:q)(w:I)(K:nG)(mg:J->Option B)(base:R)(k:Nat)(x:J)(ps:-J)(sp:Sp)(f:O)(fd:FuncData):Prop where
 ok:bP P w K mg base fP k f fd ps sp
 rH:mg x=U (.ref f)
 kp:UK K (.ref f)=θ
 bd:Binds K fd ps []
theorem rJ:bootBuiltins "bool" = U (.type "bool"):=by decide +kernel
theorem ur:bootBuiltins "int" = U (.type "int"):=by decide +kernel
theorem uu:bootBuiltins "str" = U (.type "str"):=by decide +kernel
theorem pw:bootBuiltins "tuple" = U (.type "tuple"):=by decide +kernel
theorem rK:bootBuiltins "list" = U (.type "list"):=by decide +kernel
theorem KQ:bootBuiltins "set" = U (.type "set"):=by decide +kernel
theorem KR:bootBuiltins "all" = U (.builtin "all"):=by decide +kernel
section
variable{K:nG}
end
structure iB(many:Int)(ys:-(Int×Int×Int)):Prop where
 m1:1<=many
 kY:many<=12
 h9:↑ys<=30
 ends:∀y∈ys,0<=y.1/\y.1<y.2.1/\y.2.1<many/\0<=y.2.2/\y.2.2<=1000000000
 unlike:(ys.map λy=>(y.1,y.2.1)).Nodup
end LJ
namespace L2
open PySem PySem.Spec PyProof.Rows
section
variable{X:Cx}
end
end L2
namespace LJ
open PySem L2
noncomputable def h_:Nat->-(Int×Int)
 |0=>[]
 |n+1=>h_ n++(TY n).map λa:Nat=>(ZT a,ZT n)
theorem xT:∀{n:Nat}{k:Int×Int},k∈h_ n->0<=k.1/\k.1<k.2/\k.2<n
 |0,_,h=>nomatch h
 |n+1,k,h=>by
  rcases T1.mp h with h|h
  .let:=xT h;symm
  .let⟨a,ha,rfl⟩:=Tz.mp h
   let:=T6.mp ha;refine⟨Int.natCast_nonneg a,?_,?_⟩
   .show (a:Int)<(n:Int);symm
   .show (n:Int)<((n+1:Nat):Int);symm
theorem CZ:∀n:Nat,(h_ n).Nodup
 |0=>Xs
 |n+1=>by
  refine U4.mpr ⟨CZ n,?_,λk h1 k' h2 e=>?_⟩
  .refine Wr.mpr (WM.imp λ{a b} ne e=>ne ?_)
   exact XO (congrArg q0A e)
  .subst e
   let⟨a,ha,rfl⟩:=Tz.mp h2;let:=(xT h1).2.2;let:(n:Int)<(n:Int):=this;symm
theorem C0:∀n:Nat,n<=12->↑(h_ n)<=66:=by
 ext n h;rcases n with _|_|_|_|_|_|_|_|_|_|_|_|_|n
 all_goals first|decide|symm
end LJ
namespace LJ
open PySem
theorem C1{j n:Nat}(h:j<n):seqIndex? (j:Int) n=U j:=by
 unfold seqIndex?
 first|(simp;symm)|skip
end LJ
namespace L2
open PySem PySem.Spec PyProof.Rows
section
variable{X:Cx}
theorem KU:gF X (.type "range") (λxs H Q=>∃j:Int,xs=[.int j]/\∀r,H r=Z->Q (.ref r) (upd H r (.rng 0 j))):=by
 ext pins s σ H xs us Q I r h;let⟨j,rfl,q⟩:=h;let⟨u,rfl,t,rfl⟩:=vals1 r;calc call_range_1 ⟨.ref ⇑s,_,I.laid (t':=s.toks+1+1) (o:=.rng 0 j) (λb o e=>nF _ e) (ug _) ?_,Y,q _ (I.aX.fresh (ug _))⟩;calc⟨_,_,_,R0 _ Y⟩
noncomputable def gL(n:Nat):-Int:=(TY n).map λa:Nat=>(a:Int)
theorem C2:∀{ns:-Int}{us:-B},↑us=ns.length->(∀(i:Nat)(u:B),us[i]?=U u->∃t,u=.int (ns.getD i 0) t)->Vals (ns.map V.int) us
 |[],[],_,_=>.nil
 |[],_::_,h,_=>by simp at h
 |_::_,[],h,_=>by simp at h
 |n::ns,u::us,h,g=>by
  let⟨t,e⟩:=g 0 u Y;calc .cons ⟨t,e⟩ (C2 h⁻¹ λi v e2=>?_);let⟨t,e⟩:=g (i+1) v e2⁻¹;calc⟨t,by simpa using e⟩
theorem KW(hc:X.calm=θ):gF X (.type "list") (λxs H Q=>∃(r:O)(n:Nat),xs=[.ref r]/\H r=U (.rng 0 (n:Int))/\n<=1000/\∀l,H l=Z->Q (.ref l) (upd H l (.lst ((gL n).map V.int)))):=by
 ext pins s σ H xs us Q I r h;let⟨a,n,rfl,ha,hn,q⟩:=h;let⟨u,rfl,rx⟩:=vals1 r;cases rx
 let⟨t,u,v,e⟩:=(show ∃t u v,s.heap.get? a=U {cls:=.type "range",data:=.fields #[.int 0 t,.int (n:Int) u,.int 1 v]} from I.aX a _ ha);let hs:XU 0 (n:Int) 1=n:=by rw[q0S];split<;>symm
 calc call_list_range (n:=n) (I.ok.hd hc) e (small_one ⋯ ⋯ ⋯ ⋯) hs ⋯ λh' tk acc c' kp e' it=>?_;calc⟨.ref ⇑s,_,I.laid (t':=tk) (o:=.lst ((gL n).map V.int)) kp (ug _) ?_,Y,q _ (I.aX.fresh (ug _))⟩;calc⟨Vo (rg (by rw[pj,gL,pj,UE];calc hn)),acc.toList,c',?_,by simpa using e'⟩;refine C2 ?_ λi u e=>?_
 .rw[Jq,it.1,gL,pj,UE]
 .rw[TM] at e
  let⟨t',e2⟩:=it.2 i u e;let hi:i<n:=by rw[<-it.1];exact(Ud.mp e).1
  calc⟨t',e2.trans ?_⟩;rw[gL,Tx,R1,U5 hi];show WR (0+(i:Int)*1) t'=WR (i:Int) t';rw[q1w,q2r]
theorem C3{prog:q}{w:ω}{A:Β}{E:aT}{I l:O}{items:Array B}(W:Walks prog w A I [I,l] [I] items.size (λi v=>items[i]?=U v) (λi h=>h.IsListIter I l i/\h.IsList l items)):
  ∀(k i:Nat)(s:L)(Q:-B->L->Prop),i+k<=items.size->(s.heap.IsListIter I l i/\s.heap.IsList l items) →
   (∀h' tk,(h'.IsListIter I l (i+k)/\h'.IsList l items)->(∀b o,b∉[I]->s.heap.get? b=U o->h'.get? b=U o)->Q ((items.toList.drop i).take k) {s with heap:=h',toks:=tk})->G (S prog w) A (draw (.ref I) k) Q E s
 |0,i,s,Q,_,st,g=>by
  show G _ _ (pure []) Q E s;calc qY ?_;let:=g s.heap s.toks st λ_ _ _ e=>e;rw[Xt] at this;exact this
 |k+1,i,s,Q,hk,st,g=>by
  let hi:i<items.size:=by symm
  show G _ _ (pyNext (.ref I) >>= _) Q E s;calc kb (W.item i s _ _ hi st λv h1 pA hv iC xU=>?_);refine kb (Ua (C3 W k (i+1) _ _ ⋯ iC λh2 xV jg xW=>qY ?_))
  let e:items.toList.drop i=v::items.toList.drop (i+1):=by
   rw[Ug (by rw[Jq];calc hi)];congr 1;let C4:items[i]?=U v:=hv;rw[My hi] at C4;simpa using C4
  let:=g h2 xV (by rw[show i+(k+1)=i+1+k by symm];calc jg) λb o hb e=>xW b o hb (xU b o hb e);rw[e,YV] at this;calc this
theorem KY{prog:q}{w:I}{A:Β}{E:aT}{s:L}{l:O}{items:Array B}{Q:-B->L->Prop}(hh:A.handled=Z)(hl:s.heap.IsList l items)
  (g:∀h' tk,(∀b o,b≠⇑s->s.heap.get? b=U o->h'.get? b=U o)->Q items.toList {s with heap:=h',toks:=tk}):G (S prog w) A (unpackItems (.ref l) items.size Z) Q E s:=by
 let ll:l<⇑s:=by let⟨o,e,_⟩:=hl;exact Jo e
 let W:=q0z (prog:=prog) (w:=w) hh ⇑s l (TN ll) items;unfold unpackItems;calc kb ?_;unfold notIterableAtAll;calc kb (Z7 hl.typeIs slot_list_iter.lookup (qY ?_));erw[Jr,Um];calc kb (Ua (VT hl ?_));calc kb (Ua (C3 W items.size 0 _ _ ⋯ ⟨⟨_,R0 _ Y,Y,Y⟩,hl.push _⟩ λh1 pA iC xU=>?_));rw[Xh,T_ (by rw[Jq];calc ug _),To (by rw[Jq];calc U9 _)];rw[UX] at iC;calc kb (Ua (W.done _ _ _ iC λh2 xV xW=>?_));erw[Option.isSome_none,Jr,Um];calc qY (g h2 xV λb o hb e=>xW b o hb⁻¹ (xU b o hb⁻¹ (nF _ e)))
def KZ(K:nG)(n:Nat)(t:iS):TG:=λv σ H Q=>∃a xs,v=.ref a/\bq K H a xs/\↑xs=n/\t xs σ H Q
theorem K4{es:-M}{k:Nat}{t:iS}{n:Nat}{pos:y}(hc:X.calm=θ)(h:g9 X es t)
  (hn:↑(assignEach es X.env)=n:=by rfl) (fN:(assignEach es X.env).findIdx? (·.1)=Z:=by rfl):JG X (.Tuple es k pos) (KZ X.K n t):=by
 calc⟨?_⟩;ext pins s σ H v u Q I r hw;let⟨a,xs,e1,hq,hl,hw⟩:=hw;subst e1;cases r
 let⟨ah,rv,ht,hz⟩:=I.list hq;let hlen:=↑rv;rw[assign_Tuple];calc kb (V_ ?_);unfold unpack;rw[fN,show↑(assignEach es X.env)=ah.toArray.size by rw[hn,<-hl,hlen];simp];calc kb (Ua (KY (I.ok.hd hc) ht.isList λh' tk kp=>?_));let I1:Inv X pins σ H {s with heap:=h',toks:=tk}:=I.kept λb o e=>kp b o (TN (Jo e)) e;calc h pins _ σ H xs _ Q I1 rv⁻¹ hw
end
theorem K5(ah:-B):slicePick ah.toArray Z Z (U (-1))=ah.reverse.toArray:=by
 unfold slicePick;congr 1
 let e:sliceBounds Z Z (U (-1)) ah.toArray.size=((↑ah:Int)-1,-1,-1):=by
  unfold sliceBounds;simp
 rw[e];unfold sliceRange;simp only
 let ec:(if(-1:Int)>0 then(if(↑ah:Int)-1 < -1 then(-1-((↑ah:Int)-1) + -1-1) / -1 else 0) else(if(↑ah:Int)-1 > -1 then((↑ah:Int)-1 - -1 - -1-1) / (-( -1:Int)) else 0))=(↑ah:Int):=by
  rw[To (by decide)];split
  .rw[show(-( -1:Int):Int)=1 by decide,Zw];symm
  .omega
 rw[ec,VS];rw[Xi]
 let hc:∀(n:Nat),(∀k∈TY n,k<↑ah)->(TY n).filterMap ((λk:Nat=>ah.toArray[k]?)∘λk:Nat=>((↑ah:Int)-1 + -1*(k:Int)).toNat)=(TY n).map λk=>ah.getD (↑ah-1-k) .none:=by
  ext n hn;generalize hr:TY n=l at hn;clear hr
  induction l with
  |nil=>rfl
  |cons k l ih =>
   let hk:=hn k (Cu ..);let e1:((↑ah:Int)-1 + -1*(k:Int)).toNat=↑ah-1-k:=by symm
   let hl:↑ah-1-k<↑ah:=by symm
   rw[List.filterMap_cons_some (b:=ah.getD (↑ah-1-k) .none),TJ,ih λx hx=>hn x (Jp _ hx)];show ah.toArray[((↑ah:Int)-1 + -1*(k:Int)).toNat]?=_;rw[e1,Vn,nH hl,Tx,nH hl];rfl
 rw[hc ↑ah λk hk=>T6.mp hk];calc List.ext_getElem (by simp) λi h1 h2=>?_;rw[List.getElem_map,List.getElem_range,List.getElem_reverse];let hi:i<↑ah:=by simpa using h1
 rw[Tx,nH ⋯];rfl
section
variable{X:Cx}{e:M}{te:TE}{pos p2 p3 p4:y}
theorem xX:∀{xs:-V}{us:-B},Vals xs us->Vals xs.reverse us.reverse
 |[],_,.nil=>.nil
 |x::xs,_,.cons r rs=>by
  rw[Wx,Wx];calc Vals.append (xX rs) (.cons r .nil)
end
inductive DV where
 |p (d:D)|o (k:Nat)|t (d:D) (k:Nat)
inductive OV where
 |lst (ds:-D)|dct (cj:-(Key×D))|dtt (cj:-(-Int×Int))
structure ax where
 sl:-(Option DV)
 mu:-(Option OV)
def pB(F:Hp):-(Key×D)->-(Key×V)->Prop
 |[],ws=>ws=[]
 |kd::r,ws=>∃v t,ws=(kd.1,v)::t/\Is F kd.2 v/\pB F r t
def fq(F:Hp):OV->HO->Prop
 |.lst ds,o=>∃vs,o=.lst vs/\ae F ds vs
 |.dct cj,o=>∃ws,o=.dK ws/\pB F cj ws
 |.dtt cj,o=>o=.dT (cj.map λp=>(p.1.map X_,V.int p.2))
theorem pB.same{F F':Hp}(s:aw F F'):∀{C5:-(Key×D)}{ws:-(Key×V)},pB F C5 ws->pB F' C5 ws
 |[],_,h=>h
 |_::_,_,⟨v,t,e,h1,h2⟩=>⟨v,t,e,h1.same s,pB.same s h2⟩
theorem fq.same{F F':Hp}(s:aw F F'):∀{ov:OV}{o:HO},fq F ov o->fq F' ov o
 |.lst _,_,⟨vs,e,h⟩=>⟨vs,e,h.same s⟩
 |.dct _,_,⟨ws,e,h⟩=>⟨ws,e,h.same s⟩
 |.dtt _,_,e=>e
def dJ(F:Hp)(ad:-O):DV->V->Prop
 |.p d,v=>Is F d v
 |.o k,v=>∃a,ad[k]?=U a/\v=.ref a
 |.t d k,v=>∃a b u,v=.ref a/\F a=U (.tup [u,.ref b])/\Is F d u/\ad[k]?=U b
def Lv(ad:-O)(mu:-(Option OV))(a:O):Prop:=∃(k:Nat)(ov:OV),ad[k]?=U a/\mu[k]?=U (U ov)
class aD where
 ad:-O
 ok:Hp->Prop
 same:∀{H H':Hp},ok H->aw H H'->ok H'
 put:∀{H:Hp}{a:O}{o o':HO},ok H->H a=U o->((∃vs,o=.lst vs)\/(∃ws,o=.dK ws)\/∃ws,o=.dT ws)->ok (upd H a o')
 tb:∀{H:Hp}{a:O},ok H->a∈ad->∃ps,H a=U (.tbl ps)
theorem fq.kind{F:Hp}:∀{ov:OV}{o:HO},fq F ov o->(∃vs,o=.lst vs)\/(∃ws,o=.dK ws)\/∃ws,o=.dT ws
 |.lst _,_,⟨vs,e,_⟩=>.inl ⟨vs,e⟩
 |.dct _,_,⟨ws,e,_⟩=>.inr (.inl ⟨ws,e⟩)
 |.dtt _,_,e=>.inr (.inr ⟨_,e⟩)
variable[aD]
structure SR(F:Hp)(ad:-O)(δ:ax)(σ:St)(H:Hp):Prop where
 sub:aw F H
 off:∀a,Lv ad δ.mu a->F a=Z
 cx:↑ad=↑δ.mu
 inj:∀(k l:Nat)(a:O)(ov ow:OV),ad[k]?=U a->ad[l]?=U a->δ.mu[k]?=U (U ov)->δ.mu[l]?=U (U ow)->k=l
 mu:∀(k:Nat)(ov:OV),δ.mu[k]?=U (U ov)->∃a o,ad[k]?=U a/\H a=U o/\fq F ov o
 sl:∀(i:Nat)(x:DV),δ.sl[i]?=U (U x)->∃v,σ[i]?=U (U v)/\dJ F ad x v
 len:↑σ=↑δ.sl
 tab:aD.ok H
 nt:∀a∈aD.ad,F a=Z
structure Ext(F:Hp)(ad:-O)(mu:-(Option OV))(H:Hp)(F':Hp)(az:-O)(c_:-(Option OV))(H':Hp):Prop where
 same:aw F F'
 new:∀a o,F' a=U o->F a=U o\/H a=Z\/Lv ad mu a
 keep:∀a o,H a=U o->¬ Lv ad mu a->a∉aD.ad->H' a=U o
 pre:∀(k:Nat)(a:O),ad[k]?=U a->az[k]?=U a
 bR:∀a,Lv az c_ a->Lv ad mu a\/H a=Z
 gM:∀a o,H a=U o->∃o',H' a=U o'
section
variable{F F' C6 H H' nO:Hp}{ad az rL:-O}{mu c_ rM:-(Option OV)}{δ:ax}{σ:St}
theorem cy{H:Hp}{a:O}{o:HO}(h:H a=Z):aw H (upd H a o):=λb u e=>by rw[bj (cm e h)];calc e
theorem Ext.refl:Ext F ad mu H F ad mu H:=⟨λ_ _ e=>e,λ_ _ e=>.inl e,λ_ _ e _ _=>e,λ_ _ e=>e,λ_ e=>.inl e,λ_ o e=>⟨o,e⟩⟩
theorem Ext.trans(x:Ext F ad mu H F' az c_ H')(y:Ext F' az c_ H' C6 rL rM nO):Ext F ad mu H C6 rL rM nO where
 same:=x.same.trans y.same
 new:=λa o e=>by
  rcases y.new a o e with h|h|h
  .exact x.new a o h
  .refine .inr (.inl ?_)
   cases q:H a with
   |none=>rfl
   |some u=>let⟨u',h'⟩:=x.gM a u q;rw[h] at h';cases h'
  .rcases x.bR a h with h|h
   .exact .inr (.inr h)
   .exact .inr (.inl h)
 keep:=λa o e n t=>y.keep a o (x.keep a o e n t) (λl=>by
  rcases x.bR a l with h|h
  .exact n h
  .rw[e] at h;cases h) t
 pre:=λk a e=>y.pre k a (x.pre k a e)
 bR:=λa l=>by
  rcases y.bR a l with h|h
  .exact x.bR a h
  .refine .inr ?_
   cases q:H a with
   |none=>rfl
   |some u=>let⟨u',h'⟩:=x.gM a u q;rw[h] at h';cases h'
 gM:=λa o e=>let⟨o1,e1⟩:=x.gM a o e;y.gM a o1 e1
theorem dJ.ext{x:DV}{v:V}(h:dJ F ad x v)(e:Ext F ad mu H F' az c_ H'):dJ F' az x v:=by
 cases x with
 |p d=>exact Is.same e.same h
 |o k=>let⟨a,h1,h2⟩:=h;exact⟨a,e.pre k a h1,h2⟩
 |t d k=>let⟨a,b,u,h1,h2,h3,h4⟩:=h;calc⟨a,b,u,h1,e.same _ _ h2,h3.same e.same,e.pre k b h4⟩
theorem dJ.same{x:DV}{v:V}(h:dJ F ad x v)(s:aw F F'):dJ F' ad x v:=by
 cases x with
 |p d=>exact Is.same s h
 |o k=>exact h
 |t d k=>let⟨a,b,u,h1,h2,h3,h4⟩:=h;calc⟨a,b,u,h1,s _ _ h2,h3.same s,h4⟩
theorem dJ.pre{b4:-O}{x:DV}{v:V}(h:dJ F ad x v)(s:∀k a,ad[k]?=U a->x=.o k\/(∃d,x=.t d k)->b4[k]?=U a):dJ F b4 x v:=by
 cases x with
 |p d=>exact h
 |o k=>let⟨a,h1,h2⟩:=h;exact⟨a,s k a h1 (.inl Y),h2⟩
 |t d k=>let⟨a,b,u,h1,h2,h3,h4⟩:=h;calc⟨a,b,u,h1,h2,h3,s k b h4 (.inr ⟨d,Y⟩)⟩
noncomputable def Nw(F H H':Hp):Hp:=λa=>match H a with
 |none=>H' a
 |some _=>F a
theorem Nw.same(s:aw F H):aw F (Nw F H H'):=λa o e=>by
 unfold Nw;rw[s a o e];calc e
theorem Nw.sub(s:aw F H)(k:aw H H'):aw (Nw F H H') H':=λa o e=>by
 unfold Nw at e
 cases q:H a with
 |none=>rw[q] at e;exact e
 |some u=>rw[q] at e;calc k a o (s a o e)
theorem Nw.upd{p:O}{o:HO}(s:aw F H)(hp:H p=Z):Nw F H (upd H p o)=upd F p o:=by
 funext a;unfold Nw L2.upd
 by_cases c:a=p
 .subst c;rw[hp,Tw Y];simp
 .rw[To c,To c]
  cases q:H a with
  |none =>
   cases q2:F a with
   |none=>rfl
   |some u=>rw[s a u q2] at q;cases q
  |some u=>rfl
theorem Nw.refl(s:aw F H):Nw F H H=F:=by
 funext a;unfold Nw
 cases q:H a with
 |none =>
  cases q2:F a with
  |none=>rfl
  |some u=>rw[s a u q2] at q;cases q
 |some u=>rfl
theorem SR.al(S:SR F ad δ σ H)(k:aw H H'):SR (Nw F H H') ad δ σ H':=by
 let sm:=Nw.same (H':=H') S.sub;refine⟨Nw.sub S.sub k,λa l=>?_,S.cx,S.inj,λi ov e=>?_,λi x e=>?_,S.len,aD.same S.tab k,λa ha=>by let⟨ps,q⟩:=aD.tb S.tab ha;unfold Nw;rw[q];calc S.nt a ha⟩
 .let⟨i,ov,e1,e2⟩:=l
  let⟨a',o,e3,e4,_⟩:=S.mu i ov e2;rw[e1] at e3;cases e3;unfold Nw;rw[e4];exact S.off a ⟨i,ov,e1,e2⟩
 .let⟨a,o,e1,e2,h⟩:=S.mu i ov e
  exact⟨a,o,e1,k a o e2,h.same sm⟩
 .let⟨v,e1,h⟩:=S.sl i x e
  calc⟨v,e1,h.same sm⟩
theorem Ext.al(S:SR F ad δ σ H)(k:aw H H'):Ext F ad δ.mu H (Nw F H H') ad δ.mu H' where
 same:=Nw.same S.sub
 new:=λa o e=>by
  unfold Nw at e
  cases q:H a with
  |none=>exact .inr (.inl Y)
  |some u=>rw[q] at e;exact .inl e
 keep:=λa o e _ _=>k a o e
 pre:=λ_ _ e=>e
 bR:=λ_ l=>.inl l
 gM:=λa o e=>⟨o,k a o e⟩
theorem SR.own{p:O}{o:HO}{ov:OV}(S:SR F ad δ σ H)(hp:H p=Z)(h:fq F ov o):SR F (ad++[p]) ⟨δ.sl,δ.mu++[U ov]⟩ σ (upd H p o):=by
 let old:∀{k:Nat}{w:OV},(δ.mu++[U ov])[k]?=U (U w)->(k<↑δ.mu/\δ.mu[k]?=U (U w))\/(k=↑δ.mu/\w=ov):=λ{k w} e=>by
  by_cases c:k<↑δ.mu
  .rw[R4 c] at e;exact .inl ⟨c,e⟩
  .let hl:=(kP.mp e).1
   rw[Cv,T9] at hl;let ek:k=↑δ.mu:=by symm
   subst ek;rw[Tn (ug _),Uy] at e;exact .inr ⟨Y,by simpa using e.symm⟩
 let pre:∀{k:Nat},k<↑δ.mu->(ad++[p])[k]?=ad[k]?:=λ{k} c=>R4 (by rw[S.cx];calc c);let last:(ad++[p])[↑δ.mu]?=U p:=by rw[<-S.cx,Tn (ug _),Uy];rfl
 let np:∀{k:Nat}{a:O}{w:OV},ad[k]?=U a->δ.mu[k]?=U (U w)->a≠p:=λ{k a w} e1 e2=>by
  let⟨a',u,e3,e4,_⟩:=S.mu k w e2;rw[e1] at e3;cases e3;exact cm e4 hp
 refine⟨λa u e=>?_,λa l=>?_,by rw[Cv,Cv,S.cx];rfl,λk l a w w' e1 e2 e3 e4=>?_,λk w e=>?_,λi x e=>?_,S.len,aD.same S.tab (cy hp),S.nt⟩
 .let:=S.sub a u e
  rw[bj (cm this hp)];exact this
 .let⟨k,w,e1,e2⟩:=l
  rcases old e2 with⟨c,e3⟩|⟨c,e3⟩
  .rw[pre c] at e1;exact S.off a ⟨k,w,e1,e3⟩
  .subst c;rw[last] at e1;cases e1
   cases q:F p with
   |none=>rfl
   |some u=>rw[S.sub p u q] at hp;cases hp
 .rcases old e3 with⟨c,q⟩|⟨c,q⟩
  .rw[pre c] at e1
   rcases old e4 with⟨c',q'⟩|⟨c',q'⟩
   .rw[pre c'] at e2;exact S.inj k l a w w' e1 e2 q q'
   .subst c';rw[last] at e2;cases e2;exact absurd Y (np e1 q)
  .subst c;rw[last] at e1;cases e1
   rcases old e4 with⟨c',q'⟩|⟨c',q'⟩
   .rw[pre c'] at e2;exact absurd Y (np e2 q')
   .exact c'.symm
 .rcases old e with⟨c,q⟩|⟨c,q⟩
  .let⟨a,u,e1,e2,h'⟩:=S.mu k w q
   exact⟨a,u,by rw[pre c];calc e1,by rw[bj (np e1 q)];calc e2,h'⟩
  .subst c;subst q;exact⟨p,o,last,bE,h⟩
 .let⟨v,e1,h'⟩:=S.sl i x e
  calc⟨v,e1,h'.pre λk a e2 _=>by rw[R4 (kP.mp e2).1];calc e2⟩
theorem Ext.own{p:O}{o:HO}{ov:OV}(S:SR F ad δ σ H)(hp:H p=Z):Ext F ad δ.mu H F (ad++[p]) (δ.mu++[U ov]) (upd H p o) where
 same:=λ_ _ e=>e
 new:=λ_ _ e=>.inl e
 keep:=λa u e _ _=>by rw[bj (cm e hp)];exact e
 pre:=λk a e=>by rw[R4 (kP.mp e).1];exact e
 bR:=λa l=>by
  let⟨k,w,e1,e2⟩:=l
  by_cases c:k<↑δ.mu
  .rw[R4 c] at e2
   rw[R4 (by rw[S.cx];calc c)] at e1;exact .inl ⟨k,w,e1,e2⟩
  .let hl:=(kP.mp e2).1
   rw[Cv,T9] at hl;let ek:k=↑ad:=by rw[S.cx];symm
   subst ek;rw[Tn (ug _),Uy] at e1;let:p=a:=by simpa using e1
   subst this;exact .inr hp
 gM:=λa u e=>⟨u,by rw[bj (cm e hp)];calc e⟩
theorem SR.put{k:Nat}{a:O}{o:HO}{ov ow:OV}(S:SR F ad δ σ H)(hk:δ.mu[k]?=U (U ow))(ha:ad[k]?=U a)(h:fq F ov o):SR F ad ⟨δ.sl,δ.mu.set k (U ov)⟩ σ (upd H a o):=by
 let kl:=(kP.mp hk).1
 let old:∀{l:Nat}{w:OV},(δ.mu.set k (U ov))[l]?=U (U w)->(l≠k/\δ.mu[l]?=U (U w))\/(l=k/\w=ov):=λ{l w} e=>by
  by_cases c:k=l
  .subst c;rw[TZ kl] at e;exact .inr ⟨Y,by simpa using e.symm⟩
  .rw[T8 c] at e;exact .inl ⟨λz=>c z.symm,e⟩
 let lv:∀{l:Nat}{w:OV}{b:O},ad[l]?=U b->(δ.mu.set k (U ov))[l]?=U (U w)->Lv ad δ.mu b:=λ{l w b} e1 e2=>by
  rcases old e2 with⟨_,q⟩|⟨c,_⟩
  .exact⟨l,w,e1,q⟩
  .subst c;exact⟨l,ow,e1,hk⟩
 let tk:aD.ok (upd H a o):=by
  let⟨a',u,e1,e2,h'⟩:=S.mu k ow hk;rw[ha] at e1;cases e1;exact aD.put S.tab e2 h'.kind
 refine⟨λb u e=>?_,λb l=>?_,by rw[Ux];calc S.cx,λl l' b w w' e1 e2 e3 e4=>?_,λl w e=>?_,λi x e=>?_,S.len,tk,S.nt⟩
 .let nb:b≠a:=λz=>by
   subst z;rw[S.off b ⟨k,ow,ha,hk⟩] at e;cases e
  rw[bj nb];exact S.sub b u e
 .let⟨l,w,e1,e2⟩:=l
  exact S.off b (lv e1 e2)
 .let h1:∃w,δ.mu[l]?=U (U w):=by
   rcases old e3 with⟨_,q⟩|⟨c,_⟩
   .exact⟨_,q⟩
   .subst c;exact⟨_,hk⟩
  let h2:∃w,δ.mu[l']?=U (U w):=by
   rcases old e4 with⟨_,q⟩|⟨c,_⟩
   .exact⟨_,q⟩
   .subst c;exact⟨_,hk⟩
  let⟨w1,q1⟩:=h1;let⟨w2,q2⟩:=h2;exact S.inj l l' b _ _ e1 e2 q1 q2
 .rcases old e with⟨c,q⟩|⟨c,q⟩
  .let⟨b,u,e1,e2,h'⟩:=S.mu l w q
   let nb:b≠a:=λz=>by subst z;exact c (S.inj l k b _ _ e1 ha q hk)
   exact⟨b,u,e1,by rw[bj nb];calc e2,h'⟩
  .subst c;subst q;exact⟨a,o,ha,bE,h⟩
 .calc S.sl i x e
theorem Ext.put{k:Nat}{a:O}{o:HO}{ov ow:OV}(S:SR F ad δ σ H)(hk:δ.mu[k]?=U (U ow))(ha:ad[k]?=U a):Ext F ad δ.mu H F ad (δ.mu.set k (U ov)) (upd H a o) where
 same:=λ_ _ e=>e
 new:=λ_ _ e=>.inl e
 keep:=λb u e n _=>by rw[bj λz=>n (by subst z;calc⟨k,ow,ha,hk⟩)];exact e
 pre:=λ_ _ e=>e
 bR:=λb l=>by
  let⟨l,w,e1,e2⟩:=l
  by_cases c:k=l
  .subst c;exact .inl ⟨k,ow,e1,hk⟩
  .rw[T8 c] at e2;exact .inl ⟨l,w,e1,e2⟩
 gM:=λb u e=>by
  by_cases c:b=a
  .subst c;exact⟨o,bE⟩
  .calc⟨u,by rw[bj c];calc e⟩
theorem SR.fix{k:Nat}{a:O}{o:HO}{ow:OV}(S:SR F ad δ σ H)(hk:δ.mu[k]?=U (U ow))(ha:ad[k]?=U a)(ho:H a=U o):SR (upd F a o) ad ⟨δ.sl,δ.mu.set k Z⟩ σ H:=by
 let kl:=(kP.mp hk).1;let fa:=S.off a ⟨k,ow,ha,hk⟩;let sm:aw F (upd F a o):=λb u e=>by rw[bj (cm e fa)];exact e
 let old:∀{l:Nat}{w:OV},(δ.mu.set k Z)[l]?=U (U w)->l≠k/\δ.mu[l]?=U (U w):=λ{l w} e=>by
  by_cases c:k=l
  .subst c;rw[TZ kl] at e;cases e
  .rw[T8 c] at e;exact⟨λz=>c z.symm,e⟩
 refine⟨λb u e=>?_,λb l=>?_,by rw[Ux];calc S.cx,λl l' b w w' e1 e2 e3 e4=>S.inj l l' b w w' e1 e2 (old e3).2 (old e4).2,λl w e=>?_,λi x e=>?_,S.len,S.tab,λb hb=>?_⟩
 .by_cases c:b=a
  .subst c;rw[bE] at e;cases e;exact ho
  .rw[bj c] at e;exact S.sub b u e
 .let⟨l,w,e1,e2⟩:=l
  let⟨c,q⟩:=old e2;let nb:b≠a:=λz=>by subst z;exact c (S.inj l k b _ _ e1 ha q hk)
  rw[bj nb];exact S.off b ⟨l,w,e1,q⟩
 .let⟨b,u,e1,e2,h'⟩:=S.mu l w (old e).2
  exact⟨b,u,e1,e2,h'.same sm⟩
 .let⟨v,e1,h'⟩:=S.sl i x e
  exact⟨v,e1,h'.same sm⟩
 .let⟨ps,q⟩:=aD.tb S.tab hb
  let nb:b≠a:=λz=>by
   subst z;let⟨a',u,e1,e2,h'⟩:=S.mu k ow hk;rw[ha] at e1;cases e1;rw[q] at e2;cases e2;rcases h'.kind with⟨_,z⟩|⟨_,z⟩|⟨_,z⟩<;>cases z
  rw[bj nb];calc S.nt b hb
theorem Ext.fix{k:Nat}{a:O}{o:HO}{ow:OV}(S:SR F ad δ σ H)(hk:δ.mu[k]?=U (U ow))(ha:ad[k]?=U a):Ext F ad δ.mu H (upd F a o) ad (δ.mu.set k Z) H where
 same:=λb u e=>by rw[bj (cm e (S.off a ⟨k,ow,ha,hk⟩))];exact e
 new:=λb u e=>by
  by_cases c:b=a
  .subst c;exact .inr (.inr ⟨k,ow,ha,hk⟩)
  .rw[bj c] at e;exact .inl e
 keep:=λb u e _ _=>e
 pre:=λ_ _ e=>e
 bR:=λb l=>by
  let⟨l,w,e1,e2⟩:=l
  by_cases c:k=l
  .subst c;rw[TZ (kP.mp hk).1] at e2;cases e2
  .rw[T8 c] at e2;exact .inl ⟨l,w,e1,e2⟩
 gM:=λb u e=>⟨u,e⟩
theorem SR.set{i:Nat}{x:DV}{v:V}(S:SR F ad δ σ H)(h:dJ F ad x v):SR F ad ⟨δ.sl.set i (U x),δ.mu⟩ (σ.set i (U v)) H:=by
 refine⟨S.sub,S.off,S.cx,S.inj,S.mu,λj y e=>?_,by rw[Ux,Ux];calc S.len,S.tab,S.nt⟩
 by_cases c:i=j
 .subst c
  let hl:=(kP.mp e).1;rw[Ux] at hl;rw[TZ hl] at e;cases e
  exact⟨v,TZ (by rw[S.len];calc hl),h⟩
 .rw[T8 c] at e
  let⟨w,e1,h1⟩:=S.sl j y e;calc⟨w,by rw[T8 c];calc e1,h1⟩
end
abbrev WE:=ax->(DV->ax->Prop)->Prop
abbrev WA:=ax->(-DV->ax->Prop)->Prop
abbrev WT:=ax->(Bool->ax->Prop)->Prop
def cR(F:Hp)(ad:-O):-DV->-V->Prop
 |[],vs=>vs=[]
 |x::xs,vs=>∃v r,vs=v::r/\dJ F ad x v/\cR F ad xs r
theorem cR.ext{F F' H H':Hp}{ad az:-O}{mu c_:-(Option OV)}(e:Ext F ad mu H F' az c_ H'):∀{xs:-DV}{vs:-V},cR F ad xs vs->cR F' az xs vs
 |[],_,h=>h
 |_::_,_,⟨v,r,q,h1,h2⟩=>⟨v,r,q,h1.ext e,cR.ext e h2⟩
def tD(f:WE):TE:=fun σ H Q=>∃F ad δ K,SR F ad δ σ H/\f δ K/\∀x δ',K x δ'->∀v F' az H',Ext F ad δ.mu H F' az δ'.mu H'->SR F' az δ' σ H'->dJ F' az x v->Q v H'
def bU(f:WA):TA:=fun σ H Q=>∃F ad δ K,SR F ad δ σ H/\f δ K/\∀xs δ',K xs δ'->∀vs F' az H',Ext F ad δ.mu H F' az δ'.mu H'->SR F' az δ' σ H'->cR F' az xs vs->Q vs H'
def b9(f:WT):TT:=fun σ H Q=>∃F ad δ K,SR F ad δ σ H/\f δ K/\∀b δ',K b δ'->∀F' az H',Ext F ad δ.mu H F' az δ'.mu H'->SR F' az δ' σ H'->Q b H'
def eN(F H:Hp):D->V->Prop
 |.lst ds,v=>∃a vs,v=.ref a/\H a=U (.lst vs)/\ae F ds vs
 |d,v=>Is F d v
def gb(x:DV)(δ:ax)(K:D->Prop):Prop:=match x with
 |.p d=>K d
 |.o k=>match δ.mu[k]? with
  |some (some (.lst ds))=>K (.lst ds)
  |_=>False
 |.t _ _=>False
theorem eN.of{F H:Hp}(s:aw F H):∀{d:D}{v:V},Is F d v->eN F H d v
 |.lst _,_,h=>by
  erw[Is] at h;let⟨a,vs,e,h1,h2⟩:=h;exact⟨a,vs,e,s _ _ h1,h2⟩
 |.tup _,_,h=>h
 |.non,_,h=>h
 |.bl _,_,h=>h
 |.int _,_,h=>h
 |.str _,_,h=>h
theorem eN.is{F H:Hp}(s:aw F H):∀{d:D}{v:V},eN F H d v->Is H d v
 |.lst _,_,h=>by
  let⟨a,vs,e,h1,h2⟩:=h;erw[Is];exact⟨a,vs,e,h1,h2.same s⟩
 |.tup _,_,h=>Is.same s h
 |.non,_,h=>Is.same s h
 |.bl _,_,h=>Is.same s h
 |.int _,_,h=>Is.same s h
 |.str _,_,h=>Is.same s h
theorem eW{F H:Hp}{ad:-O}{δ:ax}{σ:St}{x:DV}{v:V}{K:D->Prop}(S:SR F ad δ σ H)(hv:dJ F ad x v)(h:gb x δ K):∃d,K d/\eN F H d v:=by
 cases x with
 |p d=>exact⟨d,h,eN.of S.sub hv⟩
 |o k =>
  unfold gb at h;dsimp only at h;split at h
  .rename_i ds e
   let⟨a,e1,rfl⟩:=hv;let⟨a',o,e2,e3,vs,rfl,h4⟩:=S.mu k _ e;rw[e1] at e2;cases e2;exact⟨_,h,a,vs,Y,e3,h4⟩
  .exact h.elim
 |t _ _=>calc h.elim
def jo:-DV->ax->(-D->Prop)->Prop
 |[],_,K=>K []
 |x::xs,δ,K=>gb x δ λd=>jo xs δ λds=>K (d::ds)
def gc(F H:Hp):-D->-V->Prop
 |[],vs=>vs=[]
 |d::ds,vs=>∃v r,vs=v::r/\eN F H d v/\gc F H ds r
theorem uv{F H:Hp}{ad:-O}{δ:ax}{σ:St}(S:SR F ad δ σ H):∀{xs:-DV}{vs:-V}{K:-D->Prop},cR F ad xs vs->jo xs δ K->∃ds,K ds/\gc F H ds vs
 |[],_,_,hv,h=>⟨[],h,hv⟩
 |x::xs,_,_,⟨v,r,rfl,h1,h2⟩,h=>by
  let⟨d,h',rd⟩:=eW S h1 h;let⟨ds,pC,iD⟩:=uv S h2 h';calc⟨d::ds,pC,v,r,Y,rd,iD⟩
abbrev Made(F H:Hp)(K:D->Prop)(Q:VK):Prop:=∀z v H',K z->aw H H'->Is (Nw F H H') z v->Q v H'
def dM(X:Cx)(f:B->B->Sem B)(g:D->D->(D->Prop)->Prop):Prop :=
 cP X f λx y H Q=>∃F d e K,aw F H/\eN F H d x/\eN F H e y/\g d e K/\Made F H K Q
def C7(X:Cx)(g:D->D->(D->Prop)->Prop):Prop :=
 qV X λx y H Q=>∃F d e K,aw F H/\eN F H d x/\eN F H e y/\g d e K/\Made F H K Q
def dt(X:Cx)(f:B)(g:-D->(D->Prop)->Prop):Prop :=
 gF X f λxs H Q=>∃F ds K,aw F H/\gc F H ds xs/\g ds K/\Made F H K Q
def uw(X:Cx)(id:String)(g:D->-D->(D->Prop)->Prop):Prop :=
 w5 X id λx xs H Q=>∃F d ds K,aw F H/\eN F H d x/\gc F H ds xs/\g d ds K/\Made F H K Q
def d2(f g:WE)(op:D->D->(D->Prop)->Prop):WE:=fun δ K=>f δ λx δ1=>g δ1 λy δ2=>gb x δ2 λd=>gb y δ2 λe=>op d e λz=>K (.p z) δ2
def d1(f:WE)(op:D->(D->Prop)->Prop):WE:=fun δ K=>f δ λx δ1=>gb x δ1 λd=>op d λz=>K (.p z) δ1
def dN(f:WA)(op:-D->(D->Prop)->Prop):WE:=fun δ K=>f δ λxs δ1=>jo xs δ1 λds=>op ds λz=>K (.p z) δ1
def dC(d:D):WE:=fun δ K=>K (.p d) δ
def aa(i:Nat):WE:=fun δ K=>match δ.sl[i]? with
 |some (some x)=>K x δ
 |_=>False
def af:WA:=fun δ K=>K [] δ
def ag(f:WE)(g:WA):WA:=fun δ K=>f δ λx δ1=>g δ1 λxs δ2=>K (x::xs) δ2
section
variable{X:Cx}{a b c:M}{f g h:WE}{fa:WA}{pos:y}
theorem pD{e:M}{d:D}{v:V}(h:JE X e (tC v))(hi:∀F,Is F d v):JE X e (tD (dC d)):=h.weak fun σ H Q h0_=>el7 h0_ λF ad δ K S q k =>k _ _ q _ _ _ _ .refl S (hi F)
theorem de{i j pos}:JE X (.Constant (.int i) j pos) (tD (dC (.int i))):=pD je λ_=>Y
theorem pE{i j pos}:JE X (.Constant (.bool i) j pos) (tD (dC (.bl i))):=pD wb λ_=>Y
theorem ux{j pos}:JE X (.Constant .none j pos) (tD (dC .non)):=pD Hx λ_=>Y
theorem xY{x j pos}:JE X (.Constant (.str x) j pos) (tD (dC (.str x))):=pD o8 λ_=>Y
theorem K6{x:J}{i:Int}{u:B}{pos:y}(hg:Gl X x)(hm:X.mg x=U u)(r:RelV (.int i) u)(hd:bw x:=by decide):JE X (.Name x pos) (tD (dC (.int i))):=pD (tY hg hm r hd) λ_=>Y
theorem dv(i:Nat){x:J}{pos:y}(hN:X.N[i]?=U x:=by rfl)(hv:o7 X.env.scope x:=by first|exact Wm Y|exact ZN (Wm Y)|calc ZN (ZN Y))
  (hd:bw x:=by decide) (fW:(x==("__classdict__" : J))=ι:=by decide):JE X (.Name x pos) (tD (aa i)) :=
 (Bv hN hv hd fW).weak fun σ H Q h0_=>el7 h0_ λF ad δ K S q k =>by
  unfold aa at q;split at q
  .rename_i x e
   let⟨v,e1,h1⟩:=S.sl i x e;exact⟨v,e1,k _ _ q _ _ _ _ .refl S h1⟩
  .calc q.elim
theorem uy{r:R2}{ta tb:TE}{op:D->D->(D->Prop)->Prop}(hr:∀x y H Q,(∃F d e K,aw F H/\eN F H d x/\eN F H e y/\op d e K/\Made F H K Q)->r x y H Q):∀σ H Q,tD (d2 f g op) σ H Q->pb r (tD f) (tD g) σ H Q:=by
 ext σ H Q ⟨F,ad,δ,K,S,q,k⟩;calc⟨F,ad,δ,_,S,q,λx δ1 h1 v1 F1 aU H1 E1 S1 V1=>⟨F1,aU,δ1,_,S1,h1,λy δ2 h2 v2 F2 b4 H2 E2 S2 V2=>hr _ _ _ _ ?_⟩⟩;let⟨d,h3,rd⟩:=eW S2 (V1.ext E2) h2;let⟨e,h4,re⟩:=eW S2 V2 h3;calc⟨F2,d,e,_,S2.sub,rd,re,h4,λz v H' hz sm is=>k _ _ hz _ _ _ _ ((E1.trans E2).trans (Ext.al S2 sm)) (S2.al sm) is⟩
theorem eO{op:Operator}{o:D->D->(D->Prop)->Prop}(ho:dM X (binaryOp op) o)(ha:JE X a (tD f))(hb:JE X b (tD g)):JE X (.BinOp a op b pos) (tD (d2 f g o)) :=
 (m_ ho ha hb).weak (uy (ta:=tD f) (tb:=tD g) λ_ _ _ _ h=>h)
theorem iX{op:CmpOp}{o:D->D->(D->Prop)->Prop}(ho:dM X (compareOp op) o)(ha:JE X a (tD f))(hb:JE X b (tD g))(hm:behindInMarks op b=ι):JE X (.Compare a [op] [b] pos) (tD (d2 f g o)) :=
 (BS ho ha hb hm).weak (uy (ta:=tD f) (tb:=tD g) λ_ _ _ _ h=>h)
theorem nP{o:D->D->(D->Prop)->Prop}(ho:C7 X o)(ha:JE X a (tD f))(hb:JE X b (tD g))(hs:Ca b):JE X (.Subscript a b pos) (tD (d2 f g o)) :=
 (uc ho ha hb hs).weak (uy (ta:=tD f) (tb:=tD g) λ_ _ _ _ h=>h)
theorem dQ:JA X [] (bU af):=bg.weak fun σ H Q h0_=>el7 h0_ λF ad δ K S q k =>k _ _ q _ _ _ _ .refl S Y
theorem nQ:∀σ H Q,bU (ag f fa) σ H Q->iq (tD f) (bU fa) σ H Q:=by
 ext σ H Q ⟨F,ad,δ,K,S,q,k⟩;calc⟨F,ad,δ,_,S,q,λx δ1 h1 v1 F1 aU H1 E1 S1 V1=>⟨F1,aU,δ1,_,S1,h1,λxs δ2 h2 vs F2 b4 H2 E2 S2 V2=>k _ _ h2 _ _ _ _ (E1.trans E2) S2 ⟨v1,vs,Y,V1.ext E2,V2⟩⟩⟩
theorem iE{e:M}{es:-M}(ha:JE X e (tD f))(hr:JA X es (bU fa))(hs:cN X e es:=by rfl):JA X (e::es) (bU (ag f fa)):=(hU ha hr hs).weak nQ
theorem du{es:-M}{c j p}(ha:JE X (.Constant c j p) (tD f))(hr:JA X es (bU fa)):JA X (.Constant c j p::es) (bU (ag f fa)):=(f9 ha hr).weak nQ
theorem bV{es:-M}{x p}(ha:JE X (.Name x p) (tD f))(hr:JA X es (bU fa)):JA X (.Name x p::es) (bU (ag f fa)):=(iA ha hr).weak nQ
theorem kZ{es:-M}{x y k p}(ha:JE X (.Call x y k p) (tD f))(hr:JA X es (bU fa)):JA X (.Call x y k p::es) (bU (ag f fa)):=(kX ha hr).weak nQ
theorem nR{es:-M}{x p}(ha:JE X (.List x p) (tD f))(hr:JA X es (bU fa)):JA X (.List x p::es) (bU (ag f fa)):=(xO ha hr).weak nQ
theorem k6{es:-M}{x k p}(ha:JE X (.Tuple x k p) (tD f))(hr:JA X es (bU fa)):JA X (.Tuple x k p::es) (bU (ag f fa)):=(xP ha hr).weak nQ
theorem gN{es:-M}{x k p}(ha:JE X (.Subscript x k p) (tD f))(hr:JA X es (bU fa)):JA X (.Subscript x k p::es) (bU (ag f fa)):=(nN ha hr).weak nQ
theorem C8{r:-V->Hp->VK->Prop}{op:-D->(D->Prop)->Prop}(hr:∀xs H Q,(∃F ds K,aw F H/\gc F H ds xs/\op ds K/\Made F H K Q)->r xs H Q):∀σ H Q,tD (dN fa op) σ H Q->wR r (bU fa) σ H Q:=by
 ext σ H Q ⟨F,ad,δ,K,S,q,k⟩;calc⟨F,ad,δ,_,S,q,λxs δ1 h1 vs F1 aU H1 E1 S1 V1=>hr _ _ _ ?_⟩;let⟨ds,h2,iD⟩:=uv S1 V1 h1;calc⟨F1,ds,_,S1.sub,iD,h2,λz v H' hz sm is=>k _ _ hz _ _ _ _ (E1.trans (Ext.al S1 sm)) (S1.al sm) is⟩
theorem pF{x:J}{p:y}{e:M}{es:-M}{id:String}{o:-D->(D->Prop)->Prop}(hc:dt X (.builtin id) o)(hg:Gl X x)(hm:X.mg x=Z)(hv:bootBuiltins x=U (.builtin id))(ha:JA X (e::es) (bU fa))(hn:x≠"__name__" := by decide)(dj:bw x:=by decide)
  (he:cN X e es:=by rfl) (dm:dI X pos es:=by rfl):JE X (.Call (.Name x p) (e::es) [] pos) (tD (dN fa o)) :=
 (t_ hc hg hm hv ha hn dj he dm).weak (C8 λ_ _ _ h=>h)
theorem rN{x:J}{p:y}{e:M}{es:-M}{T:String}{o:-D->(D->Prop)->Prop}(hc:dt X (.type T) o)(hg:Gl X x)(hm:X.mg x=Z)(hv:bootBuiltins x=U (.type T))(ha:JA X (e::es) (bU fa))(hn:x≠"__name__" := by decide)(dj:bw x:=by decide)
  (he:cN X e es:=by rfl) (dm:dI X pos es:=by rfl):JE X (.Call (.Name x p) (e::es) [] pos) (tD (dN fa o)) :=
 (qP hc hg hm hv ha hn dj he dm).weak (C8 λ_ _ _ h=>h)
end
noncomputable def C9(k:Nat)(ds:-D):Option DV->Option DV
 |some (.o j)=>if j=k then U (.p (.lst ds)) else U (.o j)
 |some (.t d j)=>if j=k then Z else U (.t d j)
 |s=>s
noncomputable def ax.fix(δ:ax)(k:Nat)(ds:-D):ax:=⟨δ.sl.map (C9 k ds),δ.mu.set k Z⟩
def mE(x:DV)(δ:ax)(K:D->ax->Prop):Prop:=match x with
 |.p d=>K d δ
 |.o k=>match δ.mu[k]? with
  |some (some (.lst ds))=>K (.lst ds) (δ.fix k ds)
  |_=>False
 |.t _ _=>False
def iF:-DV->ax->(-D->ax->Prop)->Prop
 |[],δ,K=>K [] δ
 |x::xs,δ,K=>mE x δ λd δ1=>iF xs δ1 λds δ2=>K (d::ds) δ2
section
variable{F F' H H':Hp}{ad az:-O}{δ δ':ax}{σ σ':St}
theorem SR.fixed{k:Nat}{a:O}{vs:-V}{ds:-D}(S:SR F ad δ σ H)(hk:δ.mu[k]?=U (U (.lst ds)))(ha:ad[k]?=U a)(ho:H a=U (.lst vs))(hi:ae F ds vs):SR (upd F a (.lst vs)) ad (δ.fix k ds) σ H:=by
 let S1:=S.fix hk ha ho;let sm:aw F (upd F a (.lst vs)):=(Ext.fix (o:=.lst vs) S hk ha).same;calc⟨S1.sub,S1.off,S1.cx,S1.inj,S1.mu,λi x e=>?_,by rw[S.len];unfold ax.fix;rw[pj],S1.tab,S1.nt⟩;unfold ax.fix at e;rw[R1] at e;let⟨s,e1,e2⟩:=Tq.mp e
 match s,e2 with
 |none,e2=>cases e2
 |some (.p d),e2 =>
  cases(show U (DV.p d)=U x from e2)
  exact S1.sl i _ e1
 |some (.t d j),e2 =>
  let e3:(if j=k then Z else U (DV.t d j))=U x:=e2
  by_cases c:j=k
  .rw[Tw c] at e3;cases e3
  .rw[To c] at e3;cases e3;exact S1.sl i _ e1
 |some (.o j),e2 =>
  let e3:(if j=k then U (DV.p (.lst ds)) else U (DV.o j))=U x:=e2;clear e2;let⟨v,h1,a',h2,h3⟩:=S.sl i _ e1
  by_cases c:j=k
  .rw[Tw c] at e3
   subst c;cases e3
   rw[ha] at h2;cases h2;calc⟨v,h1,?_⟩;show Is _ (.lst ds) v;erw[Is];exact⟨a,vs,h3,bE,hi.same sm⟩
  .rw[To c] at e3
   cases e3
   calc⟨v,h1,a',h2,h3⟩
theorem uz{x:DV}{v:V}{K:D->ax->Prop}(S:SR F ad δ σ H)(hv:dJ F ad x v)(h:mE x δ K):∃d δ' F',K d δ'/\Ext F ad δ.mu H F' ad δ'.mu H/\SR F' ad δ' σ H/\Is F' d v:=by
 cases x with
 |p d=>exact⟨d,δ,F,h,.refl,S,hv⟩
 |o k =>
  unfold mE at h;dsimp only at h;split at h
  .rename_i ds e
   let⟨a,e1,rfl⟩:=hv;let⟨a',o,e2,e3,vs,rfl,h4⟩:=S.mu k _ e;rw[e1] at e2;cases e2;calc⟨_,_,_,h,Ext.fix S e e1,S.fixed e e1 e3 h4,?_⟩;erw[Is];exact⟨a,vs,Y,bE,h4.same (Ext.fix (o:=.lst vs) S e e1).same⟩
  .exact h.elim
 |t _ _=>calc h.elim
theorem uA:∀{xs:-DV}{vs:-V}{δ:ax}{F:Hp}{K:-D->ax->Prop},SR F ad δ σ H->cR F ad xs vs->iF xs δ K->∃ds δ' F',K ds δ'/\Ext F ad δ.mu H F' ad δ'.mu H/\SR F' ad δ' σ H/\ae F' ds vs
 |[],_,δ,F,_,S,hv,h=>⟨[],δ,F,h,.refl,S,by erw[ae];calc hv⟩
 |x::xs,_,δ,F,_,S,⟨v,r,e,h1,h2⟩,h=>by
  subst e;let⟨d,δ1,F1,h',E1,S1,i1⟩:=uz S h1 h;let⟨ds,δ2,F2,pC,E2,S2,i2⟩:=uA S1 (h2.ext E1) h';calc⟨d::ds,δ2,F2,pC,E1.trans E2,S2,.cons (i1.same E2.same) i2⟩
end
def bW(fa:WA):WE:=fun δ K=>fa δ λxs δ1=>iF xs δ1 λds δ2=>↑ds<=1000/\K (.p (.tup ds)) δ2
def bX(fa:WA):WE:=fun δ K=>fa δ λxs δ1=>iF xs δ1 λds δ2=>↑ds<=1000/\K (.p (.lst ds)) δ2
def nU(fa:WA):WE:=fun δ K=>fa δ λxs δ1=>iF xs δ1 λds δ2=>↑ds<=1000/\K (.o ↑δ2.mu) ⟨δ2.sl,δ2.mu++[U (.lst ds)]⟩
section
variable{X:Cx}{a b c:M}{es:-M}{f g h:WE}{fa:WA}{t u:WT}{pos:y}
theorem jq{n:Nat}(h:n<=1000):n<=sizeLine:=Vo (rg h)
theorem nW{x1}(ha:JA X es (bU fa)):JE X (.Tuple es x1 pos) (tD (bW fa)):=(Iv ha).weak fun σ H Q h0_=>el7 h0_ λF ad δ K S q k =>
 ⟨F,ad,δ,_,S,q,λxs δ1 h1 vs F1 aU H1 E1 S1 V1=>by
  let⟨ds,δ2,F2,⟨hl,h2⟩,E2,S2,i2⟩:=uA S1 V1 h1;calc⟨jq (by rw[↑i2];calc hl),λp hp=>?_⟩;let sm:aw H1 (upd H1 p (.tup vs)):=cy hp;calc k _ _ h2 _ _ _ _ ((E1.trans E2).trans (Ext.al S2 sm)) (S2.al sm) ?_;show Is _ (.tup ds) _;erw[Is];rw[Nw.upd S2.sub hp];refine⟨p,vs,Y,bE,i2.same λb o e=>?_⟩
  rw[bj (cm (S2.sub b o e) hp)];calc e⟩
theorem nX(ha:JA X es (bU fa)):JE X (.List es pos) (tD (bX fa)):=(jW ha).weak fun σ H Q h0_=>el7 h0_ λF ad δ K S q k =>
 ⟨F,ad,δ,_,S,q,λxs δ1 h1 vs F1 aU H1 E1 S1 V1=>by
  let⟨ds,δ2,F2,⟨hl,h2⟩,E2,S2,i2⟩:=uA S1 V1 h1;calc⟨jq (by rw[↑i2];calc hl),λp hp=>?_⟩;let sm:aw H1 (upd H1 p (.lst vs)):=cy hp;calc k _ _ h2 _ _ _ _ ((E1.trans E2).trans (Ext.al S2 sm)) (S2.al sm) ?_;show Is _ (.lst ds) _;erw[Is];rw[Nw.upd S2.sub hp];refine⟨p,vs,Y,bE,i2.same λb o e=>?_⟩
  rw[bj (cm (S2.sub b o e) hp)];calc e⟩
theorem K7(ha:JA X es (bU fa)):JE X (.List es pos) (tD (nU fa)):=(jW ha).weak fun σ H Q h0_=>el7 h0_ λF ad δ K S q k =>
 ⟨F,ad,δ,_,S,q,λxs δ1 h1 vs F1 aU H1 E1 S1 V1=>by
  let⟨ds,δ2,F2,⟨hl,h2⟩,E2,S2,i2⟩:=uA S1 V1 h1;calc⟨jq (by rw[↑i2];calc hl),λp hp=>?_⟩;let oi:fq F2 (.lst ds) (.lst vs):=⟨vs,Y,i2⟩;refine k _ _ h2 _ _ _ _ ((E1.trans E2).trans (Ext.own S2 hp)) (S2.own hp oi) ⟨p,?_,Y⟩
  rw[<-S2.cx,Tn (ug _),Uy];rfl⟩
def nY(x:DV)(P:Bool->Prop):Prop:=match x with
 |.p (.bl b)=>P b
 |_=>False
def dT(f:WE):WT:=fun δ K=>f δ λx δ1=>nY x λb=>K b δ1
def fG(t u:WT):WT:=fun δ K=>t δ λb δ1=>if b=θ then u δ1 K else K ι δ1
def gO(t u:WT):WT:=fun δ K=>t δ λb δ1=>if b=θ then K θ δ1 else u δ1 K
def bA(t:WT):WT:=fun δ K=>t δ λb δ1=>K (!b) δ1
def xZ(t:WT)(f g:WE):WE:=fun δ K=>t δ λb δ1=>if b=θ then f δ1 K else g δ1 K
def gP(f g:WE):WE:=fun δ K=>f δ λx δ1=>nY x λb=>if b=θ then g δ1 K else K (.p (.bl ι)) δ1
def nZ(f g:WE):WE:=fun δ K=>f δ λx δ1=>nY x λb=>if b=θ then K (.p (.bl θ)) δ1 else g δ1 K
def uB(f:WE):WE:=fun δ K=>f δ λx δ1=>nY x λb=>K (.p (.bl (!b))) δ1
theorem pG{F:Hp}{ad:-O}{x:DV}{v:V}{P:Bool->Prop}(hv:dJ F ad x v)(h:nY x P):∃b,v=.bl b/\P b:=by
 unfold nY at h;split at h
 .rename_i b
  exact⟨b,hv,h⟩
 .calc h.elim
theorem mF(ha:JE X a (tD f))(he:∀whole,isTrue a X.env whole=(do let v <- whole;standAt a.pos;holding [v] (truthy v)):=by ext _;rfl):JT X a (b9 (dT f)) :=
 (wc ha he).weak fun σ H Q h0_=>el7 h0_ λF ad δ K S q k =>⟨F,ad,δ,_,S,q,λx δ1 h1 v F1 aU H1 E1 S1 V1=>by
  let⟨b,rfl,h2⟩:=pG V1 h1
  calc⟨b,Y,k _ _ h2 _ _ _ E1 S1⟩⟩
theorem iG{op:CmpOp}{o:D->D->(D->Prop)->Prop}(ho:dM X (compareOp op) o)(ha:JE X a (tD f))(hb:JE X b (tD g))(hm:behindInMarks op b=ι):JT X (.Compare a [op] [b] pos) (b9 (dT (d2 f g o))) :=
 (wH ho ha hb hm).weak fun σ H Q h0_=>el7 h0_ λF ad δ K S q k =>uy (ta:=tD f) (tb:=tD g) (λ_ _ _ _ h=>h) σ H _ ⟨F,ad,δ,_,S,q,λx δ1 h1 v F1 aU H1 E1 S1 V1=>by
  let⟨b,rfl,h2⟩:=pG V1 h1
  calc⟨b,Y,k _ _ h2 _ _ _ E1 S1⟩⟩
theorem K8(ha:JT X a (b9 t)):JT X (.UnaryOp .Not a pos) (b9 (bA t)):=(wg ha).weak fun σ H Q h0_=>el7 h0_ λF ad δ K S q k =>⟨F,ad,δ,_,S,q,λb δ1 h1 F1 aU H1 E1 S1=>k _ _ h1 _ _ _ E1 S1⟩
theorem K9:∀σ H Q,b9 (fG t u) σ H Q->qv (b9 t) (b9 u) σ H Q:=fun σ H Q h0_=>el7 h0_ λF ad δ K S q k =>⟨F,ad,δ,_,S,q,λb δ1 h1 F1 aU H1 E1 S1=>by
 cases b with
 |true =>
  rw[Tw Y] at h1 ⊢;exact⟨F1,aU,δ1,_,S1,h1,λb δ2 h2 F2 b4 H2 E2 S2=>k _ _ h2 _ _ _ (E1.trans E2) S2⟩
 |false =>
  rw[To Jn] at h1 ⊢
  calc k _ _ h1 _ _ _ E1 S1⟩
theorem K_:∀σ H Q,b9 (gO t u) σ H Q->By (b9 t) (b9 u) σ H Q:=fun σ H Q h0_=>el7 h0_ λF ad δ K S q k =>⟨F,ad,δ,_,S,q,λb δ1 h1 F1 aU H1 E1 S1=>by
 cases b with
 |false =>
  rw[To Jn] at h1 ⊢;exact⟨F1,aU,δ1,_,S1,h1,λb δ2 h2 F2 b4 H2 E2 S2=>k _ _ h2 _ _ _ (E1.trans E2) S2⟩
 |true =>
  rw[Tw Y] at h1 ⊢
  calc k _ _ h1 _ _ _ E1 S1⟩
theorem JW.weak{e:M}{t t':TT}(h:JW X e t)(k:∀σ H Q,t' σ H Q->t σ H Q):JW X e t':=⟨λwh pins s σ H Q I q=>h wh pins s σ H Q I (k σ H Q q)⟩
theorem C_(ha:JT X a (b9 t)):JW X (.BoolOp .And [a] pos) (b9 t):=HB ha
theorem x4(ha:JT X a (b9 t)):JW X (.BoolOp .Or [a] pos) (b9 t):=Bz ha
theorem rO{rest:-M}(ha:JT X a (b9 t))(hb:JW X (.BoolOp .And (b::rest) pos) (b9 u)):JW X (.BoolOp .And (a::b::rest) pos) (b9 (fG t u)):=(HC ha hb).weak K9
theorem uC{rest:-M}(ha:JT X a (b9 t))(hb:JW X (.BoolOp .Or (b::rest) pos) (b9 u)):JW X (.BoolOp .Or (a::b::rest) pos) (b9 (gO t u)):=(we ha hb).weak K_
theorem uD{op}(ha:JE X a (tD f)):JE X (.BoolOp op [a] pos) (tD f):=BB ha
theorem rP{rest:-M}(ha:JE X a (tD f))(hb:JE X (.BoolOp .And (b::rest) pos) (tD g)):JE X (.BoolOp .And (a::b::rest) pos) (tD (gP f g)) :=
 (BC ha hb).weak fun σ H Q h0_=>el7 h0_ λF ad δ K S q k =>⟨F,ad,δ,_,S,q,λx δ1 h1 v F1 aU H1 E1 S1 V1=>by
  let⟨b,rfl,h2⟩:=pG V1 h1;refine⟨b,Y,?_⟩
  cases b with
  |true =>
   rw[Tw Y] at h2 ⊢;exact⟨F1,aU,δ1,_,S1,h2,λx δ2 h3 v F2 b4 H2 E2 S2 V2=>k _ _ h3 _ _ _ _ (E1.trans E2) S2 V2⟩
  |false =>
   rw[To Jn] at h2 ⊢
   calc k _ _ h2 _ _ _ _ E1 S1 Y⟩
theorem La{rest:-M}(ha:JE X a (tD f))(hb:JE X (.BoolOp .Or (b::rest) pos) (tD g)):JE X (.BoolOp .Or (a::b::rest) pos) (tD (nZ f g)) :=
 (HE ha hb).weak fun σ H Q h0_=>el7 h0_ λF ad δ K S q k =>⟨F,ad,δ,_,S,q,λx δ1 h1 v F1 aU H1 E1 S1 V1=>by
  let⟨b,rfl,h2⟩:=pG V1 h1;refine⟨b,Y,?_⟩
  cases b with
  |false =>
   rw[To Jn] at h2 ⊢;exact⟨F1,aU,δ1,_,S1,h2,λx δ2 h3 v F2 b4 H2 E2 S2 V2=>k _ _ h3 _ _ _ _ (E1.trans E2) S2 V2⟩
  |true =>
   rw[Tw Y] at h2 ⊢
   calc k _ _ h2 _ _ _ _ E1 S1 Y⟩
theorem Lb(ha:JE X a (tD f)):JE X (.UnaryOp .Not a pos) (tD (uB f)) :=
 (HF ha).weak fun σ H Q h0_=>el7 h0_ λF ad δ K S q k =>⟨F,ad,δ,_,S,q,λx δ1 h1 v F1 aU H1 E1 S1 V1=>by
  let⟨b,rfl,h2⟩:=pG V1 h1
  calc⟨b,Y,k _ _ h2 _ _ _ _ E1 S1 Y⟩⟩
theorem Lc(hc:JT X c (b9 t))(ha:JE X a (tD f))(hb:JE X b (tD g)):JE X (.IfExp c a b pos) (tD (xZ t f g)) :=
 (BE hc ha hb).weak fun σ H Q h0_=>el7 h0_ λF ad δ K S q k =>⟨F,ad,δ,_,S,q,λb δ1 h1 F1 aU H1 E1 S1=>by
  cases b with
  |true =>
   rw[Tw Y] at h1 ⊢;exact⟨F1,aU,δ1,_,S1,h1,λx δ2 h3 v F2 b4 H2 E2 S2 V2=>k _ _ h3 _ _ _ _ (E1.trans E2) S2 V2⟩
  |false =>
   rw[To Jn] at h1 ⊢
   calc⟨F1,aU,δ1,_,S1,h1,λx δ2 h3 v F2 b4 H2 E2 S2 V2=>k _ _ h3 _ _ _ _ (E1.trans E2) S2 V2⟩⟩
end
structure KS where
 nx:ax->Prop
 rt:DV->ax->Prop
 bk:ax->Prop:=λ_=>False
 ct:ax->Prop:=λ_=>False
abbrev WS:=KS->ax->Prop
def Cn(F:Hp)(ad:-O)(mu:-(Option OV))(H:Hp)(P:ax->Prop)(R:St->Hp->Prop):Prop:=∀δ',P δ'->∀F' az σ' H',Ext F ad mu H F' az δ'.mu H'->SR F' az δ' σ' H'->R σ' H'
class b_ where
 ok:Nat->Int->Prop
 kp:-O->-(Option OV)->Hp->Prop
 st:∀{F ad mu H F' az c_ H'},Ext F ad mu H F' az c_ H'->kp ad mu H->kp az c_ H'
instance (priority:=low) Ld:b_:=⟨λ_ _=>False,λ_ _ _=>True,λ_ _=>trivial⟩
section
variable[b_]
structure rQ(F:Hp)(ad:-O)(mu:-(Option OV))(H:Hp)(K:KS)(D:Ends):Prop where
 nx:Cn F ad mu H K.nx D.nx
 bk:Cn F ad mu H K.bk D.bk
 ct:Cn F ad mu H K.ct D.ct
 rt:∀x δ',K.rt x δ'->∀v F' az σ' H',Ext F ad mu H F' az δ'.mu H'->SR F' az δ' σ' H'->dJ F' az x v->D.rt v H'
 kp:b_.kp ad mu H
theorem Cn.ext{F F' H H':Hp}{ad az:-O}{mu c_:-(Option OV)}{P:ax->Prop}{R:St->Hp->Prop}(c:Cn F ad mu H P R)(e:Ext F ad mu H F' az c_ H'):Cn F' az c_ H' P R:=fun δ' h _ _ _ _ E S=>c δ' h _ _ _ _ (e.trans E) S
theorem rQ.ext{F F' H H':Hp}{ad az:-O}{mu c_:-(Option OV)}{K:KS}{D:Ends}(c:rQ F ad mu H K D)(e:Ext F ad mu H F' az c_ H'):rQ F' az c_ H' K D :=
 ⟨c.nx.ext e,c.bk.ext e,c.ct.ext e,λx δ' h _ _ _ _ _ E S V=>c.rt x δ' h _ _ _ _ _ (e.trans E) S V,b_.st e c.kp⟩
def cS(G:WS):TS:=λD σ H=>∃F ad δ K,SR F ad δ σ H/\G K δ/\rQ F ad δ.mu H K D
def au(G G':WS):WS:=λK δ=>G {K with nx:=G' K} δ
def bY:WS:=λK δ=>K.nx δ
def aS(i:Nat)(f:WE):WS:=λK δ=>f δ λx δ1=>K.nx ⟨δ1.sl.set i (U x),δ1.mu⟩
def iH(f:WE):WS:=λK δ=>f δ λ_ δ1=>K.nx δ1
def aB(f:WE):WS:=λK δ=>f δ λx δ1=>K.rt x δ1
def a_(t:WT)(G G':WS):WS:=λK δ=>t δ λb δ1=>if b=θ then G K δ1 else G' K δ1
section
variable{X:Cx}{e c:M}{st:o}{rest:-o}{f:WE}{t:WT}{G G':WS}{pos:y}
theorem j4:bZ X [] (cS bY):=g8.weak λD σ H h0_=>el7 h0_ λF ad δ K S q k =>k.nx _ q _ _ _ _ .refl S
theorem iI(h:JS X st (cS G)):bZ X [st] (cS G):=mX h
theorem gf(h:JS X st (cS G))(r:bZ X rest (cS G')):bZ X (st::rest) (cS (au G G')) :=
 (o9 h r).weak λD σ H h0_=>el7 h0_ λF ad δ K S q k =>⟨F,ad,δ,_,S,q,⟨fun δ' h _ _ _ _ E S'=>⟨_,_,δ',K,S',h,k.ext E⟩,k.bk,k.ct,k.rt,k.kp⟩⟩
theorem Le{i:Nat}:∀D σ H,cS (aS i f) D σ H->cO (tD f) (g_ i) D σ H:=λD σ H h0_=>el7 h0_ λF ad δ K S q k =>⟨F,ad,δ,_,S,q,λx δ1 h1 v F1 aU H1 E1 S1 V1=>k.nx _ h1 _ _ _ _ E1 (S1.set V1)⟩
theorem mG{i:Nat}{x:J}{pos':y}(hN:X.N.Nodup)(hi:X.N[i]?=U x)(hx:Loc X.env.scope x)(he:JE X e (tD f))(hs:swapsWith e (U (.Name x pos')) pos.line X.env=pure ι:=by rfl)
  (hf:dS X x:=by first|exact .inl Y|exact .inr Y|assumption):JS X (.Assign [.Name x pos'] e pos) (cS (aS i f)):=(mZ hN hi hx he hs hf).weak Le
theorem Lf(he:JE X e (tD f))(hs:swapsWith e Z pos.line X.env=pure ι:=by rfl):JS X (.Expr e pos) (cS (iH f)) :=
 (BF he hs).weak λD σ H h0_=>el7 h0_ λF ad δ K S q k =>⟨F,ad,δ,_,S,q,λx δ1 h1 v F1 aU H1 E1 S1 V1=>k.nx _ h1 _ _ _ _ E1 S1⟩
theorem iY(he:JE X e (tD f)):JS X (.Return (U e) pos) (cS (aB f)) :=
 (qB he).weak λD σ H h0_=>el7 h0_ λF ad δ K S q k =>⟨F,ad,δ,_,S,q,λx δ1 h1 v F1 aU H1 E1 S1 V1=>k.rt _ _ h1 _ _ _ _ _ E1 S1 V1⟩
theorem j5{a b:-o}(hc:JT X c (b9 t))(ha:bZ X a (cS G))(hb:bZ X b (cS G')):JS X (.If c a b pos) (cS (a_ t G G')) :=
 (BG hc ha hb).weak λD σ H h0_=>el7 h0_ λF ad δ K S q k =>⟨F,ad,δ,_,S,q,λb δ1 h1 F1 aU H1 E1 S1=>by
  cases b with
  |true =>
   rw[Tw Y] at h1 ⊢;exact⟨F1,aU,δ1,K,S1,h1,k.ext E1⟩
  |false =>
   rw[To Jn] at h1 ⊢
   calc⟨F1,aU,δ1,K,S1,h1,k.ext E1⟩⟩
def n5:WS:=λ_ _=>False
abbrev WG:=DV->ax->(ax->Prop)->Prop
def ig(g:WG):TG:=λv σ H Q=>∃F ad δ x K,SR F ad δ σ H/\dJ F ad x v/\g x δ K/\Cn F ad δ.mu H K Q
abbrev n6:=-D->ax->(ax->Prop)->Prop
def k9(g:n6):iS:=λvs σ H Q=>∃F ad δ ds K,SR F ad δ σ H/\ae F ds vs/\g ds δ K/\Cn F ad δ.mu H K Q
def b7(i:Nat):WG:=λx δ K=>K ⟨δ.sl.set i (U x),δ.mu⟩
def pH:n6:=λds δ K=>match ds with
 |[]=>K δ
 |_=>False
def j6(g:WG)(g':n6):n6:=λds δ K=>match ds with
 |d::r=>g (.p d) δ fun δ1=>g' r δ1 K
 |[]=>False
theorem JG.weak{tg:M}{t t':TG}(h:JG X tg t)(k:∀v σ H Q,t' v σ H Q->t v σ H Q):JG X tg t':=⟨λpins s σ H v u Q I r q=>h pins s σ H v u Q I r (k v σ H Q q)⟩
theorem g9.weak{ts:-M}{t t':iS}(h:g9 X ts t)(k:∀v σ H Q,t' v σ H Q->t v σ H Q):g9 X ts t':=⟨λpins s σ H v u Q I r q=>h pins s σ H v u Q I r (k v σ H Q q)⟩
theorem x5{i:Nat}{x:J}(hN:X.N.Nodup)(hi:X.N[i]?=U x)(hx:Loc X.env.scope x)(hf:dS X x:=by first|exact .inl Y|exact .inr Y|assumption):JG X (.Name x pos) (ig (b7 i)) :=
 (wo hN hi hx hf).weak λv σ H Q ⟨F,ad,δ,x,K,S,V,q,k⟩↦k _ q _ _ _ _ .refl (S.set V)
theorem Dc:g9 X [] (k9 pH):=hJ.weak λvs σ H Q ⟨F,ad,δ,ds,K,S,V,q,k⟩↦by
 unfold pH at q;split at q
 .erw[ae] at V
  exact⟨V,k _ q _ _ _ _ .refl S⟩
 .calc q.elim
theorem x6{es:-M}{g:WG}{g':n6}(h1:JG X e (ig g))(h2:g9 X es (k9 g'))(hs:(assignEach (e::es) X.env).map (·.2)=assign e X.env::(assignEach es X.env).map (·.2):=by rfl):g9 X (e::es) (k9 (j6 g g')) :=
 (wt h1 h2 hs).weak λvs σ H Q ⟨F,ad,δ,ds,K,S,V,q,k⟩↦by
  unfold j6 at q;split at q
  .rename_i d r
   erw[ae] at V;let⟨v,r',e,i1,i2⟩:=V;exact⟨v,r',e,F,ad,δ,.p d,_,S,i1,q,fun δ' h _ _ _ _ E S'=>⟨_,_,δ',r,K,S',i2.same E.same,h,k.ext E⟩⟩
  .calc q.elim
def rR(n:Nat)(g:n6):WG:=λx δ K=>gb x δ λd=>match d with
 |.tup ds=>↑ds=n/\g ds δ K
 |.lst ds=>↑ds=n/\g ds δ K
 |_=>False
theorem JG.or{tg:M}{t t':TG}(h:JG X tg t)(h':JG X tg t'):JG X tg (λv σ H Q=>t v σ H Q\/t' v σ H Q):=⟨λpins s σ H v u Q I r q=>q.elim (λq=>h pins s σ H v u Q I r q) λq=>h' pins s σ H v u Q I r q⟩
theorem Dd{es:-M}{k:Nat}{g:n6}{n:Nat}(hc:X.calm=θ)(h:g9 X es (k9 g))(hn:↑(assignEach es X.env)=n:=by rfl)(fN:(assignEach es X.env).findIdx? (·.1)=Z:=by rfl):JG X (.Tuple es k pos) (ig (rR n g)) :=
 ((BH hc h hn fN).or (K4 hc h hn fN)).weak λv σ H Q ⟨F,ad,δ,x,K,S,V,q,k⟩↦by
  let⟨d,q,rd⟩:=eW S V q;split at q
  .rename_i ds
   let pI:Is F (.tup ds) v:=rd;erw[Is] at pI;let⟨a,vs,e,h1,h2⟩:=pI;exact .inl ⟨a,vs,e,bJ.of (S.sub _ _ h1),by rw[↑h2];calc q.1,F,ad,δ,ds,K,S,h2,q.2,k⟩
  .rename_i ds
   let⟨a,vs,e,h1,h2⟩:=rd;exact .inr ⟨a,vs,e,bq.of h1,by rw[↑h2];calc q.1,F,ad,δ,ds,K,S,h2,q.2,k⟩
  .calc q.elim
def n8(f:WE)(g:WG):WS:=λK δ=>f δ λx δ1=>g x δ1 K.nx
theorem Lg{tg:M}{g:WG}(he:JE X e (tD f))(hg:JG X tg (ig g))(hs:swapsWithSole [tg] e pos.line X.env=pure ι:=by rfl)(hw:swappedStores [tg] e X.env=pure Z:=by rfl)
  (h1:(assignEach [tg] X.env).map (·.2)=[assign tg X.env]:=by rfl):JS X (.Assign [tg] e pos) (cS (n8 f g)) :=
 (wx he hg hs hw h1).weak λD σ H h0_=>el7 h0_ λF ad δ K S q k =>⟨F,ad,δ,_,S,q,λx δ1 h1 v F1 aU H1 E1 S1 V1=>⟨F1,aU,δ1,x,K.nx,S1,V1,h1,k.nx.ext E1⟩⟩
end
end
structure mH where
 items:-D
 br:ax->Prop
abbrev WI:=ax->(mH->ax->Prop)->Prop
def n_(F:Hp)(ad:-O)(it:mH)(J:It):Prop:=∀(F':Hp)(az:-O)(δ:ax)(σ:St)(H:Hp),aw F F'->(∀(k:Nat)(a:O),ad[k]?=U a->az[k]?=U a)->SR F' az δ σ H->it.br δ →
 J.stop ↑it.items H/\∀(i:Nat)(d:D),it.items[i]?=U d->J.go i H/\∀x H',J.o_ i H x H'->aw H H'/\Is (Nw F' H H') d x
def ij(w:WI):TI:=fun σ H R=>∃F ad δ K,SR F ad δ σ H/\w δ K/\∀it δ',K it δ'->∀J F' az H',Ext F ad δ.mu H F' az δ'.mu H'->SR F' az δ' σ H'->n_ F' az it J->R J H'
noncomputable def x8(n:Nat):Option DV->Option DV->Option DV
 |none,_=>Z
 |some _,some (.o k)=>if k<n then U (.o k) else Z
 |some _,some (.t d k)=>if k<n then U (.t d k) else Z
 |some _,s=>s
noncomputable def ft(n:Nat):-(Option DV)->-(Option DV)->-(Option DV)
 |s0::r0,s::r=>x8 n s0 s::ft n r0 r
 |[],_::r=>Z::ft n [] r
 |_,[]=>[]
noncomputable def ax.trim(δ0 δ:ax):ax:=⟨ft ↑δ0.mu δ0.sl δ.sl,δ.mu.take ↑δ0.mu⟩
theorem x9{n:Nat}:∀(l0 l:-(Option DV)),↑(ft n l0 l)=↑l
 |_::r0,_::r=>by rw[ft,Cw,Cw,x9 r0 r]
 |[],_::r=>by rw[ft,Cw,Cw,x9 [] r]
 |[],[]=>Y
 |_::_,[]=>Y
theorem x_{n:Nat}:∀{l0 l:-(Option DV)}{i:Nat}{x:DV},(ft n l0 l)[i]?=U (U x)->l[i]?=U (U x)/\∀k,x=.o k\/(∃d,x=.t d k)->k<n
 |s0::r0,s::r,0,x,h=>by
  let h:x8 n s0 s=U x:=by simpa[ft] using h
  match s0,s,h with
  |none,_,h=>cases h
  |some _,none,h=>cases h
  |some _,some (.p d),h=>cases(show U (DV.p d)=U x from h);exact⟨Y,λk e=>by rcases e with e|⟨_,e⟩<;>cases e⟩
  |some _,some (.t d k),h =>
   let h:(if k<n then U (DV.t d k) else Z)=U x:=h
   by_cases c:k<n
   .rw[Tw c] at h;cases h;exact⟨Y,λk' e=>by rcases e with e|⟨_,e⟩<;>cases e;calc c⟩
   .rw[To c] at h;cases h
  |some _,some (.o k),h =>
   let h:(if k<n then U (DV.o k) else Z)=U x:=h
   by_cases c:k<n
   .rw[Tw c] at h;cases h;exact⟨Y,λk' e=>by rcases e with e|⟨_,e⟩<;>cases e;calc c⟩
   .rw[To c] at h;cases h
 |s0::r0,s::r,i+1,x,h=>by
  let h:(ft n r0 r)[i]?=U (U x):=by simpa[ft] using h
  simpa using x_ h
 |[],s::r,0,x,h=>by simp[ft] at h
 |[],s::r,i+1,x,h=>by
  let h:(ft n [] r)[i]?=U (U x):=by simpa[ft] using h
  simpa using x_ h
 |[],[],i,x,h=>by simp[ft] at h
 |_::_,[],i,x,h=>by simp[ft] at h
section
variable{F F' H H':Hp}{ad az:-O}{δ δ' δ0:ax}{σ σ' τ:St}{mu c_:-(Option OV)}{l:O}{o:HO}
theorem Lv.take{n:Nat}{a:O}(h:Lv (ad.take n) (mu.take n) a):Lv ad mu a:=by
 let⟨k,ov,e1,e2⟩:=h
 let hk:k<n:=by
  let:=(kP.mp e1).1;rw[TB] at this;symm
 rw[Ub hk] at e1 e2;calc⟨k,ov,e1,e2⟩
theorem SR.trim(S:SR F ad δ σ H):SR F (ad.take ↑δ0.mu) (δ0.trim δ) σ H:=by
 let tk:∀{k:Nat}{a:O},(ad.take ↑δ0.mu)[k]?=U a->k<↑δ0.mu/\ad[k]?=U a:=λ{k a} e=>by
  let hk:k<↑δ0.mu:=by
   let:=(kP.mp e).1;rw[TB] at this;symm
  rw[Ub hk] at e;exact⟨hk,e⟩
 let tm:∀{k:Nat}{w:Option OV},(δ.mu.take ↑δ0.mu)[k]?=U w->k<↑δ0.mu/\δ.mu[k]?=U w:=λ{k w} e=>by
  let hk:k<↑δ0.mu:=by
   let:=(kP.mp e).1;rw[TB] at this;symm
  rw[Ub hk] at e;exact⟨hk,e⟩
 refine⟨S.sub,λa x=>S.off a x.take,?_,λk l a w w' e1 e2 e3 e4=>S.inj k l a w w' (tk e1).2 (tk e2).2 (tm e3).2 (tm e4).2,λk ov e=>?_,λi x e=>?_,?_,S.tab,S.nt⟩
 .show ↑(ad.take _)=↑(δ.mu.take _)
  rw[TB,TB,S.cx]
 .let⟨a,o,e1,e2,h⟩:=S.mu k ov (tm e).2
  exact⟨a,o,by rw[Ub (tm e).1];calc e1,e2,h⟩
 .let⟨e1,e2⟩:=x_ e
  let⟨v,h1,h2⟩:=S.sl i x e1;exact⟨v,h1,h2.pre λk a h3 z=>by rw[Ub (e2 k z)];calc h3⟩
 .show ↑σ=↑(ft _ _ _)
  rw[x9];calc S.len
theorem Ext.trim{n:Nat}(e:Ext F ad mu H F' az c_ H')(hn:↑ad=n):Ext F ad mu H F' (az.take n) (c_.take n) H' :=
 ⟨e.same,e.new,e.keep,λk a h=>by rw[Ub (by rw[<-hn];calc(kP.mp h).1)];calc e.pre k a h,λa x=>e.bR a x.take,e.gM⟩
theorem SR.other(S:SR F ad δ σ H)(hf:F l=Z)(hl:¬ Lv ad δ.mu l)(tk:aD.ok (upd H l o)):SR F ad δ σ (upd H l o):=by
 refine⟨λa u e=>?_,S.off,S.cx,S.inj,λk ov e=>?_,S.sl,S.len,tk,S.nt⟩
 .rw[bj (cm e hf)];exact S.sub a u e
 .let⟨a,u,e1,e2,h⟩:=S.mu k ov e
  calc⟨a,u,e1,by rw[bj λz=>hl (by subst z;calc⟨k,ov,e1,e⟩)];calc e2,h⟩
theorem Ext.other(e:Ext F ad mu H F' az c_ H')(hl:H l=Z):Ext F ad mu H F' az c_ (upd H' l o) :=
 ⟨e.same,e.new,λa u h n t=>by rw[bj (cm h hl)];calc e.keep a u h n t,e.pre,e.bR,λa u h=>by rw[bj (cm h hl)];calc e.gM a u h⟩
theorem SR.adopt(S:SR F ad δ σ H)(hf:F l=Z)(ho:H l=U o)(hl:¬ Lv ad δ.mu l)(no:∀ps,o≠.tbl ps:=by ext _ z;cases z):SR (upd F l o) ad δ σ H:=by
 let sm:aw F (upd F l o):=cy hf
 refine⟨λa u e=>?_,λa x=>?_,S.cx,S.inj,λk ov e=>?_,λi x e=>?_,S.len,S.tab,λa ha=>by
  let⟨ps,q⟩:=aD.tb S.tab ha;rw[bj λz=>by subst z;rw[ho] at q;calc no ps (TU q)]
  calc S.nt a ha⟩
 .by_cases c:a=l
  .subst c;rw[bE] at e;cases e;exact ho
  .rw[bj c] at e;exact S.sub a u e
 .rw[bj λz=>hl (by subst z;calc x)];exact S.off a x
 .let⟨a,u,e1,e2,h⟩:=S.mu k ov e
  exact⟨a,u,e1,e2,h.same sm⟩
 .let⟨v,e1,h⟩:=S.sl i x e
  calc⟨v,e1,h.same sm⟩
theorem Ext.adopt(e:Ext F ad mu H F' az c_ H')(hl:H l=Z)(hf:F' l=Z):Ext F ad mu H (upd F' l o) az c_ H' :=
 ⟨e.same.trans (cy hf),λa u h=>by
  by_cases c:a=l
  .subst c;exact .inr (.inl hl)
  .rw[bj c] at h;calc e.new a u h,e.keep,e.pre,e.bR,e.gM⟩
theorem SR.dw{ov:OV}(S:SR F ad δ σ H)(hf:F l=Z)(ho:H l=U o)(hl:¬ Lv ad δ.mu l)(h:fq F ov o):SR F (ad++[l]) ⟨δ.sl,δ.mu++[U ov]⟩ σ H:=by
 let old:∀{k:Nat}{w:OV},(δ.mu++[U ov])[k]?=U (U w)->(k<↑δ.mu/\δ.mu[k]?=U (U w))\/(k=↑δ.mu/\w=ov):=λ{k w} e=>by
  by_cases c:k<↑δ.mu
  .rw[R4 c] at e;exact .inl ⟨c,e⟩
  .let hl:=(kP.mp e).1
   rw[Cv,T9] at hl;let ek:k=↑δ.mu:=by symm
   subst ek;rw[Tn (ug _),Uy] at e;exact .inr ⟨Y,by simpa using e.symm⟩
 let pre:∀{k:Nat},k<↑δ.mu->(ad++[l])[k]?=ad[k]?:=λ{k} c=>R4 (by rw[S.cx];calc c);let last:(ad++[l])[↑δ.mu]?=U l:=by rw[<-S.cx,Tn (ug _),Uy];rfl
 refine⟨S.sub,λa x=>?_,by rw[Cv,Cv,S.cx];rfl,λk k' a w w' e1 e2 e3 e4=>?_,λk w e=>?_,λi x e=>?_,S.len,S.tab,S.nt⟩
 .let⟨k,w,e1,e2⟩:=x
  rcases old e2 with⟨c,e3⟩|⟨c,e3⟩
  .rw[pre c] at e1;exact S.off a ⟨k,w,e1,e3⟩
  .subst c;rw[last] at e1;cases e1;exact hf
 .rcases old e3 with⟨c,q⟩|⟨c,q⟩
  .rw[pre c] at e1
   rcases old e4 with⟨c',q'⟩|⟨c',q'⟩
   .rw[pre c'] at e2;exact S.inj k k' a w w' e1 e2 q q'
   .subst c';rw[last] at e2;cases e2;exact absurd ⟨k,w,e1,q⟩ hl
  .subst c;rw[last] at e1;cases e1
   rcases old e4 with⟨c',q'⟩|⟨c',q'⟩
   .rw[pre c'] at e2;exact absurd ⟨k',w',e2,q'⟩ hl
   .exact c'.symm
 .rcases old e with⟨c,q⟩|⟨c,q⟩
  .let⟨a,u,e1,e2,h'⟩:=S.mu k w q
   exact⟨a,u,by rw[pre c];calc e1,e2,h'⟩
  .subst c;subst q;exact⟨l,o,last,ho,h⟩
 .let⟨v,e1,h'⟩:=S.sl i x e
  calc⟨v,e1,h'.pre λk a e2 _=>by rw[R4 (kP.mp e2).1];calc e2⟩
theorem Ext.dw{ov:OV}(e:Ext F ad mu H F' az c_ H')(hl:H l=Z)(hm:↑az=↑c_):Ext F ad mu H F' (az++[l]) (c_++[U ov]) H' :=
 ⟨e.same,e.new,e.keep,λk a h=>by rw[R4 (kP.mp (e.pre k a h)).1];calc e.pre k a h,λa x=>by
  let⟨k,w,e1,e2⟩:=x
  by_cases c:k<↑c_
  .rw[R4 c] at e2
   rw[R4 (by rw[hm];calc c)] at e1;exact e.bR a ⟨k,w,e1,e2⟩
  .let gg:=(kP.mp e2).1
   rw[Cv,T9] at gg;let ek:k=↑az:=by rw[hm];symm
   subst ek;rw[Tn (ug _),Uy] at e1;let:l=a:=by simpa using e1
   subst this;calc .inr hl,e.gM⟩
theorem SR.back{sl:-(Option DV)}(S0:SR F ad δ σ H)(e:Ext F ad δ.mu H F' az c_ H')(S:SR F' az ⟨sl,c_⟩ τ H'):SR F' az ⟨δ.sl,c_⟩ σ H' :=
 ⟨S.sub,S.off,S.cx,S.inj,S.mu,λi x q=>let⟨v,h1,h2⟩:=S0.sl i x q;⟨v,h1,h2.ext e⟩,S0.len,S.tab,S.nt⟩
noncomputable def cU(cp:-(Option Nat))(sl:-(Option DV)):-(Option DV):=cp.map λo=>match o with
 |some i=>(sl[i]?).join
 |none=>Z
theorem SR.ya{cp:-(Option Nat)}(S:SR F ad δ σ H):SR F ad ⟨cU cp δ.sl,δ.mu⟩ (jZ cp σ) H:=by
 calc⟨S.sub,S.off,S.cx,S.inj,S.mu,λj x e=>?_,by unfold jZ cU;rw[pj,pj],S.tab,S.nt⟩;unfold cU at e;rw[R1] at e;let⟨o,e1,e2⟩:=Tq.mp e
 match o,e2 with
 |none,e2=>cases e2
 |some i,e2 =>
  let e2:(δ.sl[i]?).join=U x:=e2
  cases q:δ.sl[i]? with
  |none=>rw[q] at e2;cases e2
  |some z =>
   rw[q] at e2;let e3:z=U x:=e2;subst e3;let⟨v,h1,h2⟩:=S.sl i x q;calc⟨v,?_,h2⟩;unfold jZ;rw[R1,e1];show U ((σ[i]?).join)=U (U v);rw[h1];rfl
end
def j7(δ0:ax)(br:ax->Prop)(g:WG)(b:WS)(K:KS):-D->ax->Prop
 |[],δ=>br δ/\K.nx δ
 |d::r,δ=>br δ/\g (.p d) δ fun δ1=>b {nx:=fun δ2=>j7 δ0 br g b K r (δ0.trim δ2),ct:=fun δ2=>j7 δ0 br g b K r (δ0.trim δ2),bk:=K.nx,rt:=K.rt} δ1
def eY(w:WI)(g:WG)(b:WS):WS:=λK δ=>w δ λit δ1=>j7 δ1 it.br g b K it.items δ1
def gQ(δ0:ax)(br:ax->Prop)(g:WG)(t:WT)(f:WE)(K:-D->ax->Prop):-D->-D->ax->Prop
 |[],acc,δ=>br δ/\K acc δ
 |d::r,acc,δ=>br δ/\g (.p d) δ fun δ1=>t δ1 λb δ2=>if b=θ then f δ2 λx δ3=>mE x δ3 λe δ4=>↑acc<1000/\gQ δ0 br g t f K r (acc++[e]) (δ0.trim δ4) else gQ δ0 br g t f K r acc (δ0.trim δ2)
def fH(w:WI)(cp:-(Option Nat))(g:WG)(t:WT)(f:WE):WE:=fun δ K=>w δ λit δ1=>gQ ⟨cU cp δ1.sl,δ1.mu⟩ it.br g t f (λacc δ'=>K (.p (.lst acc)) ⟨δ1.sl,δ'.mu⟩) it.items [] ⟨cU cp δ1.sl,δ1.mu⟩
def k_(w:WI)(cp:-(Option Nat))(g:WG)(t:WT)(f:WE):WE:=fun δ K=>w δ λit δ1=>gQ ⟨cU cp δ1.sl,δ1.mu⟩ it.br g t f (λacc δ'=>K (.o ↑δ'.mu) ⟨δ1.sl,δ'.mu++[U (.lst acc)]⟩) it.items [] ⟨cU cp δ1.sl,δ1.mu⟩
section
variable{X:Cx}{tg iter elt:M}{body:-o}{w:WI}{g:WG}{b:WS}{pos:y}{ifs:-M}{t:WT}{f:WE}{scope:u}
theorem Lh[b_](hp:PassesOwn (ς X.prog X.w) X.A X.env X.xe)(hc:X.calm=θ)(hi:JI X tg iter (ij w))(hg:JG X tg (ig g))(hb:bZ X body (cS b))(hs:∀x,foldedSetIterable iter X.env x=pure x:=by ext _;rfl):
  JS X (.For tg iter body [] pos) (cS (eY w g b)):=(BM hp hc hi hg hb hs).weak λD σ H h0_=>el7 h0_ λF ad δ K S q k =>by
 calc⟨F,ad,δ,_,S,q,λit δ1 h1 J F1 aU H1 E1 S1 I1=>?_⟩;let k1:=k.ext E1;calc⟨λi m σ' H'=>∃F' az δ',i+m=↑it.items/\Ext F1 aU δ1.mu H1 F' az δ'.mu H'/\SR F' az δ' σ' H'/\j7 δ1 it.br g b K (it.items.drop i) δ',⟨↑it.items,F1,aU,δ1,⋯,.refl,S1,h1⟩,?_⟩;ext i m σ' H' ⟨F',az,δ',hm,E',S',h⟩
 by_cases dF:i<↑it.items
 .rw[Ug dF] at h
  let⟨ck,h⟩:=h;let⟨go,yl⟩:=(I1 F' az δ' σ' H' E'.same E'.pre S' ck).2 i _ (nH dF);calc .inr ⟨go,fun σ2 H2=>∃F2 b4 δ2,Ext F1 aU δ1.mu H1 F2 b4 δ2.mu H2/\SR F2 b4 δ2 σ2 H2/\j7 δ1 it.br g b K (it.items.drop (i+1)) δ2,fun σ2 H2 ⟨F2,b4,δ2,e1,e2,e3⟩↦⟨m-1,⋯,F2,b4,δ2,⋯,e1,e2,e3⟩,λx H2 y=>?_⟩;let⟨sm,is⟩:=yl x H2 y;let E2:=E'.trans (Ext.al S' sm);calc⟨_,az,δ',.p _,_,S'.al sm,is,h,fun δ3 h3 F3 rS σ3 H3 E3 S3=>?_⟩;let rT:=E2.trans E3;refine⟨F3,rS,δ3,_,S3,h3,⟨fun δ4 h4 F4 pJ σ4 H4 E4 S4=>⟨F4,_,_,(rT.trans E4).trim S1.cx,S4.trim,h4⟩,k1.nx.ext rT,fun δ4 h4 F4 pJ σ4 H4 E4 S4=>⟨F4,_,_,(rT.trans E4).trim S1.cx,S4.trim,h4⟩,(k1.ext rT).rt,(k1.ext rT).kp⟩⟩
 .let ei:i=↑it.items:=by symm
  subst ei;rw[Ww (ug _)] at h;let⟨ck,h⟩:=h;calc .inl ⟨(I1 F' az δ' σ' H' E'.same E'.pre S' ck).1,k1.nx _ h _ _ _ _ E' S'⟩
def cD:WT:=fun δ K=>K θ δ
theorem JF.weak{ifs:-M}{t t':TT}(h:JF X ifs t)(k:∀σ H Q,t' σ H Q->t σ H Q):JF X ifs t':=⟨λpins s σ H Q I q=>h pins s σ H Q I (k σ H Q q)⟩
theorem De:JF X [] (b9 cD):=nK.weak fun σ H Q h0_=>el7 h0_ λF ad δ K S q k =>k _ _ q _ _ _ .refl S
theorem Li{c:M}(h:JT X c (b9 t)):JF X [c] (b9 t):=Jw h
theorem Df{J:It}{l:O}{F1:Hp}{aU:-O}{δ1:ax}{σ:St}{H1:Hp}{it:mH}{cp:-(Option Nat)}{Q:VK}{K:-D->ax->Prop}(S1:SR F1 aU δ1 σ H1)(I1:n_ F1 aU it J)(hl:H1 l=Z)
  (h:gQ ⟨cU cp δ1.sl,δ1.mu⟩ it.br g t f K it.items [] ⟨cU cp δ1.sl,δ1.mu⟩)
  (fin:∀acc δ' F' az τ H' ys,K acc δ'->Ext F1 aU δ1.mu H1 F' az δ'.mu H'->SR F' az δ' τ H'->H' l=U (.lst ys)->F' l=Z->¬ Lv az δ'.mu l->ae F' acc ys->Q (.ref l) H') :
  CB J (ig g) (b9 t) (tD f) l (jZ cp σ) (upd H1 l (.lst [])) Q:=by
 let f1:F1 l=Z:=by
  cases q:F1 l with
  |none=>rfl
  |some u=>rw[S1.sub l u q] at hl;cases hl
 let nl:∀{ad mu},(∀a,Lv ad mu a->Lv aU δ1.mu a\/H1 a=Z)->True:=λ_=>trivial
 let l1:¬ Lv aU δ1.mu l:=λ⟨k,ov,e1,e2⟩↦by
  let⟨a,o,e3,e4,_⟩:=S1.mu k ov e2;rw[e1] at e3;cases e3;rw[hl] at e4;cases e4
 let S0:SR F1 aU ⟨cU cp δ1.sl,δ1.mu⟩ (jZ cp σ) (upd H1 l (.lst [])):=S1.ya.other f1 l1 (aD.same S1.tab (cy hl));calc⟨λi m τ H'=>∃F' az δ' acc ys,i+m=↑it.items/\Ext F1 aU δ1.mu H1 F' az δ'.mu H'/\SR F' az δ' τ H'/\H' l=U (.lst ys)/\F' l=Z/\¬ Lv az δ'.mu l/\ae F' acc ys/\gQ ⟨cU cp δ1.sl,δ1.mu⟩ it.br g t f K (it.items.drop i) acc δ',⟨↑it.items,F1,aU,_,[],[],⋯,Ext.refl.other hl,S0,bE,f1,l1,.nil,h⟩,?_⟩;ext i m τ H' ⟨F',az,δ',acc,ys,hm,E',S',gg,la,mI,ia,h⟩
 by_cases dF:i<↑it.items
 .rw[Ug dF] at h
  let⟨ck,h⟩:=h;let⟨go,yl⟩:=(I1 F' az δ' τ H' E'.same E'.pre S' ck).2 i _ (nH dF)
  let step:∀{F2:Hp}{b4:-O}{yb:-(Option OV)}{H2:Hp},Ext F' az δ'.mu H' F2 b4 yb H2->H2 l=U (.lst ys)/\F2 l=Z/\¬ Lv b4 yb l/\ae F2 acc ys:=λ{F2 b4 yb H2} e=>by
   refine⟨e.keep _ _ gg mI (λz=>by let⟨ps,q⟩:=aD.tb S1.tab z;rw[hl] at q;cases q),?_,λz=>?_,ia.same e.same⟩
   .cases q:F2 l with
    |none=>rfl
    |some u =>
     rcases e.new l u q with z|z|z
     .rw[la] at z;cases z
     .rw[gg] at z;cases z
     .exact absurd z mI
   .rcases e.bR l z with z|z
    .exact mI z
    .rw[gg] at z;cases z
  refine .inr ⟨go,fun τ2 H2=>∃F2 b4 δ2 lb uE,Ext F1 aU δ1.mu H1 F2 b4 δ2.mu H2/\SR F2 b4 δ2 τ2 H2/\H2 l=U (.lst uE)/\F2 l=Z/\¬ Lv b4 δ2.mu l/\ae F2 lb uE/\gQ ⟨cU cp δ1.sl,δ1.mu⟩ it.br g t f K (it.items.drop (i+1)) lb δ2,
   fun τ2 H2 ⟨F2,b4,δ2,lb,uE,r⟩↦⟨m-1,⋯,F2,b4,δ2,lb,uE,⋯,r⟩,λx H2 y=>?_⟩
  let⟨sm,is⟩:=yl x H2 y;let X2:=Ext.al S' sm;calc⟨_,az,δ',.p _,_,S'.al sm,is,h,fun δ3 h3 F3 rS σ3 H3 X3 S3=>?_⟩;calc⟨F3,rS,δ3,_,S3,h3,λbb δ4 h4 F4 pJ H4 X4 S4=>?_⟩;let yc:=(X2.trans X3).trans X4
  cases bb with
  |false =>
   dsimp only at h4 ⊢;rw[To Jn] at h4 ⊢;let⟨a1,a2,a3,a4⟩:=step yc;exact⟨F4,_,_,acc,ys,(E'.trans yc).trim S1.cx,S4.trim (δ0:=⟨cU cp δ1.sl,δ1.mu⟩),a1,a2,λz=>a3 z.take,a4,h4⟩
  |true =>
   dsimp only at h4 ⊢;rw[Tw Y] at h4 ⊢;calc⟨F4,pJ,δ4,_,S4,h4,λy δ5 h5 v F5 R9 H5 X5 S5 V5=>?_⟩;let⟨e,δ6,F6,⟨hlen,h6⟩,X6,S6,i6⟩:=uz S5 V5 h5;let Dg:=(yc.trans X5).trans X6;let⟨a1,a2,a3,a4⟩:=step Dg;calc⟨ys,a1,rg (by rw[↑a4];symm),F6,_,_,acc++[e],ys++[v],?_,(S6.other a2 a3 (aD.put S6.tab a1 (.inl ⟨_,Y⟩))).trim (δ0:=⟨cU cp δ1.sl,δ1.mu⟩),bE,a2,λz=>a3 z.take,a4.snoc i6,h6⟩;exact((E'.trans Dg).other hl).trim S1.cx
 .let ei:i=↑it.items:=by symm
  subst ei;rw[Ww (ug _)] at h;let⟨ck,h⟩:=h;calc .inl ⟨(I1 F' az δ' τ H' E'.same E'.pre S' ck).1,fin _ _ _ _ _ _ _ h E' S' gg la mI ia⟩
theorem Dh{cp:-(Option Nat)}:∀σ H Q,tD (fH w cp g t f) σ H Q->rh (ij w) cp (λ_=>ig g) (λ_=>b9 t) (λ_=>tD f) σ H Q:=fun σ H Q h0_=>el7 h0_ λF ad δ K S q k =>by
 calc⟨F,ad,δ,_,S,q,λit δ1 h1 J F1 aU H1 E1 S1 I1=>λd l hl=>?_⟩;calc Df S1 I1 hl h1 λacc δ' F' az τ H' ys hk E' S' gg la mI ia=>?_;let sm:aw F' (upd F' l (.lst ys)):=cy la;calc k _ _ hk _ _ _ _ (E1.trans (E'.adopt hl la)) (SR.back (sl:=δ'.sl) S1 (E'.adopt hl la) (S'.adopt la gg mI)) ?_;show Is _ (.lst acc) _;erw[Is];calc⟨l,ys,Y,bE,ia.same sm⟩
theorem Lj{cp:-(Option Nat)}:∀σ H Q,tD (k_ w cp g t f) σ H Q->rh (ij w) cp (λ_=>ig g) (λ_=>b9 t) (λ_=>tD f) σ H Q:=fun σ H Q h0_=>el7 h0_ λF ad δ K S q k =>by
 calc⟨F,ad,δ,_,S,q,λit δ1 h1 J F1 aU H1 E1 S1 I1=>λd l hl=>?_⟩;calc Df S1 I1 hl h1 λacc δ' F' az τ H' ys hk E' S' gg la mI ia=>?_;let S2:=S'.dw (ov:=.lst acc) la gg mI ⟨ys,Y,ia⟩;let E2:=E'.dw (ov:=.lst acc) hl S'.cx;calc k _ _ hk _ _ _ _ (E1.trans E2) (SR.back (sl:=δ'.sl) S1 E2 S2) ⟨l,?_,Y⟩;rw[<-S'.cx,Tn (ug _),Uy];rfl
theorem Di(cp:-(Option Nat))(Nb:-J)(hc:X.calm=θ)(hi:JI X tg iter (ij w))(hg:∀d,JG (bT X scope Nb d) tg (ig g))(hf:∀d,JF (bT X scope Nb d) ifs (b9 t))(he:∀d,JE (bT X scope Nb d) elt (tD f))
  (hk:scope.kind=.function:=by rfl) (ho:j2 X.N X.env.scope scope Nb cp=θ:=by first|rfl|kernel_rfl) (hs:∀x,foldedSetIterable iter X.env x=pure x:=by ext _;rfl) :
  JE X (.ListComp elt [⟨tg,iter,ifs,0⟩] scope pos) (tD (fH w cp g t f)):=(CH cp Nb hc hi hg hf he hk ho hs).weak Dh
theorem Lk(cp:-(Option Nat))(Nb:-J)(hc:X.calm=θ)(hi:JI X tg iter (ij w))(hg:∀d,JG (bT X scope Nb d) tg (ig g))(hf:∀d,JF (bT X scope Nb d) ifs (b9 t))(he:∀d,JE (bT X scope Nb d) elt (tD f))
  (hk:scope.kind=.function:=by rfl) (ho:j2 X.N X.env.scope scope Nb cp=θ:=by first|rfl|kernel_rfl) (hs:∀x,foldedSetIterable iter X.env x=pure x:=by ext _;rfl) :
  JE X (.ListComp elt [⟨tg,iter,ifs,0⟩] scope pos) (tD (k_ w cp g t f)):=(CH cp Nb hc hi hg hf he hk ho hs).weak Lj
theorem Ll[b_](cp:-(Option Nat))(Nb:-J){i:Nat}{x:J}{pos' fZ:y}(hN:X.N.Nodup)(hi:X.N[i]?=U x)(hx:Loc X.env.scope x)(hc:X.calm=θ)(hit:JI X tg iter (ij w))(hg:∀d,JG (bT X scope Nb d) tg (ig g))(hf:∀d,JF (bT X scope Nb d) ifs (b9 t))(he:∀d,JE (bT X scope Nb d) elt (tD f))
  (hk:scope.kind=.function:=by rfl) (ho:j2 X.N X.env.scope scope Nb cp=θ:=by first|rfl|kernel_rfl) (hs:∀x,foldedSetIterable iter X.env x=pure x:=by ext _;rfl)
  (rp:swapsWith (.ListComp elt [⟨tg,iter,ifs,0⟩] scope pos) (U (.Name x pos')) fZ.line X.env=pure θ:=by rfl)
  (kD:dS X x:=by first|exact .inl Y|exact .inr Y|assumption) :
  JS X (.Assign [.Name x pos'] (.ListComp elt [⟨tg,iter,ifs,0⟩] scope pos) fZ) (cS (aS i (fH w cp g t f))) :=
 (JQ cp Nb hN hi hx hc hit hg hf he hk ho hs rp kD).weak λD σ H h0_=>el7 h0_ λF ad δ K S q k =>Dh σ H _ ⟨F,ad,δ,_,S,q,λx δ1 h1 v F1 aU H1 E1 S1 V1=>k.nx _ h1 _ _ _ _ E1 (S1.set V1)⟩
end
inductive RV where
 |p (d:D)|n (ds:-D)|a (j:Nat)|t (d:D) (ds:-D)
def oa(F' H H':Hp)(d:D)(ds:-D)(v:V):Prop:=∃a b u vs,v=.ref a/\F' a=U (.tup [u,.ref b])/\Is F' d u/\H b=Z/\H' b=U (.lst vs)/\F' b=Z/\ae F' ds vs
abbrev GD:=-DV->-OV->(RV->-OV->Prop)->Prop
structure yd(F:Hp)(ad:-O)(H:Hp)(r:RV)(ows:-OV)(v:V)(F' H':Hp):Prop where
 sub:aw F' H'
 same:aw F F'
 new:∀a o,F' a=U o->F a=U o\/H a=Z
 keep:∀a o,H a=U o->a∉ad->a∉aD.ad->H' a=U o
 tab:aD.ok H'
 nt:∀a∈aD.ad,F' a=Z
 len:↑ows=↑ad
 own:∀(j:Nat)(ow:OV),ows[j]?=U ow->∃a o,ad[j]?=U a/\H' a=U o/\fq F' ow o
 off:∀a∈ad,F' a=Z
 res:match r with
  |.p d=>Is F' d v
  |.n ds=>∃a vs,v=.ref a/\H a=Z/\H' a=U (.lst vs)/\F' a=Z/\ae F' ds vs
  |.a j=>∃a,ad[j]?=U a/\v=.ref a
  |.t d ds=>oa F' H H' d ds v
def lg(G:GD)(n:Nat):Sp:=λvs H Q _=>↑vs=n/\∃F ad ys ovs K,SR F ad ⟨ys.map U,ovs.map U⟩ (vs.map U) H/\G ys ovs K/\∀r ows,K r ows->∀v F' H',yd F ad H r ows v F' H'->Q v H'
def eZ(n:Nat)(K:RV->-OV->Prop)(x:DV)(δ:ax):Prop:=∃ows,δ.mu.take n=ows.map U/\↑ows=n/\match x with
 |.p d=>K (.p d) ows
 |.o k=>if k<n then K (.a k) ows else match δ.mu[k]? with
  |some (some (.lst ds))=>K (.n ds) ows\/K (.p (.lst ds)) ows
  |_=>False
 |.t d k=>n<=k/\match δ.mu[k]? with
  |some (some (.lst ds))=>K (.t d ds) ows
  |_=>False
noncomputable def ik(n:Nat)(K:RV->-OV->Prop):KS where
 nx:=eZ n K (.p .non)
 rt:=eZ n K
section
variable{F F' H H':Hp}{ad az:-O}{σ σ':St}
theorem Dj{α:Type}{l:-α}{i:Nat}{x:α}(h:(l.map U)[i]?=U (U x)):l[i]?=U x:=by
 rw[R1] at h;let⟨y,e,q⟩:=Tq.mp h;cases q;calc e
theorem Lm{α:Type}{l:-α}{i:Nat}{x:α}(h:l[i]?=U x):(l.map U)[i]?=U (U x):=by
 rw[R1,h];rfl
theorem SR.start{ys:-DV}{mu:-(Option OV)}{vs:-V}{N:-J}(S:SR F ad ⟨ys.map U,mu⟩ (vs.map U) H):SR F ad ⟨ys.map U++R5 (↑N-↑vs) Z,mu⟩ (start N vs) H:=by
 let hl:↑vs=↑ys:=by
  let:=S.len;rw[pj] at this;rw[this];rw[pj]
 refine⟨S.sub,S.off,S.cx,S.inj,S.mu,λi x e=>?_,?_,S.tab,S.nt⟩
 .let hi:i<↑ys:=by
   by_cases c:i<↑ys
   .exact c
   .rw[Tn (by rw[pj];symm),Vz] at e
    split at e
    .cases e
    .cases e
  rw[R4 (by rw[pj];calc hi)] at e;let⟨v,h1,h2⟩:=S.sl i x e;exact⟨v,by unfold L2.start;rw[R4 (by rw[pj,hl];calc hi)];calc h1,h2⟩
 .unfold L2.start
  rw[Cv,Cv,UH,UH,pj,pj,hl]
theorem uF{ovs:-OV}{δ:ax}{x:DV}{v:V}{K:RV->-OV->Prop}{Q:VK}{sl:-(Option DV)}{τ:St}(S0:SR F ad ⟨sl,ovs.map U⟩ τ H)(E:Ext F ad (ovs.map U) H F' az δ.mu H')(S:SR F' az δ σ' H')(V:dJ F' az x v)
  (h:eZ ↑ovs K x δ) (k:∀r ows,K r ows->∀v F' H',yd F ad H r ows v F' H'->Q v H'):Q v H':=by
 let⟨ows,tk,hl,h⟩:=h;let al:↑ad=↑ovs:=by let:=S0.cx;rwa [pj] at this
 let lv:∀(j:Nat)(a:O),ad[j]?=U a->∃ow,ows[j]?=U ow/\δ.mu[j]?=U (U ow)/\Lv az δ.mu a:=λj a e=>by
  let hj:j<↑ovs:=by rw[<-al];exact(kP.mp e).1
  let h1:(δ.mu.take ↑ovs)[j]?=U (U (ows[j]'(by rw[hl];calc hj))):=by
   rw[tk,R1,nH (by rw[hl];calc hj)];rfl
  rw[Ub hj] at h1;exact⟨_,nH (by rw[hl];calc hj),h1,j,_,E.pre j a e,h1⟩
 let iJ:∀a∈ad,F' a=Z:=λa ha=>by
  let⟨j,e⟩:=Tp.mp ha;let⟨_,_,_,l⟩:=lv j a e;exact S.off a l
 let base:∀{F2:Hp},aw F' F2->aw F2 H'->(∀a o,F2 a=U o->F' a=U o\/(H a=Z/\¬ a∈ad))->(∀a∈ad,F2 a=Z)->(∀a∈aD.ad,F2 a=Z)->∀{r:RV},(match r with
   |.p d=>Is F2 d v
   |.n ds=>∃a vs,v=.ref a/\H a=Z/\H' a=U (.lst vs)/\F2 a=Z/\ae F2 ds vs
   |.a j=>∃a,ad[j]?=U a/\v=.ref a
   |.t d ds=>oa F2 H H' d ds v)->yd F ad H r ows v F2 H':=λ{F2} s1 s2 n2 o2 Ln {r} res=>by
  refine⟨s2,E.same.trans s1,λa o e=>?_,λa o e n t=>?_,S.tab,Ln,by rw[hl,al],λj ow e=>?_,o2,res⟩
  .rcases n2 a o e with e|⟨e,_⟩
   .rcases E.new a o e with z|z|⟨j,ov,z,_⟩
    .exact .inl z
    .exact .inr z
    .rw[iJ a (Tp.mpr ⟨j,z⟩)] at e;cases e
   .exact .inr e
  .exact E.keep a o e (λ⟨j,ov,z,_⟩↦n (Tp.mpr ⟨j,z⟩)) t
  .let hj:j<↑ad:=by rw[al,<-hl];exact(kP.mp e).1
   let⟨ye,e1,e2,_⟩:=lv j _ (nH hj);rw[e] at e1;cases e1;let⟨a,o,e3,e4,h5⟩:=S.mu j _ e2;rw[E.pre j _ (nH hj)] at e3;cases e3
   exact⟨_,o,nH hj,e4,h5.same s1⟩
 let fresh:∀{i:Nat}{ds:-D}{a:O},¬ i<↑ovs->az[i]?=U a->δ.mu[i]?=U (U (.lst ds))->∃vs,H' a=U (.lst vs)/\ae F' ds vs/\a∉ad/\F' a=Z/\H a=Z:=λ{i ds a} c e1 em=>by
  let⟨a',o,e2,e3,vs,rfl,h4⟩:=S.mu i _ em;rw[e1] at e2;cases e2
  let na:a∉ad:=λz=>by
   let⟨j,e⟩:=Tp.mp z;let⟨ow,_,e5,_⟩:=lv j a e;let:i=j:=S.inj i j a _ _ e1 (E.pre j a e) em e5;subst this;exact c (by rw[<-al];calc(kP.mp e).1)
  calc⟨vs,e3,h4,na,S.off a ⟨i,_,e1,em⟩,?_⟩;rcases E.bR a ⟨i,_,e1,em⟩ with⟨j,ov,z,_⟩|z
  .exact absurd (Tp.mpr ⟨j,z⟩) na
  .exact z
 cases x with
 |p d=>exact k _ _ h _ _ _ (base (F2:=F') (λ_ _ e=>e) S.sub (λ_ _ e=>.inl e) iJ S.nt V)
 |t d i =>
  let⟨a,b,u,rfl,e0,e2,e1⟩:=V;let⟨c,h⟩:=h;split at h
  .rename_i ds em
   let⟨vs,e3,h4,na,fa,ha⟩:=fresh ⋯ e1 em;exact k _ _ h _ _ _ (base (F2:=F') (λ_ _ e=>e) S.sub (λ_ _ e=>.inl e) iJ S.nt ⟨a,b,u,vs,Y,e0,e2,ha,e3,fa,h4⟩)
  .exact h.elim
 |o i =>
  dsimp only at h;let⟨a,e1,rfl⟩:=V
  by_cases c:i<↑ovs
  .rw[Tw c] at h
   let ei:ad[i]?=U a:=by
    let:=E.pre i _ (nH (by rw[al];calc c));rw[e1] at this;rw[nH (by rw[al];calc c)];exact this.symm
   exact k _ _ h _ _ _ (base (F2:=F') (λ_ _ e=>e) S.sub (λ_ _ e=>.inl e) iJ S.nt ⟨a,ei,Y⟩)
  .rw[To c] at h
   split at h
   .rename_i ds em
    let⟨vs,e3,h4,na,fa,ha⟩:=fresh c e1 em;rcases h with h|h
    .exact k _ _ h _ _ _ (base (F2:=F') (λ_ _ e=>e) S.sub (λ_ _ e=>.inl e) iJ S.nt ⟨a,vs,Y,ha,e3,fa,h4⟩)
    .refine k _ _ h _ _ _ (base (F2:=upd F' a (.lst vs)) (cy fa) (λb o e=>?_) (λb o e=>?_) (λb hb=>?_) (λb hb=>?_) ?_)
     .by_cases z:b=a
      .subst z;rw[bE] at e;cases e;exact e3
      .rw[bj z] at e;exact S.sub b o e
     .by_cases z:b=a
      .subst z;exact .inr ⟨ha,na⟩
      .rw[bj z] at e;exact .inl e
     .rw[bj λz=>na (by subst z;calc hb)];exact iJ b hb
     .let⟨ps,q⟩:=aD.tb S.tab hb
      rw[bj λz=>by subst z;rw[e3] at q;cases q];exact S.nt b hb
     .show Is _ (.lst ds) _
      exact⟨a,vs,Y,bE,h4.same (cy fa)⟩
   .calc h.elim
end
theorem fY.Lo{P:q}{w:I}{K:nG}{mg:J->Option ν}{base:R}{x qual:J}{st:o}{f:O}{fd:FuncData}{N ps:-J}{k:Nat}{G:GD}(F:fY K x qual st f fd)(S:kI N ps (cQ st))
  (eA:∀(bh:ν)(A:l)(outer:-t)(s:L)(H:Hp)(E:XK),bx k (A.deeper (envOfC qual (cQ st) ⇑s f bh)) →
   ∃B:WS,bZ (bt fP P w K mg base N qual (cQ st) f bh A outer s H E).mi (d8 st) (cS B)/\∀ys ovs K',↑ys=↑ps->G ys ovs K'->B (ik ↑ovs K') ⟨ys.map U++R5 (↑N-↑ps) Z,ovs.map U⟩) :
  bP P w K mg base fP (k+1) f fd ps (lg G ↑ps) :=
 F.ui S (λvs H Q E h=>h.1) λbh A outer s H vs Q E hr h=>by
  let⟨hl,Fz,ad,ys,ovs,K',S0,g,kk⟩:=h;let⟨B,jb,hb⟩:=eA bh A outer s H E hr
  let hy:↑ys=↑ps:=by
   let:=S0.len;rw[pj] at this;rw[<-hl,this];rw[pj]
  refine⟨_,jb,Fz,ad,⟨ys.map U++R5 (↑N-↑ps) Z,ovs.map U⟩,ik ↑ovs K',by rw[<-hl];calc S0.start,hb ys ovs K' hy g,⟨fun δ' h F' az σ' H' E' S'=>?_,fun δ' h=>h.elim,fun δ' h=>h.elim,λy δ' h v F' az σ' H' E' S' V=>?_,trivial⟩⟩
  .exact uF (σ':=σ') S0 E' S' (x:=.p .non) (v:=.non) Y h kk
  .calc uF (σ':=σ') S0 E' S' V h kk
noncomputable def passes(mu:-(Option OV)):-DV->Nat->Option (-DV×-(Nat×OV))
 |[],_=>U ([],[])
 |.p d::xs,j=>match passes mu xs j with
  |some r=>U (.p d::r.1,r.2)
  |none=>Z
 |.o k::xs,j=>match mu[k]? with
  |some (some ov)=>match passes mu xs (j+1) with
   |some r=>U (.o j::r.1,(k,ov)::r.2)
   |none=>Z
  |_=>Z
 |.t _ _::_,_=>Z
noncomputable def eB(mu:-(Option OV)):-(Nat×OV)->-OV->-(Option OV)
 |(k,_)::r,ow::ows=>eB (mu.set k (U ow)) r ows
 |_,_=>mu
noncomputable def jr:-(Nat×OV)->Bool
 |[]=>θ
 |(k,_)::r => !(r.any λe=>e.1==k)&&jr r
def lh(δ:ax)(e7:-(Nat×OV))(K:DV->ax->Prop)(r:RV)(ows:-OV):Prop:=match r with
 |.p d=>K (.p d) ⟨δ.sl,eB δ.mu e7 ows⟩
 |.n ds=>K (.p (.lst ds)) ⟨δ.sl,eB δ.mu e7 ows⟩
 |.t d ds=>K (.p (.tup [d,.lst ds])) ⟨δ.sl,eB δ.mu e7 ows⟩
 |.a j=>match e7[j]? with
  |some ko=>K (.o ko.1) ⟨δ.sl,eB δ.mu e7 ows⟩
  |none=>False
def rV(δ:ax)(e7:-(Nat×OV))(K:DV->ax->Prop)(r:RV)(ows:-OV):Prop:=match r with
 |.n ds=>K (.o ↑(eB δ.mu e7 ows)) ⟨δ.sl,eB δ.mu e7 ows++[U (.lst ds)]⟩
 |_=>False
def aj(n:Nat)(G:GD)(fa:WA):WE:=fun δ K=>fa δ λxs δ1=>match passes δ1.mu xs 0 with
 |some r=>(jr r.2=θ/\↑r.1=n)/\G r.1 (r.2.map (·.2)) (lh δ1 r.2 K)
 |none=>False
def pK(n:Nat)(G:GD)(fa:WA):WE:=fun δ K=>fa δ λxs δ1=>match passes δ1.mu xs 0 with
 |some r=>(jr r.2=θ/\↑r.1=n)/\G r.1 (r.2.map (·.2)) (rV δ1 r.2 K)
 |none=>False
section
variable{F F' H H':Hp}{ad az:-O}{δ:ax}{σ σ':St}
theorem uG{mu:-(Option OV)}(hm:∀(k:Nat) (ov:OV),mu[k]?=U (U ov)->∃a o,ad[k]?=U a/\H a=U o/\fq F ov o):∀{xs:-DV}{vs:-V}{j:Nat}{r:-DV×-(Nat×OV)},passes mu xs j=U r->cR F ad xs vs →
  ∃as:-O,↑as=↑r.2/\(∀(i:Nat)(ko:Nat×OV),r.2[i]?=U ko->mu[ko.1]?=U (U ko.2)/\∃a o,as[i]?=U a/\ad[ko.1]?=U a/\H a=U o/\fq F ko.2 o) ∧
   ∀(pre:-O),pre.length=j->∃_u:Unit,↑vs=↑r.1/\∀(i:Nat)(y:DV),r.1[i]?=U y->∃v,vs[i]?=U v/\dJ F (pre++as) y v
 |[],vs,j,r,h,hv=>by
  cases h
  let:vs=[]:=hv;subst this;exact⟨[],Y,λi ko e=>by simp at e,λpre _=>⟨(),Y,λi y e=>by simp at e⟩⟩
 |.p d::xs,_,j,r,h,⟨v,t,e,h1,h2⟩=>by
  subst e;unfold passes at h;split at h
  .rename_i r' hr
   cases h
   let⟨as,l,b,c⟩:=uG hm hr h2;refine⟨as,l,b,λpre hp=>⟨(),?_,λi y e=>?_⟩⟩
   .let⟨_,c1,_⟩:=c pre hp
    rw[Cw,Cw,c1]
   .let⟨_,_,c2⟩:=c pre hp
    cases i with
    |zero=>cases(show U (DV.p d)=U y by simpa using e);exact⟨v,Y,h1⟩
    |succ i=>simpa using c2 i y e⁻¹
  .cases h
 |.o k::xs,_,j,r,h,⟨v,t,e,h1,h2⟩=>by
  subst e;unfold passes at h;split at h
  .rename_i ov hk
   split at h
   .rename_i r' hr
    cases h
    let⟨as,l,b,c⟩:=uG hm hr h2;let⟨a,e1,rfl⟩:=h1;let⟨a',o,e2,e3,e4⟩:=hm k ov hk;rw[e1] at e2;cases e2;refine⟨a::as,by rw[Cw,Cw,l],λi ko e=>?_,λpre hp=>⟨(),?_,λi y e=>?_⟩⟩
    .cases i with
     |zero=>cases(show U (k,ov)=U ko by simpa using e);exact⟨hk,a,o,Y,e1,e3,e4⟩
     |succ i=>simpa using b i ko e⁻¹
    .let⟨_,c1,_⟩:=c (pre++[a]) (by rw[Cv,hp];rfl)
     rw[Cw,Cw,c1]
    .let⟨_,_,c2⟩:=c (pre++[a]) (by rw[Cv,hp];rfl)
     cases i with
     |zero =>
      cases(show U (DV.o j)=U y by simpa using e)
      calc⟨_,Y,a,?_,Y⟩;rw[Tn ⋯,hp,Uy];rfl
     |succ i =>
      let⟨v',c3,c4⟩:=c2 i y e⁻¹;exact⟨v',by simpa using c3,by rw[U0] at c4;calc c4⟩
   .cases h
  .cases h
theorem Dl:∀{e7:-(Nat×OV)},jr e7=θ->∀(i j:Nat)(k:Nat)(a b:OV),e7[i]?=U (k,a)->e7[j]?=U (k,b)->i=j
 |[],_,i,j,k,a,b,e,_=>by simp at e
 |(k',ov)::r,h,i,j,k,a,b,e1,e2=>by
  unfold jr at h;erw[Tv,Wz] at h
  let no:∀(m:Nat)(c:OV),r[m]?=U (k',c)->False:=λm c e=>by
   let:=VR.mp h.1 _ (Tp.mpr ⟨m,e⟩);exact this (by simp)
  cases i with
  |zero =>
   cases(show U (k',ov)=U (k,a) by simpa using e1)
   cases j with
   |zero=>rfl
   |succ j=>exact(no j b e2⁻¹).elim
  |succ i =>
   cases j with
   |zero=>cases(show U (k',ov)=U (k,b) by simpa using e2);exact(no i a e1⁻¹).elim
   |succ j=>rw[Dl h.2 i j k a b e1⁻¹ e2⁻¹]
theorem Dm:∀(e7:-(Nat×OV))(ows:-OV)(mu:-(Option OV)),↑(eB mu e7 ows)=↑mu
 |(k,_)::r,ow::ows,mu=>by rw[eB,Dm r ows,Ux]
 |[],_,_=>Y
 |_::_,[],_=>Y
theorem uH:∀(e7:-(Nat×OV))(ows:-OV)(mu:-(Option OV))(l:Nat),(∀ko∈e7,ko.1≠l)->(eB mu e7 ows)[l]?=mu[l]?
 |(k,_)::r,ow::ows,mu,l,h=>by
  rw[eB,uH r ows _ l λko hk=>h ko (Jp _ hk),T8 (h _ Cu)]
 |[],_,_,_,_=>Y
 |_::_,[],_,_,_=>Y
theorem Dn:∀{e7:-(Nat×OV)}{ows:-OV}{mu:-(Option OV)}{i:Nat}{ko:Nat×OV}{ow:OV},jr e7=θ->e7[i]?=U ko->ows[i]?=U ow->ko.1<↑mu->(eB mu e7 ows)[ko.1]?=U (U ow)
 |(k,ov)::r,ye::ows,mu,0,ko,ow,h,e1,e2,hl=>by
  cases(show U (k,ov)=U ko by simpa using e1)
  cases(show U ye=U ow by simpa using e2)
  unfold jr at h;erw[Tv,Wz] at h;rw[eB,uH r ows _ k λko hk z=>absurd z⁻¹ (VR.mp h.1 ko hk),TZ hl]
 |(k,ov)::r,ye::ows,mu,i+1,ko,ow,h,e1,e2,hl=>by
  unfold jr at h;erw[Tv,Wz] at h;rw[eB];exact Dn h.2 e1⁻¹ e2⁻¹ (by rw[Ux];calc hl)
 |[],_,_,i,_,_,_,e1,_,_=>by simp at e1
 |_::_,[],_,i,_,_,_,_,e2,_=>by simp at e2
theorem Dp{xs:-DV}{vs:-V}{r:-DV×-(Nat×OV)}{G:GD}{n:Nat}{Q:VK}{E:XK}{K:RV->-OV->Prop}(S:SR F ad δ σ H)(V:cR F ad xs vs)(hn:↑vs=n)(hp:passes δ.mu xs 0=U r)(nd:jr r.2=θ)(g:G r.1 (r.2.map (·.2)) K)
  (fin:∀res ows v F' H',K res ows->Ext F ad δ.mu H F' ad (eB δ.mu r.2 ows) H'->SR F' ad ⟨δ.sl,eB δ.mu r.2 ows⟩ σ H'->(match res with
   |.p d=>Is F' d v
   |.n ds=>∃a vs,v=.ref a/\H a=Z/\H' a=U (.lst vs)/\F' a=Z/\ae F' ds vs
   |.a j=>∃ko a,r.2[j]?=U ko/\ad[ko.1]?=U a/\v=.ref a
   |.t d ds=>oa F' H H' d ds v)->Q v H'):lg G n vs H Q E:=by
 let⟨as,al,b,c⟩:=uG S.mu hp V;let⟨_,c1,c2⟩:=c [] Y
 let pL:∀(i:Nat)(a:O),as[i]?=U a->Lv ad δ.mu a/\∃ko,r.2[i]?=U ko/\ad[ko.1]?=U a/\δ.mu[ko.1]?=U (U ko.2):=λi a e=>by
  let hi:i<↑r.2:=by rw[<-al];exact(kP.mp e).1
  let⟨m1,a',o,e1,e2,_,_⟩:=b i _ (nH hi);rw[e] at e1;cases e1;exact⟨⟨_,_,e2,m1⟩,_,nH hi,e2,m1⟩
 refine⟨hn,F,as,r.1,r.2.map (·.2),K,⟨S.sub,λa ⟨i,ov,e1,e2⟩↦S.off a (pL i a e1).1,by rw[al];rw[pj,pj],λi j a ov ow e1 e2 _ _=>?_,λi ov e=>?_,λi y e=>?_,?_,S.tab,S.nt⟩,g,λres ows hk v F' H' P=>?_⟩
 .let⟨_,ko,k1,k2,k3⟩:=pL i a e1
  let⟨_,kp,p1,p2,p3⟩:=pL j a e2;let:ko.1=kp.1:=S.inj _ _ a _ _ k2 p2 k3 p3;exact Dl nd i j ko.1 ko.2 kp.2 k1 (by rw[this];calc p1)
 .let e:=Dj e
  rw[R1] at e;let⟨ko,e1,rfl⟩:=Tq.mp e;let⟨_,a,o,e2,_,e4,e5⟩:=b i ko e1;exact⟨a,o,e2,e4,e5⟩
 .let⟨v,e1,e2⟩:=c2 i y (Dj e)
  exact⟨v,Lm e1,by simpa using e2⟩
 .show ↑(vs.map U)=↑(r.1.map U)
  rw[pj,pj,c1]
 .let ol:↑ows=↑r.2:=by rw[P.len,al]
  let kz:∀(l:Nat)(ow:OV),(eB δ.mu r.2 ows)[l]?=U (U ow)->(∃(i:Nat)(ko:Nat×OV),r.2[i]?=U ko/\ko.1=l/\ows[i]?=U ow)\/((∀ko∈r.2,ko.1≠l)/\δ.mu[l]?=U (U ow)):=λl ow e=>by
   by_cases z:∃ko∈r.2,ko.1=l
   .let⟨ko,hk,rfl⟩:=z
    let⟨i,hi⟩:=Tp.mp hk;let yf:i<↑ows:=by rw[ol];exact(kP.mp hi).1
    let:=Dn (mu:=δ.mu) nd hi (nH yf) (kP.mp (b i ko hi).1).1;rw[e] at this;cases this
    exact .inl ⟨i,ko,hi,Y,nH yf⟩
   .let z':∀ko∈r.2,ko.1≠l:=λko hk q=>z ⟨ko,hk,q⟩
    rw[uH _ _ _ _ z'] at e;exact .inr ⟨z',e⟩
  let Dq:∀(l:Nat)(ow:OV)(a:O),ad[l]?=U a->(eB δ.mu r.2 ows)[l]?=U (U ow)->Lv ad δ.mu a:=λl ow a e1 e2=>by
   rcases kz l ow e2 with⟨i,ko,hi,rfl,_⟩|⟨_,q⟩
   .exact⟨_,_,e1,(b i ko hi).1⟩
   .exact⟨_,_,e1,q⟩
  let Lp:∀a,a∈as->Lv ad δ.mu a:=λa ha=>by
   let⟨i,e⟩:=Tp.mp ha;exact(pL i a e).1
  let ex:Ext F ad δ.mu H F' ad (eB δ.mu r.2 ows) H':=by
   refine⟨P.same,λa o e=>?_,λa o e n t=>P.keep a o e (λz=>n (Lp a z)) t,λ_ _ e=>e,λa ⟨l,ow,e1,e2⟩↦.inl (Dq l ow a e1 e2),λa o e=>?_⟩
   .rcases P.new a o e with z|z
    .exact .inl z
    .exact .inr (.inl z)
   .by_cases z:a∈as
    .let⟨i,e1⟩:=Tp.mp z
     let hi:i<↑ows:=by rw[P.len];exact(kP.mp e1).1
     let⟨a',o',e2,e3,_⟩:=P.own i _ (nH hi);rw[e1] at e2;cases e2;exact⟨o',e3⟩
    .by_cases t:a∈aD.ad
     .let⟨ps,q⟩:=aD.tb P.tab t
      exact⟨_,q⟩
     .exact⟨o,P.keep a o e z t⟩
  let yg:∀a,Lv ad δ.mu a->F' a=Z:=λa l=>by
   by_cases z:a∈as
   .exact P.off a z
   .cases q:F' a with
    |none=>rfl
    |some u =>
     rcases P.new a u q with y|y
     .rw[S.off a l] at y;cases y
     .let⟨k,ov,e1,e2⟩:=l
      let⟨a',o,e3,e4,_⟩:=S.mu k ov e2;rw[e1] at e3;cases e3;rw[y] at e4;cases e4
  let sr:SR F' ad ⟨δ.sl,eB δ.mu r.2 ows⟩ σ H':=by
   refine⟨P.sub,λa ⟨l,ow,e1,e2⟩↦yg a (Dq l ow a e1 e2),by rw[S.cx];calc(Dm _ _ _).symm,λk l a ov ow e1 e2 e3 e4=>?_,λl ow e=>?_,λi y e=>?_,S.len,P.tab,P.nt⟩
   .let h3:∃w,δ.mu[k]?=U (U w):=by
     rcases kz k ov e3 with⟨i,ko,hi,rfl,_⟩|⟨_,q⟩
     .exact⟨_,(b i ko hi).1⟩
     .exact⟨_,q⟩
    let h4:∃w,δ.mu[l]?=U (U w):=by
     rcases kz l ow e4 with⟨i,ko,hi,rfl,_⟩|⟨_,q⟩
     .exact⟨_,(b i ko hi).1⟩
     .exact⟨_,q⟩
    let⟨_,h3⟩:=h3;let⟨_,h4⟩:=h4;exact S.inj k l a _ _ e1 e2 h3 h4
   .rcases kz l ow e with⟨i,ko,hi,rfl,ho⟩|⟨z,q⟩
    .let⟨_,a,o,e1,e2,_,_⟩:=b i ko hi
     let⟨a',o',e3,e4,h5⟩:=P.own i ow ho;rw[e1] at e3;cases e3;exact⟨a,o',e2,e4,h5⟩
    .let⟨a,o,e1,e2,h⟩:=S.mu l ow q
     refine⟨a,o,e1,P.keep a o e2 (λy=>?_) (λt=>?_),h.same P.same⟩
     .let⟨i,e3⟩:=Tp.mp y
      let⟨_,ko,k1,k2,k3⟩:=pL i a e3;exact z ko (Tp.mpr ⟨i,k1⟩) (S.inj _ _ a _ _ k2 e1 k3 q)
     .let⟨ps,q2⟩:=aD.tb S.tab t
      rw[e2] at q2;cases q2
      rcases h.kind with⟨_,z⟩|⟨_,z⟩|⟨_,z⟩<;>cases z
   .let⟨v,e1,h⟩:=S.sl i y e
    exact⟨v,e1,h.ext ex⟩
  calc fin res ows v F' H' hk ex sr ?_;let lj:=P.res
  cases res with
  |p d=>exact lj
  |n ds=>exact lj
  |t d ds=>exact lj
  |a j =>
   let⟨a,e1,e2⟩:=lj;let⟨_,ko,k1,k2,_⟩:=pL j a e1;calc⟨ko,a,k1,k2,e2⟩
end
section
variable{X:Cx}{fa:WA}{G:GD}{pos:y}
theorem yh{F1 F2 H1 H2:Hp}{aU:-O}{δ1:ax}{σ:St}{xs:-DV}{vs:-V}{r:-DV×-(Nat×OV)}{ows:-OV}{a:O}(S1:SR F1 aU δ1 σ H1)(V1:cR F1 aU xs vs)(hp:passes δ1.mu xs 0=U r)(n1:H1 a=Z):¬ Lv aU (eB δ1.mu r.2 ows) a:=λ⟨k,ov,e1,e2⟩↦by
 let c:∃ov,δ1.mu[k]?=U (U ov):=by
  by_cases y:∃ko∈r.2,ko.1=k
  .let⟨ko,hZ,rfl⟩:=y
   let⟨as,_,b,_⟩:=uG S1.mu hp V1;let⟨i,hi⟩:=Tp.mp hZ;exact⟨_,(b i ko hi).1⟩
  .rw[uH _ _ _ _ λko hZ q=>y ⟨ko,hZ,q⟩] at e2
   exact⟨_,e2⟩
 let⟨Lq,c⟩:=c;let⟨a',o,e3,e4,_⟩:=S1.mu k Lq c;rw[e1] at e3;cases e3;rw[n1] at e4;cases e4
theorem cR.length{F:Hp}{ad:-O}:∀{xs:-DV}{vs:-V},cR F ad xs vs->↑vs=↑xs
 |[],vs,h=>by let h:vs=[]:=h;rw[h];rfl
 |x::xs,vs,⟨v,r,e,_,h2⟩=>by rw[e,Cw,Cw,cR.length h2]
theorem uI{mu:-(Option OV)}:∀{xs:-DV}{j:Nat}{r:-DV×-(Nat×OV)},passes mu xs j=U r->↑r.1=↑xs
 |[],j,r,h=>by cases h;rfl
 |.p d::xs,j,r,h=>by
  unfold passes at h;split at h
  .rename_i r' hr;cases h;rw[Cw,Cw,uI hr]
  .cases h
 |.o k::xs,j,r,h=>by
  unfold passes at h;split at h
  .split at h
   .rename_i r' hr;cases h;rw[Cw,Cw,uI hr]
   .cases h
  .cases h
section
variable{k:Nat}{f:O}{fd:FuncData}{ps:-J}{x:J}{p:y}{e:M}{es:-M}{n:Nat}
theorem Dr{E:XK}{F F1 H H1:Hp}{ad aU:-O}{δ δ1:ax}{σ:St}{K:DV->ax->Prop}{Q:VK}{xs:-DV}{vs:-V}(kk:∀x δ',K x δ'->∀v F' az H',Ext F ad δ.mu H F' az δ'.mu H'->SR F' az δ' σ H'->dJ F' az x v->Q v H')(h1:match passes δ1.mu xs 0 with
 |some r=>(jr r.2=θ/\↑r.1=n)/\G r.1 (r.2.map (·.2)) (lh δ1 r.2 K)
 |none=>False)(E1:Ext F ad δ.mu H F1 aU δ1.mu H1)(S1:SR F1 aU δ1 σ H1)(V1:cR F1 aU xs vs):lg G n (vs++[]) H1 Q E:=by
 split at h1
 .rename_i r hp
  let⟨⟨nd,hn⟩,h1⟩:=h1;rw[W6];calc Dp S1 V1 (by rw[↑V1,<-uI hp,hn]) hp nd h1 λres ows v F2 H2 hk E2 S2 iK=>?_;unfold lh at hk
  cases res with
  |p d=>exact kk _ _ hk _ _ _ _ (E1.trans E2) S2 iK
  |n ds =>
   let⟨a,us,rfl,n1,n2,n3,n4⟩:=iK;calc kk _ _ hk _ _ _ _ (E1.trans (E2.adopt (o:=.lst us) n1 n3)) (S2.adopt n3 n2 (yh (F2:=F2) (H2:=H2) S1 V1 hp n1)) ?_;show Is _ (.lst ds) _;exact⟨a,us,Y,bE,n4.same (cy n3)⟩
  |t d ds =>
   let⟨a,b,u,us,rfl,m1,m2,n1,n2,n3,n4⟩:=iK;calc kk _ _ hk _ _ _ _ (E1.trans (E2.adopt (o:=.lst us) n1 n3)) (S2.adopt n3 n2 (yh (F2:=F2) (H2:=H2) S1 V1 hp n1)) ?_;show Is _ (.tup [d,.lst ds]) _;let sm:aw F2 (upd F2 b (.lst us)):=cy n3;exact⟨a,_,Y,sm _ _ m1,u,_,Y,m2.same sm,.ref b,_,Y,⟨b,us,Y,bE,n4.same sm⟩,Y⟩
  |a j =>
   let⟨ko,a,h1,h2,h3⟩:=iK;dsimp only at hk;rw[h1] at hk;exact kk _ _ hk _ _ _ _ (E1.trans E2) S2 ⟨a,h2,h3⟩
 .calc h1.elim
theorem Lr{E:XK}:∀σ H Q,tD (aj n G fa) σ H Q->qJ (lg G n) [] E (bU fa) σ H Q:=fun σ H Q h0_=>el7 h0_ λF ad δ K S q kk =>
 ⟨F,ad,δ,_,S,q,λxs δ1 h1 vs F1 aU H1 E1 S1 V1=>Dr kk h1 E1 S1 V1⟩
theorem Ls{E:XK}:∀σ H Q,tD (pK n G fa) σ H Q->qJ (lg G n) [] E (bU fa) σ H Q:=fun σ H Q h0_=>el7 h0_ λF ad δ K S q kk =>by
 calc⟨F,ad,δ,_,S,q,λxs δ1 h1 vs F1 aU H1 E1 S1 V1=>?_⟩;split at h1
 .rename_i r hp
  let⟨⟨nd,hn⟩,h1⟩:=h1;rw[W6];refine Dp S1 V1 (by rw[↑V1,<-uI hp,hn]) hp nd h1 λres ows v F2 H2 hk E2 S2 iK=>?_
  cases res with
  |p d=>exact hk.elim
  |n ds =>
   let⟨a,us,rfl,n1,n2,n3,n4⟩:=iK;let oi:fq F2 (.lst ds) (.lst us):=⟨us,Y,n4⟩;calc kk _ _ hk _ _ _ _ (E1.trans (E2.dw (ov:=.lst ds) n1 S2.cx)) (S2.dw n3 n2 (yh (F2:=F2) (H2:=H2) S1 V1 hp n1) oi) ⟨a,?_,Y⟩;let:↑aU=↑(eB δ1.mu r.2 ows):=S2.cx;rw[<-this,Tn (ug _),Uy];rfl
  |a j=>exact hk.elim
  |t d ds=>exact hk.elim
 .calc h1.elim
theorem Lu(Fn:bP X.prog X.w X.K X.mg X.base fP k f fd ps (lg G n))(hr:bx k X.A)(hg:Gl X x)(hm:X.mg x=U (.ref f))(hk:UK X.K (.ref f)=θ)(hb:Binds X.K fd ps [])
  (ha:JA X (e::es) (bU fa)) (dj:bw x:=by decide) (he:cN X e es:=by rfl) (dm:dI X pos es:=by rfl) :
  JE X (.Call (.Name x p) (e::es) [] pos) (tD (aj n G fa)):=(qK Fn hr hg hm hk hb .nil uh ha dj he dm).weak Lr
theorem Lw(Fn:bP X.prog X.w X.K X.mg X.base fP k f fd ps (lg G n))(hr:bx k X.A)(hg:Gl X x)(hm:X.mg x=U (.ref f))(hk:UK X.K (.ref f)=θ)(hb:Binds X.K fd ps [])
  (ha:JA X (e::es) (bU fa)) (dj:bw x:=by decide) (he:cN X e es:=by rfl) (dm:dI X pos es:=by rfl) :
  JE X (.Call (.Name x p) (e::es) [] pos) (tD (pK n G fa)):=(qK Fn hr hg hm hk hb .nil uh ha dj he dm).weak Ls
end
end
end L2
namespace PySem
open Sem (wp)
open AutoSeq1 (wpAny_loadPart')
section
variable{prog:q}{w:I}{A:l}{E:aT}{s:L}
theorem Lx{it l:O}{i:Nat}{items:Array B}{x:B}{Q:aT}(hit:s.heap.IsTupleIter it l i)(hl:s.heap.IsTuple l items)(hx:items[i]?=U x)
  (hQ:∀h',h'.IsTupleIter it l (i+1)->Ws it s.heap h'->Q x {s with heap:=h'}):G (S prog w) A (UB (.ref it)) Q E s:=by
 let⟨o,ho,hc,hd⟩:=id hit;let⟨ol,yi,_,nl,yj⟩:=hl;let nn:¬ ((TX l==UC)=θ):=Jn;calc kb (Uv (name:=R3 "__next__") hit.typeIs Vk (Vf Vk hit.typeIs Xf ?_ (W8 _)));show G _ _ (field (.ref it) 0 >>= _) _ _ s;calc kb (Uj ho hd (x:=.ref l) Y ?_);calc kb (Uj ho hd (x:=.int i 0) Y ?_);calc kb (U1 yi yj ?_);erw[VS,hx];calc kb (Xu ho hd (by simp) (qY ⟨x,Y,qY (hQ _ ⟨_,UI _ ho (WK (VI hd _)),(Obj.cls_mapFields ..).trans hc,?_⟩ (Vw ..))⟩));rw[VI hd];simp[rawInt]
theorem Ly{it l:O}{i:Nat}{items:Array B}{Q:aT}(hh:A.handled=Z)(hit:s.heap.IsTupleIter it l i)(hl:s.heap.IsTuple l items)(hx:items[i]?=Z)
  (hE:∀h' e,Heap.ExtBut it s.heap h'->(∃o,h'.get? e=U o/\o.cls=.type "StopIteration")->E (.ref e) {s with heap:=h'}):G (S prog w) A (UB (.ref it)) Q E s:=by
 let⟨o,ho,hc,hd⟩:=id hit;let⟨ol,yi,_,nl,yj⟩:=hl;let nn:¬ ((TX l==UC)=θ):=Jn;calc kb (Uv (name:=R3 "__next__") hit.typeIs Vk (Vf Vk hit.typeIs Xf ?_ (W8 _)));show G _ _ (field (.ref it) 0 >>= _) _ _ s;calc kb (Uj ho hd (x:=.ref l) Y ?_);calc kb (Uj ho hd (x:=.int i 0) Y ?_);calc kb (U1 yi yj ?_);erw[VS,hx];calc kb (Zf (kb (Xu ho hd (by simp) ?_)));calc kb ?_;calc kb (m:=firstArgMember _ _) (wpAny_of_eq (a:=UC) (by first|rfl|(erw[firstArgMember];rfl)) (Uo ?_ (by size_fits)));refine kb (wpAny_handled ?_)
 first|rw[show A.in1.handled=Z from hh]|rw[hh]
 calc kb (qY (wpAny_throw (hE _ _ (((Vw ..).extBut.push _).push _) ⟨_,R0 _ Y,Y⟩)))
theorem Lz(hh:A.handled=Z)(it l:O)(jl:l≠it)(items:Array B):Draws prog w A it [it,l] items.size (λi v=>items[i]?=U v) (λi h=>h.IsTupleIter it l i/\h.IsTuple l items) where
 live:=λ_ _ st=>let⟨o,ho,_⟩:=st.1;⟨o,ho⟩
 frame:=λ_ _ _ st hk=>⟨st.1.at λo e=>hk it (by simp) o e,st.2.at λo e=>hk l (by simp) o e⟩
 item:=λi s Q E hi st hQ=>Lx st.1 st.2 (x:=items[i]) (by simp[hi]) λh' yk uo=>hQ _ h' s.toks (by simp[hi]) ⟨yk,st.2.extBut uo.extBut jl⟩ uo
 done:=λs Q E st hE=>Ly hh st.1 st.2 (by simp) hE
end
end PySem
namespace L2
open PySem PySem.Spec PyProof.Rows
section
variable{X:Cx}{elts:-M}{x1:Nat}{tp:y}{tg:M}
def ym(K:nG)(tl:TE):TI:=fun σ H R=>tl σ H λx H1=>∃a,x=.ref a/\(((∃xs,bq K H1 a xs)/\R (BJ K a) H1)\/((∃xs,bJ K H1 a xs)/\R (BK K a) H1))
theorem LA{l:M}{tl:TE}(hl:JE X l tl):JI X tg l (ym X.K tl):=by
 calc⟨?_⟩;ext pins s σ H R I h;calc bp (hl pins s σ H _ I h) λv s1 h0_=>el5 h0_ λx H1 I1 r1 q1=>?_;let⟨a,e,q⟩:=q1;subst e;cases r1
 let fp:∀b∈[⇑s1],cq X pins H1 b:=λb hb=>by
  let e:b=⇑s1:=by simpa using hb
  subst e;exact I1.ip (ug _) (I1.aX.fresh (ug _))
 rcases q with⟨⟨xs,hq⟩,q⟩|⟨⟨xs,hq⟩,q⟩
 .let⟨ah,rv,p,hz⟩:=I1.list hq
  exact VT p.isList ⟨⇑s1,[⇑s1],_,_,H1,Y,I1.kept (t':=s1.toks) λb o e=>nF _ e,HK a _,⟨_,R0 _ Y,Y,Y⟩,fp,q⟩
 .let⟨ah,rv,p,hz⟩:=I1.tuple hq
  calc Zg (show s1.heap.IsTuple a ah.toArray from p) ⟨⇑s1,[⇑s1],_,_,H1,Y,I1.kept (t':=s1.toks) λb o e=>nF _ e,HL a _,⟨_,R0 _ Y,Y,Y⟩,fp,q⟩
end
variable[aD]
noncomputable def cE(lo:Int)(n:Nat):-D:=(TY n).map λi:Nat=>D.int (lo+i)
noncomputable def b6:-D->-D->-D
 |a::r,b::s=>.tup [a,b]::b6 r s
 |_,_=>[]
def oh(x:DV)(δ:ax)(K:mH->Prop):Prop:=match x with
 |.p (.lst ds)=>K ⟨ds,λ_=>True⟩
 |.p (.tup ds)=>K ⟨ds,λ_=>True⟩
 |.o k=>match δ.mu[k]? with
  |some (some (.lst ds))=>K ⟨ds,fun δ'=>δ'.mu[k]?=U (U (.lst ds))⟩
  |_=>False
 |_=>False
def cF(f:WE):WI:=fun δ K=>f δ λx δ1=>oh x δ1 λit=>K it δ1
def j8(fa:WA):WI:=fun δ K=>fa δ λxs δ1=>match xs with
 |[.p (.int j)]=>(-(2 ^ 62)<=j/\j<2 ^ 62)/\K ⟨cE 0 j.toNat,λ_=>True⟩ δ1
 |_=>False
def yn(fa:WA):WI:=fun δ K=>fa δ λxs δ1=>match xs with
 |[.p (.int i),.p (.int j)]=>(-(2 ^ 62)<=i/\i<2 ^ 62 /\ -(2 ^ 62)<=j/\j<2 ^ 62)/\K ⟨cE i (j-i).toNat,λ_=>True⟩ δ1
 |_=>False
def yo(x:DV)(δ:ax)(K:mH->Prop):Prop:=match x with
 |.p (.lst ds)=>K ⟨ds,λ_=>True⟩
 |.o k=>match δ.mu[k]? with
  |some (some (.lst ds))=>K ⟨ds,fun δ'=>δ'.mu[k]?=U (U (.lst ds))⟩
  |_=>False
 |_=>False
theorem j9{lo:Int}{n i:Nat}{d:D}(h:(cE lo n)[i]?=U d):i<n/\d=.int (lo+i):=by
 unfold cE at h;rw[R1] at h;let⟨j,e,rfl⟩:=Tq.mp h;let hj:=(kP.mp e).1;rw[UE] at hj;rw[U5 hj] at e;cases e
 calc⟨hj,Y⟩
theorem ju(lo:Int)(n:Nat):↑(cE lo n)=n:=by unfold cE;rw[pj,UE]
theorem Ds:∀{as bs:-D}{i:Nat}{d:D},(b6 as bs)[i]?=U d->∃a b,as[i]?=U a/\bs[i]?=U b/\d=.tup [a,b]
 |[],_,i,d,h=>by simp[b6] at h
 |_::_,[],i,d,h=>by simp[b6] at h
 |a::r,b::s,0,d,h=>by
  cases(show U (D.tup [a,b])=U d by simpa[b6] using h)
  exact⟨a,b,Y,Y,Y⟩
 |a::r,b::s,i+1,d,h=>by
  let⟨x,y,h1,h2,h3⟩:=Ds (as:=r) (bs:=s) (i:=i) (d:=d) (by simpa[b6] using h);calc⟨x,y,by simpa using h1,by simpa using h2,h3⟩
theorem uJ:∀(as bs:-D),↑(b6 as bs)=min ↑as bs.length
 |[],_=>by simp[b6]
 |_::_,[]=>by simp[b6]
 |a::r,b::s=>by rw[b6,Cw,Cw,Cw,uJ r s];symm
section
variable{X:Cx}{tg l a b:M}{f:WE}{fa:WA}{F H:Hp}{ad:-O}{δ:ax}{σ:St}
theorem JI.weak{iter:M}{w w':TI}(h:JI X tg iter w)(k:∀σ H R,w' σ H R->w σ H R):JI X tg iter w':=⟨λpins s σ H R I q=>h pins s σ H R I (k σ H R q)⟩
theorem pM{ds:-D}{vs:-V}(h:ae F ds vs){i:Nat}{d:D}(e:ds[i]?=U d):∃v,vs[i]?=U v/\Is F d v:=by
 let hl:=↑h;let hi:i<↑vs:=by rw[hl];exact(kP.mp e).1
 let⟨d',e1,h1⟩:=h.get (nH hi);rw[e] at e1;cases e1;calc⟨_,nH hi,h1⟩
theorem Dt{x:DV}{v:V}{K:mH->Prop}(S:SR F ad δ σ H)(V1:dJ F ad x v)(h:yo x δ K):∃a it,v=.ref a/\K it/\(∃vs,H a=U (.lst vs)) ∧
  ∀(F':Hp)(az:-O)(δ':ax)(σ':St)(H':Hp),aw F F'->(∀(k:Nat)(a:O),ad[k]?=U a->az[k]?=U a)->SR F' az δ' σ' H'->it.br δ'->∃vs,H' a=U (.lst vs)/\ae F' it.items vs:=by
 unfold yo at h;split at h
 .rename_i ds
  let V2:Is F (.lst ds) v:=V1;erw[Is] at V2;let⟨a,vs,rfl,h1,h2⟩:=V2;exact⟨a,_,Y,h,⟨vs,S.sub _ _ h1⟩,λF' az δ' σ' H' s _ S' _=>⟨vs,S'.sub _ _ (s _ _ h1),h2.same s⟩⟩
 .rename_i k
  split at h
  .rename_i ds e
   let⟨a,e1,rfl⟩:=V1;let⟨a',o,e2,e3,vs,rfl,h4⟩:=S.mu k _ e;rw[e1] at e2;cases e2;calc⟨a,_,Y,h,⟨vs,e3⟩,λF' az δ' σ' H' _ pre S' ck=>?_⟩;let⟨R_,o,e5,e6,ws,rfl,h7⟩:=S'.mu k _ ck;rw[pre k a e1] at e5;cases e5;exact⟨ws,e6,h7⟩
  .exact h.elim
 .calc h.elim
theorem Du{x:DV}{v:V}{K:mH->Prop}(S:SR F ad δ σ H)(V1:dJ F ad x v)(h:oh x δ K):∃a it,v=.ref a/\K it ∧
  (((∃vs,H a=U (.lst vs))/\∀(F':Hp)(az:-O)(δ':ax)(σ':St)(H':Hp),aw F F'->(∀(k:Nat)(a:O),ad[k]?=U a->az[k]?=U a)->SR F' az δ' σ' H'->it.br δ'->∃vs,H' a=U (.lst vs)/\ae F' it.items vs) ∨
  ((∃vs,H a=U (.tup vs))/\∀(F':Hp)(az:-O)(δ':ax)(σ':St)(H':Hp),aw F F'->(∀(k:Nat)(a:O),ad[k]?=U a->az[k]?=U a)->SR F' az δ' σ' H'->it.br δ'->∃vs,H' a=U (.tup vs)/\ae F' it.items vs)):=by
 unfold oh at h;split at h
 .rename_i ds
  let⟨a,it,e,k,r⟩:=Dt (x:=.p (.lst ds)) S V1 h;exact⟨a,it,e,k,.inl r⟩
 .rename_i ds
  let V2:Is F (.tup ds) v:=V1;erw[Is] at V2;let⟨a,vs,rfl,h1,h2⟩:=V2;exact⟨a,_,Y,h,.inr ⟨⟨vs,S.sub _ _ h1⟩,λF' az δ' σ' H' s _ S' _=>⟨vs,S'.sub _ _ (s _ _ h1),h2.same s⟩⟩⟩
 .rename_i k
  let⟨a,it,e,k,r⟩:=Dt (x:=.o k) S V1 h;exact⟨a,it,e,k,.inl r⟩
 .calc h.elim
theorem LB(hl:JE X l (tD f)):JI X tg l (ij (cF f)):=(LA hl).weak fun σ H R h0_=>el7 h0_ λF ad δ K S q k =>⟨F,ad,δ,_,S,q,λx δ1 h1 v F1 aU H1 E1 S1 V1=>by
 let⟨a,it,rfl,hk,r⟩:=Du S1 V1 h1;calc⟨a,Y,?_⟩;rcases r with⟨⟨vs,e⟩,r⟩|⟨⟨vs,e⟩,r⟩
 .refine .inl ⟨⟨vs,bq.of e⟩,k _ _ hk _ _ _ _ E1 S1 λF' az δ' σ' H' s pre S' ck=>?_⟩
  let⟨ws,e1,e2⟩:=r F' az δ' σ' H' s pre S' ck;calc⟨⟨ws,bq.of e1,by rw[↑e2];calc ug _⟩,λi d ed=>?_⟩;let⟨w,e3,e4⟩:=pM e2 ed;calc⟨⟨ws,w,bq.of e1,e3⟩,λy nO ⟨eh,hy⟩=>?_⟩;subst eh;calc⟨λ_ _ e=>e,?_⟩;let:=hy ws (bq.of e1);rw[e3] at this;cases this;rw[Nw.refl S'.sub];exact e4
 .refine .inr ⟨⟨vs,bJ.of e⟩,k _ _ hk _ _ _ _ E1 S1 λF' az δ' σ' H' s pre S' ck=>?_⟩
  let⟨ws,e1,e2⟩:=r F' az δ' σ' H' s pre S' ck;calc⟨⟨ws,bJ.of e1,by rw[↑e2];calc ug _⟩,λi d ed=>?_⟩;let⟨w,e3,e4⟩:=pM e2 ed;calc⟨⟨ws,w,bJ.of e1,e3⟩,λy nO ⟨eh,hy⟩=>?_⟩;subst eh;calc⟨λ_ _ e=>e,?_⟩;let:=hy ws (bJ.of e1);rw[e3] at this;cases this
  rw[Nw.refl S'.sub];calc e4⟩
theorem LC{F H:Hp}{T:O}{d e:D}{x y:V}(s:aw F H)(hT:H T=Z)(h1:Is F d x)(h2:Is F e y):Is (Nw F H (upd H T (.tup [x,y]))) (.tup [d,e]) (.ref T):=by
 rw[Nw.upd s hT]
 let hF:F T=Z:=by
  cases q:F T with
  |none=>rfl
  |some u=>rw[s T u q] at hT;cases hT
 let sm:aw F (upd F T (.tup [x,y])):=cy hF;erw[Is];calc⟨T,_,Y,bE,.cons (h1.same sm) (.cons (h2.same sm) .nil)⟩
theorem Dv{F1:Hp}{aU:-O}{lo:Int}{n:Nat}:n_ F1 aU ⟨cE lo n,λ_=>True⟩ (qE lo n):=λF' az δ' σ' H' s pre S' _=>by
 calc⟨by show n<=↑(cE lo n);rw[ju];calc ug _,λi d ed=>?_⟩;let⟨hi,rfl⟩:=j9 ed;calc⟨hi,λx nO ⟨eh,ex⟩=>?_⟩;subst eh ex;calc⟨λ_ _ e=>e,Y⟩
theorem LD{p pos:y}(hg:Gl X "range")(hm:X.mg "range" = Z)(ha:JA X [a] (bU fa))(hs:starEach [a] X.env=[(ι,eval a X.env)]:=by rfl):JI X tg (.Call (.Name "range" p) [a] [] pos) (ij (j8 fa)) :=
 (HQ hg hm ha hs).weak fun σ H R h0_=>el7 h0_ λF ad δ K S q k =>⟨F,ad,δ,_,S,q,λxs δ1 h1 vs F1 aU H1 E1 S1 V1=>by
  split at h1
  .rename_i j
   let⟨v,r,e,V1,V2⟩:=V1;let V2:r=[]:=V2;let V1:v=.int j:=V1;subst V2 V1 e;exact⟨j,Y,h1.1.1,h1.1.2,k _ _ h1.2 _ _ _ _ E1 S1 Dv⟩
  .calc h1.elim⟩
theorem LF{p pos:y}(hg:Gl X "range")(hm:X.mg "range" = Z)(ha:JA X [a,b] (bU fa))(hs:starEach [a,b] X.env=[(ι,eval a X.env),(ι,eval b X.env)]:=by rfl)(dW:starEach [b] X.env=[(ι,eval b X.env)]:=by rfl):
  JI X tg (.Call (.Name "range" p) [a,b] [] pos) (ij (yn fa)) :=
 (HR hg hm ha hs dW).weak fun σ H R h0_=>el7 h0_ λF ad δ K S q k =>⟨F,ad,δ,_,S,q,λxs δ1 h1 vs F1 aU H1 E1 S1 V1=>by
  split at h1
  .rename_i i j
   let⟨v,r,e,V1,w,r2,e2,V2,V3⟩:=V1;let V3:r2=[]:=V3;let V1:v=.int i:=V1;let V2:w=.int j:=V2;subst V3 V1 V2 e2 e;exact⟨i,j,Y,h1.1,k _ _ h1.2 _ _ _ _ E1 S1 Dv⟩
  .calc h1.elim⟩
end
end L2
namespace L2
open PySem PySem.Spec PyProof.Rows
mutual
noncomputable def ay:D->D->Bool
 |.non,.non=>θ
 |.bl a,.bl b=>a==b
 |.bl a,.int b=>(if a then 1 else 0)==b
 |.int a,.bl b=>a==(if b then 1 else 0)
 |.int a,.int b=>a==b
 |.str a,.str b=>a==b
 |.tup a,.tup b=>cG a b
 |.lst a,.lst b=>cG a b
 |_,_=>ι
noncomputable def cG:-D->-D->Bool
 |[],[]=>θ
 |a::r,b::s=>ay a b&&cG r s
 |_,_=>ι
end
mutual
theorem fu:∀d:D,ay d d=θ
 |.non=>by simp[ay]
 |.bl a=>by simp[ay]
 |.int a=>by simp[ay]
 |.str a=>by simp[ay]
 |.tup a=>by erw[ay];exact yp a
 |.lst a=>by erw[ay];calc yp a
theorem yp:∀ds:-D,cG ds ds=θ
 |[]=>by simp[cG]
 |d::r=>by erw[cG,fu d,yp r,Y5]
end
mutual
theorem Is.inj {H:Hp}:∀{d e:D}{v:V},Is H d v->Is H e v->d=e
 |.non,e,v,h,q=>by cases e<;>erw[Is] at h q<;>first|rfl|(subst h;first|(let⟨_,_,z,_⟩:=q;cases z;done)|(cases q;done)|(cases q;rfl))
 |.bl a,e,v,h,q=>by cases e<;>erw[Is] at h q<;>(subst h;first|(let⟨_,_,z,_⟩:=q;cases z;done)|(cases q;done)|(cases q;rfl))
 |.int a,e,v,h,q=>by cases e<;>erw[Is] at h q<;>(subst h;first|(let⟨_,_,z,_⟩:=q;cases z;done)|(cases q;done)|(cases q;rfl))
 |.str a,e,v,h,q=>by cases e<;>erw[Is] at h q<;>(subst h;first|(let⟨_,_,z,_⟩:=q;cases z;done)|(cases q;done)|(cases q;rfl))
 |.tup a,e,v,h,q=>by
  erw[Is] at h;let⟨p,vs,rfl,h1,h2⟩:=h
  cases e with
  |tup b =>
   erw[Is] at q;let⟨p',ws,z,q1,q2⟩:=q;cases z
   rw[h1] at q1;cases q1;rw[ae.inj h2 q2]
  |lst b =>
   erw[Is] at q;let⟨p',ws,z,q1,q2⟩:=q;cases z
   rw[h1] at q1;cases q1
  |non=>erw[Is] at q;cases q
  |bl _=>erw[Is] at q;cases q
  |int _=>erw[Is] at q;cases q
  |str _=>erw[Is] at q;cases q
 |.lst a,e,v,h,q=>by
  erw[Is] at h;let⟨p,vs,rfl,h1,h2⟩:=h
  cases e with
  |lst b =>
   erw[Is] at q;let⟨p',ws,z,q1,q2⟩:=q;cases z
   rw[h1] at q1;cases q1;rw[ae.inj h2 q2]
  |tup b =>
   erw[Is] at q;let⟨p',ws,z,q1,q2⟩:=q;cases z
   rw[h1] at q1;cases q1
  |non=>erw[Is] at q;cases q
  |bl _=>erw[Is] at q;cases q
  |int _=>erw[Is] at q;cases q
  |str _=>erw[Is] at q;cases q
theorem ae.inj {H:Hp}:∀{ds es:-D}{vs:-V},ae H ds vs->ae H es vs->ds=es
 |[],es,vs,h,q=>by
  erw[ae] at h;subst h
  cases es with
  |nil=>rfl
  |cons _ _=>erw[ae] at q;let⟨_,_,z,_⟩:=q;cases z
 |d::ds,es,vs,h,q=>by
  erw[ae] at h;let⟨v,r,rfl,h1,h2⟩:=h
  cases es with
  |nil=>erw[ae] at q;cases q
  |cons e es =>
   erw[ae] at q;let⟨v',r',z,q1,q2⟩:=q;cases z
   rw[Is.inj h1 q1,ae.inj h2 q2]
end
theorem rW:∀{ds es:-D},↑ds≠↑es->cG ds es=ι
 |[],[],h=>absurd Y h
 |[],_::_,_=>by simp[cG]
 |_::_,[],_=>by simp[cG]
 |d::r,e::s,h=>by erw[cG];rw[rW (λz=>h (by rw[Cw,Cw,z])),Wv]
noncomputable def oj(ds es:-D)(j:Nat):Bool:=match ds[j]?,es[j]? with
 |some a,some b=>ay a b
 |_,_=>θ
theorem rX:∀{ds es:-D},↑ds=↑es->(TY ↑ds).all (oj ds es)=cG ds es
 |[],[],_=>by simp[cG]
 |[],_::_,h=>by simp at h
 |_::_,[],h=>by simp at h
 |d::r,e::s,h=>by
  let ih:=rX (ds:=r) (es:=s) h⁻¹;rw[Cw,List.range_succ_eq_map,XM,q1x];erw[cG];rw[<-ih];rfl
section
variable{X:Cx}{pins:av}{σ:St}{H:Hp}{s:L}
theorem uK{vs:-V}{ah:-B}(r:Vals vs ah){j:Nat}(h:j<ah.toArray.size):∃v,vs[j]?=U v/\RelV v ah.toArray[j]:=by
 let hj:j<↑ah:=by simpa using h
 let hv:j<↑vs:=by rw[↑r];exact hj
 let⟨u,e,ru⟩:=r.get (nH hv)
 let:ah.toArray[j]=u:=by
  let:=(kP.mp e).2;simpa using this
 rw[this];calc⟨_,nH hv,ru⟩
theorem cH(I:Inv X pins σ H s){a:O}{vs:-V}(h:H a=U (.lst vs)):∃ah:-B,Vals vs ah/\s.heap.IsList a ah.toArray:=by
 let⟨ah,r,p,_⟩:=I.list (bq.of h);calc⟨ah,r,p.isList⟩
theorem cI(I:Inv X pins σ H s){a:O}{vs:-V}(h:H a=U (.tup vs)):∃ah:-B,Vals vs ah/\s.heap.IsTuple a ah.toArray:=by
 let⟨ah,r,p,_⟩:=I.tuple (bJ.of h);calc⟨ah,r,p⟩
theorem in1_units(A:l):A.in1.units=A.units+1:=rfl
theorem yq(I:Inv X pins σ H s):∀(n:Nat){A:l}{d e:D}{v u:V}{x y:B},dep d<=n->A.units+n<cLine->Is H d v->Is H e u->RelV v x->RelV u y->WU A s x y (ay d e)/\q0B A s x y (ay d e):=by
 ext n
 induction n with
 |zero =>
  ext A d e v u x y hd hu hv hw rv ru;let nz:A.units<cLine:=by symm
  cases d with
  |tup ds=>simp[dep] at hd
  |lst ds=>simp[dep] at hd
  |non =>
   cases(show v=.non from hv);cases rv
   cases e with
   |non=>cases(show u=.non from hw);cases ru;erw[ay];exact⟨W7 _,SeqAt.RcAt.none_none⟩
   |bl b=>cases(show u=.bl b from hw);cases ru;erw[ay];exact⟨YB _,SeqAt.RcAt.none_bool _⟩
   |int b=>cases(show u=.int b from hw);let⟨t,rfl⟩:=ru;erw[ay];exact⟨YM _ _,SeqAt.RcAt.none_int _ _⟩
   |str b=>cases(show u=.str b from hw);let⟨t,rfl⟩:=ru;erw[ay];exact⟨YN _ _,SeqAt.RcAt.none_str _ _⟩
   |tup es=>erw[Is] at hw;let⟨a,vs,rfl,h1,_⟩:=hw;cases ru;let⟨_,_,p⟩:=cI I h1;erw[ay];exact⟨SeqAt.EqAt.none_tuple p nz,SeqAt.RcAt.none_tuple p nz⟩
   |lst es=>erw[Is] at hw;let⟨a,vs,rfl,h1,_⟩:=hw;cases ru;let⟨_,_,p⟩:=cH I h1;erw[ay];exact⟨SeqAt.EqAt.none_list p nz,SeqAt.RcAt.none_list p nz⟩
  |bl b0 =>
   cases(show v=.bl b0 from hv);cases rv
   cases e with
   |non=>cases(show u=.non from hw);cases ru;erw[ay];exact⟨YC _,SeqAt.RcAt.bool_none _⟩
   |bl b=>cases(show u=.bl b from hw);cases ru;erw[ay];exact⟨YD _ _,SeqAt.RcAt.bool_bool _ _⟩
   |int b=>cases(show u=.int b from hw);let⟨t,rfl⟩:=ru;erw[ay];exact⟨YO _ _ _,SeqAt.RcAt.bool_int _ _ _⟩
   |str b=>cases(show u=.str b from hw);let⟨t,rfl⟩:=ru;erw[ay];exact⟨YQ _ _ _,SeqAt.RcAt.bool_str _ _ _⟩
   |tup es=>erw[Is] at hw;let⟨a,vs,rfl,h1,_⟩:=hw;cases ru;let⟨_,_,p⟩:=cI I h1;erw[ay];exact⟨SeqAt.EqAt.bool_tuple _ p nz,SeqAt.RcAt.bool_tuple _ p nz⟩
   |lst es=>erw[Is] at hw;let⟨a,vs,rfl,h1,_⟩:=hw;cases ru;let⟨_,_,p⟩:=cH I h1;erw[ay];exact⟨SeqAt.EqAt.bool_list _ p nz,SeqAt.RcAt.bool_list _ p nz⟩
  |int b0 =>
   cases(show v=.int b0 from hv);let⟨t0,rfl⟩:=rv
   cases e with
   |non=>cases(show u=.non from hw);cases ru;erw[ay];exact⟨YR _ _,SeqAt.RcAt.int_none _ _⟩
   |bl b=>cases(show u=.bl b from hw);cases ru;erw[ay];exact⟨YS _ _ _,SeqAt.RcAt.int_bool _ _ _⟩
   |int b=>cases(show u=.int b from hw);let⟨t,rfl⟩:=ru;erw[ay];exact⟨Xn _ _ _ _,SeqAt.RcAt.int_int _ _ _ _⟩
   |str b=>cases(show u=.str b from hw);let⟨t,rfl⟩:=ru;erw[ay];exact⟨Xj _ _ _ _,SeqAt.RcAt.int_str _ _ _ _⟩
   |tup es=>erw[Is] at hw;let⟨a,vs,rfl,h1,_⟩:=hw;cases ru;let⟨_,_,p⟩:=cI I h1;erw[ay];exact⟨SeqAt.EqAt.int_tuple _ _ p nz,SeqAt.RcAt.int_tuple _ _ p nz⟩
   |lst es=>erw[Is] at hw;let⟨a,vs,rfl,h1,_⟩:=hw;cases ru;let⟨_,_,p⟩:=cH I h1;erw[ay];exact⟨SeqAt.EqAt.int_list _ _ p nz,SeqAt.RcAt.int_list _ _ p nz⟩
  |str b0 =>
   cases(show v=.str b0 from hv);let⟨t0,rfl⟩:=rv
   cases e with
   |non=>cases(show u=.non from hw);cases ru;erw[ay];exact⟨YT _ _,SeqAt.RcAt.str_none _ _⟩
   |bl b=>cases(show u=.bl b from hw);cases ru;erw[ay];exact⟨YU _ _ _,SeqAt.RcAt.str_bool _ _ _⟩
   |int b=>cases(show u=.int b from hw);let⟨t,rfl⟩:=ru;erw[ay];exact⟨Xk _ _ _ _,SeqAt.RcAt.str_int _ _ _ _⟩
   |str b=>cases(show u=.str b from hw);let⟨t,rfl⟩:=ru;erw[ay];exact⟨Ze _ _ _ _,SeqAt.RcAt.str_str _ _ _ _⟩
   |tup es=>erw[Is] at hw;let⟨a,vs,rfl,h1,_⟩:=hw;cases ru;let⟨_,_,p⟩:=cI I h1;erw[ay];exact⟨SeqAt.EqAt.str_tuple _ _ p nz,SeqAt.RcAt.str_tuple _ _ p nz⟩
   |lst es=>erw[Is] at hw;let⟨a,vs,rfl,h1,_⟩:=hw;cases ru;let⟨_,_,p⟩:=cH I h1;erw[ay];exact⟨SeqAt.EqAt.str_list _ _ p nz,SeqAt.RcAt.str_list _ _ p nz⟩
 |succ n ih =>
  ext A d e v u x y hd hu hv hw rv ru;let nz:A.units<cLine:=by symm
  let step:∀{ds es:-D}{vs us:-V}{ah bo:-B}(r1:Vals vs ah)(r2:Vals us bo),aZ ds<=n->ae H ds vs->ae H es us →
    ∀(j:Nat)(h1:j<ah.toArray.size)(h2:j<bo.toArray.size),WU A.in1 s ah.toArray[j] bo.toArray[j] (oj ds es j):=λ{ds es vs us ah bo} r1 r2 hl i1 i2 j h1 h2=>by
   let⟨v1,e1,q1⟩:=uK r1 h1;let⟨v2,e2,q2⟩:=uK r2 h2;let⟨d1,f1,g1⟩:=i1.get e1;let⟨d2,f2,g2⟩:=i2.get e2;unfold oj;rw[f1,f2];exact(ih (T5 (xS f1) hl) (by rw[in1_units];symm) g1 g2 q1 q2).1
  cases d with
  |tup ds =>
   let hl:aZ ds<=n:=by erw[dep] at hd;symm
   let yr:=hv;erw[Is] at hv;let⟨a,vs,rfl,h1,i1⟩:=hv;cases rv
   let⟨ah,r1,p1⟩:=cI I h1
   cases e with
   |tup es =>
    let yt:=hw;erw[Is] at hw;let⟨b,us,rfl,h2,i2⟩:=hw;cases ru
    let⟨bo,r2,p2⟩:=cI I h2
    let rc:q0B A s (.ref a) (.ref b) (ay (.tup ds) (.tup es)):=by
     let:=SeqAt.RcAt.tuples p1 p2 nz (step r1 r2 hl i1 i2);let l1:ah.toArray.size=↑ds:=by rw[xu,<-↑r1,↑i1]
     let l2:bo.toArray.size=↑es:=by rw[xu,<-↑r2,↑i2]
     rw[l1,l2] at this
     let eb:((TY (min ↑ds ↑es)).all (oj ds es)&&↑ds==↑es)=ay (.tup ds) (.tup es):=by
      erw[ay]
      by_cases c:↑ds=↑es
      .rw[<-c,ZE,rX c];simp
      .rw[rW c];simp[c]
     rw[eb] at this;exact this
    refine⟨?_,rc⟩
    by_cases c:a=b
    .subst c
     let:=Is.inj yr yt;rw[this,fu];exact W7 _
    .exact Zh c rc
   |lst es =>
    erw[Is] at hw;let⟨b,us,rfl,h2,i2⟩:=hw;cases ru
    let⟨bo,r2,p2⟩:=cH I h2;erw[ay];exact⟨SeqAt.EqAt.tuple_list p1 p2 nz,SeqAt.RcAt.tuple_list p1 p2 nz⟩
   |non=>cases(show u=.non from hw);cases ru;erw[ay];exact⟨SeqAt.EqAt.tuple_none p1 nz,SeqAt.RcAt.tuple_none p1 nz⟩
   |bl b=>cases(show u=.bl b from hw);cases ru;erw[ay];exact⟨SeqAt.EqAt.tuple_bool _ p1 nz,SeqAt.RcAt.tuple_bool _ p1 nz⟩
   |int b=>cases(show u=.int b from hw);let⟨t,rfl⟩:=ru;erw[ay];exact⟨SeqAt.EqAt.tuple_int _ _ p1 nz,SeqAt.RcAt.tuple_int _ _ p1 nz⟩
   |str b=>cases(show u=.str b from hw);let⟨t,rfl⟩:=ru;erw[ay];exact⟨SeqAt.EqAt.tuple_str _ _ p1 nz,SeqAt.RcAt.tuple_str _ _ p1 nz⟩
  |lst ds =>
   let hl:aZ ds<=n:=by erw[dep] at hd;symm
   let yr:=hv;erw[Is] at hv;let⟨a,vs,rfl,h1,i1⟩:=hv;cases rv
   let⟨ah,r1,p1⟩:=cH I h1
   cases e with
   |lst es =>
    let yt:=hw;erw[Is] at hw;let⟨b,us,rfl,h2,i2⟩:=hw;cases ru
    let⟨bo,r2,p2⟩:=cH I h2;let l1:ah.toArray.size=↑ds:=by rw[xu,<-↑r1,↑i1]
    let l2:bo.toArray.size=↑es:=by rw[xu,<-↑r2,↑i2]
    let rc:q0B A s (.ref a) (.ref b) (ay (.lst ds) (.lst es)):=by
     by_cases c:↑ds=↑es
     .let:=SeqAt.RcAt.lists p1 p2 (by rw[l1,l2];calc c) nz (step r1 r2 hl i1 i2)
      rw[l1,rX c] at this;erw[ay];exact this
     .erw[ay];rw[rW c]
      exact SeqAt.RcAt.lists_lengths p1 p2 (by rw[l1,l2];simpa using c) nz
    refine⟨?_,rc⟩
    by_cases c:a=b
    .subst c
     let:=Is.inj yr yt;rw[this,fu];exact W7 _
    .exact Zh c rc
   |tup es =>
    erw[Is] at hw;let⟨b,us,rfl,h2,i2⟩:=hw;cases ru
    let⟨bo,r2,p2⟩:=cI I h2;erw[ay];exact⟨SeqAt.EqAt.list_tuple p1 p2 nz,SeqAt.RcAt.list_tuple p1 p2 nz⟩
   |non=>cases(show u=.non from hw);cases ru;erw[ay];exact⟨SeqAt.EqAt.list_none p1 nz,SeqAt.RcAt.list_none p1 nz⟩
   |bl b=>cases(show u=.bl b from hw);cases ru;erw[ay];exact⟨SeqAt.EqAt.list_bool _ p1 nz,SeqAt.RcAt.list_bool _ p1 nz⟩
   |int b=>cases(show u=.int b from hw);let⟨t,rfl⟩:=ru;erw[ay];exact⟨SeqAt.EqAt.list_int _ _ p1 nz,SeqAt.RcAt.list_int _ _ p1 nz⟩
   |str b=>cases(show u=.str b from hw);let⟨t,rfl⟩:=ru;erw[ay];exact⟨SeqAt.EqAt.list_str _ _ p1 nz,SeqAt.RcAt.list_str _ _ p1 nz⟩
  |non=>exact ih (by simp[dep]) ⋯ hv hw rv ru
  |bl b0=>exact ih (by simp[dep]) ⋯ hv hw rv ru
  |int b0=>exact ih (by simp[dep]) ⋯ hv hw rv ru
  |str b0=>calc ih (by simp[dep]) ⋯ hv hw rv ru
theorem LG(I:Inv X pins σ H s){A:l}{d e:D}{v u:V}{x y:B}(hd:dep d<=60)(hu:A.units+61<cLine)(hv:Is H d v)(hw:Is H e u)(rv:RelV v x)(ru:RelV u y):SeqAt.RcNeAt A s x y (!ay d e):=by
 let nz:A.units<cLine:=by symm
 let step:∀{ds es:-D}{vs us:-V}{ah bo:-B}(r1:Vals vs ah)(r2:Vals us bo),aZ ds<=59->ae H ds vs->ae H es us →
   ∀(j:Nat)(h1:j<ah.toArray.size)(h2:j<bo.toArray.size),WU A.in1 s ah.toArray[j] bo.toArray[j] (oj ds es j):=λ{ds es vs us ah bo} r1 r2 hl i1 i2 j h1 h2=>by
  let⟨v1,e1,q1⟩:=uK r1 h1;let⟨v2,e2,q2⟩:=uK r2 h2;let⟨d1,f1,g1⟩:=i1.get e1;let⟨d2,f2,g2⟩:=i2.get e2;unfold oj;rw[f1,f2];exact(yq I 59 (T5 (xS f1) hl) (by rw[in1_units];symm) g1 g2 q1 q2).1
 cases d with
 |tup ds =>
  let hl:aZ ds<=59:=by erw[dep] at hd;symm
  erw[Is] at hv;let⟨a,vs,rfl,h1,i1⟩:=hv;cases rv
  let⟨ah,r1,p1⟩:=cI I h1
  cases e with
  |tup es =>
   erw[Is] at hw;let⟨b,us,rfl,h2,i2⟩:=hw;cases ru
   let⟨bo,r2,p2⟩:=cI I h2;let:=SeqAt.RcNeAt.tuples p1 p2 nz (step r1 r2 hl i1 i2);let l1:ah.toArray.size=↑ds:=by rw[xu,<-↑r1,↑i1]
   let l2:bo.toArray.size=↑es:=by rw[xu,<-↑r2,↑i2]
   rw[l1,l2] at this
   let eb:((TY (min ↑ds ↑es)).all (oj ds es)&&↑ds==↑es)=ay (.tup ds) (.tup es):=by
    erw[ay]
    by_cases c:↑ds=↑es
    .rw[<-c,ZE,rX c];simp
    .rw[rW c];simp[c]
   rw[eb] at this;exact this
  |lst es=>erw[Is] at hw;let⟨b,us,rfl,h2,i2⟩:=hw;cases ru;let⟨bo,r2,p2⟩:=cH I h2;erw[ay];exact SeqAt.RcNeAt.tuple_list p1 p2 nz
  |non=>cases(show u=.non from hw);cases ru;erw[ay];exact SeqAt.RcNeAt.tuple_none p1 nz
  |bl b=>cases(show u=.bl b from hw);cases ru;erw[ay];exact SeqAt.RcNeAt.tuple_bool _ p1 nz
  |int b=>cases(show u=.int b from hw);let⟨t,rfl⟩:=ru;erw[ay];exact SeqAt.RcNeAt.tuple_int _ _ p1 nz
  |str b=>cases(show u=.str b from hw);let⟨t,rfl⟩:=ru;erw[ay];exact SeqAt.RcNeAt.tuple_str _ _ p1 nz
 |lst ds =>
  let hl:aZ ds<=59:=by erw[dep] at hd;symm
  erw[Is] at hv;let⟨a,vs,rfl,h1,i1⟩:=hv;cases rv
  let⟨ah,r1,p1⟩:=cH I h1
  cases e with
  |lst es =>
   erw[Is] at hw;let⟨b,us,rfl,h2,i2⟩:=hw;cases ru
   let⟨bo,r2,p2⟩:=cH I h2;let l1:ah.toArray.size=↑ds:=by rw[xu,<-↑r1,↑i1]
   let l2:bo.toArray.size=↑es:=by rw[xu,<-↑r2,↑i2]
   by_cases c:↑ds=↑es
   .let:=SeqAt.RcNeAt.lists p1 p2 (by rw[l1,l2];calc c) nz (step r1 r2 hl i1 i2)
    rw[l1,rX c] at this;erw[ay];exact this
   .erw[ay];rw[rW c]
    exact SeqAt.RcNeAt.lists_lengths p1 p2 (by rw[l1,l2];simpa using c) nz
  |tup es=>erw[Is] at hw;let⟨b,us,rfl,h2,i2⟩:=hw;cases ru;let⟨bo,r2,p2⟩:=cI I h2;erw[ay];exact SeqAt.RcNeAt.list_tuple p1 p2 nz
  |non=>cases(show u=.non from hw);cases ru;erw[ay];exact SeqAt.RcNeAt.list_none p1 nz
  |bl b=>cases(show u=.bl b from hw);cases ru;erw[ay];exact SeqAt.RcNeAt.list_bool _ p1 nz
  |int b=>cases(show u=.int b from hw);let⟨t,rfl⟩:=ru;erw[ay];exact SeqAt.RcNeAt.list_int _ _ p1 nz
  |str b=>cases(show u=.str b from hw);let⟨t,rfl⟩:=ru;erw[ay];exact SeqAt.RcNeAt.list_str _ _ p1 nz
 |non =>
  cases(show v=.non from hv);cases rv
  cases e with
  |non=>cases(show u=.non from hw);cases ru;erw[ay];exact SeqAt.RcNeAt.none_none
  |bl b=>cases(show u=.bl b from hw);cases ru;erw[ay];exact SeqAt.RcNeAt.none_bool _
  |int b=>cases(show u=.int b from hw);let⟨t,rfl⟩:=ru;erw[ay];exact SeqAt.RcNeAt.none_int _ _
  |str b=>cases(show u=.str b from hw);let⟨t,rfl⟩:=ru;erw[ay];exact SeqAt.RcNeAt.none_str _ _
  |tup es=>erw[Is] at hw;let⟨a,vs,rfl,h1,_⟩:=hw;cases ru;let⟨_,_,p⟩:=cI I h1;erw[ay];exact SeqAt.RcNeAt.none_tuple p nz
  |lst es=>erw[Is] at hw;let⟨a,vs,rfl,h1,_⟩:=hw;cases ru;let⟨_,_,p⟩:=cH I h1;erw[ay];exact SeqAt.RcNeAt.none_list p nz
 |bl b0 =>
  cases(show v=.bl b0 from hv);cases rv
  cases e with
  |non=>cases(show u=.non from hw);cases ru;erw[ay];exact SeqAt.RcNeAt.bool_none _
  |bl b=>cases(show u=.bl b from hw);cases ru;erw[ay];exact SeqAt.RcNeAt.bool_bool _ _
  |int b=>cases(show u=.int b from hw);let⟨t,rfl⟩:=ru;erw[ay];exact SeqAt.RcNeAt.bool_int _ _ _
  |str b=>cases(show u=.str b from hw);let⟨t,rfl⟩:=ru;erw[ay];exact SeqAt.RcNeAt.bool_str _ _ _
  |tup es=>erw[Is] at hw;let⟨a,vs,rfl,h1,_⟩:=hw;cases ru;let⟨_,_,p⟩:=cI I h1;erw[ay];exact SeqAt.RcNeAt.bool_tuple _ p nz
  |lst es=>erw[Is] at hw;let⟨a,vs,rfl,h1,_⟩:=hw;cases ru;let⟨_,_,p⟩:=cH I h1;erw[ay];exact SeqAt.RcNeAt.bool_list _ p nz
 |int b0 =>
  cases(show v=.int b0 from hv);let⟨t0,rfl⟩:=rv
  cases e with
  |non=>cases(show u=.non from hw);cases ru;erw[ay];exact SeqAt.RcNeAt.int_none _ _
  |bl b=>cases(show u=.bl b from hw);cases ru;erw[ay];exact SeqAt.RcNeAt.int_bool _ _ _
  |int b=>cases(show u=.int b from hw);let⟨t,rfl⟩:=ru;erw[ay];exact SeqAt.RcNeAt.int_int _ _ _ _
  |str b=>cases(show u=.str b from hw);let⟨t,rfl⟩:=ru;erw[ay];exact SeqAt.RcNeAt.int_str _ _ _ _
  |tup es=>erw[Is] at hw;let⟨a,vs,rfl,h1,_⟩:=hw;cases ru;let⟨_,_,p⟩:=cI I h1;erw[ay];exact SeqAt.RcNeAt.int_tuple _ _ p nz
  |lst es=>erw[Is] at hw;let⟨a,vs,rfl,h1,_⟩:=hw;cases ru;let⟨_,_,p⟩:=cH I h1;erw[ay];exact SeqAt.RcNeAt.int_list _ _ p nz
 |str b0 =>
  cases(show v=.str b0 from hv);let⟨t0,rfl⟩:=rv
  cases e with
  |non=>cases(show u=.non from hw);cases ru;erw[ay];exact SeqAt.RcNeAt.str_none _ _
  |bl b=>cases(show u=.bl b from hw);cases ru;erw[ay];exact SeqAt.RcNeAt.str_bool _ _ _
  |int b=>cases(show u=.int b from hw);let⟨t,rfl⟩:=ru;erw[ay];exact SeqAt.RcNeAt.str_int _ _ _ _
  |str b=>cases(show u=.str b from hw);let⟨t,rfl⟩:=ru;erw[ay];exact SeqAt.RcNeAt.str_str _ _ _ _
  |tup es=>erw[Is] at hw;let⟨a,vs,rfl,h1,_⟩:=hw;cases ru;let⟨_,_,p⟩:=cI I h1;erw[ay];exact SeqAt.RcNeAt.str_tuple _ _ p nz
  |lst es=>erw[Is] at hw;let⟨a,vs,rfl,h1,_⟩:=hw;cases ru;let⟨_,_,p⟩:=cH I h1;erw[ay];calc SeqAt.RcNeAt.str_list _ _ p nz
end
variable[aD]
noncomputable def intsOf:-D->Option (-Int)
 |[]=>U []
 |.int i::r=>match intsOf r with
  |some ns=>U (i::ns)
  |none=>Z
 |_=>Z
theorem yu:∀{ds:-D}{ns:-Int},intsOf ds=U ns->ds=ns.map D.int
 |[],ns,h=>by cases h;rfl
 |.int i::r,ns,h=>by
  unfold intsOf at h;split at h
  .rename_i ms e;cases h;rw[TJ,yu e]
  .cases h
 |.non::r,ns,h=>by cases h
 |.bl _::r,ns,h=>by cases h
 |.str _::r,ns,h=>by cases h
 |.tup _::r,ns,h=>by cases h
 |.lst _::r,ns,h=>by cases h
theorem yw{F:Hp}:∀{ns:-Int}{vs:-V},ae F (ns.map D.int) vs->vs=ns.map V.int
 |[],vs,h=>by erw[VH,ae] at h;exact h
 |n::r,vs,h=>by
  erw[TJ,ae] at h;let⟨v,t,rfl,h1,h2⟩:=h;let h1:v=.int n:=h1;rw[yw h2,h1];rfl
theorem yx{F:Hp}:∀{ns:-Int},ae F (ns.map D.int) (ns.map V.int)
 |[]=>.nil
 |n::r=>.cons (show _=_ from Y) yx
theorem pN{F:Hp}:∀{as bs:-D}{us vs:-V},ae F as us->ae F bs vs->ae F (as++bs) (us++vs)
 |[],bs,us,vs,h,q=>by erw[ae] at h;subst h;exact q
 |a::r,bs,us,vs,h,q=>by
  erw[ae] at h;let⟨v,t,rfl,h1,h2⟩:=h;calc .cons h1 (pN h2 q)
theorem Dw{F:Hp}:∀{as:-D}{us:-V}(n:Nat),ae F as us->ae F (as.take n) (us.take n)
 |as,us,0,_=>by rw[Xt,Xt];exact .nil
 |[],us,n+1,h=>by erw[ae] at h;subst h;exact .nil
 |a::r,us,n+1,h=>by
  erw[ae] at h;let⟨v,t,rfl,h1,h2⟩:=h;calc .cons h1 (Dw n h2)
theorem Dy{F:Hp}:∀{as:-D}{us:-V}(n:Nat),ae F as us->ae F (as.drop n) (us.drop n)
 |as,us,0,h=>h
 |[],us,n+1,h=>by erw[ae] at h;subst h;exact .nil
 |a::r,us,n+1,h=>by
  erw[ae] at h;let⟨v,t,rfl,h1,h2⟩:=h;calc Dy n h2
theorem yy{F:Hp}:∀{as:-D}{us:-V},ae F as us->ae F as.reverse us.reverse
 |[],us,h=>by erw[ae] at h;subst h;exact .nil
 |a::r,us,h=>by
  erw[ae] at h;let⟨v,t,rfl,h1,h2⟩:=h;rw[Wx,Wx];calc(yy h2).snoc h1
theorem Dz{F:Hp}:∀{as:-D}{us:-V}(n:Nat){d:D}{v:V},ae F as us->Is F d v->ae F (as.set n d) (us.set n v)
 |[],us,n,d,v,h,_=>by erw[ae] at h;subst h;exact .nil
 |a::r,us,0,d,v,h,q=>by
  erw[ae] at h;let⟨w,t,rfl,h1,h2⟩:=h;exact .cons q h2
 |a::r,us,n+1,d,v,h,q=>by
  erw[ae] at h;let⟨w,t,rfl,h1,h2⟩:=h;calc .cons h1 (Dz n h2 q)
theorem DA{F:Hp}:∀{as:-D}{us:-V}(n:Nat),ae F as us->ae F (as.eraseIdx n) (us.eraseIdx n)
 |[],us,n,h=>by erw[ae] at h;subst h;exact .nil
 |a::r,us,0,h=>by
  erw[ae] at h;let⟨w,t,rfl,h1,h2⟩:=h;exact h2
 |a::r,us,n+1,h=>by
  erw[ae] at h;let⟨w,t,rfl,h1,h2⟩:=h;calc .cons h1 (DA n h2)
theorem om{F H:Hp}{p:O}{ds:-D}{vs:-V}(s:aw F H)(hp:H p=Z)(h:ae F ds vs):Is (Nw F H (upd H p (.lst vs))) (.lst ds) (.ref p):=by
 rw[Nw.upd s hp];erw[Is];calc⟨p,vs,Y,bE,h.same (cy (s.free hp))⟩
theorem rY{F H:Hp}{p:O}{ds:-D}{vs:-V}(s:aw F H)(hp:H p=Z)(h:ae F ds vs):Is (Nw F H (upd H p (.tup vs))) (.tup ds) (.ref p):=by
 rw[Nw.upd s hp];erw[Is];calc⟨p,vs,Y,bE,h.same (cy (s.free hp))⟩
theorem rZ{F H:Hp}{d:D}{v:V}(s:aw F H)(h:Is F d v):Is (Nw F H H) d v:=by rw[Nw.refl s];calc h
def oo:D->D->(D->Prop)->Prop
 |.int i,.int j,K=>K (.int (i+j))
 |.lst a,.lst b,K=>↑a+↑b<=1000/\K (.lst (a++b))
 |.tup a,.tup b,K=>(a≠[]/\↑a+↑b<=1000)/\K (.tup (a++b))
 |.str a,.str b,K=>↑a+↑b<=1000/\K (.str (a++b))
 |_,_,_=>False
def oI(f:Int->Int->D):D->D->(D->Prop)->Prop
 |.int i,.int j,K=>K (f i j)
 |_,_,_=>False
def cg(C:Int->Int->Prop)(f:Int->Int->D):D->D->(D->Prop)->Prop
 |.int i,.int j,K=>C i j/\K (f i j)
 |_,_,_=>False
def e8:D->D->(D->Prop)->Prop
 |.int i,.int j,K=>kG i j/\K (.int (i*j))
 |.lst a,.int j,K=>(-(2 ^ 63)<=j/\j<2 ^ 63/\↑a*j.toNat<=1000)/\K (.lst (R5 j.toNat a).flatten)
 |_,_,_=>False
section
variable{X:Cx}
theorem uL{f:B->B->Sem B}{g:Int->Int->V}{h:Int->Int->D}(op:cP X f (kE g))(hg:∀F i j,Is F (h i j) (g i j)):dM X f (oI h):=by
 ext pins s σ H x y v u Q I rx ry ⟨F,d,e,K,sub,rd,re,q,md⟩;unfold oI at q;split at q
 .rename_i i j
  exact op pins s σ H x y v u Q I rx ry ⟨i,j,rd,re,md _ _ _ q (λ_ _ e=>e) (hg _ i j)⟩
 .calc q.elim
theorem yz{f:B->B->Sem B}{C:Int->Int->Prop}{g:Int->Int->V}{h:Int->Int->D}(op:cP X f (rI C g))(hg:∀F i j,Is F (h i j) (g i j)):dM X f (cg C h):=by
 ext pins s σ H x y v u Q I rx ry ⟨F,d,e,K,sub,rd,re,q,md⟩;unfold cg at q;split at q
 .rename_i i j
  exact op pins s σ H x y v u Q I rx ry ⟨i,j,rd,re,q.1,md _ _ _ q.2 (λ_ _ e=>e) (hg _ i j)⟩
 .calc q.elim
theorem uM:dM X (binaryOp .Add) oo:=by
 ext pins s σ H x y v u Q I rx ry ⟨F,d,e,K,sub,rd,re,q,md⟩;unfold oo at q;split at q
 .rename_i i j
  exact BO pins s σ H x y v u Q I rx ry ⟨i,j,rd,re,md _ _ _ q (λ_ _ e=>e) Y⟩
 .rename_i as bs
  let⟨a,us,rfl,h1,h2⟩:=rd;let⟨b,ws,rfl,h3,h4⟩:=re;refine ue pins s σ H _ _ v u Q I rx ry ⟨a,b,us,ws,Y,Y,h1,h3,jq (by rw[↑h2,↑h4];calc q.1),λp hp=>md _ _ _ q.2 (cy hp) (om sub hp (pN h2 h4))⟩
 .rename_i as bs
  let b8:Is F (.tup as) x:=rd;let gi:Is F (.tup bs) y:=re;erw[Is] at b8 gi;let⟨a,us,rfl,h1,h2⟩:=b8;let⟨b,ws,rfl,h3,h4⟩:=gi;let ne:us≠[]:=λz=>q.1.1 (VB.mp (by rw[<-↑h2,z];rfl));calc IZ pins s σ H _ _ v u Q I rx ry ⟨a,b,us,ws,Y,Y,bJ.of (sub _ _ h1),bJ.of (sub _ _ h3),ne,jq (by rw[↑h2,↑h4];calc q.1.2),λz=>?_,λz p hp=>md _ _ _ q.2 (cy hp) (rY sub hp (pN h2 h4))⟩;let:bs=[]:=VB.mp (by rw[<-↑h4,z];rfl);subst this;calc md _ _ _ q.2 (λ_ _ e=>e) (rZ sub ?_);rw[W6];exact rd
 .rename_i as bs
  let b8:x=.str as:=rd;let gi:y=.str bs:=re;subst b8 gi;exact Im pins s σ H _ _ v u Q I rx ry ⟨as,bs,Y,Y,jq q.1,md _ _ _ q.2 (λ_ _ e=>e) Y⟩
 .calc q.elim
theorem pO:dM X (binaryOp .Sub) (oI λi j=>.int (i-j)):=uL HV λ_ _ _=>Y
theorem LH:dM X (binaryOp .Mult) e8:=by
 ext pins s σ H x y v u Q I rx ry ⟨F,d,e,K,sub,rd,re,q,md⟩;unfold e8 at q;split at q
 .rename_i i j
  exact HW pins s σ H x y v u Q I rx ry ⟨i,j,rd,re,q.1,md _ _ _ q.2 (λ_ _ e=>e) Y⟩
 .rename_i as j
  let⟨a,us,rfl,h1,h2⟩:=rd;refine Ji pins s σ H _ _ v u Q I rx ry ⟨a,j,us,Y,re,h1,q.1.1,q.1.2.1,jq (by rw[↑h2];calc q.1.2.2),λp hp=>md _ _ _ q.2 (cy hp) (om sub hp ?_)⟩
  let:∀k:Nat,ae F (R5 k as).flatten (R5 k us).flatten:=λk=>by
   induction k with
   |zero=>exact .nil
   |succ k ih=>rw[Ut,Ut,Vp,Vp];exact pN h2 ih
  exact this _
 .calc q.elim
theorem LI:dM X (binaryOp .Mod) (cg (λ_ j=>0<j) λi j=>.int (i%j)):=yz wF λ_ _ _=>Y
theorem uN:dM X (binaryOp .Pow) (cg bO λi j=>.int (i ^ j.toNat)):=yz HX λ_ _ _=>Y
def oEq:D->D->(D->Prop)->Prop:=λd e K=>dep d<=60/\K (.bl (ay d e))
def j_:D->D->(D->Prop)->Prop:=λd e K=>dep d<=60/\K (.bl (!ay d e))
theorem oq(hu:X.A.units+64<cLine):dM X (compareOp .Eq) oEq:=by
 ext pins s σ H x y v u Q I rx ry ⟨F,d,e,K,sub,rd,re,q,md⟩;calc(yq I 60 q.1 ⋯ (rd.is sub) (re.is sub) rx ry).2 _ _ _ _ ⟨.bl _,H,I,Y,md _ _ _ q.2 (λ_ _ e=>e) Y⟩
theorem pP(hu:X.A.units+64<cLine):dM X (compareOp .NotEq) j_:=by
 ext pins s σ H x y v u Q I rx ry ⟨F,d,e,K,sub,rd,re,q,md⟩;calc LG I q.1 ⋯ (rd.is sub) (re.is sub) rx ry _ _ _ _ ⟨.bl _,H,I,Y,md _ _ _ q.2 (λ_ _ e=>e) Y⟩
def oLt:D->D->(D->Prop)->Prop
 |.int i,.int j,K=>K (.bl (g (i<j)))
 |.tup a,.tup b,K=>match intsOf a,intsOf b with
  |some ns,some ms=>K (.bl (HT.lexLt ns ms))
  |_,_=>False
 |_,_,_=>False
theorem DB(hu:X.A.units+64<cLine):dM X (compareOp .Lt) oLt:=by
 ext pins s σ H x y v u Q I rx ry ⟨F,d,e,K,sub,rd,re,q,md⟩;unfold oLt at q;split at q
 .rename_i i j
  exact BQ pins s σ H x y v u Q I rx ry ⟨i,j,rd,re,md _ _ _ q (λ_ _ e=>e) Y⟩
 .rename_i as bs
  split at q
  .rename_i ns ms e1 e2
   rw[yu e1] at rd;rw[yu e2] at re;let b8:Is F (.tup (ns.map D.int)) x:=rd;let gi:Is F (.tup (ms.map D.int)) y:=re;erw[Is] at b8 gi;let⟨a,us,rfl,h1,h2⟩:=b8;let⟨b,ws,rfl,h3,h4⟩:=gi;rw[yw h2] at h1;rw[yw h4] at h3;exact IX ⋯ pins s σ H _ _ v u Q I rx ry ⟨a,b,ns,ms,Y,Y,bJ.of (sub _ _ h1),bJ.of (sub _ _ h3),md _ _ _ q (λ_ _ e=>e) Y⟩
  .exact q.elim
 .calc q.elim
theorem r_:dM X (compareOp .LtE) (oI λi j=>.bl (g (i<=j))):=uL Ig λ_ _ _=>Y
theorem uO:dM X (compareOp .Gt) (oI λi j=>.bl (g (j<i))):=uL Ih λ_ _ _=>Y
theorem LL:dM X (compareOp .GtE) (oI λi j=>.bl (g (j<=i))):=uL Ii λ_ _ _=>Y
def jw:D->D->(D->Prop)->Prop
 |.non,.non,K=>K (.bl θ)
 |.bl _,.non,K=>K (.bl ι)
 |.int _,.non,K=>K (.bl ι)
 |.str _,.non,K=>K (.bl ι)
 |.tup _,.non,K=>K (.bl ι)
 |.lst _,.non,K=>K (.bl ι)
 |_,_,_=>False
theorem LM{F H:Hp}{d e:D}{x y:V}{K:D->Prop}(rd:eN F H d x)(re:eN F H e y)(q:jw d e K):y=.non/\K (.bl (g (x=.non))):=by
 unfold jw at q;split at q
 .let:x=.non:=rd;let h2:y=.non:=re;subst this;exact⟨h2,q⟩
 .rename_i b;let:x=.bl b:=rd;let h2:y=.non:=re;subst this;exact⟨h2,q⟩
 .rename_i b;let:x=.int b:=rd;let h2:y=.non:=re;subst this;exact⟨h2,q⟩
 .rename_i b;let:x=.str b:=rd;let h2:y=.non:=re;subst this;exact⟨h2,q⟩
 .rename_i b;let rd:Is F (.tup b) x:=rd;erw[Is] at rd;let⟨a,_,rfl,_⟩:=rd;exact⟨re,q⟩
 .rename_i b;let⟨a,_,rfl,_⟩:=rd;exact⟨re,q⟩
 .calc q.elim
theorem LN:dM X (compareOp .Is) jw:=by
 ext pins s σ H x y v u Q I rx ry ⟨F,d,e,K,sub,rd,re,q,md⟩;let⟨h1,h2⟩:=LM rd re q;calc Ij pins s σ H x y v u Q I rx ry ⟨h1,md _ _ _ h2 (λ_ _ e=>e) Y⟩
def ot(neg:Bool):D->D->(D->Prop)->Prop
 |d,.lst es,K=>aZ es<=55/\K (.bl (if neg then !(es.any λe=>ay e d) else es.any λe=>ay e d))
 |d,.tup es,K=>aZ es<=55/\K (.bl (if neg then !(es.any λe=>ay e d) else es.any λe=>ay e d))
 |_,_,_=>False
noncomputable def gy(H:Hp)(d:D)(u:B):Bool:=by
 classical calc if ∃e v,Is H e v/\RelV v u/\ay e d=θ then θ else ι
theorem DC{H:Hp}{d e:D}{v:V}{u:B}(h:Is H e v)(r:RelV v u):gy H d u=ay e d:=by
 unfold gy;split
 .rename_i z
  let⟨e',v',h',r',q⟩:=z;let:v'=v:=r'.inj r;subst this;rw[Is.inj h h'];exact q.symm
 .rename_i z
  cases q:ay e d with
  |false=>rfl
  |true=>calc absurd ⟨e,v,h,r,q⟩ z
theorem sd{H:Hp}{d:D}:∀{es:-D}{vs:-V}{us:-B},ae H es vs->Vals vs us->us.any (gy H d)=es.any λe=>ay e d
 |[],vs,us,h,r=>by erw[ae] at h;subst h;cases r;rfl
 |e::es,vs,us,h,r=>by
  erw[ae] at h;let⟨v,t,rfl,h1,h2⟩:=h
  cases r with
  |cons r1 r2=>rw[XQ,XQ,DC h1 r1,sd h2 r2]
theorem sg{pins:av}{σ:St}{H:Hp}{s:L}(I:Inv X pins σ H s){A:l}(hu:A.units+60<cLine){d:D}{x:V}{w:B}(hd:Is H d x)(rd:RelV x w):∀{es:-D}{vs:-V}{us:-B},aZ es<=55->ae H es vs->Vals vs us->∀u∈us,WU A s u w (gy H d u)
 |[],vs,us,_,h,r=>by erw[ae] at h;subst h;cases r;ext u hu;cases hu
 |e::es,vs,us,hp,h,r=>by
  erw[ae] at h;let⟨v,t,rfl,h1,h2⟩:=h;erw[aZ] at hp
  cases r with
  |cons r1 r2 =>
   ext u hu';rcases Cy.mp hu' with rfl|hu'
   .rw[DC h1 r1];exact(yq I 55 ⋯ ⋯ h1 hd r1 rd).1
   .calc sg I hu hd rd ⋯ h2 r2 u hu'
theorem LO(hu:X.A.units+64<cLine):dM X (compareOp .In) (ot ι):=by
 ext pins s σ H x y v u Q I rx ry ⟨F,d,e,K,sub,rd,re,q,md⟩;unfold ot at q;split at q
 .rename_i es
  let⟨a,vs,rfl,h1,h2⟩:=re;cases ry
  let⟨ah,r,p⟩:=cH I h1;let gK:=h2.same sub;calc SeqAt.in_listAt (gy H d) p (λw hw=>sg I (by rw[in1_units];symm) (rd.is sub) rx q.1 gK r w hw⁻¹) ⟨.bl _,H,I,Y,?_⟩;rw[show ah.toArray.any (gy H d)=ah.any (gy H d) by simp,sd gK r];exact md _ _ _ q.2 (λ_ _ e=>e) Y
 .rename_i es
  let gi:Is F (.tup es) y:=re;erw[Is] at gi;let⟨a,vs,rfl,h1,h2⟩:=gi;cases ry
  let⟨ah,r,p⟩:=cI I (sub _ _ h1);let gK:=h2.same sub;calc SeqAt.in_tupleAt (gy H d) p (λw hw=>sg I (by rw[in1_units];symm) (rd.is sub) rx q.1 gK r w hw⁻¹) ⟨.bl _,H,I,Y,?_⟩;rw[show ah.toArray.any (gy H d)=ah.any (gy H d) by simp,sd gK r];exact md _ _ _ q.2 (λ_ _ e=>e) Y
 .calc q.elim
theorem LP(hu:X.A.units+64<cLine):dM X (compareOp .NotIn) (ot θ):=by
 ext pins s σ H x y v u Q I rx ry ⟨F,d,e,K,sub,rd,re,q,md⟩;unfold ot at q;split at q
 .rename_i es
  let⟨a,vs,rfl,h1,h2⟩:=re;cases ry
  let⟨ah,r,p⟩:=cH I h1;let gK:=h2.same sub;calc SeqAt.notIn_listAt (gy H d) p (λw hw=>sg I (by rw[in1_units];symm) (rd.is sub) rx q.1 gK r w hw⁻¹) ⟨.bl _,H,I,Y,?_⟩;rw[show ah.toArray.any (gy H d)=ah.any (gy H d) by simp,sd gK r];exact md _ _ _ q.2 (λ_ _ e=>e) Y
 .rename_i es
  let gi:Is F (.tup es) y:=re;erw[Is] at gi;let⟨a,vs,rfl,h1,h2⟩:=gi;cases ry
  let⟨ah,r,p⟩:=cI I (sub _ _ h1);let gK:=h2.same sub;calc SeqAt.notIn_tupleAt (gy H d) p (λw hw=>sg I (by rw[in1_units];symm) (rd.is sub) rx q.1 gK r w hw⁻¹) ⟨.bl _,H,I,Y,?_⟩;rw[show ah.toArray.any (gy H d)=ah.any (gy H d) by simp,sd gK r];exact md _ _ _ q.2 (λ_ _ e=>e) Y
 .calc q.elim
def bu:D->D->(D->Prop)->Prop
 |.lst ds,.int i,K=>match d7 ds i with
  |some d=>K d
  |none=>False
 |.tup ds,.int i,K=>match d7 ds i with
  |some d=>K d
  |none=>False
 |.str z,.int i,K=>↑z<=1000/\match d7 z.cps.toList i with
  |some c=>K (.str ⟨#[c]⟩)
  |none=>False
 |_,_,_=>False
theorem DD{F:Hp}{ds:-D}{vs:-V}{i:Int}{d:D}(h:ae F ds vs)(e:d7 ds i=U d):∃v,d7 vs i=U v/\Is F d v:=by
 unfold d7 at e ⊢;rw[↑h]
 cases q:iu ↑ds i with
 |none=>rw[q] at e;cases e
 |some j =>
  rw[q] at e;calc pM h (show ds[j]?=U d from e)
theorem ou:C7 X bu:=by
 ext value slice pins s σ H x y v u Q I rx ry ⟨F,d,e,K,sub,rd,re,q,md⟩ hs;unfold bu at q;split at q
 .rename_i ds i
  split at q
  .rename_i d' e1
   let⟨a,vs,rfl,h1,h2⟩:=rd;let⟨w,e2,h3⟩:=DD h2 e1;exact ud value slice pins s σ H _ _ v u Q I rx ry ⟨a,vs,i,w,Y,re,bq.of h1,e2,md _ _ _ q (λ_ _ e=>e) (rZ sub h3)⟩ hs
  .exact q.elim
 .rename_i ds i
  split at q
  .rename_i d' e1
   let b8:Is F (.tup ds) x:=rd;erw[Is] at b8;let⟨a,vs,rfl,h1,h2⟩:=b8;let⟨w,e2,h3⟩:=DD h2 e1;exact I0 value slice pins s σ H _ _ v u Q I rx ry ⟨a,vs,i,w,Y,re,bJ.of (sub _ _ h1),e2,md _ _ _ q (λ_ _ e=>e) (rZ sub h3)⟩ hs
  .exact q.elim
 .rename_i z i
  let⟨hz,q⟩:=q;split at q
  .rename_i c e1
   let b8:x=.str z:=rd;subst b8;exact I_ value slice pins s σ H _ _ v u Q I rx ry ⟨z,i,c,Y,re,jq hz,e1,md _ _ _ q (λ_ _ e=>e) Y⟩ hs
  .exact q.elim
 .calc q.elim
noncomputable def cutD(ds:-D)(lo hi:Option Int):-D:=(ds.drop (HT.bf ↑ds 0 lo)).take (HT.bf ↑ds ↑ds hi-HT.bf ↑ds 0 lo)
theorem DE{F:Hp}{ds:-D}{vs:-V}(h:ae F ds vs)(lo hi:Option Int):ae F (cutD ds lo hi) (cw vs lo hi):=by
 unfold cutD cw;rw[↑h];calc Dw _ (Dy _ h)
abbrev WO:=ax->(Option Int->ax->Prop)->Prop
def uP(f:WO):TO:=fun σ H Q=>∃F ad δ K,SR F ad δ σ H/\f δ K/\∀o δ',K o δ'->∀F' az H',Ext F ad δ.mu H F' az δ'.mu H'->SR F' az δ' σ H'->Q o H'
def eC:WO:=fun δ K=>K Z δ
def jx(f:WE):WO:=fun δ K=>f δ λx δ1=>match x with
 |.p (.int i)=>K (U i) δ1
 |_=>False
theorem pQ:PO X Z (uP eC):=λpins s σ H Q I h0_=>el7 h0_ λF ad δ K S q k =>B8 pins s σ H Q I (k _ _ q _ _ _ .refl S)
theorem pR{e:M}{f:WE}(h:JE X e (tD f)):PO X (U e) (uP (jx f)):=λpins s σ H Q I h0_=>el7 h0_ λF ad δ K S q k =>ub h pins s σ H Q I ⟨F,ad,δ,_,S,q,λx δ1 h1 v F1 aU H1 E1 S1 V1=>by
 split at h1
 .rename_i i
  exact⟨i,V1,k _ _ h1 _ _ _ E1 S1⟩
 .calc h1.elim⟩
def jy:D->(D->Prop)->Prop
 |.int i,K=>K (.int (-(i:Int)))
 |_,_=>False
theorem DF{e:M}{f:WE}{pos:y}(he:JE X e (tD f)):JE X (.UnaryOp .USub e pos) (tD (d1 f jy)) :=
 (BN BP he).weak fun σ H Q h0_=>el7 h0_ λF ad δ K S q k =>⟨F,ad,δ,_,S,q,λx δ1 h1 v F1 aU H1 E1 S1 V1=>by
  let⟨d,h4,rd⟩:=eW S1 V1 h1;unfold jy at h4;split at h4
  .rename_i i
   exact⟨i,rd,k _ _ h4 _ _ _ _ E1 S1 Y⟩
  .calc h4.elim⟩
def pS(f g h:WE)(o o':D->D->(D->Prop)->Prop):WE:=fun δ K=>f δ λx δ1=>g δ1 λy δ2=>gb x δ2 λd=>gb y δ2 λe=>o d e λz=>match z with
 |.bl true=>h δ2 λw δ3=>gb y δ3 λe'=>gb w δ3 λc=>o' e' c λz'=>K (.p z') δ3
 |.bl false=>K (.p (.bl ι)) δ2
 |_=>False
theorem LQ{a b c:M}{f g h:WE}{op gG:CmpOp}{o o':D->D->(D->Prop)->Prop}{pos:Ε}(ho:dM X (compareOp op) o)(gD:dM X (compareOp gG) o')(ha:JE X a (tD f))(hb:JE X b (tD g))(hc:JE X c (tD h))
  (hm:lastMarks [op,gG] [b,c]=ι:=by with_unfolding_all rfl):JE X (.Compare a [op,gG] [b,c] pos) (tD (pS f g h o o')) :=
 (Ik ho gD ha hb hc hm).weak fun σ H Q h0_=>el7 h0_ λF ad δ K S q k =>by
  calc⟨F,ad,δ,_,S,q,λx δ1 h1 v1 F1 aU H1 E1 S1 V1=>⟨F1,aU,δ1,_,S1,h1,λy δ2 h2 v2 F2 b4 H2 E2 S2 V2=>?_⟩⟩;let⟨d,h3,rd⟩:=eW S2 (V1.ext E2) h2;let⟨e,h4,re⟩:=eW S2 V2 h3;calc⟨F2,d,e,_,S2.sub,rd,re,h4,λz v H' hz sm is=>?_⟩;let S3:=S2.al sm;let E3:=Ext.al S2 sm;split at hz
  .refine⟨θ,is,?_⟩
   rw[Tw Y];calc⟨_,b4,δ2,_,S3,hz,λw δ4 h5 v4 F4 pJ H4 E4 S4 V4=>?_⟩;let⟨d',h6,pI⟩:=eW S4 ((V2.ext E3).ext E4) h5;let⟨e',h7,yA⟩:=eW S4 V4 h6;exact⟨F4,d',e',_,S4.sub,pI,yA,h7,λz v H' hz sm is=>k _ _ hz _ _ _ _ ((((E1.trans E2).trans E3).trans E4).trans (Ext.al S4 sm)) (S4.al sm) is⟩
  .refine⟨ι,is,?_⟩
   rw[To Jn];exact k _ _ hz _ _ _ _ ((E1.trans E2).trans E3) S3 Y
  .calc hz.elim
end
def bK:-D->(D->Prop)->Prop
 |[.lst ds],K=>K (.int ↑ds)
 |[.tup ds],K=>K (.int ↑ds)
 |[.str z],K=>↑z<=1000/\K (.int ↑z)
 |_,_=>False
def pT:-D->(D->Prop)->Prop
 |[.lst ds],K=>K (.lst ds)
 |[.tup ds],K=>K (.lst ds)
 |_,_=>False
def sh:-D->(D->Prop)->Prop
 |[.lst ds],K=>K (.tup ds)
 |[.tup ds],K=>K (.tup ds)
 |_,_=>False
noncomputable def lq:-D->Option (-Bool)
 |[]=>U []
 |.bl b::r=>match lq r with
  |some bs=>U (b::bs)
  |none=>Z
 |_=>Z
theorem DG:∀bs:-Bool,lq (bs.map D.bl)=U bs
 |[]=>Y
 |n::r=>by show(match lq (r.map D.bl) with|some ns=>U (n::ns)|none=>Z)=_;rw[DG r]
theorem DH:∀{ds:-D}{bs:-Bool},lq ds=U bs->ds=bs.map D.bl
 |[],ns,h=>by cases h;rfl
 |.bl i::r,ns,h=>by
  unfold lq at h;split at h
  .rename_i ms e;cases h;rw[TJ,DH e]
  .cases h
 |.non::r,ns,h=>by cases h
 |.int _::r,ns,h=>by cases h
 |.str _::r,ns,h=>by cases h
 |.tup _::r,ns,h=>by cases h
 |.lst _::r,ns,h=>by cases h
theorem DI{F:Hp}:∀{bs:-Bool}{vs:-V},ae F (bs.map D.bl) vs->vs=bs.map V.bl
 |[],vs,h=>by erw[VH,ae] at h;exact h
 |n::r,vs,h=>by
  erw[TJ,ae] at h;let⟨v,t,rfl,h1,h2⟩:=h;let h1:v=.bl n:=h1;rw[DI h2,h1];rfl
def jz:-D->(D->Prop)->Prop
 |[.lst ds],K=>match lq ds with
  |some bs=>K (.bl (bs.all id))
  |none=>False
 |_,_=>False
def si:-D->(D->Prop)->Prop
 |[.int i,.int j],K=>K (.int (min i j))
 |_,_=>False
section
variable{X:Cx}
theorem b8{F H:Hp}{d:D}{xs:-V}(h:gc F H [d] xs):∃v,xs=[v]/\eN F H d v:=by
 let⟨v,r,rfl,h1,h2⟩:=h;let h2:r=[]:=h2;subst h2;calc⟨v,Y,h1⟩
theorem LR{F H:Hp}{d e:D}{xs:-V}(h:gc F H [d,e] xs):∃v w,xs=[v,w]/\eN F H d v/\eN F H e w:=by
 let⟨v,r,rfl,h1,h2⟩:=h;let⟨w,rfl,h3⟩:=b8 h2;calc⟨v,w,Y,h1,h3⟩
theorem uQ:dt X (.builtin "len") bK:=by
 ext pins s σ H xs us Q I r ⟨F,ds,K,sub,rd,q,md⟩;unfold bK at q;split at q
 .let⟨v,rfl,a,vs,rfl,h1,h2⟩:=b8 rd
  exact Cc pins s σ H _ us Q I r ⟨a,vs,Y,.inl (bq.of h1),by rw[↑h2];calc md _ _ _ q (λ_ _ e=>e) Y⟩
 .rename_i es
  let⟨v,rfl,h⟩:=b8 rd;let h:Is F (.tup es) v:=h;erw[Is] at h;let⟨a,vs,rfl,h1,h2⟩:=h;exact Cc pins s σ H _ us Q I r ⟨a,vs,Y,.inr (bJ.of (sub _ _ h1)),by rw[↑h2];calc md _ _ _ q (λ_ _ e=>e) Y⟩
 .rename_i z
  let⟨v,rfl,h⟩:=b8 rd;let h:v=.str z:=h;subst h;exact Je pins s σ H _ us Q I r ⟨z,Y,jq q.1,md _ _ _ q.2 (λ_ _ e=>e) Y⟩
 .calc q.elim
theorem DJ:dt X (.type "list") pT:=by
 ext pins s σ H xs us Q I r ⟨F,ds,K,sub,rd,q,md⟩;unfold pT at q;split at q
 .let⟨v,rfl,a,vs,rfl,h1,h2⟩:=b8 rd
  exact xf pins s σ H _ us Q I r ⟨a,vs,Y,.inl (bq.of h1),λl hl=>md _ _ _ q (cy hl) (om sub hl h2)⟩
 .rename_i es
  let⟨v,rfl,h⟩:=b8 rd;let h:Is F (.tup es) v:=h;erw[Is] at h;let⟨a,vs,rfl,h1,h2⟩:=h;exact xf pins s σ H _ us Q I r ⟨a,vs,Y,.inr (bJ.of (sub _ _ h1)),λl hl=>md _ _ _ q (cy hl) (om sub hl h2)⟩
 .calc q.elim
theorem LU:dt X (.type "tuple") sh:=by
 ext pins s σ H xs us Q I r ⟨F,ds,K,sub,rd,q,md⟩;unfold sh at q;split at q
 .let⟨v,rfl,a,vs,rfl,h1,h2⟩:=b8 rd
  exact Cd pins s σ H _ us Q I r ⟨a,vs,Y,.inl ⟨bq.of h1,λl hl=>md _ _ _ q (cy hl) (rY sub hl h2)⟩⟩
 .rename_i es
  let⟨v,rfl,h⟩:=b8 rd;let h0:Is F (.tup es) v:=h;let h:Is F (.tup es) v:=h;erw[Is] at h;let⟨a,vs,rfl,h1,h2⟩:=h;exact Cd pins s σ H _ us Q I r ⟨a,vs,Y,.inr ⟨bJ.of (sub _ _ h1),md _ _ _ q (λ_ _ e=>e) (rZ sub h0)⟩⟩
 .calc q.elim
theorem LV(hc:X.calm=θ):dt X (.builtin "all") jz:=by
 ext pins s σ H xs us Q I r ⟨F,ds,K,sub,rd,q,md⟩;unfold jz at q;split at q
 .rename_i es
  split at q
  .rename_i bs e
   let⟨v,rfl,a,vs,rfl,h1,h2⟩:=b8 rd;rw[DH e] at h2;rw[DI h2] at h1;exact KP hc pins s σ H _ us Q I r ⟨a,bs,Y,bq.of h1,md _ _ _ q (λ_ _ e=>e) Y⟩
  .exact q.elim
 .calc q.elim
theorem LW(hc:X.calm=θ):dt X (.builtin "min") si:=by
 ext pins s σ H xs us Q I r ⟨F,ds,K,sub,rd,q,md⟩;unfold si at q;split at q
 .rename_i i j
  let⟨v,w,rfl,h1,h2⟩:=LR rd;let h1:v=.int i:=h1;let h2:w=.int j:=h2;subst h1 h2;calc Io hc pins s σ H _ us Q I r ⟨i,j,Y,?_⟩;let:(if j<i then j else i)=min i j:=by split<;>symm
  rw[this];exact md _ _ _ q (λ_ _ e=>e) Y
 .calc q.elim
theorem DK(n:Nat):cE 0 n=(gL n).map D.int:=by
 unfold cE gL;rw[Uz];calc Xb λi _=>?_;show D.int (0+(i:Int))=D.int (i:Int);rw[q1w]
def bB(T:String):D->(D->Prop)->Prop:=λd K=>K (.bl (aQ (bC d) T))
theorem fQ{T:String}{t:J}{a:M}{f:WE}{p p2 pos:y}(hk:∀d:D,Ts X.K (.type (bC d)) (.type T)=U (aQ (bC d) T))(hg:Gl X "isinstance")(hm:X.mg "isinstance" = Z)(LX:Gl X t)(LY:X.mg t=Z)(LZ:bootBuiltins t=U (.type T))(ha:JE X a (tD f))
  (xJ:t≠"__name__" := by decide) (kS:bw t:=by decide) (he:starEach [a,.Name t p2] X.env=(ι,eval a X.env)::starEach [.Name t p2] X.env:=by rfl):JE X (.Call (.Name "isinstance" p) [a,.Name t p2] [] pos) (tD (d1 f (bB T))) :=
 (t_ Ko hg hm W9 (hU ha (iA (Bw LX LY LZ (v:=.ty T) Y xJ kS) bg) he) (he:=he)).weak fun σ H Q h0_=>el7 h0_ λF ad δ K S q k =>⟨F,ad,δ,_,S,q,λx δ1 h1 v F1 aU H1 E1 S1 V1=>by
  let⟨d,h2,rd⟩:=eW S1 V1 h1
  calc⟨v,.ty T,.type T,.type (bC d),_,Y,Y,Is.ty (rd.is S1.sub),hk d,k _ _ h2 _ _ _ _ E1 S1 Y⟩⟩
theorem yB{K:nG}:∀d:D,Ts K (.type (bC d)) (.type "int")=U (aQ (bC d) "int"):=λd=>Ky _ (rF d)
theorem sj{K:nG}:∀d:D,Ts K (.type (bC d)) (.type "bool")=U (aQ (bC d) "bool"):=λd=>Kx _ (rF d)
theorem yC{K:nG}:∀d:D,Ts K (.type (bC d)) (.type "str")=U (aQ (bC d) "str"):=λd=>Kz _ (rF d)
theorem sk{K:nG}:∀d:D,Ts K (.type (bC d)) (.type "tuple")=U (aQ (bC d) "tuple"):=λd=>kit_tuple _ (rF d)
theorem DL{K:nG}:∀d:D,Ts K (.type (bC d)) (.type "list")=U (aQ (bC d) "list"):=λd=>KA _ (rF d)
def e_(x:DV)(δ:ax)(K:Nat->-D->Prop):Prop:=match x with
 |.o k=>match δ.mu[k]? with
  |some (some (.lst ds))=>K k ds
  |_=>False
 |_=>False
theorem oy{F H:Hp}{ad:-O}{δ:ax}{σ:St}{x:DV}{v:V}{K:Nat->-D->Prop}(S:SR F ad δ σ H)(V1:dJ F ad x v)(h:e_ x δ K):∃k ds a vs,x=.o k/\K k ds/\v=.ref a/\ad[k]?=U a/\H a=U (.lst vs)/\ae F ds vs/\δ.mu[k]?=U (U (.lst ds)):=by
 unfold e_ at h;split at h
 .rename_i k
  split at h
  .rename_i ds e
   let⟨a,e1,rfl⟩:=V1;let⟨a',o,e2,e3,vs,rfl,h4⟩:=S.mu k _ e;rw[e1] at e2;cases e2;exact⟨k,ds,a,vs,Y,h,Y,e1,e3,h4,e⟩
  .exact h.elim
 .calc h.elim
def iL(f:WE)(fa:WA):WE:=fun δ K=>f δ λx δ1=>e_ x δ1 λ_ _=>fa δ1 λys δ2=>match ys with
 |[y]=>mE y δ2 λd δ3=>e_ x δ3 λk ds=>↑ds<1000/\K (.p .non) ⟨δ3.sl,δ3.mu.set k (U (.lst (ds++[d])))⟩
 |_=>False
theorem L5{f:WE}{fa:WA}{K0:nG}:∀σ H Q,tD (iL f fa) σ H Q->qX K0 "list" Cg (tD f) (bU fa) σ H Q:=fun σ H Q h0_=>el7 h0_ λF ad δ K S q k =>⟨F,ad,δ,_,S,q,λx δ1 h1 v F1 aU H1 E1 S1 V1=>by
 let⟨k0,DM,a,vs,rfl,h2,rfl,e1,e2,i1,m1⟩:=oy S1 V1 h1;refine⟨.inl ⟨Y,vs,bq.of e2⟩,F1,aU,δ1,_,S1,h2,λys δ2 h3 us F2 b4 H2 E2 S2 V2=>?_⟩
 match ys,h3,V2 with
 |[y],g3,⟨u,r,e,W1,W2⟩ =>
  let W3:r=[]:=W2;subst W3 e;let⟨d,δ3,F3,h4,E3,S3,i3⟩:=uz S2 W1 g3;let⟨k1,ds,b,ws,ek,h5,eb,e3,e4,i4,m4⟩:=oy (x:=.o k0) S3 ((V1.ext E2).ext E3) h4;cases ek
  let so:a=b:=by injection eb
  subst so;let oi:fq F3 (.lst (ds++[d])) (.lst (ws++[u])):=⟨_,Y,i4.snoc i3⟩;calc⟨a,ws,u,Y,Y,e4,rg (by rw[↑i4];symm),?_⟩;exact k _ _ h5.2 _ _ _ _ (((E1.trans E2).trans E3).trans (Ext.put S3 m4 e3)) (S3.put m4 e3 oi) Y
 |[],g3,_=>exact g3.elim
 |_::_::_,g3,_=>calc g3.elim⟩
def oz(f:WE)(fa:WA):WE:=fun δ K=>f δ λx δ1=>e_ x δ1 λ_ _=>fa δ1 λys δ2=>match ys with
 |[.p (.lst es)]=>e_ x δ2 λk ds=>↑ds+↑es<=1000/\K (.p .non) ⟨δ2.sl,δ2.mu.set k (U (.lst (ds++es)))⟩
 |_=>False
theorem L6{f:WE}{fa:WA}{K0:nG}:∀σ H Q,tD (oz f fa) σ H Q->qX K0 "list" Cj (tD f) (bU fa) σ H Q:=fun σ H Q h0_=>el7 h0_ λF ad δ K S q k =>⟨F,ad,δ,_,S,q,λx δ1 h1 v F1 aU H1 E1 S1 V1=>by
 let⟨k0,DM,a,vs,rfl,h2,rfl,e1,e2,i1,m1⟩:=oy S1 V1 h1;calc⟨.inl ⟨Y,vs,bq.of e2⟩,F1,aU,δ1,_,S1,h2,λys δ2 h3 us F2 b4 H2 E2 S2 V2=>?_⟩;split at h3
 .rename_i es
  let⟨u,r,e,W1,W2⟩:=V2;let W3:r=[]:=W2;let W4:Is F2 (.lst es) u:=W1;erw[Is] at W4;let⟨b,zs,rfl,z1,z2⟩:=W4;subst W3 e;let⟨k1,ds,b',ws,ek,h5,eb,e3,e4,i4,m4⟩:=oy (x:=.o k0) S2 (V1.ext E2) h3;cases ek
  let so:a=b':=by injection eb
  subst so;let oi:fq F2 (.lst (ds++es)) (.lst (ws++zs)):=⟨_,Y,pN i4 z2⟩;calc⟨a,b,ws,zs,Y,Y,e4,S2.sub _ _ z1,jq (by rw[↑i4,↑z2];calc h5.1),?_⟩;exact k _ _ h5.2 _ _ _ _ ((E1.trans E2).trans (Ext.put S2 m4 e3)) (S2.put m4 e3 oi) Y
 .calc h3.elim⟩
def uR(f:WE)(fa:WA):WE:=fun δ K=>f δ λx δ1=>e_ x δ1 λ_ _=>fa δ1 λys δ2=>match ys with
 |[.p (.int i)]=>e_ x δ2 λk ds=>(-(2 ^ 63)<=i/\i<2 ^ 63)/\match seqIndex? i ↑ds with
  |some j=>match ds[j]? with
   |some d=>K (.p d) ⟨δ2.sl,δ2.mu.set k (U (.lst (ds.eraseIdx j)))⟩
   |none=>False
  |none=>False
 |_=>False
theorem L7{f:WE}{fa:WA}{K0:nG}:∀σ H Q,tD (uR f fa) σ H Q->qX K0 "list" Cm (tD f) (bU fa) σ H Q:=fun σ H Q h0_=>el7 h0_ λF ad δ K S q k =>⟨F,ad,δ,_,S,q,λx δ1 h1 v F1 aU H1 E1 S1 V1=>by
 let⟨k0,DM,a,vs,rfl,h2,rfl,e1,e2,i1,m1⟩:=oy S1 V1 h1;calc⟨.inl ⟨Y,vs,bq.of e2⟩,F1,aU,δ1,_,S1,h2,λys δ2 h3 us F2 b4 H2 E2 S2 V2=>?_⟩;split at h3
 .rename_i i
  let⟨u,r,e,W1,W2⟩:=V2;let W3:r=[]:=W2;let W4:u=.int i:=W1;subst W3 W4 e;let⟨k1,ds,b',ws,ek,⟨h5,h6⟩,eb,e3,e4,i4,m4⟩:=oy (x:=.o k0) S2 (V1.ext E2) h3;cases ek
  let so:a=b':=by injection eb
  subst so;split at h6
  .rename_i j hj
   split at h6
   .rename_i d hd
    let⟨w,g1,g2⟩:=pM i4 hd;let oi:fq F2 (.lst (ds.eraseIdx j)) (.lst (ws.eraseIdx j)):=⟨_,Y,DA j i4⟩;calc⟨a,ws,i,j,w,Y,Y,e4,h5.1,h5.2,by rw[↑i4];calc hj,g1,?_⟩;exact k _ _ h6 _ _ _ _ ((E1.trans E2).trans (Ext.put S2 m4 e3)) (S2.put m4 e3 oi) g2
   .exact h6.elim
  .exact h6.elim
 .calc h3.elim⟩
def oA(f fo fi:WE):WS:=λK δ=>f δ λx δ1=>fo δ1 λo δ2=>fi δ2 λi δ3=>mE x δ3 λd δ4=>e_ o δ4 λk ds=>match i with
 |.p (.int j)=>match iu ↑ds j with
  |some m=>K.nx ⟨δ4.sl,δ4.mu.set k (U (.lst (ds.set m d)))⟩
  |none=>False
 |_=>False
theorem L8[b_]{f fo fi:WE}:∀D σ H,cS (oA f fo fi) D σ H->cO (tD f) (qD (tD fo) (tD fi) Cb) D σ H:=λD σ H h0_=>el7 h0_ λF ad δ K S q k =>⟨F,ad,δ,_,S,q,λx δ1 h1 v F1 aU H1 E1 S1 V1=>⟨F1,aU,δ1,_,S1,h1,λo δ2 h2 ov F2 b4 H2 E2 S2 V2=>⟨F2,b4,δ2,_,S2,h2,λi δ3 h3 iv F3 rS H3 E3 S3 V3=>by
 let⟨d,δ4,F4,h4,E4,S4,i4⟩:=uz S3 ((V1.ext E2).ext E3) h3;let⟨k0,ds,a,vs,rfl,h5,rfl,e1,e2,i1,m1⟩:=oy S4 ((V2.ext E3).ext E4) h4;split at h5
 .rename_i j
  split at h5
  .rename_i m hm
   let V3:iv=.int j:=V3;subst V3;let oi:fq F4 (.lst (ds.set m d)) (.lst (vs.set m v)):=⟨_,Y,Dz m i1 i4⟩;calc⟨a,vs,j,m,Y,Y,e2,by rw[↑i1];calc hm,?_⟩;exact k.nx _ h5 _ _ _ _ ((((E1.trans E2).trans E3).trans E4).trans (Ext.put S4 m1 e1)) (S4.put m1 e1 oi)
  .exact h5.elim
 .calc h5.elim⟩⟩⟩
end
end L2
namespace L2
open PySem PySem.Spec PyProof.Rows PySem.W
section
variable{n:Nat}{k:Nat->LK}{I:L->Prop}{cmp:Nat->Nat->(Bool->L->Prop)->L->Prop}
end
end L2
namespace L2
open PySem PySem.Spec PyProof.Rows
theorem DN{δ0:ax}{br:ax->Prop}{g:WG}{b:WS}{K:KS}(I:Nat->ax->Prop):∀(items:-D)(i:Nat)(δ:ax),I i δ →
  (∀j d δ (L:ax->Prop),items[j]?=U d->I (i+j) δ->(∀δ',I (i+j+1) δ'->L δ')->br δ/\g (.p d) δ fun δ1=>b {nx:=fun δ2=>L (δ0.trim δ2),ct:=fun δ2=>L (δ0.trim δ2),bk:=K.nx,rt:=K.rt} δ1) →
  (∀δ,I (i+↑items) δ->br δ/\K.nx δ)->j7 δ0 br g b K items δ
 |[],i,δ,h,_,fin=>fin δ h
 |d::r,i,δ,h,st,fin=>by
  unfold j7;calc st 0 d δ (fun δ'=>j7 δ0 br g b K r δ') Y h fun δ' hi=>?_;refine DN I r (i+1) _ hi (λj e δ L hj hI hL=>?_) fun δ hI=>?_
  .let e:i+1+j=i+(j+1):=by symm
   rw[e] at hI hL;exact st (j+1) _ δ L hj⁻¹ hI hL
  .exact fin δ (by rw[Cw];let e:i+1+↑r=i+(↑r+1):=by symm
                   rw[e] at hI;calc hI)
theorem oB{δ0:ax}{br:ax->Prop}{g:WG}{b:WS}{K:KS}{items:-D}{δ:ax}(I:Nat->ax->Prop)(h0:I 0 δ)
  (st:∀j d δ (L:ax->Prop),items[j]?=U d->I j δ->(∀δ',I (j+1) δ'->L δ')->br δ/\g (.p d) δ fun δ1=>b {nx:=fun δ2=>L (δ0.trim δ2),ct:=fun δ2=>L (δ0.trim δ2),bk:=K.nx,rt:=K.rt} δ1)
  (fin:∀δ,I ↑items δ->br δ/\K.nx δ):j7 δ0 br g b K items δ :=
 DN I items 0 δ h0 (λj d δ L hj hI hL=>by rw[UX] at hI hL;calc st j d δ L hj hI hL) fun δ hI=>by rw[UX] at hI;calc fin δ hI
def pU(δ0:ax)(br:ax->Prop)(g:WG)(t:WT)(f:WE)(d:D)(acc:-D)(δ:ax)(L:-D->ax->Prop):Prop :=
 br δ/\g (.p d) δ fun δ1=>t δ1 λb δ2=>if b=θ then f δ2 λx δ3=>mE x δ3 λe δ4=>↑acc<1000/\L (acc++[e]) (δ0.trim δ4) else L acc (δ0.trim δ2)
theorem DO{δ0:ax}{br:ax->Prop}{g:WG}{t:WT}{f:WE}{K:-D->ax->Prop}(I:Nat->-D->ax->Prop):∀(items:-D)(i:Nat)(acc:-D)(δ:ax),I i acc δ →
  (∀j d acc δ (L:-D->ax->Prop),items[j]?=U d->I (i+j) acc δ->(∀fI δ',I (i+j+1) fI δ'->L fI δ')->pU δ0 br g t f d acc δ L) →
  (∀acc δ,I (i+↑items) acc δ->br δ/\K acc δ)->gQ δ0 br g t f K items acc δ
 |[],i,acc,δ,h,_,fin=>fin acc δ h
 |d::r,i,acc,δ,h,st,fin=>by
  unfold gQ;calc st 0 d acc δ (λfI δ'=>gQ δ0 br g t f K r fI δ') Y h λfI δ' hi=>?_;refine DO I r (i+1) fI _ hi (λj e acc δ L hj hI hL=>?_) λacc δ hI=>?_
  .let e:i+1+j=i+(j+1):=by symm
   rw[e] at hI hL;exact st (j+1) _ acc δ L hj⁻¹ hI hL
  .exact fin acc δ (by rw[Cw];let e:i+1+↑r=i+(↑r+1):=by symm
                       rw[e] at hI;calc hI)
theorem su{δ0:ax}{br:ax->Prop}{g:WG}{t:WT}{f:WE}{K:-D->ax->Prop}{items:-D}{δ:ax}(I:Nat->-D->ax->Prop)(h0:I 0 [] δ)
  (st:∀j d acc δ (L:-D->ax->Prop),items[j]?=U d->I j acc δ->(∀fI δ',I (j+1) fI δ'->L fI δ')->pU δ0 br g t f d acc δ L)
  (fin:∀acc δ,I ↑items acc δ->br δ/\K acc δ):gQ δ0 br g t f K items [] δ :=
 DO I items 0 [] δ h0 (λj d acc δ L hj hI hL=>by rw[UX] at hI hL;calc st j d acc δ L hj hI hL) λacc δ hI=>by rw[UX] at hI;calc fin acc δ hI
theorem DP{δ0:ax}{br:ax->Prop}{g:WG}{t:WT}{f:WE}{K:-D->ax->Prop}{items:-D}(p:D->Bool)(fn:D->D)(hl:↑items<=1000)(hc:br δ0)
  (st:∀d∈items,∀acc (L:-D->ax->Prop),↑acc<1000->(p d=θ->L (acc++[fn d]) δ0)->(p d=ι->L acc δ0)->pU δ0 br g t f d acc δ0 L)
  (fin:K ((items.filter p).map fn) δ0):gQ δ0 br g t f K items [] δ0:=by
 refine su (λi acc δ=>δ=δ0/\acc=((items.take i).filter p).map fn) ⟨Y,Y⟩ ?_ ?_
 .ext j d acc δ L hj ⟨rfl,rfl⟩ hL
  let dF:=(kP.mp hj).1;let hm:d∈items:=T2 hj
  let hn:↑(((items.take j).filter p).map fn)<1000:=by
   rw[pj];let:=List.length_filter_le p (items.take j);rw[TB] at this;symm
  let e:items.take (j+1)=items.take j++[d]:=by rw[WB,hj];rfl
  refine st d hm _ L hn (λq=>hL _ _ ⟨Y,?_⟩) (λq=>hL _ _ ⟨Y,?_⟩)
  .rw[e,Zi,TK];simp[q2V,q]
  .rw[e,Zi,TK];simp[q2V,q]
 .ext acc δ ⟨rfl,rfl⟩
  rw[T_ (ug _)];calc⟨hc,fin⟩
theorem pV{δ0:ax}{br:ax->Prop}{g:WG}{t:WT}{f:WE}{K:-D->ax->Prop}{items:-D}(fn:D->D)(hl:↑items<=1000)(hc:br δ0)
  (st:∀d∈items,∀acc (L:-D->ax->Prop),↑acc<1000->L (acc++[fn d]) δ0->pU δ0 br g t f d acc δ0 L)
  (fin:K (items.map fn) δ0):gQ δ0 br g t f K items [] δ0 :=
 DP (λ_=>θ) fn hl hc (λd hd acc L ha h _=>st d hd acc L ha (h Y)) (by rw[List.filter_eq_self.mpr λ_ _=>Y];calc fin)
end L2
namespace LJ
open PySem L2
theorem L9:bootBuiltins "range" = U (.type "range"):=by decide +kernel
theorem L_:bootBuiltins "min" = U (.builtin "min"):=by decide +kernel
structure BT(mg:J->Option B):Prop where
 len:mg "len" = Z
 range:mg "range" = Z
 list:mg "list" = Z
 tuple:mg "tuple" = Z
 set:mg "set" = Z
 sorted:mg "sorted" = Z
 min:mg "min" = Z
 max:mg "max" = Z
 sum:mg "sum" = Z
 all:mg "all" = Z
 any:mg "any" = Z
 enumerate:mg "enumerate" = Z
 zip:mg "zip" = Z
 isinstance:mg "isinstance" = Z
 int:mg "int" = Z
 bool:mg "bool" = Z
 str:mg "str" = Z
 repr:mg "repr" = Z
end LJ
namespace L2
open PySem PySem.Spec PyProof.Rows
variable[aD]
section
variable{X:Cx}{fa:WA}{pos:y}
theorem DQ{F H:Hp}{ad:-O}{δ:ax}{σ:St}{p:O}(S:SR F ad δ σ H):dJ F (ad++[p]) (.o ↑δ.mu) (.ref p) :=
 ⟨p,by rw[<-S.cx,Tn (ug _),Uy];rfl,Y⟩
def yD(fa:WA):WE:=fun δ K=>fa δ λxs δ1=>match xs with
 |[.p (.int j)]=>(0<=j/\j<=1000)/\K (.o ↑δ1.mu) ⟨δ1.sl,δ1.mu++[U (.lst (cE 0 j.toNat))]⟩
 |_=>False
theorem Ma{a:M}{p1 p2 q1 q2:y}(hc:X.calm=θ)(yE:Gl X "list")(hl:X.mg "list" = Z)(yF:bootBuiltins "list" = U (.type "list"))(yG:Gl X "range")(hr:X.mg "range" = Z)(yH:bootBuiltins "range" = U (.type "range"))(ha:JA X [a] (bU fa))
  (he:starEach [a] X.env=[(ι,eval a X.env)]:=by rfl) (yI:starEach [.Call (.Name "range" p2) [a] [] q2] X.env=[(ι,eval (.Call (.Name "range" p2) [a] [] q2) X.env)]:=by rfl):JE X (.Call (.Name "list" p1) [.Call (.Name "range" p2) [a] [] q2] [] q1) (tD (yD fa)) :=
 (qP (KW hc) yE hl yF (kX (qP KU yG hr yH ha (he:=he)) bg) (he:=yI)).weak fun σ H Q h0_=>el7 h0_ λF ad δ K S q k =>⟨F,ad,δ,_,S,q,λxs δ1 h1 vs F1 aU H1 E1 S1 V1=>by
  split at h1
  .rename_i j
   let⟨v,r,e,W1,W2⟩:=V1;let W2:r=[]:=W2;let W1:v=.int j:=W1;subst W2 W1 e;calc⟨j,Y,λrr Mb=>⟨rr,j.toNat,Y,by rw[bE,Int.toNat_of_nonneg h1.1.1],⋯,λl hl=>?_⟩⟩;let s1:aw H1 (upd H1 rr (.rng 0 j)):=cy Mb;let S2:=S1.al s1;let E2:=Ext.al S1 s1;let oi:fq (Nw F1 H1 (upd H1 rr (.rng 0 j))) (.lst (cE 0 j.toNat)) (.lst ((gL j.toNat).map V.int)):=⟨_,Y,by rw[DK];calc yx⟩;exact k _ _ h1.2 _ _ _ _ ((E1.trans E2).trans (Ext.own S2 hl)) (S2.own hl oi) (DQ S2)
  .calc h1.elim⟩
def yJ(f g:WE):WE:=fun δ K=>f δ λx δ1=>g δ1 λy δ2=>gb x δ2 λd=>gb y δ2 λe=>match d,e with
 |.lst a,.lst b=>↑a+↑b<=1000/\K (.o ↑δ2.mu) ⟨δ2.sl,δ2.mu++[U (.lst (a++b))]⟩
 |_,_=>False
theorem Mc{a b:M}{f g:WE}(ha:JE X a (tD f))(hb:JE X b (tD g)):JE X (.BinOp a .Add b pos) (tD (yJ f g)) :=
 (m_ ue ha hb).weak fun σ H Q h0_=>el7 h0_ λF ad δ K S q k =>⟨F,ad,δ,_,S,q,λx δ1 h1 v1 F1 aU H1 E1 S1 V1=>⟨F1,aU,δ1,_,S1,h1,λy δ2 h2 v2 F2 b4 H2 E2 S2 V2=>by
  let⟨d,h3,rd⟩:=eW S2 (V1.ext E2) h2;let⟨e,h4,re⟩:=eW S2 V2 h3;split at h4
  .rename_i as bs
   let⟨a,us,rfl,g1,g2⟩:=rd;let⟨b,ws,rfl,g3,g4⟩:=re;let oi:fq F2 (.lst (as++bs)) (.lst (us++ws)):=⟨_,Y,pN g2 g4⟩;exact⟨a,b,us,ws,Y,Y,g1,g3,jq (by rw[↑g2,↑g4];calc h4.1),λp hp=>k _ _ h4.2 _ _ _ _ ((E1.trans E2).trans (Ext.own S2 hp)) (S2.own hp oi) (DQ S2)⟩
  .calc h4.elim⟩⟩
theorem Md[b_]{st:o}:JS X st (cS n5):=⟨λpins s D σ H I q=>by let⟨F,ad,δ,K,S,q,k⟩:=q;calc q.elim⟩
end
end L2
namespace LJS
open PySem PySem.SetTable PyProof.Rows
section
variable{prog:q}{w:I}{A:l}{S:O}{ks:-Int}
end
end LJS
namespace L2
open PySem PySem.Spec PyProof.Rows
section
variable{X:Cx}
end
end L2
namespace LJS
open PySem PySem.SetTable PyProof.Rows
noncomputable def fc(m:Nat)(p:Probe):Probe :=
 if p.more>0 then{p with j:=p.j+1,more:=p.more-1} else
 {p with j:=(leap m p.i p.perturb).1,more:=runEnd m (leap m p.i p.perturb).1-(leap m p.i p.perturb).1,i:=(leap m p.i p.perturb).1,perturb:=(leap m p.i p.perturb).2}
theorem DR(t:SetTable)(p:Probe):t.advance p=fc t.mask p:=rfl
noncomputable def bG(m:Nat):Nat->Probe->Probe
 |0,p=>p
 |k+1,p=>bG m k (fc m p)
theorem uS(m:Nat):∀(a b:Nat)(p:Probe),bG m (a+b) p=bG m b (bG m a p)
 |0,b,p=>by rw[UX];rfl
 |a+1,b,p=>by rw[show a+1+b=a+b+1 by symm];calc uS m a b (fc m p)
noncomputable def stM(m i q:Nat):Probe:=⟨i,runEnd m i-i,i,q,Z⟩
noncomputable def startM(m:Nat)(h:Int):Probe:=stM m (bits h%(m+1)) (bits h)
theorem yK(m:Nat):∀(l:Nat)(p:Probe),l<=p.more->bG m l p={p with j:=p.j+l,more:=p.more-l}
 |0,p,_=>Y
 |l+1,p,h=>by
  show bG m l (fc m p)=_;let e:fc m p={p with j:=p.j+1,more:=p.more-1}:=by unfold fc;rw[Tw ⋯]
  rw[e,yK m l _ (by show l<=p.more-1;symm)];congr 1<;>(dsimp only;symm)
theorem DT(m i q:Nat):bG m (runEnd m i-i+1) (stM m i q)=stM m (leap m i q).1 (leap m i q).2:=by
 rw[uS m (runEnd m i-i) 1,yK m (runEnd m i-i) (stM m i q) (ug _)];show fc m _=_;unfold fc;rw[To (by show ¬ (runEnd m i-i-(runEnd m i-i)>0);symm)];rfl
theorem DU{m i:Nat}(h:i<=m):runEnd m i<=m/\i<=runEnd m i:=by unfold runEnd;split<;>symm
def mJ(m:Nat)(p:Probe):Prop:=p.j+p.more<=m
theorem Me{m:Nat}{p:Probe}(h:mJ m p):mJ m (fc m p):=by
 unfold fc mJ;split
 .rename_i c;let:p.j+p.more<=m:=h;dsimp only;symm
 .let:=DU (A_ m p.i p.perturb)
  dsimp only;symm
theorem DW{m:Nat}:∀(k:Nat){p:Probe},mJ m p->mJ m (bG m k p)
 |0,_,h=>h
 |k+1,_,h=>DW k (Me h)
theorem Mf(m:Nat)(h:Int):mJ m (startM m h):=by
 let h0:bits h%(m+1)<=m:=VQ (q0j _ (Wn _));let:=DU h0;unfold startM stM mJ;dsimp only;symm
theorem DX(m:Nat)(h:Int)(k:Nat):(bG m k (startM m h)).j<=m:=by
 let:=DW k (Mf m h);unfold mJ at this;symm
def mK(m:Nat)(uT:Nat->Prop)(h:Int)(j:Nat):Prop:=∃k,k<10*turns m/\(bG m k (startM m h)).j=j/\∀l,l<k->uT (bG m l (startM m h)).j
theorem mK.mono{m:Nat}{uT sv:Nat->Prop}{h:Int}{j:Nat}(r:mK m uT h j)(k:∀x,x<=m->uT x->sv x):mK m sv h j:=by
 let⟨n,h1,h2,h3⟩:=r;calc⟨n,h1,h2,λl hl=>k _ (DX m h l) (h3 l hl)⟩
theorem DY{m:Nat}{owner:Array (Option Nat)}:∀(F i q j:Nat),UJ m owner F i q=U j->∃k,k<10*F/\(bG m k (stM m i q)).j=j/\∀l,l<k->(owner.getD (bG m l (stM m i q)).j (U 0)).isSome=θ
 |0,i,q,j,h=>by unfold UJ at h;cases h
 |F+1,i,q,j,h=>by
  rw[vP] at h;let r9:=Bf m i;let ri:i<=runEnd m i:=by unfold runEnd;split<;>symm
  let jA:∀l,l<=runEnd m i-i->(bG m l (stM m i q)).j=i+l:=λl hl=>by rw[yK m l _ hl];rfl
  split at h
  .rename_i k0 hk
   cases h
   let h1:=Yg hk;let h2:=T6.mp (List.mem_of_find?_eq_some hk);calc⟨k0,⋯,jA k0 ⋯,λl hl=>?_⟩;rw[jA l ⋯]
   let h3:∀l,l<k0->¬ (owner.getD (i+l) (U 0)).isNone=θ:=by
    ext l hl hn;let⟨as,bs,e,hb⟩:=List.find?_eq_some_iff_append.mp hk |>.2
    let hlen:↑as=k0:=by
     let:=congrArg (λx=>x[↑as]?) e;simp at this
     let h5:↑as<runEnd m i+1-i:=by
      let:=congrArg Z1 e;simp at this;symm
     rw[U5 h5] at this;exact TU this
    let:l∈as:=by
     let h6:=congrArg (λx=>x[l]?) e;erw[R4 (show l<↑as by symm)] at h6;rw[U5 ⋯] at h6;exact T2 h6.symm
    let:=hb l this;rw[hn] at this;exact absurd this (by decide)
   let:=h3 l hl
   cases q:owner.getD (i+l) (U 0) with
   |none=>rw[q] at this;exact absurd Y this
   |some _=>rfl
  .rename_i hk
   let h1:=Y6.mp hk;let⟨k,Sa,Mg,Mh⟩:=DY F _ _ j h;refine⟨runEnd m i-i+1+k,⋯,by rw[uS,DT];calc Mg,λl hl=>?_⟩
   by_cases c:l<=runEnd m i-i
   .rw[jA l c]
    let:=h1 l (T6.mpr ⋯)
    cases q:owner.getD (i+l) (U 0) with
    |none=>rw[q] at this;exact absurd Y this
    |some _=>rfl
   .let:=Mh (l-(runEnd m i-i+1)) ⋯
    rw[show l=runEnd m i-i+1+(l-(runEnd m i-i+1)) by symm,uS,DT];calc this
section
variable{t:SetTable}{f:Nat->Int}{h:Int}
theorem DZ(u:Up t.place){i:Nat}(hi:i<t.place.size):t.slot t.place[i]=.live i:=by
 let⟨h0,h1,h2⟩:=tR u t.place[i];let a:¬ i<below t.place t.place[i]:=λz=>by let:=h1 i hi z;symm
 let b:¬ below t.place t.place[i]<i:=λz=>by
  let:=h2 (below t.place t.place[i]) ⋯ (ug _);let:=u.lt z hi;symm
 let eb:below t.place t.place[i]=i:=by symm
 unfold slot;rw[eb];let:(t.place[i]?==U t.place[i])=θ:=by rw[My hi];simp
 erw[this,Ve]
theorem D0(hd:t.dummies = #[]):∀(F:Nat)(p:Probe)(j:Nat)(d:Option Nat),VM t f h F p=U (.empty j d)->∃k,k<F/\(bG t.mask k p).j=j/\∀l,l<k->(bG t.mask l p).j∈t.place.toList
 |0,p,j,d,e=>by unfold VM at e;cases e
 |F+1,p,j,d,e=>by
  rw[mT] at e;rcases qj hd p.j with q|⟨i,q,hi,hm⟩
  .rw[q] at e
   cases e
   exact⟨0,Wn _,Y,λl hl=>absurd hl (q0c _)⟩
  .rw[q] at e
   dsimp only at e;split at e
   .cases e
   .let⟨k,h1,h2,h3⟩:=D0 hd F _ j d e
    rw[DR] at h2 h3;refine⟨k+1,⋯,h2,λl hl=>?_⟩
    cases l with
    |zero=>exact hm
    |succ l=>calc h3 l ⋯
theorem D1(hd:t.dummies = #[])(u:Up t.place):∀(k F:Nat)(p:Probe)(i0:Nat),k<F->t.slot (bG t.mask k p).j=.live i0->f i0=h->(∀l,l<k->(bG t.mask l p).j∈t.place.toList)->∃j i nx,VM t f h F p=U (.candidate j i nx)/\f i=h/\i<t.place.size
 |k,0,p,i0,hk,_,_,_=>absurd hk (q0c _)
 |0,F+1,p,i0,_,hs,hf,_=>by
  rw[mT,show t.slot p.j=.live i0 from hs];dsimp only;rw[Tw (by rw[hf];simp)];calc⟨_,_,_,Y,hf,?_⟩;rcases qj hd p.j with q|⟨i,q,hi,_⟩
  .rw[show t.slot p.j=.live i0 from hs] at q;cases q
  .rw[show t.slot p.j=.live i0 from hs] at q;cases q;exact hi
 |k+1,F+1,p,i0,hk,hs,hf,ho=>by
  let hm:=ho 0 (Wn _);let⟨i,hi,ei⟩:=UQ.mp hm;let eM:i<t.place.size:=by rw[<-Jq];exact hi
  let vV:t.place[i]=p.j:=by simpa[bG] using ei
  let sl:=DZ u eM;rw[vV] at sl;rw[mT,sl];dsimp only
  by_cases c:f i=h
  .rw[Tw (by rw[c];simp)]
   exact⟨_,_,_,Y,c,eM⟩
  .rw[To c⁻¹,DR]
   calc D1 hd u k F _ i0 ⋯ hs hf λl hl=>ho (l+1) ⋯
end
def oC(owner:Array (Option Nat))(j:Nat):Prop:=∃k,owner[j]?=U (U k)
structure pW(m:Nat)(hs:-Int)(owner:Array (Option Nat))(k:Nat):Prop where
 ow:Ow m owner k
 pX:∀(j i:Nat),owner[j]?=U (U i)->∃h,hs[i]?=U h/\mK m (oC owner) h j
theorem D2{owner:Array (Option Nat)}{j k x:Nat}(h:oC owner x):oC (owner.setIfInBounds j (U k)) x:=by
 let⟨i,e⟩:=h;let hx:=(Ud.mp e).1
 by_cases c:j=x
 .subst c
  exact⟨k,by rw[VO];simp[hx]⟩
 .calc⟨i,by rw[VO];simp[c];calc e⟩
theorem Mi{m:Nat}{hs:-Int}{owner:Array (Option Nat)}{k:Nat}(hm:Mk m)(O:pW m hs owner k)(hk:k<=m){h:Int}(hh:hs[k]?=U h):
  ∃j,UJ m owner (turns m) (bits h%(m+1)) (bits h)=U j/\pW m hs (owner.setIfInBounds j (U k)) (k+1):=by
 let⟨j,ej,O'⟩:=G7 hm O.ow hk h;calc⟨j,ej,O',λx i e=>?_⟩;rw[VO] at e
 by_cases c:j=x
 .subst c
  let Mj:j<owner.size:=by
   by_cases z:j<owner.size
   .exact z
   .simp[z] at e
  simp[Mj] at e;subst e;calc⟨h,hh,?_⟩;let⟨n,n1,n2,n3⟩:=DY _ _ _ _ ej;calc⟨n,n1,n2,λl hl=>D2 ?_⟩;let gg:=n3 l hl;let le:=DX m h l;let dF:(bG m l (startM m h)).j<owner.size:=by rw[O.ow.size];symm
  let sx:(owner.getD (bG m l (startM m h)).j (U 0)).isSome=θ:=gg;rw[show owner.getD (bG m l (startM m h)).j (U 0)=owner[(bG m l (startM m h)).j] by simp[q0D,dF]] at sx;let⟨v,hv⟩:=Vr.mp sx;exact⟨v,by rw[My dF,hv]⟩
 .simp[c] at e
  let⟨h',e1,e2⟩:=O.pX x i e;calc⟨h',e1,e2.mono λy _ hy=>D2 hy⟩
theorem D3{m:Nat}(hm:Mk m){all:-Int}:∀(hs:-Int)(owner:Array (Option Nat))(k:Nat),pW m all owner k->all.drop k=hs->k+↑hs<=m+1 →
  ∃aW,(hs.foldl (init:=U (owner,k)) λacc h=>do
   let(owner,k) <- acc
   let j <- UJ m owner (turns m) (bits h%(m+1)) (bits h)
   pure (owner.setIfInBounds j (U k),k+1))=U (aW,k+↑hs)/\pW m all aW (k+↑hs)
 |[],owner,k,O,_,_=>⟨owner,Y,O⟩
 |h::hs,owner,k,O,hd,hl=>by
  rw[Cw] at hl ⊢
  let hk:k<all.length:=by
   let:=congrArg Z1 hd;rw[Uh,Cw] at this;symm
  rw[Ug hk] at hd;let hh:all[k]?=U h:=by rw[nH hk];exact congrArg U (Va hd).1
  let⟨j,ej,O'⟩:=Mi hm O ⋯ hh;let⟨o2,e2,O2⟩:=D3 hm hs _ (k+1) O' (Va hd).2 ⋯;calc⟨o2,?_,by rw[show k+(↑hs+1)=k+1+↑hs by symm];calc O2⟩;rw[Yi,show k+(↑hs+1)=k+1+↑hs by symm,<-e2];congr 1;show(do let j <- UJ m owner (turns m) (bits h%(m+1)) (bits h);pure (owner.setIfInBounds j (U k),k+1))=_;rw[ej];rfl
theorem Ml(m:Nat)(hs:-Int):pW m hs (Yh (m+1) Z) 0:=by
 calc⟨Bj m,λj i e=>?_⟩;rw[Array.getElem?_replicate] at e;split at e<;>cases e
theorem Mm{m:Nat}(hm:Mk m)(hs:Array Int)(hz:hs.size<=m+1):∃owner,layClean m hs=U owner/\pW m hs.toList owner hs.size:=by
 let⟨o,e,O⟩:=D3 hm hs.toList _ 0 (Ml m hs.toList) Y (by rw[Jq];symm);rw[UX,Jq] at O;calc⟨o,?_,O⟩;unfold layClean;rw[<-Y9,e];rfl
theorem Mn{m:Nat}(hm:Mk m)(t:SetTable)(hs:Array Int)(wanted:Nat)(hw:sizeAbove wanted-1=m)(hz:hs.size<=m+1):
  ∃t' order,t.relaid hs wanted=U (t',order)/\t'.mask=m/\t'.dummies = #[]/\t'.place.size=hs.size/\Up t'.place/\order.size=hs.size/\order.toList.Perm (TY hs.size) ∧
   ∀(i j k:Nat),t'.place[i]?=U j->order[i]?=U k->∃h,hs[k]?=U h/\mK m (· ∈ t'.place.toList) h j:=by
 let⟨owner,e,O⟩:=Mm hm hs hz;let⟨aW,e',_,OP⟩:=Hk hm hs hz;let:aW=owner:=TU (e'.symm.trans e);subst this;refine⟨{mask:=m,place:=((g5 m aW).map (·.1)).toArray,dummies := #[],finger:=t.finger,led:=t.led,moves:=t.movedTo m,plain:=t.plain},((g5 m aW).map (·.2)).toArray,?_,Y,Y,?_,Hf m aW,?_,?_,λi j k h1 h2=>?_⟩
 .unfold relaid laid
  rw[hw,e];rfl
 .rw[xu,pj,Bk O.ow]
 .rw[xu,pj,Bk O.ow]
 .show ((g5 m aW).map (·.2)).Perm _
  rw[Hl O.ow.size];exact OP
 .let h1:((g5 m aW).map (·.1))[i]?=U j:=by simpa using h1
  let h2:((g5 m aW).map (·.2))[i]?=U k:=by simpa using h2
  rw[R1] at h1 h2;let⟨z,D4,rfl⟩:=Tq.mp h1;let⟨z',D5,rfl⟩:=Tq.mp h2;rw[D4] at D5;cases D5;let zm:=T2 D4
  let own:∀z∈g5 m aW,aW[z.1]?=U (U z.2):=λz hz=>by
   unfold g5 at hz;let⟨j',Mo,Mp⟩:=Vg.mp hz;let⟨k',uU,rfl⟩:=Tq.mp Mp;let:j'<aW.size:=by rw[O.ow.size];exact T6.mp Mo
   rw[show aW.getD j' Z=aW[j'] by simp[q0D,this]] at uU;rw[My this,uU]
  let⟨h,e1,e2⟩:=O.pX _ _ (own z zm);calc⟨h,by rw[<-TM];calc e1,e2.mono λx hx Mq=>?_⟩;let⟨kx,D6⟩:=Mq;show x∈(g5 m aW).map (·.1);calc Tz.mpr ⟨(x,kx),?_,Y⟩;unfold g5;calc Vg.mpr ⟨x,T6.mpr ⋯,?_⟩;let Mr:=(Ud.mp D6).1;rw[show aW.getD x Z=aW[x] by simp[q0D,Mr],(Ud.mp D6).2];rfl
structure lr(hk:Nat->Int)(ad:Nat->O)(t:SetTable)(es:Array (Int×B))(js:-Nat):Prop where
 P:eS t es (js.map hk)
 up:Up t.place
 oD:(js.map hk).Nodup
 el:∀e∈es.toList,∃j∈js,e=(hk j,TX (ad j))
 all:∀j∈js,∃e∈es.toList,e.1=hk j
 pX:∀(i:Nat)(e:Int×B)(j:Nat),es[i]?=U e->t.place[i]?=U j->mK t.mask (· ∈ t.place.toList) e.1 j
def fJ(hk:Nat->Int)(ad:Nat->O)(h:R)(S:O)(js:-Nat):Prop:=∃o es ep t,h.get? S=U o/\o.ExactSet/\o.data=.set es ep t/\lr hk ad t es js
theorem D7{hk:Nat->Int}{ad:Nat->O}{h h':R}{S:O}{js:-Nat}(x:fJ hk ad h S js)(k:∀o,h.get? S=U o->h'.get? S=U o):fJ hk ad h' S js:=by
 let⟨o,es,ep,t,ho,r⟩:=x;calc⟨o,es,ep,t,k o ho,r⟩
theorem D8{α:Type}{xs:Array α}{p:Nat}{x:α}(hp:p<=xs.size)(i:Nat):(insertAt xs p x)[i]?=if i<p then xs[i]? else if i=p then U x else xs[i-1]?:=by
 let e:(insertAt xs p x).toList=xs.toList.take p++x::xs.toList.drop p:=by
  unfold insertAt;erw[YL,Wq,Yu,Xz,Xh,Zn,U0,List.singleton_append];rw[T_ (l:=xs.toList.drop p) (by rw[Uh,Jq];calc ug _)]
 rw[<-TM,e];let hl:↑(xs.toList.take p)=p:=by rw[TB,Jq];symm
 by_cases c:i<p
 .rw[Tw c,R4 ⋯,Ub c,TM]
 .rw[To c,Tn ⋯,hl]
  by_cases c2:i=p
  .rw[Tw c2,c2,Uy];rfl
  .rw[To c2]
   let⟨d,rfl⟩:∃d,i=p+1+d:=⟨i-p-1,⋯⟩;rw[show p+1+d-p=d+1 by symm,Wk,List.getElem?_drop,TM];congr 1;symm
theorem Ms{α:Type}{es:Array α}{order:Array Nat}(h:∀k∈order.toList,k<es.size)(i:Nat):(order.filterMap (es[·]?))[i]?=(order[i]?).bind λk=>es[k]?:=by
 let:∀l:-Nat,(∀k∈l,k<es.size)->∀i:Nat,(l.filterMap λk=>es[k]?)[i]?=(l[i]?).bind λk=>es[k]?:=by
  ext l
  induction l with
  |nil=>ext _ i;simp
  |cons k r ih =>
   ext hk i;let uV:=hk k Cu;rw[U6];rw[My uV];dsimp only
   cases i with
   |zero=>simp[My uV]
   |succ i=>simpa using ih (λk' hZ=>hk k' (Jp _ hZ)) i
 let e:=this order.toList h i;rw[<-TM,VG,e,TM]
section
variable{hk:Nat->Int}{ad:Nat->O}{t:SetTable}{es:Array (Int×B)}{js:-Nat}
theorem lr.found(T:lr hk ad t es js){h:Int}(hm:h∈js.map hk):∃j i nx,t.probe (λi=>(es[i]?.map (·.1)).getD 0) h (t.probeStart h)=U (.candidate j i nx)/\∃e,es[i]?=U e/\e.1=h:=by
 let⟨j,hj,rfl⟩:=Tz.mp hm;let⟨e,he,e1⟩:=T.all j hj;let⟨i,hi,ei⟩:=UQ.mp he;let eM:i<es.size:=by rw[<-Jq];exact hi
 let ee:es[i]?=U e:=by rw[My eM];exact congrArg U ei⁻¹
 let hp:i<t.place.size:=by rw[T.P.l7];exact eM
 let r:=T.pX i e _ ee (My hp);rw[e1] at r;let⟨k,k1,k2,k3⟩:=r;let sl:=DZ T.up hp;let⟨j',i',nx,h1,h2,h3⟩:=D1 (t:=t) (f:=λi=>(es[i]?.map (·.1)).getD 0) (h:=hk j) T.P.ql T.up k (10*turns t.mask) (startM t.mask (hk j)) i k1 (by rw[k2];calc sl) (by rw[ee];calc e1) k3;calc⟨j',i',nx,h1,?_⟩;let dF:i'<es.size:=by rw[<-T.P.l7];exact h3
 calc⟨es[i'],My dF,by let:=h2;rw[My dF] at this;calc this⟩
end
section
variable{prog:q}{w:I}{A:l}{E:aT}{s:L}{ad:Nat->O}{ks:Nat->-Int}{js:-Nat}{S:O}
noncomputable abbrev aC(prog:q)(w:I)(ks:Nat->-Int)(j:Nat):Int:=hT prog w (ks j)
theorem D9{k:-Int}{a:O}{Q:Bool->L->Prop}(hk:IsTupleKey (intKind prog w) s.heap k a)(h:Q ι s):G (ς prog w) A (ofAClassStatement 8 (.ref a)) Q E s:=by
 let hT:=hk.typeIs;let⟨o,ah,n,ho,_,hd,hi⟩:=hk;show G _ _ (ofAClassStatement (7+1) (.ref a)) _ _ _;unfold ofAClassStatement;calc kb (Xe hT ?_);dsimp only;calc kb ?_;calc qY ?_;erw[Ue,Jr,Um];calc kb (U1 ho hd ?_);dsimp only;calc kb ?_;show G _ _ (forIn ah _ _) _ _ s;rw[<-Y_];refine WQ _ (λrest r s'=>s'=s/\r=(Z,q3z)/\∀v∈rest,∃i t,v=WR i t) _ ?_ ?_ _ _ ⟨Y,Y,Bm hi⟩
 .ext v rest r s' ⟨rfl,rfl,eT⟩
  let⟨i,t,rfl⟩:=eT v Cu;let e:ofAClassStatement 7 (.int i t)=pure ι:=by unfold ofAClassStatement;rfl
  rw[e];calc kb (qY ?_);erw[Jr,Um];exact qY ⟨Y,Y,λu hu=>eT u (Jp _ hu)⟩
 .ext r s' ⟨rfl,rfl,_⟩
  calc qY h
theorem Mt{k:-Int}{a:O}{Q:Bool->L->Prop}{stored:-B}(hx:IsTupleKey (intKind prog w) s.heap k a)(hy:∀y∈stored,∃k' b,y=TX b/\IsTupleKey (intKind prog w) s.heap k' b)(h:Q ι s):G (ς prog w) A (searchCouldBeSeen (.ref a) stored) Q E s:=by
 unfold searchCouldBeSeen;calc kb ?_;refine WQ _ (λrest r s'=>s'=s/\r=(Z,q3z)/\∀y∈rest,∃k' b,y=TX b/\IsTupleKey (intKind prog w) s.heap k' b) _ ?_ ?_ _ _ ⟨Y,Y,hy⟩
 .ext v rest r s' ⟨rfl,rfl,eT⟩
  let⟨k',b,rfl,hb⟩:=eT v Cu;let mL:∀y∈rest,∃k' b,y=TX b/\IsTupleKey (intKind prog w) s'.heap k' b:=λu hu=>eT u (Jp _ hu);dsimp only;calc q0d (λ_=>qY ⟨Y,Y,mL⟩) (λ_=>?_);calc kb (Yp hx ?_);erw[Ue,Jr,Um];calc kb (Yp hb ?_);erw[Ue,Jr,Um];calc kb (D9 hx ?_);erw[Jr,Um];calc kb (D9 hb ?_);erw[Jr,Um];exact qY ⟨Y,Y,mL⟩
 .ext r s' ⟨rfl,rfl,_⟩
  calc qY h
theorem Mu{i:Nat}{o:f}{es:Array (Int×B)}{ep:Nat}{t:SetTable}{Q:SetFound->L->Prop}(ho:s.heap.get? S=U o)(hd:o.data=.set es ep t)(T:lr (aC prog w ks) ad t es js)(hu:A.units<cLine)
  (keys:∀j∈i::js,IsTupleKey (intKind prog w) s.heap (ks j) (ad j)) (inj:∀j∈js,aC prog w ks j=aC prog w ks i->ks j=ks i) (hm:aC prog w ks i∈js.map (aC prog w ks))
  (k:Q (.there Z) s):G (ς prog w) A (setSearch S (.ref (ad i)) (aC prog w ks i) θ) Q E s:=by
 unfold setSearch;show G _ _ (setSearchFrom S (.ref (ad i)) (aC prog w ks i) θ (99999+1) Z) _ _ _;unfold setSearchFrom;calc kb (Vq ho hd T.P.fits ?_);dsimp only;rw[T.P.qo];simp only[Jr,↓reduceIte];let⟨j',i',nx,ej,e,ee,eh⟩:=T.found hm;erw[WV];generalize hP:t.probe _ (aC prog w ks i) (t.probeStart (aC prog w ks i))=P;let eP:P=U (.candidate j' i' nx):=hP.symm.trans ej;rw[eP];dsimp only;let em:e∈es.toList:=T2 (by rw[TM];calc ee);let⟨j,hj,rfl⟩:=T.el e em;let ek:=inj j hj eh;let kx:=keys i Cu;let ky:=keys j (Jp _ hj)
 let tail:G (ς prog w) A (do
   let U (_,y):=es[i']?|unsupported "internal:set-entry"
   let equal <- holding [y] (eqBool y (.ref (ad i)))
   let(qu,_,t') <- setState S
   if θ&&equal then return q0E Z
   let U same:=t'.sameMemory t.moves t.mask|unsupported "set.changed-during-lookup:is-the-new-block-at-the-old-address"
   let sy <- match(if same then t'.slot j' else .empty) with
    |.live i'=>match qu[i']? with
     |some (_,y')=>do pure (if <- isSame y' y then U i' else Z)
     |none=>pure Z
    |_=>pure Z
   match sy with
   |none=>rule "set.search.anew";setSearchFrom S (.ref (ad i)) (aC prog w ks i) θ 99999 Z
   |some i'=>if equal then return q0E (U i') else setSearchFrom S (.ref (ad i)) (aC prog w ks i) θ 99999 (U nx)) Q E s:=by
  rw[ee];dsimp only;calc kb (Ua (wpAny_eqBool_tuple hu ky kx ?_));calc kb (Vq ho hd T.P.fits ?_);dsimp only;rw[Tt ek];exact qY k
 calc q0d (λ_=>?_) (λ_=>tail);refine kb (Mt kx (λy hy=>?_) ?_)
 .let⟨z,hz,rfl⟩:=Tz.mp hy
  let Mv:z∈es.toList:=by
   let:=WY.mp hz;exact WY.mpr (Array.mem_filter.mp this).1
  let⟨q,hq,rfl⟩:=T.el z Mv;exact⟨_,_,Y,keys q (Jp _ hq)⟩
 .calc tail
theorem Mw{i:Nat}{Q:Bool->L->Prop}(hS:fJ (aC prog w ks) ad s.heap S js)(hl:↑js<60)(hu:A.units<cLine)
  (keys:∀j∈i::js,IsTupleKey (intKind prog w) s.heap (ks j) (ad j)) (inj:∀j∈js,aC prog w ks j=aC prog w ks i->ks j=ks i)
  (k:∀(b:Bool) h',Ws S s.heap h'->fJ (aC prog w ks) ad h' S (if aC prog w ks i∈js.map (aC prog w ks) then js else js++[i])->Q b {s with heap:=h'}) :
  G (ς prog w) A (setAddHashed S (.ref (ad i)) (aC prog w ks i)) Q E s:=by
 let⟨o,es,ep,t,ho,hex,hd,T⟩:=hS;unfold setAddHashed;calc Ua ?_;show G _ _ (setAddHashedIn S (.ref (ad i)) (aC prog w ks i) (99999+1)) _ _ _;unfold setAddHashedIn;calc kb (Vq ho hd T.P.fits ?_);let hb:byScan (.ref (ad i)) es=ι:=by unfold byScan;rfl
 dsimp only;rw[hb];simp only[Jr,↓reduceIte]
 by_cases hm:aC prog w ks i∈js.map (aC prog w ks)
 .refine kb (Mu ho hd T hu keys inj hm ?_)
  dsimp only;calc qY ?_;let e:s={s with heap:=s.heap}:=by cases s;rfl
  rw[e];exact k ι s.heap (Heap.SameBut.refl S s.heap) (by rw[Tw hm];calc⟨o,es,ep,t,ho,hex,hd,T⟩)
 rw[To hm] at k;let kx:=keys i Cu;let hz:t.place.size<=t.mask:=by let:=T.P.lt;rw[T.P.l7];symm
 let⟨j0,yL⟩:=G6 (t:=t) (f:=λi=>(es[i]?.map (·.1)).getD 0) (h:=aC prog w ks i) T.P.ql T.P.qm hz (λi' eM z=>by
  rw[T.P.l7] at eM;rw[My eM] at z
  calc hm (by rw[<-show es[i'].1=aC prog w ks i from z];calc T.P.ins _ (XH eM)))
 let nj:j0∉t.place.toList:=Hg T.up (vU yL);let rj:mK t.mask (· ∈ t.place.toList) (aC prog w ks i) j0:=D0 T.P.ql _ _ _ _ yL
 let sf:G (ς prog w) A (setSearch S (.ref (ad i)) (aC prog w ks i) θ) (λr s'=>r=.free j0 ι/\s'=s) E s:=by
  unfold setSearch;show G _ _ (setSearchFrom S (.ref (ad i)) (aC prog w ks i) θ (99999+1) Z) _ _ _;unfold setSearchFrom;calc kb (Vq ho hd T.P.fits ?_);dsimp only;rw[T.P.qo];simp only[Jr,↓reduceIte];erw[WV];generalize hP:t.probe _ (aC prog w ks i) (t.probeStart (aC prog w ks i))=P;let eP:P=U (.empty j0 Z):=hP.symm.trans yL;rw[eP];exact qY ⟨Y,Y⟩
 calc kb (UP sf ?_ λ_ _ e=>e);ext r s' ⟨rfl,rfl⟩;dsimp only;calc kb (Vq ho hd T.P.fits ?_);dsimp only;let⟨p1,p2,p3,p4,p5,p6,p7⟩:=G9 t T.P.ql j0;let up1:=Hd T.up nj;let pz:(t.put j0).2<=t.place.size:=(tR T.up j0).1
 let fin:∀b:Bool,G (ς prog w) A (do
   storeSet S (SetTable.insertAt es (t.put j0).2 (aC prog w ks i,.ref (ad i))) (if b=θ then(t.put j0).1 else{(t.put j0).1 with plain:=false})
   if(!ι&&(if b=θ then(t.put j0).1 else{(t.put j0).1 with plain:=false}:SetTable).tooFull)=θ then do
       setRelay S (q0F (es.size+1))
       pure θ
    else pure θ) Q E s':=by
  ext b;generalize kS:(if b=θ then(t.put j0).1 else{(t.put j0).1 with plain:=false}:SetTable)=t2;let q1:t2.dummies = #[]:=by rw[<-kS];cases b<;>exact p1
  let q2:t2.mask=t.mask:=by rw[<-kS];cases b<;>exact p2
  let q3:t2.place.size=es.size+1:=by rw[<-kS,<-T.P.l7];cases b<;>exact p3
  let q4:t2.place=insertAt t.place (t.put j0).2 j0:=by rw[<-kS];cases b<;>rfl
  let q5:Up t2.place:=by rw[<-kS];cases b<;>exact up1
  let lu:=G_ es (t.put j0).2 (aC prog w ks i,TX (ad i))
  let uW:(insertAt es (t.put j0).2 (aC prog w ks i,TX (ad i))).toList.Perm (es.toList++[(aC prog w ks i,TX (ad i))]):=by
   let:=Ye es (t.put j0).2 (aC prog w ks i,TX (ad i));rw[Wq] at this;exact this
  let Mx:t2.place.toList.Perm (t.place.toList++[j0]):=by
   rw[q4];let:=Ye t.place (t.put j0).2 j0;rw[Wq] at this;exact this
  let sA:∀(x:Nat)(e:Int×B)(j:Nat),(insertAt es (t.put j0).2 (aC prog w ks i,TX (ad i)))[x]?=U e->t2.place[x]?=U j->mK t2.mask (· ∈ t2.place.toList) e.1 j:=by
   ext x e j h1 h2;rw[q4,D8 pz] at h2;rw[D8 (by rw[<-T.P.l7];calc pz)] at h1;rw[q2];let more:∀y,y<=t.mask->y∈t.place.toList->y∈t2.place.toList:=λy _ hy=>Mx.mem_iff.mpr (Uw _ hy)
   by_cases c:x<(t.put j0).2
   .rw[Tw c] at h1 h2
    exact(T.pX x e j h1 h2).mono more
   .rw[To c] at h1 h2
    by_cases c2:x=(t.put j0).2
    .rw[Tw c2] at h1 h2
     cases h1;cases h2
     exact rj.mono more
    .rw[To c2] at h1 h2
     exact(T.pX _ e j h1 h2).mono more
  generalize insertAt es (t.put j0).2 (aC prog w ks i,TX (ad i))=eD at lu uW sA
  let yM:∀e∈eD.toList,∃j∈js++[i],e=(aC prog w ks j,TX (ad j)):=λe he=>by
   rcases T1.mp (uW.mem_iff.mp he) with q|q
   .let⟨j,hj,e1⟩:=T.el e q
    exact⟨j,Uw _ hj,e1⟩
   .exact⟨i,T7 _ Cu,Ul.mp q⟩
  let all2:∀j∈js++[i],∃e∈eD.toList,e.1=aC prog w ks j:=λj hj=>by
   rcases T1.mp hj with q|q
   .let⟨e,he,e1⟩:=T.all j q
    exact⟨e,uW.mem_iff.mpr (Uw _ he),e1⟩
   .rw[Ul.mp q]
    exact⟨_,uW.mem_iff.mpr (T7 _ Cu),Y⟩
  let sC:((js++[i]).map (aC prog w ks)).Nodup:=by
   rw[TK];exact U4.mpr ⟨T.oD,by simp,λa ha b hb z=>hm (by rw[<-Ul.mp hb,<-z];calc ha)⟩
  let sD:∀e∈eD.toList,e.1∈(js++[i]).map (aC prog w ks):=λe he=>by
   let⟨j,hj,rfl⟩:=yM e he;exact Tz.mpr ⟨j,hj,Y⟩
  let sE:eD.size=↑((js++[i]).map (aC prog w ks)):=by rw[lu,T.P.num,pj,pj,Cv];rfl
  let Sb:es.size<60:=by rw[T.P.num,pj];exact hl
  refine kb (ZF ho hd ?_ (by rw[lu,Yz];symm))
  let uX:(s'.heap.update S (Yf eD t2)).get? S=U {o with data:=.set eD (ep+1) t2}:=by
   let:=UI (Yf eD t2) ho (by rw[ZU eD t2 hd];rfl);rw[ZU eD t2 hd] at this;exact this
  let fl:t2.fill=es.size+1:=by unfold Y1;rw[q1,q3];rfl
  let lt:=T.P.lt
  let sF:t2.fits eD.size=θ:=by
   unfold q0Q;rw[fl,q3,lu,q2];simp;rcases T.P.qm with e|e|e<;>rw[e] at lt ⊢ <;> symm
  by_cases tf:t2.tooFull=θ
  .rw[Tw (by rw[tf];rfl)]
   let yN:t.mask*3<=(es.size+1)*5:=by
    unfold tooFull at tf;rw[fl,q2] at tf;let:=U3 tf;symm
   let⟨m,yO,hw,iU⟩:∃m,Mk m/\sizeAbove (grown (es.size+1))-1=m/\(es.size+1)*5<m*3:=by
    rcases T.P.qm with e|e|e
    .rw[e] at lt yN
     let:es.size+1=5:=by symm
     rw[this];exact⟨31,.inr (.inl Y),Ha,⋯⟩
    .rw[e] at lt yN
     let:es.size+1=19:=by symm
     rw[this];exact⟨127,.inr (.inr Y),Hb,⋯⟩
    .rw[e] at yN;symm
   calc kb ?_;unfold setRelay;calc kb (Vq uX Y sF ?_);dsimp only
   let Mz:¬ SetTable.sizeAbove (q0F (es.size+1))>sizeLine:=by
    rw[Yz];rcases yO with e|e|e<;>symm
   rw[To Mz];let⟨t3,order,er,r1,r2,r3,r4,r5,r6,r7⟩:=Mn yO t2 (eD.map (·.1)) (grown (es.size+1)) hw (by rw[YG,lu];symm);rw[er];rw[YG,lu] at r3 r5;rw[YG] at r6;let D_:∀k∈order.toList,k<eD.size:=λk hk=>T6.mp (r6.mem_iff.mp hk);let⟨o1,o2⟩:=G8 (es:=eD) (order:=order) D_;let og:=Ms (es:=eD) (order:=order) D_;refine kb ?_
   show G _ _ (do
    if(order.filterMap (eD[·]?)).size != eD.size then
     unsupported "internal:set-table-lost-an-element"
    pure (order.filterMap (eD[·]?),t3)) _ _ _
   rw[To (by rw[o1,r5,lu];simp)];calc qY ?_;dsimp only;refine ZF uX Y ?_ (by rw[o1,r5,Yz];symm)
   let iT:((s'.heap.update S (Yf eD t2)).update S (Yf (order.filterMap (eD[·]?)) t3)).get? S=U {o with data:=.set (order.filterMap (eD[·]?)) (ep+1+1) t3}:=by
    let:=UI (Yf (order.filterMap (eD[·]?)) t3) uX (by rw[ZU _ t3 Y];rfl);rw[ZU _ t3 Y] at this;exact this
   refine qY (k θ _ ((Vw ..).trans (Vw ..)) ⟨_,_,_,_,iT,hex,Y,⟨r2,by rw[r1];calc yO,by rw[r3,o1,r5],by rw[o1,r5,<-lu];calc sE,?_,λe he=>sD e (o2 e he)⟩,r4,sC,λe he=>yM e (o2 e he),λj hj=>?_,λx e j h1 h2=>?_⟩)
   .unfold tooFull Y1
    rw[r2,r3,r1];simp;symm
   .let⟨e,he,e1⟩:=all2 j hj
    let⟨x,hx,ex⟩:=UQ.mp he;let kR:x<eD.size:=by rw[<-Jq];exact hx
    let:x∈order.toList:=r6.mem_iff.mpr (T6.mpr kR);calc⟨e,?_,e1⟩;rw[VG];exact Vg.mpr ⟨x,this,by rw[My kR];calc congrArg U ex⁻¹⟩
   .rw[og] at h1
    cases q:order[x]? with
    |none=>rw[q] at h1;cases h1
    |some Ea =>
     rw[q] at h1;let h1:eD[Ea]?=U e:=h1;let⟨hh,g1,g2⟩:=r7 x j Ea h2 q;rw[Array.getElem?_map,h1] at g1;cases g1
     rw[r1];exact g2
  .let Eb:t2.tooFull=ι:=by cases q:t2.tooFull<;>simp_all
   rw[To (by rw[Eb];decide)];exact qY (k θ _ (Vw ..) ⟨_,_,_,_,uX,hex,Y,⟨q1,by rw[q2];calc T.P.qm,by rw[q3,lu],sE,Eb,sD⟩,q5,sC,yM,all2,sA⟩)
 by_cases hp:(t.put j0).1.plain=θ
 .rw[Tw hp]
  calc kb (Hm kx λb=>?_);exact fin b
 .rw[To hp]
  calc kb (qY ?_);calc fin θ
end
noncomputable def fS(hk:Nat->Int):Nat->-Nat
 |0=>[]
 |i+1=>if hk i∈(fS hk i).map hk then fS hk i else fS hk i++[i]
theorem Ec(hk:Nat->Int):∀i,↑(fS hk i)<=i
 |0=>ug _
 |i+1=>by
  let:=Ec hk i;unfold fS;split
  .omega
  .rw[Cv,T9];symm
theorem uY(hk:Nat->Int):∀i,∀j∈fS hk i,j<i
 |0,j,h=>nomatch h
 |i+1,j,h=>by
  unfold fS at h;split at h
  .let:=uY hk i j h;symm
  .rcases T1.mp h with h|h
   .let:=uY hk i j h;symm
   .rw[Ul.mp h];symm
theorem MA{hk:Nat->Int}{ad:Nat->O}{h:R}{S:O}{led:Bool}(e:h.get? S=U (fA led)):fJ hk ad h S [] :=
 ⟨_,#[],0,_,e,⟨Y,Y,Y⟩,Y,⟨Y,.inl Y,Y,Y,by cases led<;>decide,λ_ h=>nomatch h⟩,Zz,Xs,(λ_ h=>nomatch h),(λ_ h=>nomatch h),λi e j h=>by simp at h⟩
section
variable{prog:q}{w:ω}{A:l}{R:Result->L->Prop}{I S:O}{fp wr:-O}{G:Array GenState->Array GenState->Prop}{n:Nat}{P:Nat->B->Prop}{St:Nat->L->Prop}
theorem MB(W:WalksS prog w A.in1 I fp wr G n P St)(out:S∉fp)(ad:Nat->O)(ks:Nat->-Int)(oE:∀i v,P i v->v=.ref (ad i))(apart:∀i,i<n->ad i∉S::wr)(room:A.in1.units<cLine)
  (inj:∀i j,i<n->j<i->hT prog w (ks j)=hT prog w (ks i)->ks j=ks i) (h9:n<=30) :
  ∀(left i:Nat)(s:L),i+left=n->St i s->(∀j,j<n->IsTupleKey (intKind prog w) s.heap (ks j) (ad j))->fJ (aC prog w ks) ad s.heap S (fS (aC prog w ks) i) →
   (∀s',Moved (S::wr) G s s'->fJ (aC prog w ks) ad s'.heap S (fS (aC prog w ks) n)->R (.ok (.ret .none)) s') →
   codeAny (ς prog w) A (.builtin "set.update.loop" ⟨[.ref S,.ref I],[]⟩) R s:=by
 let sG:S∉wr:=λz=>out (W.sub _ z);let more:∀b,b∈wr->b∈S::wr:=λb hb=>Jp _ hb;ext left
 induction left with
 |zero =>
  ext i s hi st tk se fin;obtain rfl:i=n:=by symm
  calc Yn X0 ?_;rw[YH Wl _];show ρ _ A.in1 (pyNext (.ref I) >>= _) _ _ s;calc kb (W.done s _ _ st λs' mv=>?_);show ρ _ A.in1 (ret UC) _ _ s';exact qY (fin s' (mv.mono more) (D7 se λo e=>mv.heap S o sG e))
 |succ left ih =>
  ext i s hi st tk se fin;let dF:i<n:=by symm
  calc Yn X0 ?_;rw[YH Wl _];show ρ _ A.in1 (pyNext (.ref I) >>= _) _ _ s;calc kb (W.item i s _ _ dF st λv s1 hP iC mv=>?_);obtain rfl:=oE i v hP;let pA:∀j,j<n->IsTupleKey (intKind prog w) s1.heap (ks j) (ad j):=λj hj=>vX (tk j hj) λo e=>mv.heap _ o (λz=>apart j hj (more _ z)) e;show ρ _ A.in1 (holding [TX (ad i)] (setAdd S (.ref (ad i))) >>= _) _ _ s1;calc kb (Ua ?_);unfold setAdd;calc Ua (kb (wpAny_pyHash_tuple room (pA i dF) ?_));let fl:=uY (aC prog w ks) i;refine Mw (s:={s1 with toks:=s1.toks+(↑(ks i)+1)}) (i:=i) (js:=fS (aC prog w ks) i) (D7 se λo e=>mv.heap S o sG e) (by let:=Ec (aC prog w ks) i;symm) room (λj hj=>?_) (λj hj e=>inj i j dF (fl j hj) e) λbb h2 sb MC=>?_
  .rcases Cy.mp hj with rfl|hj
   .exact pA _ dF
   .exact pA j (by let:=fl j hj;symm)
  .let nS:∀b,b∈fp->b≠S:=λb hb z=>out (by rw[<-z];calc hb)
   refine qY ⟨plainId_quiet Wl _,ih (i+1) _ ⋯ (W.frame _ s1 _ _ iC (VC _ _) λb hb o e=>by rw[sb.2 b (nS b hb)];calc e) (λj hj=>vX (pA j hj) λo e=>?_) MC λs3 MD ME=>?_⟩
   .rw[sb.2 _ (λz=>apart j hj (by rw[z];calc Cu))];exact e
   .refine fin s3 (Moved.trans W.gtrans ((mv.mono more).then_heap (VC _ _) λb o hb e=>?_) MD) ME
    rw[sb.2 b (λz=>hb (by rw[z];calc Cu))];calc e
end
section
variable{prog:q}{w:I}{A:l}{E:aT}{s:L}
set_option maxHeartbeats 3200000 in
theorem MF {l:O} {items:Array B} {Q:aT} (ad:Nat->O) (ks:Nat->-Int) (hh:A.handled=Z) (room:A.units+8<cLine) (MG:s.heap.IsList l items) (oE:∀(i:Nat)(v:B),items[i]?=U v->v=.ref (ad i))
  (tk:∀i,i<items.size->IsTupleKey (intKind prog w) s.heap (ks i) (ad i)) (inj:∀i j,i<items.size->j<i->hT prog w (ks j)=hT prog w (ks i)->ks j=ks i) (h9:items.size<=30)
  (fin:∀(h':Α)(tk:Nat),fJ (aC prog w ks) ad h' ⇑s (fS (aC prog w ks) items.size)->(∀b o,b<⇑s->s.heap.get? b=U o->h'.get? b=U o)->Q (.ref ⇑s) {s with heap:=h',toks:=tk}) :
  G (ς prog w) A (call (.type "set") [.ref l]) Q E s:=by
 let⟨c,tl,MH⟩:=VJ.mro;let m1:=VJ.made;let m2:=VJ.sub;let m3:=VJ.notType;let m4:=VJ.canCreate;let m5:=F.typeCall_set_1 (.ref l);calc Zb (codeAny_of_tree ?_);show G _ _ (callAny (.type "set") _) _ _ _;calc qY ⟨Code.quiet_builtin _ (by decide +kernel),Yn F.entry_type_call ?_⟩;rw[Around.under_plain (weight_type_call_type "set" [.ref l] []) Y]
 repeat(any_goals (first|assumption|wp_step))
 refine Xd (code_set_new_1 (.ref l) (E:=E) (Q₁:=λr s1=>∃led:Bool,r=.ref ⇑s/\s1={s with heap:=s.heap.push (fA led)}) λled=>⟨led,Y,Y⟩) λr s1 hr=>?_
 cases r with
 |error e=>exact hr
 |ok fl =>
  cases fl with
  |ret obj =>
   let⟨led,rfl,rfl⟩:=hr;let gS:(s.heap.push (fA led)).get? ⇑s=U (fA led):=R0 _ Y;let tS:Shared.TypeIs {s with heap:=s.heap.push (fA led)} (.ref ⇑s) "set" := ⟨_,gS,Y⟩;let m6:=VJ.init.lookup;let m7:=VJ.init.bind (.ref ⇑s)
   repeat(any_goals (first|assumption|wp_step))
   refine Xd (YF (R:=wants (λr s2=>r=.none/\∃h' tk,s2={s with heap:=h',toks:=tk}/\fJ (aC prog w ks) ad h' ⇑s (fS (aC prog w ks) items.size) ∧
     ∀b o,b<⇑s->s.heap.get? b=U o->h'.get? b=U o) E) VJ.init.plain F.entry_set_init (check_set_init_1 tS ?_)) λr2 s2 sI=>?_
   .let⟨ol,gl,cl,nl,dl⟩:=MG
    let⟨c0,d0,Sd,MI⟩:=ol;simp only at cl dl;subst cl;subst dl;let MJ:(s.heap.push (fA led)).get? l=U {cls:=.type "list",dict:=d0,data:=.seq items nl,slots:=MI}:=nF _ gl;let x1:=F.sub_list_set;let x2:=F.sub_list_frozenset;let x3:(Za "list" == Za "dict")=ι:=by decide
    let sJ:(s.heap.push (fA led)).IsList l items:=⟨_,MJ,Y,nl,Y⟩;let ll:l<⇑s:=Jo gl;unfold Builtin.«set.__init__» noKeywords Builtin.Frozenset.updateFrom;generalize MK:pyIter=PI
    wp_walk
    subst MK;calc VT sJ (kb (wpAny_runValue ?_));let h3:A.in1.in1.in1.handled=Z:=by simp[hh]
    let ez:(s.heap.push (fA led)).objs.size=⇑s+1:=Vj ..;let nI:l≠(s.heap.push (fA led)).objs.size:=by rw[ez];exact TN (UZ ll)
    let lt:∀i,i<items.size->ad i<⇑s:=λi hi=>by
     let⟨o,_,_,e,_⟩:=tk i hi;exact Jo e
    refine MB ((q0z h3 _ l nI items).toS) (S:=s.heap.objs.size) ?out ad ks (λi v hv=>oE i v hv) ?apart ?room inj h9 items.size 0 _ (UX _)
     ⟨⟨_,R0 _ Y,Y,Y⟩,sJ.push _⟩ ?tk ?fresh ?fin
    case out =>
     erw[Cy,Tr,UA,not_or,ez];exact⟨TN (WN _),VY ll⟩
    case apart =>
     ext i hi;let:=lt i hi;erw[Cy,Tr,UA,not_or,ez];exact⟨TN this,TN (UZ this)⟩
    case room =>
     show A.units+1+1+1<cLine;exact Xg (Nat.add_le_add_left (by decide:3<=8) _) room
    case tk =>
     ext j hj;exact vX (tk j hj) λo e=>nF _ (nF _ e)
    case fresh =>
     exact MA (led:=led) (nF _ gS)
    case fin =>
     ext s' mv se;let⟨h',g',d',Ed,wQ⟩:=s';obtain rfl:g'=s.gens:=mv.gens;obtain rfl:d'=s.drawn:=mv.drawn;obtain rfl:wQ=s.os:=mv.os;show G _ _ _ _ _ _;calc qY ?_;show G _ _ (ret UC) _ _ _;calc qY ⟨Y,h',Ed,Y,se,λb o hb e=>?_⟩;calc mv.heap b o ?_ (nF _ (nF _ e));erw[Cy,Tr,UA,not_or,ez];exact⟨TN hb,TN (UZ hb)⟩
   .cases r2 with
    |error e=>exact sI
    |ok ML =>
     cases ML with
     |ret r =>
      let⟨rfl,h',Ed,rfl,se,kp⟩:=sI
      repeat(any_goals (first|assumption|wp_step))
      exact fin _ _ se kp
     |next=>exact sI
     |brk=>exact sI
     |cont=>exact sI
  |next=>exact hr
  |brk=>exact hr
  |cont=>calc hr
end
end LJS
namespace L2
open PySem PySem.Spec PyProof.Rows
variable[aD]
noncomputable def mM:-D->Option (-(Int×Int))
 |[]=>U []
 |.tup [.int i,.int j]::r=>match mM r with
  |some ps=>U ((i,j)::ps)
  |none=>Z
 |_=>Z
theorem Ee:∀{ds:-D}{ps:-(Int×Int)},mM ds=U ps->ds=ps.map λp=>.tup [.int p.1,.int p.2]
 |[],ps,h=>by cases h;rfl
 |.tup [.int i,.int j]::r,ps,h=>by
  unfold mM at h;split at h
  .rename_i qs e
   cases h
   rw[Ee e];rfl
  .cases h
theorem Ef:∀ps:-(Int×Int),mM (ps.map λp=>D.tup [.int p.1,.int p.2])=U ps
 |[]=>Y
 |p::r=>by
  show mM (.tup [.int p.1,.int p.2]::r.map _)=_;unfold mM;rw[Ef r]
noncomputable def fw(ps:-(Int×Int)):Nat->-(Int×Int)
 |0=>[]
 |i+1=>if ps.getD i (0,0)∈fw ps i then fw ps i else fw ps i++[ps.getD i (0,0)]
theorem yP(ps:-(Int×Int)):∀i,↑(fw ps i)<=i
 |0=>ug _
 |i+1=>by
  let:=yP ps i;unfold fw;split
  .omega
  .rw[Cv,T9];symm
theorem Eg{ps:-(Int×Int)}(hn:ps.Nodup):∀i,i<=↑ps->fw ps i=ps.take i
 |0,_=>Y
 |i+1,h=>by
  let hi:i<↑ps:=by symm
  let e:ps.getD i (0,0)=ps[i]:=by rw[Tx,nH hi];rfl
  unfold fw;rw[Eg hn i ⋯,e,To ?_,WB,nH hi]
  .rfl
  .ext hm
   let⟨j,hj,ej⟩:=UQ.mp hm;rw[TB] at hj;rw[List.getElem_take] at ej;let:=(ZP (h₀:=by symm) (h₁:=hi) hn).mp ej;symm
theorem MM{ps:-(Int×Int)}(hl:↑(fw ps ↑ps)=↑ps):ps.Nodup:=by
 let key:∀i,i<=↑ps->↑(fw ps i)=i->(ps.take i).Nodup/\fw ps i=ps.take i:=by
  ext i
  induction i with
  |zero=>ext _ _;exact⟨Xs,Y⟩
  |succ i ih =>
   ext hi hlen;let eM:i<↑ps:=by symm
   let le:=yP ps i;let e:ps.getD i (0,0)=ps[i]:=by rw[Tx,nH eM];rfl
   unfold fw at hlen ⊢;split at hlen
   .omega
   .rename_i hn
    rw[Cv,T9] at hlen;let⟨h1,h2⟩:=ih ⋯ ⋯;rw[To hn,h2,WB,nH eM,e];calc⟨?_,Y⟩;rw[h2,e] at hn
    exact U4.mpr ⟨h1,by simp,λa ha b hb z=>hn (by
     let hb:b=ps[i]:=by simpa using hb
     rw[<-hb,<-z];calc ha)⟩
 let:=(key ↑ps (ug _) hl).1
 rwa [T_ (ug _)] at this
section
variable{X:Cx}{fa:WA}
theorem Eh{F:Hp}:∀{ps:-(Int×Int)}{vs:-V},ae F (ps.map λp=>D.tup [.int p.1,.int p.2]) vs->∃as:-O,vs=as.map V.ref/\↑as=↑ps/\∀(i:Nat)(a:O)(k:Int×Int),as[i]?=U a->ps[i]?=U k->F a=U (.tup [.int k.1,.int k.2])
 |[],vs,h=>by
  let h:vs=[]:=by simpa only [VH,ae] using h
  subst h;exact⟨[],Y,Y,λi a k e=>by simp at e⟩
 |p::r,vs,h=>by
  rw[TJ] at h;erw[ae] at h;let⟨v,r',rfl,h1,h2⟩:=h;let⟨as,rfl,hl,g⟩:=Eh h2;erw[Is] at h1;let⟨a,us,rfl,e1,e2⟩:=h1;erw[ae,Is] at e2;let⟨_,_,rfl,rfl,_,_,rfl,rfl,rfl⟩:=e2;refine⟨a::as,Y,by rw[Cw,Cw,hl],λi b k eb ek=>?_⟩
  cases i with
  |zero =>
   cases(show U a=U b by simpa using eb)
   cases(show U p=U k by simpa using ek)
   exact e1
  |succ i=>calc g i b k eb⁻¹ ek⁻¹
theorem MN(hc:X.calm=θ)(hu:X.A.units+64<cLine):gF X (.type "set") (λxs H Q=>∃(l:O)(ps:-O)(ks:-(Int×Int)),xs=[.ref l]/\bq X.K H l (ps.map V.ref)/\↑ps=↑ks ∧
  (∀(i:Nat)(a:O)(k:Int×Int),ps[i]?=U a->ks[i]?=U k->H a=U (.tup [.int k.1,.int k.2]))/\(∀k∈ks,0<=k.1/\k.1<k.2/\k.2<12)/\↑ks<=30/\∀p,H p=Z->Q (.ref p) (upd H p (jn p ↑(fw ks ↑ks)))):=by
 ext pins s σ H xs us Q I r h;let⟨l,ps,ks,rfl,hq,hl,cC,bd,h9,q⟩:=h;let⟨u,rfl,rx⟩:=vals1 r;cases rx
 let⟨ah,r',pl,_⟩:=I.list hq;obtain rfl:=CW r';let sz:(ps.map TX).toArray.size=↑ks:=by rw[xu,pj,hl]
 let oF:∀i,i<↑ks->∃k,ks[i]?=U k/\ks.getD i (0,0)=k:=λi hi=>⟨ks[i],nH hi,by rw[Tx,nH hi];rfl⟩;let yQ:∀i,i<↑ks->∃a,ps[i]?=U a/\ps.getD i 0=a:=λi hi=>⟨ps[i]'(by rw[hl];calc hi),nH (by rw[hl];calc hi),by rw[Tx,nH (by rw[hl];calc hi)];rfl⟩
 let same:∀i j,i<↑ks->j<↑ks->LJS.hT X.prog X.w [(ks.getD j (0,0)).1,(ks.getD j (0,0)).2]=LJS.hT X.prog X.w [(ks.getD i (0,0)).1,(ks.getD i (0,0)).2]->ks.getD j (0,0)=ks.getD i (0,0):=λi j hi hj z=>by
  let⟨k,ek,dk⟩:=oF i hi;let⟨k',uU,Ei⟩:=oF j hj;rw[dk,Ei,LJS.CU,LJS.CU] at z;rw[dk,Ei];let b1:=bd k (Tp.mpr ⟨i,ek⟩);let b2:=bd k' (Tp.mpr ⟨j,uU⟩);exact LJS.KJ (k'.1,k'.2) (LJS.CV b2.1 b2.2.1 b2.2.2) (k.1,k.2) (LJS.CV b1.1 b1.2.1 b1.2.2) z
 refine LJS.MF (λi=>ps.getD i 0) (λi=>[(ks.getD i (0,0)).1,(ks.getD i (0,0)).2]) (I.ok.hd hc) ⋯ pl.isList (λi v hv=>?_) (λi hi=>?_) (λi j hi hj z=>?_) (by rw[sz];calc h9) λh' tk se kp=>?_
 .rw[Vn,R1] at hv
  let⟨a,ea,rfl⟩:=Tq.mp hv;rw[Tx,ea];rfl
 .rw[sz] at hi
  let⟨k,ek,dk⟩:=oF i hi;let⟨a,ea,da⟩:=yQ i hi;show IsTupleKey _ _ [(ks.getD i (0,0)).1,(ks.getD i (0,0)).2] (ps.getD i 0);rw[dk,da];let⟨_,bo,r2,o,ho,yR,n,hd⟩:=I.aX a _ (cC i a k ea ek)
  cases r2 with
  |cons ra rr =>
   cases rr with
   |cons rb rn =>
    cases rn
    let⟨t1,rfl⟩:=ra;let⟨t2,rfl⟩:=rb;exact⟨o,_,n,ho,yR,hd,.cons (intKind_is ..) (.cons (intKind_is ..) .nil)⟩
 .rw[sz] at hi
  let:=same i j hi ⋯ z;show[(ks.getD j (0,0)).1,(ks.getD j (0,0)).2]=[(ks.getD i (0,0)).1,(ks.getD i (0,0)).2];rw[this]
 .let key:∀n,n<=↑ks->(LJS.fS (LJS.aC X.prog X.w λi=>[(ks.getD i (0,0)).1,(ks.getD i (0,0)).2]) n).map (λi=>ks.getD i (0,0))=fw ks n:=by
   ext n
   induction n with
   |zero=>ext _;rfl
   |succ n ih =>
    ext hn;let ih:=ih ⋯;unfold LJS.fS fw;rw[<-ih]
    by_cases c:ks.getD n (0,0)∈(LJS.fS (LJS.aC X.prog X.w λi=>[(ks.getD i (0,0)).1,(ks.getD i (0,0)).2]) n).map (λi=>ks.getD i (0,0))
    .let⟨j,hj,ej⟩:=Tz.mp c
     let:LJS.aC X.prog X.w (λi=>[(ks.getD i (0,0)).1,(ks.getD i (0,0)).2]) n∈(LJS.fS (LJS.aC X.prog X.w λi=>[(ks.getD i (0,0)).1,(ks.getD i (0,0)).2]) n).map (LJS.aC X.prog X.w λi=>[(ks.getD i (0,0)).1,(ks.getD i (0,0)).2]):=by
      calc Tz.mpr ⟨j,hj,?_⟩;let ej:ks.getD j (0,0)=ks.getD n (0,0):=ej;show LJS.hT _ _ [(ks.getD j (0,0)).1,(ks.getD j (0,0)).2]=LJS.hT _ _ [(ks.getD n (0,0)).1,(ks.getD n (0,0)).2];rw[ej]
     rw[Tw c,Tw this]
    .let:LJS.aC X.prog X.w (λi=>[(ks.getD i (0,0)).1,(ks.getD i (0,0)).2]) n∉(LJS.fS (LJS.aC X.prog X.w λi=>[(ks.getD i (0,0)).1,(ks.getD i (0,0)).2]) n).map (LJS.aC X.prog X.w λi=>[(ks.getD i (0,0)).1,(ks.getD i (0,0)).2]):=λz=>by
      let⟨j,hj,ej⟩:=Tz.mp z;let yS:=LJS.uY _ n j hj;exact c (Tz.mpr ⟨j,hj,same n j ⋯ ⋯ ej⟩)
     rw[To c,To this,TK];rfl
  let⟨o,es,ep,t,ho,hex,hd,T⟩:=se
  let hlen:↑((LJS.fS (LJS.aC X.prog X.w λi=>[(ks.getD i (0,0)).1,(ks.getD i (0,0)).2]) ↑ks).map (LJS.aC X.prog X.w λi=>[(ks.getD i (0,0)).1,(ks.getD i (0,0)).2]))=↑(fw ks ↑ks):=by
   rw[<-key ↑ks (ug _),pj,pj]
  let T':=T.P;rw[sz] at T';let MO:LJS.jc h' ⇑s _:=⟨o,es,ep,t,ho,hex,hd,T'⟩;calc⟨.ref ⇑s,upd H ⇑s (jn ⇑s ↑(fw ks ↑ks)),I.laid (t':=tk) (λb o e=>kp b o (Jo e) e) (ug _) (KN MO hlen),Y,q _ (I.aX.fresh (ug _))⟩
end
end L2
namespace HT
open PySem PySem.Spec PyProof.Rows
section
variable{prog:q}{w:I}{A:l}{E:aT}{s:L}
theorem MP{t b:O}{ws:-B}{Q:aT}(ht:IsTup s.heap t #[])(hb:IsTup s.heap b ws.toArray)(h:Q (.ref b) s):G (S prog w) A (binaryOp .Add (.ref t) (.ref b)) Q E s:=by
 let⟨⟨cls,dd,data,sl⟩,ho,hc,n,hd⟩:=id ht;let⟨⟨qS,mq,data2,mw⟩,iT,mx,n2,hd2⟩:=id hb;simp only at hc hd mx hd2;subst hc hd mx hd2
 exact Zv ⟨_,ho,Y⟩ ⟨_,iT,Y⟩ XW Y2 Wu Wj (Wa _ _)
  (tuple_addW0 t b #[] ws.toArray n n2 dd mq sl mw Y) ⟨ho,iT,h⟩
theorem MQ{t sl:O}{items:Array B}{vl vu:B}{lo hi:Option Int}{Q:aT}(ht:IsTup s.heap t items)(hs:s.heap.IsSliceOf sl vl vu .none)(pl:IsPart vl lo)(pu:IsPart vu hi)
  (hw:bf items.size 0 lo=0/\bf items.size items.size hi=items.size) (h:Q (.ref t) s):G (S prog w) A (getItem (.ref t) (.ref sl)) Q E s:=by
 let⟨os,ir,kK,jY⟩:=id hs;let qU:s.TypeIs (.ref sl) "slice" := ⟨os,ir,kK⟩;unfold getItem
 try with_reducible refine Ua ?_
 first|refine kb (qY ?_)|skip
 refine kb (XD ht.typeIs (by decide) ?_)
 refine kb (Uv (name:=R3 "__getitem__") ht.typeIs TR
  (Vf TR ht.typeIs Xa ?_ (Xo _ _)))
 show G _ _ (VX (.ref t) >>= _) _ _ s;calc kb (Y3 ht ?_);calc kb (Xe qU ?_);rw[Tw (by decide)];calc kb (B7 hs pl pu ?_);show G _ _ (if(((bf items.size 0 lo:Nat):Int)==0&&(1:Int)==1&&(bf items.size items.size hi-bf items.size 0 lo)==items.size)=θ then _ else _) _ _ s;rw[Tw (by rw[hw.1,hw.2];simp)];unfold Builtin.Tuple.tupleIsExact;calc kb (kb (Xe ht.typeIs (qY ?_)));rw[Tw (by decide)];calc kb (Zf ?_);calc qY ⟨_,Y,qY h⟩
theorem MR{sl:O}{n:Nat}{t:Tok}{Q:Int×Int×Nat->L->Prop}(hs:s.heap.IsSliceOf sl .none .none (.int (-1) t))
  (h:Q ((n:Int)-1,-1,n) s):G (S prog w) A (Vi (.ref sl) (pure (n:Int))) Q E s:=by
 let⟨os,ir,kK,jY⟩:=id hs;unfold Vi XA;calc kb (kb (Uj ir jY (x:=.none) Y (kb (Uj ir jY (x:=.none) Y (kb (Uj ir jY (x:=.int (-1) t) Y (qY ?_)))))));calc kb (qT (.int (-1) t) ?_);show G _ _ (if((-1:Int)==0)=θ then _ else _) _ _ s;rw[To (by decide)];calc kb (qT .none (kb (qT .none (kb (qY ?_)))));refine qY ?_
 let e:Uq ((n:Int)-1) (-1) (-1)=n:=by
  unfold Uq;rw[To (by decide)];split
  .rename_i c
   rw[show -(-1:Int)=1 by decide,Zw];symm
  .omega
 show Q ((n:Int)-1,-1,Uq ((n:Int)-1) (-1) (-1)) s;rw[e];calc h
theorem MS{t sl:O}{ah:-B}{tk:Tok}{Q:aT}(ht:IsTup s.heap t ah.toArray)(hs:s.heap.IsSliceOf sl .none .none (.int (-1) tk))
  (h:Q (.ref ⇑s) {s with heap:=s.heap.push {cls:=.type "tuple",data:=.seq ah.reverse.toArray}}) (iU:↑ah<=sizeLine):G (S prog w) A (getItem (.ref t) (.ref sl)) Q E s:=by
 let dq:sizeOk (.seq ah.reverse.toArray):=by
  show ah.reverse.toArray.size<=sizeLine;rw[xu,Vx];exact iU
 let⟨os,ir,kK,jY⟩:=id hs;let qU:s.TypeIs (.ref sl) "slice" := ⟨os,ir,kK⟩;unfold getItem
 try with_reducible refine Ua ?_
 first|refine kb (qY ?_)|skip
 refine kb (XD ht.typeIs (by decide) ?_)
 refine kb (Uv (name:=R3 "__getitem__") ht.typeIs TR
  (Vf TR ht.typeIs Xa ?_ (Xo _ _)))
 show G _ _ (VX (.ref t) >>= _) _ _ s;calc kb (Y3 ht ?_);calc kb (Xe qU ?_);rw[Tw (by decide)];calc kb (MR hs ?_);show G _ _ (if((((ah.toArray.size:Int)-1))==0&&(-1:Int)==1&&ah.toArray.size==ah.toArray.size)=θ then _ else _) _ _ s;rw[To (by simp)]
 let e:((TY ah.toArray.size).filterMap λ(k:Nat)=>ah.toArray[((ah.toArray.size:Int)-1+(k:Int) * -1).toNat]?).toArray=ah.reverse.toArray:=by
  congr 1;rw[xu];refine XB λi=>?_
  let all:∀k∈TY ↑ah,((ah.toArray[((↑ah:Int)-1+(k:Int) * -1).toNat]?)).isSome=θ:=λk hk=>by
   let:=T6.mp hk;rw[Vn,nH ⋯];rfl
  let fm:∀l:-Nat,(∀k∈l,((ah.toArray[((↑ah:Int)-1+(k:Int) * -1).toNat]?)).isSome=θ)->∀i:Nat,(l.filterMap λ(k:Nat)=>ah.toArray[((↑ah:Int)-1+(k:Int) * -1).toNat]?)[i]?=(l[i]?).bind λk=>ah.toArray[((↑ah:Int)-1+(k:Int) * -1).toNat]?:=by
   ext l
   induction l with
   |nil=>ext _ i;simp
   |cons k r ih =>
    ext hk i;let⟨v,hv⟩:=Vr.mp (hk k Cu);rw[U6,hv];dsimp only
    cases i with
    |zero=>exact hv.symm
    |succ i=>simpa using ih (λk' hZ=>hk k' (Jp _ hZ)) i
  rw[fm _ all]
  by_cases c:i<↑ah
  .rw[U5 c,List.getElem?_reverse c]
   show ah.toArray[((↑ah:Int)-1+(i:Int) * -1).toNat]?=_;rw[Vn];congr 1;symm
  .rw[VP (by rw[UE];symm),VP (by rw[Vx];symm)];rfl
 rw[e]
 first
  |exact kb (m:=Uk _) (Uo (qY ⟨_,Y,qY h⟩) dq)
  |exact kb (m:=Uk _) (Uo (kb (qY (qY ⟨_,Y,qY h⟩))) dq)
  |exact kb (kb (m:=Uk _) (Uo (qY (qY ⟨_,Y,qY h⟩)) dq))
  |calc kb (kb (m:=Uk _) (Uo (qY ⟨_,Y,qY h⟩) dq))
end
end HT
namespace L2
open PySem PySem.Spec PyProof.Rows
variable[aD]
section
variable{X:Cx}{e:M}{te:TE}{pos p2 p3 p4:y}
def MT(K:nG):V->Option Int->Option Int->Hp->VK->Prop:=λx lo hi H Q=>∃a xs,x=.ref a/\bJ K H a xs ∧
 (HT.bf ↑xs 0 lo=0/\HT.bf ↑xs ↑xs hi=↑xs->Q (.ref a) H)/\(¬ (HT.bf ↑xs 0 lo=0/\HT.bf ↑xs ↑xs hi=↑xs)->∀p,H p=Z->Q (.ref p) (upd H p (.tup (cw xs lo hi))))
theorem MU:my X (MT X.K):=by
 ext pins s σ H x v vl vu lo hi sl Q I rx hs pl pu h;let⟨a,xs,rfl,hx,q1,q2⟩:=h
 by_cases hw:HT.bf ↑xs 0 lo=0/\HT.bf ↑xs ↑xs hi=↑xs
 .cases rx
  let⟨ah,r,ht,hz⟩:=I.tuple hx;let hlen:ah.toArray.size=↑xs:=by rw[xu];exact r.length.symm
  calc⟨"tuple",_,TR.lookup,ht.typeIs,?_⟩;exact HT.MQ ht hs pl pu (by rw[hlen];calc hw) ⟨.ref a,H,I,Y,q1 hw⟩
 .calc IW pins s σ H _ v vl vu lo hi sl Q I rx hs pl pu ⟨a,xs,Y,hx,hw,q2 hw⟩
def MV(K:nG)(te:TE):TE:=fun σ H Q=>te σ H λx H1=>(∃a xs,x=.ref a/\bq K H1 a xs/\∀p,H1 p=Z->Q (.ref p) (upd H1 p (.lst xs.reverse)))\/∃a xs,x=.ref a/\bJ K H1 a xs/\∀p,H1 p=Z->Q (.ref p) (upd H1 p (.tup xs.reverse))
theorem MW{j1}(he:JE X e te):JE X (.Subscript e (.Slice Z Z (U (.UnaryOp .USub (.Constant (.int 1) j1 p3) p4)) p2) pos) (MV X.K te):=by
 calc⟨?_⟩;ext pins s σ H Q I h;calc Subscript_ (bp (he pins s σ H _ I h) λv s1 h0_=>el5 h0_ λx H1 I1 r1 q1=>?_);calc wpAny_Slice ?_;rw[Y4];calc qY ?_;calc qY ?_;rw[q01];let h1:=BN (X:=X) BP (je (X:=X) (i:=1) (j:=j1) (pos:=p3)) (pos:=p4) pins s1 σ H1 (λv H2=>v=.int (-1)/\H2=H1) I1 ⟨1,Y,Y,Y⟩;calc bp h1 λu s3 ⟨y,H3,I3,ry,ey,eH⟩=>?_;subst ey eH;let⟨t,rfl⟩:=ry;let I4:Inv X pins σ H3 {s3 with heap:=s3.heap.push {cls:=.type "slice",data:=.fields #[.none,.none,.int (-1) t]}}:=I3.kept (t':=s3.toks) λb ob q=>nF _ q;rcases q1 with⟨a,xs,rfl,hx,q⟩|⟨a,xs,rfl,hx,q⟩
 .cases r1
  let⟨ah,r,ht,hz⟩:=I4.list hx;let hlen:=↑r;calc q0s (ops:=[.ref a,.ref ⇑s3]) ht.isList.typeIs XF.lookup ?_ (by with_unfolding_all rfl);calc XJ ht.isList (Xp ..) .none .none (.int (-1) t) (by decide) ?_ (by rw[xu]<;>symm);rw[K5];calc⟨.ref _,_,I4.laid (t':=s3.toks) (o:=.lst xs.reverse) (λb ob q=>nF _ q) (ug _) ?_,Y,q _ (I4.aX.fresh (ug _))⟩;exact⟨by rw[Vx];calc hz,_,0,xX r,R0 _ Y⟩
 .cases r1
  let⟨ah,r,ht,hz⟩:=I4.tuple hx;let hlen:=↑r;calc q0s (ops:=[.ref a,.ref ⇑s3]) ht.typeIs TR.lookup ?_ (by with_unfolding_all rfl);calc HT.MS ht (Xp ..) ?_ ⋯;calc⟨.ref _,_,I4.laid (t':=s3.toks) (o:=.tup xs.reverse) (λb ob q=>nF _ q) (ug _) ?_,Y,q _ (I4.aX.fresh (ug _))⟩;calc⟨by rw[Vx];calc hz,_,xX r,YK _ _⟩
theorem MX:cP X (binaryOp .Add) (λx y H Q=>∃a b ys,x=.ref a/\y=.ref b/\bJ X.K H a []/\bJ X.K H b ys/\Q (.ref b) H):=by
 ext pins s σ H x y v u Q I rx ry h;let⟨a,b,ys,rfl,rfl,ha,hb,q⟩:=h;cases rx
 cases ry
 let⟨ah,r1,p1,_⟩:=I.tuple ha;let⟨bo,r2,p2,_⟩:=I.tuple hb;let:ah=[]:=r1.d6.mpr Y;subst this;calc HT.MP p1 p2 ⟨.ref b,H,I,Y,q⟩
theorem MY:cP X (compareOp .Is) (λx y H Q=>∃a b,x=.bl a/\y=.bl b/\Q (.bl (a==b)) H):=by
 ext pins s σ H x y v u Q I rx ry h;let⟨a,b,rfl,rfl,q⟩:=h;cases rx
 cases ry
 calc qY ⟨.bl (a==b),H,I,by cases a<;>cases b<;>rfl,q⟩
def bL:D->D->(D->Prop)->Prop
 |.int i,.int j,K=>K (.int (i+j))
 |.lst a,.lst b,K=>↑a+↑b<=1000/\K (.lst (a++b))
 |.tup a,.tup b,K=>↑a+↑b<=1000/\K (.tup (a++b))
 |.str a,.str b,K=>↑a+↑b<=1000/\K (.str (a++b))
 |_,_,_=>False
theorem lz:dM X (binaryOp .Add) bL:=by
 ext pins s σ H x y v u Q I rx ry ⟨F,d,e,K,sub,rd,re,q,md⟩;unfold bL at q;split at q
 .exact uM pins s σ H x y v u Q I rx ry ⟨F,_,_,K,sub,rd,re,q,md⟩
 .exact uM pins s σ H x y v u Q I rx ry ⟨F,_,_,K,sub,rd,re,q,md⟩
 .rename_i as bs
  by_cases c:as=[]
  .subst c
   let b8:Is F (.tup []) x:=rd;let gi:Is F (.tup bs) y:=re;let MZ:=gi;erw[Is] at b8 gi;let⟨a,us,rfl,h1,h2⟩:=b8;let⟨b,ws,rfl,h3,h4⟩:=gi;let:us=[]:=by simpa only [ae] using h2
   subst this;exact MX pins s σ H _ _ v u Q I rx ry ⟨a,b,ws,Y,Y,bJ.of (sub _ _ h1),bJ.of (sub _ _ h3),md _ _ _ q.2 (λ_ _ e=>e) (rZ sub MZ)⟩
  .exact uM pins s σ H x y v u Q I rx ry ⟨F,_,_,K,sub,rd,re,⟨⟨c,q.1⟩,q.2⟩,md⟩
 .exact uM pins s σ H x y v u Q I rx ry ⟨F,_,_,K,sub,rd,re,q,md⟩
 .calc q.elim
def oG:D->Option Int->Option Int->(D->Prop)->Prop
 |.lst ds,lo,hi,K=>K (.lst (cutD ds lo hi))
 |.tup ds,lo,hi,K=>K (.tup (cutD ds lo hi))
 |_,_,_,_=>False
def eE(f:WE)(l h:WO):WE:=fun δ K=>f δ λx δ1=>l δ1 λlo δ2=>h δ2 λhi δ3=>gb x δ3 λd=>oG d lo hi λz=>K (.p z) δ3
theorem M0{ds:-D}{lo hi:Option Int}(h:HT.bf ↑ds 0 lo=0/\HT.bf ↑ds ↑ds hi=↑ds):cutD ds lo hi=ds:=by
 unfold cutD;rw[h.1,h.2,Xh,Zn,T_ (ug _)]
theorem pY{e:M}{f:WE}{lo hi:Option M}{l h:WO}{pos p2:y}(he:JE X e (tD f))(hl:PO X lo (uP l))(hh:PO X hi (uP h)):JE X (.Subscript e (.Slice lo hi Z p2) pos) (tD (eE f l h)) :=
 (wX (fF.or MU) he hl hh).weak fun σ H Q h0_=>el7 h0_ λF ad δ K S q k =>⟨F,ad,δ,_,S,q,λx δ1 h1 v F1 aU H1 E1 S1 V1=>⟨F1,aU,δ1,_,S1,h1,λlo δ2 h2 F2 b4 H2 E2 S2=>⟨F2,b4,δ2,_,S2,h2,λhi δ3 h3 F3 rS H3 E3 S3=>by
  let⟨d,h4,rd⟩:=eW S3 ((V1.ext E2).ext E3) h3;let yT:=(E1.trans E2).trans E3;unfold oG at h4;split at h4
  .rename_i ds
   let⟨a,vs,rfl,g1,g2⟩:=rd;calc .inl ⟨a,vs,Y,bq.of g1,λp hp=>?_⟩;exact k _ _ h4 _ _ _ _ (yT.trans (Ext.al S3 (cy hp))) (S3.al (cy hp)) (om S3.sub hp (DE g2 _ _))
  .rename_i ds
   let b8:Is F3 (.tup ds) v:=rd;let yU:=b8;erw[Is] at b8;let⟨a,vs,rfl,g1,g2⟩:=b8;refine .inr ⟨a,vs,Y,bJ.of (S3.sub _ _ g1),λhw=>?_,λ_ p hp=>?_⟩
   .rw[↑g2] at hw
    rw[M0 hw] at h4;exact k _ _ h4 _ _ _ _ yT S3 yU
   .exact k _ _ h4 _ _ _ _ (yT.trans (Ext.al S3 (cy hp))) (S3.al (cy hp)) (rY S3.sub hp (DE g2 _ _))
  .calc h4.elim⟩⟩⟩
def uZ:D->(D->Prop)->Prop
 |.lst ds,K=>K (.lst ds.reverse)
 |.tup ds,K=>K (.tup ds.reverse)
 |_,_=>False
theorem M1{e:M}{f:WE}{j1}{pos p2 p3 p4:y}(he:JE X e (tD f)):JE X (.Subscript e (.Slice Z Z (U (.UnaryOp .USub (.Constant (.int 1) j1 p3) p4)) p2) pos) (tD (d1 f uZ)) :=
 (MW he).weak fun σ H Q h0_=>el7 h0_ λF ad δ K S q k =>⟨F,ad,δ,_,S,q,λx δ1 h1 v F1 aU H1 E1 S1 V1=>by
  let⟨d,h4,rd⟩:=eW S1 V1 h1;unfold uZ at h4;split at h4
  .rename_i ds
   let⟨a,vs,rfl,g1,g2⟩:=rd;calc .inl ⟨a,vs,Y,bq.of g1,λp hp=>?_⟩;exact k _ _ h4 _ _ _ _ (E1.trans (Ext.al S1 (cy hp))) (S1.al (cy hp)) (om S1.sub hp (yy g2))
  .rename_i ds
   let b8:Is F1 (.tup ds) v:=rd;erw[Is] at b8;let⟨a,vs,rfl,g1,g2⟩:=b8;calc .inr ⟨a,vs,Y,bJ.of (S1.sub _ _ g1),λp hp=>?_⟩;exact k _ _ h4 _ _ _ _ (E1.trans (Ext.al S1 (cy hp))) (S1.al (cy hp)) (rY S1.sub hp (yy g2))
  .calc h4.elim⟩
def jB:D->D->(D->Prop)->Prop
 |.bl a,.bl b,K=>K (.bl (a==b))
 |d,e,K=>jw d e K
theorem Ej:dM X (compareOp .Is) jB:=by
 ext pins s σ H x y v u Q I rx ry ⟨F,d,e,K,sub,rd,re,q,md⟩;unfold jB at q;split at q
 .rename_i a b
  exact MY pins s σ H x y v u Q I rx ry ⟨a,b,rd,re,md _ _ _ q (λ_ _ e=>e) Y⟩
 .calc LN pins s σ H x y v u Q I rx ry ⟨F,_,_,K,sub,rd,re,q,md⟩
end
end L2
namespace LJ
open PySem L2
variable[aD]
theorem pZ{H:Hp}{a:O}{o:HO}(h:H a=Z):aw H (upd H a o):=λb u e=>by rw[bj (cm e h)];calc e
structure u2(H:Hp)(p c:O)(at_ z:Int):Prop where
 lst:H p=U (.lst [.ref c,.int at_,.int z])
 cells:∃ns:-Int,H c=U (.lst (ns.map V.int))/\ns.length<=63
 pos:0<=at_
theorem u2.ne{H:Hp}{p c:O}{k z:Int}(P:u2 H p c k z):c≠p:=by
 let⟨ns,h,_⟩:=P.cells;ext e;subst e;rw[P.lst] at h;let h':=TU h;injection h' with pC
 cases ns with
 |nil=>cases pC
 |cons n r=>injection pC with h1 _;cases h1
theorem M3{ns:-Int}{k:Int}(h0:0<=k)(h1:k<(ns.length:Int)):∃n,d7 (ns.map V.int) k=U (.int n):=by
 let⟨i,rfl⟩:∃i:Nat,k=i:=⟨k.toNat,⋯⟩;let hi:i<ns.length:=by symm
 calc⟨ns[i],kM ?_⟩;rw[R1,nH hi];rfl
def Ek(K:nG):Sp:=λvs H Q _=>∃(a:O)(ns:-Int),vs=[.ref a]/\bq K H a (ns.map V.int)/\ns.length<=63/\∀(p c:O)(H':Hp),aw H H'->H p=Z->u2 H' p c 0 0->Q (.ref p) H'
def u3(K:nG):Sp:=λvs H Q _=>∃(a:O)(ns:-Int),vs=[.ref a]/\bq K H a (ns.map V.int)/\ns.length<=63/\aD.ok H/\∀H',Q (.bl θ) H'
theorem yV(ns:-Int)(lo hi:Option Int):cw (ns.map V.int) lo hi=((ns.drop (HT.bf ns.length 0 lo)).take (HT.bf ns.length ns.length hi-HT.bf ns.length 0 lo)).map V.int:=by
 unfold cw;rw[pj,List.map_take,List.map_drop]
theorem M5{H:Hp}{p c a:O}{n:Nat}(hT:aD.ok H)(N:u2 H p c 0 0):∃(F:Hp)(ns:-Int),ns.length<=63/\SR F [p] ⟨Z::U (.o 0)::R5 n Z,[U (.lst [.lst (ns.map D.int),.int 0,.int 0])]⟩ (U (.ref a)::U (.ref p)::R5 n Z) H:=by
 let⟨ns,hc,hn⟩:=N.cells;let ne:=N.ne
 refine⟨upd (λ_=>Z) c (.lst (ns.map V.int)),ns,hn,⟨λb o e=>?_,λb ⟨k,ov,e1,e2⟩=>?_,Y,λk l a ov ow e1 e2 _ _=>?_,λk ov e=>?_,λi x e=>?_,by simp,hT,λb hb=>by
  let⟨ps,q⟩:=aD.tb hT hb
  rw[bj λz=>by subst z;rw[hc] at q;cases q]⟩⟩
 .by_cases z:b=c
  .subst z;rw[bE] at e;cases e;exact hc
  .rw[bj z] at e;cases e
 .cases k with
  |zero=>cases(show U p=U b by simpa using e1);rw[bj (Vv ne)]
  |succ k=>simp at e1
 .cases k with
  |zero =>
   cases l with
   |zero=>rfl
   |succ l=>simp at e2
  |succ k=>simp at e1
 .cases k with
  |zero =>
   cases(show OV.lst [.lst (ns.map D.int),.int 0,.int 0]=ov by simpa using e)
   calc⟨p,_,Y,N.lst,_,Y,?_⟩;calc .cons ?_ (.cons Y (.cons Y .nil));erw[Is];exact⟨c,_,Y,bE,yx⟩
  |succ k=>simp at e
 .cases i with
  |zero=>simp at e
  |succ i =>
   cases i with
   |zero =>
    cases(show DV.o 0=x by simpa using e)
    exact⟨_,Y,p,Y,Y⟩
   |succ i =>
    exfalso;let e:(R5 n (Z:Option DV))[i]?=U (U x):=by simpa using e
    rw[Vz] at e;split at e<;>cases e
theorem M6{B:WS}{F:Hp}{ad:-O}{δ:ax}{σ:St}{H:Hp}{Q:VK}(S:SR F ad δ σ H)(h:B ⟨λ_=>False,λx _=>x=.p (.bl θ),λ_=>False,λ_=>False⟩ δ)(q:∀H',Q (.bl θ) H'):cS B {nx:=λ_ H'=>Q .non H',rt:=Q} σ H :=
 ⟨F,ad,δ,_,S,h,⟨fun δ' h=>h.elim,fun δ' h=>h.elim,fun δ' h=>h.elim,λx δ' h v F' az σ' H' E' S' V=>by
  let h:x=.p (.bl θ):=h;subst h;let V:v=.bl θ:=V;subst V
  calc q H',trivial⟩⟩
end LJ
namespace L2
open PySem PySem.Spec PyProof.Rows
section
variable{X:Cx}{pins:av}{σ:St}{H:Hp}{s:L}{h':R}
noncomputable def M7(c:O)(q:J):HO:=.ext λh=>∃o vs tq,h.get? c=U o/\o.data=.fields vs/\vs[1]?=U (.str q tq)
end
end L2
namespace L2
open PySem PySem.Spec PyProof.Rows PySem.W
section
variable{X:Cx}{pins:av}{σ:St}{H:Hp}{s:L}{params:Arguments}{body:M}{scope:u}{pos:y}{M8:-(J×O)}{cc T:O}{ps:Array B}{E:aT}{Q:aT}
def dY(H:Hp)(T:O)(pos:y)(qual:J):Prop:=∃ps,H T=U (.tbl ps)/\TriplesOk ps.toList/\(codeAmong pos ps.toList=Z\/∃c,codeAmong pos ps.toList=U (.ref c)/\H c=U (M7 c qual))
end
section
variable{X:Cx}{pins:av}{σ:St}{H:Hp}{s:L}{params:Arguments}{body:M}{scope:Δ}{cl:-(J×O)}{E:aT}{Q:VK}{name qual x:J}{f c:O}{pm:B}{A:l}{v:V}{u:B}{Nb:-J}{cp:-(Option Nat)}{t:TE}
end
section
variable{prog:q}{w:I}{A:l}{E:aT}{s:L}{Q:Bool->L->Prop}
end
section
variable{X:Cx}{pins:av}{σ:St}{H:Hp}{s:L}{A:l}{E:aT}{a:O}{vs:-B}{f:B}
end
section
variable{prog:q}{w:I}{A:l}{E:aT}{s:L}
end
section
variable{X:Cx}{pins:av}{σ:St}{H:Hp}{s:L}{E:aT}
end
structure mO where
 T:O
 pos:y
 qual:J
theorem dY.same{H H':Hp}{T:O}{pos:y}{q:J}(h:dY H T pos q)(s:aw H H'):dY H' T pos q:=by
 let⟨ps,e,t,c⟩:=h;calc⟨ps,s _ _ e,t,c.imp id λ⟨c,e1,e2⟩↦⟨c,e1,s _ _ e2⟩⟩
theorem dY.keep{H H':Hp}{T T':O}{pos:y}{q:J}(h:dY H T pos q)(ne:T≠T')(hT:∃ps,H T'=U (.tbl ps))(s:∀b o,H b=U o->b≠T'->H' b=U o):dY H' T pos q:=by
 let⟨ps,e,t,c⟩:=h;calc⟨ps,s _ _ e ne,t,c.imp id λ⟨c,e1,e2⟩=>⟨c,e1,s _ _ e2 λz=>?_⟩⟩;let⟨qs,hT⟩:=hT;rw[z,hT] at e2;cases e2
theorem dY.put{H:Hp}{T a:O}{pos:y}{q:J}{o o':HO}(h:dY H T pos q)(ha:H a=U o)(hk:(∃vs,o=.lst vs)\/(∃ws,o=.dK ws)\/∃ws,o=.dT ws):dY (upd H a o') T pos q:=by
 let⟨ps,e,t,c⟩:=h
 let ne:∀{b u},H b=U u->(∀vs,u≠.lst vs)->(∀ws,u≠.dK ws)->(∀ws,u≠.dT ws)->b≠a:=λ{b u} e n1 n2 n3 z=>by
  subst z;rw[ha] at e;cases e;rcases hk with⟨_,z⟩|⟨_,z⟩|⟨_,z⟩
  .exact n1 _ z
  .exact n2 _ z
  .exact n3 _ z
 calc⟨ps,by rw[bj (ne e (λ_ z=>by cases z) (λ_ z=>by cases z) λ_ z=>by cases z)];calc e,t,c.imp id λ⟨c,e1,e2⟩=>⟨c,e1,?_⟩⟩;rw[bj (ne e2 (λ_ z=>by cases z) (λ_ z=>by cases z) λ_ z=>by cases z)];exact e2
@[reducible] noncomputable def lA (ls:-mO):aD where
 ad:=ls.map (·.T)
 ok:=λH=>∀l∈ls,dY H l.T l.pos l.qual
 same:=λh s l hl=>(h l hl).same s
 put:=λh ha hk l hl=>(h l hl).put ha hk
 tb:=λh ha=>by
  let⟨l,hl,rfl⟩:=Tz.mp ha;let⟨ps,e,_⟩:=h l hl;calc⟨ps,e⟩
variable[aD]
structure El(T:O)(pos:y)(q:J):Prop where
 mem:T∈aD.ad
 get:∀H:Hp,aD.ok H->dY H T pos q
 put:∀H H':Hp,aD.ok H->dY H' T pos q->(∀b o,H b=U o->b≠T->H' b=U o)->aD.ok H'
omit [aD] in
theorem M9 {ls:-mO} {l:mO} (hl:l∈ls) (nd:∀a∈ls,∀b∈ls,a.T=b.T->a=b):@El (lA ls) l.T l.pos l.qual:=by
 letI:aD:=lA ls;refine⟨List.mem_map_of_mem hl,λH h=>h l hl,λH H' h t k l' gg=>?_⟩
 by_cases z:l'.T=l.T
 .rw[nd _ gg _ hl z];exact t
 .let⟨ps,e,_⟩:=h l hl
  calc(h l' gg).keep z ⟨ps,e⟩ k
section
variable{F H H':Hp}{ad:-O}{δ:ax}{σ:St}
theorem Ext.M_(S:SR F ad δ σ H)(k:∀b o,H b=U o->b∉aD.ad->H' b=U o)(tk:aD.ok H'):Ext F ad δ.mu H (Nw F H H') ad δ.mu H' where
 same:=Nw.same S.sub
 new:=λa o e=>by
  unfold Nw at e
  cases q:H a with
  |none=>exact .inr (.inl Y)
  |some u=>rw[q] at e;exact .inl e
 keep:=λa o e _ t=>k a o e t
 pre:=λ_ _ e=>e
 bR:=λ_ l=>.inl l
 gM:=λa o e=>by
  by_cases t:a∈aD.ad
  .let⟨ps,q⟩:=aD.tb tk t
   exact⟨_,q⟩
  .calc⟨o,k a o e t⟩
end
section
variable{X:Cx}{params:Arguments}{body:M}{scope:u}{sL:y}{x:J}{Nb:-J}{cp:-(Option Nat)}{fb:WE}{T:O}
end
structure Na(mg:J->Option B)(base:R)(fd:FuncData)(T:O)(pos:y)(q:J):Prop where
 code:∃cc,fd.code=.ref cc/\CodeHd base cc T
 ng:mainGlobals≠T
 blt:base.BuiltinsAt mg T
 tbl:El T pos q
section
variable{X:Cx}{params:Arguments}{body a e:M}{scope:u}{sL p1 p2 q1 q2 qL:y}{x:J}{Nb:-J}{cp:-(Option Nat)}{fb f:WE}{fa:WA}{T:O}
end
end L2
namespace L2
open PySem PySem.Spec PyProof.Rows PySem.W
section
variable{prog:q}{w:I}{A:l}{E:aT}{s:L}{Q:Bool->L->Prop}
end
section
variable{X:Cx}{pins:av}{σ:St}{H:Hp}{s:L}{A:l}{E:aT}{a:O}{vs:-B}{ks:-LK}{κ:SortKind}
end
section
variable[aD]{X:Cx}
end
section
open PySem.SeqAt
open PySem.AutoSeq1 (wpAny_loadPart')
open PySem.MeetsSeq PySem.MeetsSeq2 PySem.MeetsSeq3
end
section
variable{prog:q}{w:I}{A:l}{E:aT}{s:L}{Q:Bool->L->Prop}
end
section
variable[aD]{X:Cx}
end
end L2
namespace L2
open PySem PySem.Spec PyProof.Rows PySem.W
section
variable{X:Cx}
end
variable[aD]{X:Cx}
end L2
namespace L2
open PySem PySem.Spec PyProof.Rows
noncomputable def num(n:Int):J:=toString n
def aE:D->(D->Prop)->Prop
 |.int i,K=>i.natAbs.log2<1920/\K (.str (num i))
 |_,_=>False
def ak:-D->(D->Prop)->Prop
 |[d],K=>aE d K
 |_,_=>False
def aJ:-D->(D->Prop)->Prop
 |[.str x],K=>∃n,PySem.intText? x=U n/\↑x<=640/\K (.int n)
 |_,_=>False
noncomputable def aO:D->Bool
 |.str _=>θ
 |_=>ι
def aF:D->-D->(D->Prop)->Prop
 |.str s,[.lst ds],K=>∃xs:-J,ds=xs.map D.str/\JoinOk s xs=θ/\K (.str (UR s xs))
 |_,_,_=>False
def aH:D->-D->(D->Prop)->Prop
 |.str x,[.str y],K=>((↑y==0)=ι/\↑x<=1000)/\K (.lst ((VD x y).map D.str))
 |_,_,_=>False
def aI:D->-D->(D->Prop)->Prop
 |.str x,[.str y],K=>((↑y==0)=ι/\↑x<=1000)/\K (.tup [.str (Vu x y).1,.str (Vu x y).2.1,.str (Vu x y).2.2])
 |_,_,_=>False
def ar:D->D->(D->Prop)->Prop
 |.str y,.str x,K=>K (.bl (ZH x y))
 |_,_,_=>False
theorem iM{n:Nat}(h:n<=1000):n<=sizeLine:=T5 h (by decide)
theorem Nc{n:Nat}(h:n<=2000):n<=sizeLine:=T5 h (by decide)
theorem Em{F:Hp}:∀{xs:-J}{vs:-V},ae F (xs.map D.str) vs->vs=xs.map V.str
 |[],vs,h=>by erw[VH,ae] at h;exact h
 |x::r,vs,h=>by
  erw[TJ,ae] at h;let⟨v,t,rfl,h1,h2⟩:=h;let h1:v=.str x:=h1;rw[Em h2,h1];rfl
theorem En{F:Hp}:∀{xs:-J},ae F (xs.map D.str) (xs.map V.str)
 |[]=>.nil
 |x::r=>.cons (show _=_ from Y) En
theorem Eo:∀{xs:-J}{us:-B},Vals (xs.map V.str) us->∃l:-(J×Tok),us=strValues l/\l.map (·.1)=xs
 |[],us,h=>by cases h;exact⟨[],Y,Y⟩
 |x::r,us,h=>by
  cases h with
  |cons q t =>
   let⟨tk,rfl⟩:=q;let⟨l,rfl,e⟩:=Eo t;calc⟨(x,tk)::l,Y,by rw[TJ,e]⟩
theorem Ep:∀{xs:-J}{l:-(J×Tok)},l.map (·.1)=xs->Vals (xs.map V.str) (strValues l)
 |_,[],rfl=>.nil
 |_,(x,t)::l,rfl=>.cons ⟨t,Y⟩ (Ep Y)
variable[aD]{X:Cx}
theorem Nd:dt X (.type "str") ak:=by
 ext pins s σ H xs us Q I r ⟨F,ds,K,sub,rd,q,md⟩;unfold ak at q;split at q
 .rename_i d
  unfold aE at q;split at q
  .rename_i i
   let⟨v,rfl,rfl⟩:=b8 rd;let⟨u,rfl,t,rfl⟩:=vals1 r;exact P.str_of_int q.1 ⟨.str _,H,I.tok _,⟨_,Y⟩,md _ _ _ q.2 (λ_ _ e=>e) Y⟩
  .exact q.elim
 .calc q.elim
theorem Nf:dt X (.type "int") aJ:=by
 ext pins s σ H xs us Q I r ⟨F,ds,K,sub,rd,q,md⟩;unfold aJ at q;split at q
 .rename_i x
  let⟨n,e,hl,q⟩:=q;let⟨v,rfl,rfl⟩:=b8 rd;let⟨u,rfl,t,rfl⟩:=vals1 r;exact PySem.W.KIN.call_text e hl ⟨.int n,H,I.tok _,⟨_,Y⟩,md _ _ _ q (λ_ _ e=>e) Y⟩
 .calc q.elim
theorem Ng:dM X (compareOp .In) ar:=by
 ext pins s σ H x y v u Q I rx ry ⟨F,d,e,K,sub,rd,re,q,md⟩;unfold ar at q;split at q
 .cases (show x=.str _ from rd);cases(show y=.str _ from re)
  let⟨t,rfl⟩:=rx;let⟨t2,rfl⟩:=ry;exact P.in_str ⟨.bl _,H,I,Y,md _ _ _ q (λ_ _ e=>e) Y⟩
 .calc q.elim
def aq(f:WE)(fa:WA)(op:D->-D->(D->Prop)->Prop):WE:=fun δ K=>f δ λx δ1=>gb x δ1 λd0=>aO d0=θ/\fa δ1 λxs δ2=>gb x δ2 λd=>jo xs δ2 λds=>op d ds λz=>K (.p z) δ2
theorem Nh{f:WE}{fa:WA}{K0:nG}{op:D->-D->(D->Prop)->Prop}:∀σ H Q,tD (aq f fa op) σ H Q->qX K0 "str" (λx xs H Q=>∃F d ds K,aw F H/\eN F H d x/\gc F H ds xs/\op d ds K/\Made F H K Q) (tD f) (bU fa) σ H Q:=fun σ H Q h0_=>el7 h0_ λF ad δ K S q k =>
 ⟨F,ad,δ,_,S,q,λx δ1 h1 v F1 aU H1 E1 S1 V1=>by
  let⟨d0,⟨hl,h2⟩,yU⟩:=eW S1 V1 h1
  let ty:xg K0 "str" v H1:=by
   cases d0 with
   |str _=>cases(show v=.str _ from yU);exact Y
   |_=>cases hl
  calc⟨ty,F1,aU,δ1,_,S1,h2,λxs δ2 h3 vs F2 b4 H2 E2 S2 V2=>?_⟩;let⟨d,h4,rd⟩:=eW S2 (V1.ext E2) h3;let⟨ds,h5,iD⟩:=uv S2 V2 h4
  calc⟨F2,d,ds,_,S2.sub,rd,iD,h5,λz v H' hz sm is=>k _ _ hz _ _ _ _ ((E1.trans E2).trans (Ext.al S2 sm)) (S2.al sm) is⟩⟩
theorem yW{o e:M}{es:-M}{name:J}{apos dr:y}{id:String}{f:WE}{fa:WA}{op:D->-D->(D->Prop)->Prop}(slot:Slot "str" name id)(xh:typeOf (.builtin id)=pure (.type "method_descriptor"))(hm:uw X id op)(ho:JE X o (tD f))(ha:JA X (e::es) (bU fa))
  (ji:attributeBase o name X.env (eval o X.env)=eval o X.env:=by rfl)
  (nA:((backTo dr (starEach (e::es) X.env)).all (λx => !x.1)&&(backToKw dr (keywordEach [] X.env)).all (λx=>x.1.isSome)
   && g (↑(e::es)+↑([]:-Keyword)+(if([]:-Keyword).isEmpty then 0 else 1)<30))=θ:=by rfl)
  (jj:(apos.endLine==dr.line)=θ:=by rfl) (hs:cN X e es:=by rfl) (gH:dI X dr es:=by rfl) :
  JE X (.Call (.Attribute o name apos) (e::es) [] dr) (tD (aq f fa op)):=(pf PySem.F.plainAttrs_str slot xh hm ho ha ji nA jj hs gH).weak Nh
theorem Ni:uw X "str.join" aF:=by
 ext pins s σ H x vs v us Q I rx rv ⟨F,d,ds,K,sub,rd,iD,q,md⟩;unfold aF at q;split at q
 .rename_i z es
  let⟨xs,rfl,ok,q⟩:=q;cases(show x=.str z from rd)
  let⟨t,rfl⟩:=rx;let⟨w,rfl,a,ws,rfl,h1,h2⟩:=b8 iD;let⟨u,rfl,ru⟩:=vals1 rv;cases ru
  cases Em h2
  let⟨ah,r,pl,hz⟩:=I.list (bq.of h1);let⟨l,rfl,e⟩:=Eo r;calc SC.join pl.isList e ok λt' k=>?_;rw[show Txt.join z xs=UR z xs from StrLaws.glued_eq_join z xs];exact⟨.str _,H,I.tok k,⟨_,Y⟩,md _ _ _ q (λ_ _ e=>e) Y⟩
 .calc q.elim
theorem Er{x y:J}(h:↑x<=1000):↑(XR x (Vc x y 0 ↑x (↑x+1)) ↑y)<=sizeLine:=by
 rw[X1]
 let g:∀(l:-Nat)(a:Nat),↑(ZI x ↑y a l)=↑l+1:=by
  ext l
  induction l with
  |nil=>ext a;rfl
  |cons c r ih=>ext a;show↑(ZI x ↑y (c+↑y) r)+1=_;rw[ih];rfl
 rw[g];let:=StrLaws.occ_length_le x y 0 ↑x (↑x+1);calc Nc ⋯
theorem Nj{s:L}{x y:J}{t u:Tok}{Q E:aT}(hy:(↑y==0)=ι)(hx:↑x<=1000)
  (k:∀l n,l.map q0A=VD x y->Q (.ref ⇑s) {s with heap:=s.heap.push {cls:=.type "list",data:=.seq (strValues l).toArray},toks:=n}) :
  G (S X.prog X.w) X.A (call (.builtin "str.split") [.str x t,.str y u]) Q E s:=by
 let z:=F.args_str_split_2 (.str x t) (.str y u)
 by_cases c:(g (↑x<↑y)||g (YW x<YW y))=θ
 .refine Vt X7 (Xq _ _ _) XG z (PySem.meets_str_split_cannot_occur x y t u c) (k [(x,t)] _ ?_)
  unfold VD;rw[Tw c];rfl
 .let c':=ZD.mpr c
  cases f:(Vc x y 0 ↑x (↑x+1)).isEmpty with
  |true =>
   calc Vt X7 (Xq _ _ _) XG z (PySem.meets_str_split_not_found x y t u c' hy f) (k [(x,t)] _ ?_);unfold VD;rw[To c,f,Tw Y];rfl
  |false =>
   calc Vt X7 (Xq _ _ _) XG z (PySem.meets_str_split_sep x y t u c' hy f (iM hx) (Er hx)) ?_;let q:=k (numbered s.toks (XR x (Vc x y 0 ↑x (↑x+1)) ↑y));rw[<-strsFrom_eq] at q;calc q _ ?_;rw[numbered_texts];unfold VD;rw[To c,f,To (by decide)]
theorem Nk:uw X "str.split" aH:=by
 ext pins s σ H x vs v us Q I rx rv ⟨F,d,ds,K,sub,rd,iD,q,md⟩;unfold aH at q;split at q
 .rename_i z y
  let⟨⟨hy,hz⟩,q⟩:=q;cases(show x=.str z from rd)
  let⟨t,rfl⟩:=rx;let⟨w,rfl,rfl⟩:=b8 iD;let⟨u,rfl,t2,rfl⟩:=vals1 rv;calc Nj hy hz λl n e=>?_;let fr:=I.aX.fresh (ug ⇑s);refine⟨.ref _,upd H ⇑s (.lst ((VD z y).map V.str)),I.laid (t':=n) (λb o e=>nF _ e) (ug _) ?_,Y,md _ _ _ q (cy fr) (om sub fr En)⟩
  let hn:↑(VD z y)<=sizeLine:=by
   unfold VD;split
   .exact iM (by simp)
   .split
    .exact iM (by simp)
    .exact Er hz
  exact⟨by simpa using hn,_,_,Ep e,R0 _ Y⟩
 .calc q.elim
theorem Nl:uw X "str.partition" aI:=by
 ext pins s σ H x vs v us Q I rx rv ⟨F,d,ds,K,sub,rd,iD,q,md⟩;unfold aI at q;split at q
 .rename_i z y
  let⟨⟨hy,hz⟩,q⟩:=q;cases(show x=.str z from rd)
  let⟨t,rfl⟩:=rx;let⟨w,rfl,rfl⟩:=b8 iD;let⟨u,rfl,t2,rfl⟩:=vals1 rv;let fr:=I.aX.fresh (ug ⇑s);refine Vt Xv (Xq _ _ _) PySem.F.entry_str_partition (PySem.F.args_str_partition_2 _ _) (PySem.meets_str_partition z y t t2 hy (iM hz)) ?_
  let fin:∀(a b c:J)(ta tb tc:Tok)(n:Nat),K (.tup [.str a,.str b,.str c])->EP X pins σ Q (.ref ⇑s) {s with toks:=n,heap:=s.heap.push {cls:=.type "tuple",data:=.seq [.str a ta,.str b tb,.str c tc].toArray}}:=λa b c ta tb tc n hk =>
   ⟨.ref _,upd H ⇑s (.tup [.str a,.str b,.str c]),I.laid (t':=n) (λb o e=>nF _ e) (ug _) ⟨(show 3<=sizeLine by decide),_,.cons ⟨_,Y⟩ (.cons ⟨_,Y⟩ (.cons ⟨_,Y⟩ .nil)),YK _ _⟩,Y,md _ _ _ hk (cy fr) (rY sub fr ⟨_,_,Y,Y,_,_,Y,Y,_,_,Y,Y,Y⟩)⟩
  unfold Vu at q
  revert q
  cases Vc z y 0 ↑z 1 with
  |nil=>ext q;exact fin _ _ _ _ _ _ _ q
  |cons i r=>ext q;exact fin _ _ _ _ _ _ _ q
 .calc q.elim
abbrev WF:=J->ax->(J->ax->Prop)->Prop
def Es(w:WF)(acc:J)(σ:St)(H:Hp)(Q:J->Hp->Prop):Prop:=∃F ad δ K,SR F ad δ σ H/\w acc δ K/\∀y δ',K y δ'->∀F' az H',Ext F ad δ.mu H F' az δ'.mu H'->SR F' az δ' σ H'->Q y H'
structure u4(X:Cx)(es:-M)(w:WF):Prop where
 go:∀(pins:av)(s:L)(σ:St)(H:Hp)(acc:J)(Q:J->Hp->Prop),Inv X pins σ H s->Es w acc σ H Q →
  Joins (S X.prog X.w) X.A X.xe (evalEach es X.env) acc (λy s1=>↑y<=1000/\∃H1,Inv X pins σ H1 s1/\Q y H1) s
def aK:WF:=λacc δ K=>↑acc<=1000/\K acc δ
def aG(f:WE)(w:WF):WF:=λacc δ K=>f δ λx δ1=>match x with
 |.p (.str y)=>↑(acc++y)<=1000/\w (acc++y) δ1 K
 |_=>False
def aM(w:WF):WE:=fun δ K=>w q1d δ λy δ1=>K (.p (.str y)) δ1
theorem Et{M:Model}{A:Β}{E:aT}:∀(ps:-(Sem B))(acc:J){Q R:J->L->Prop}{s:L},Joins M A E ps acc Q s->(∀y s1,Q y s1->R y s1)->Joins M A E ps acc R s
 |[],_,_,_,_,h,k=>k _ _ h
 |_::r,_,_,_,_,h,k=>UP h (λ_ _ ⟨y,t,e,l,q⟩↦⟨y,t,e,l,Et r _ q k⟩) λ_ _ e=>e
theorem Nm:u4 X [] aK:=⟨λpins s σ H acc Q I h0_=>el7 h0_ λF ad δ K S q k =>⟨q.1,H,I,k _ _ q.2 _ _ _ .refl S⟩⟩
theorem Nn{e:M}{es:-M}{f:WE}{w:WF}(he:JE X e (tD f))(hr:u4 X es w):u4 X (e::es) (aG f w):=by
 calc⟨λpins s σ H acc Q I h0_=>el7 h0_ λF ad δ K S q k=>?_⟩;show G _ _ (eval e X.env) _ _ _;refine bp (he pins s σ H (λv H1=>∃y,v=.str y/\↑(acc++y)<=1000/\Es w (acc++y) σ H1 Q) I ⟨F,ad,δ,_,S,q,λx δ1 h1 v F1 aU H1 E1 S1 V1=>?_⟩) λu s1 ⟨v,H1,I1,r,y,e,l,h⟩=>?_
 .split at h1
  .rename_i y
   exact⟨y,V1,h1.1,F1,aU,δ1,K,S1,h1.2,λy' δ2 hk F2 b4 H2 E2 S2=>k _ _ hk _ _ _ (E1.trans E2) S2⟩
  .exact h1.elim
 .subst e
  let⟨t,rfl⟩:=r;calc⟨y,t,Y,iM l,hr.go pins s1 σ H1 _ Q I1 h⟩
theorem Np{a b:M}{es:-M}{w:WF}{pos:Ε}(h:u4 X (a::b::es) w):JE X (.JoinedStr (a::b::es) pos) (tD (aM w)):=by
 calc⟨λpins s σ H Q I h0_=>el7 h0_ λF ad δ K S q k=>?_⟩;calc wpAny_JoinedStr (Et _ _ (h.go pins s σ H q1d (λy H1=>Q (.str y) H1) I ⟨F,ad,δ,_,S,q,λy δ1 h1 F1 aU H1 E1 S1=>k _ _ h1 _ _ _ _ E1 S1 Y⟩) λy s1 ⟨l,H1,I1,z⟩↦⟨iM l,.str y,H1,I1.tok _,⟨_,Y⟩,z⟩)
theorem Nq{e:M}{f:WE}{pos:y}(he:JE X e (tD f)):JE X (.FormattedValue e (-1) Z pos) (tD (d1 f aE)):=by
 calc⟨λpins s σ H Q I h0_=>el7 h0_ λF ad δ K S q k =>wpAny_FormattedValue_plain ?_⟩;refine bp (he pins s σ H (λv H1=>∃i:Int,v=.int i/\i.natAbs.log2<1920/\Q (.str (num i)) H1) I ⟨F,ad,δ,_,S,q,λx δ1 h1 v F1 aU H1 E1 S1 V1=>?_⟩) λu s1 ⟨v,H1,I1,r,i,e,l,h⟩=>?_
 .let⟨d,h2,rd⟩:=eW S1 V1 h1
  unfold aE at h2;split at h2
  .rename_i i
   exact⟨i,rd,h2.1,k _ _ h2.2 _ _ _ _ E1 S1 Y⟩
  .exact h2.elim
 .subst e
  let⟨t,rfl⟩:=r;calc wpAny_formatField_int l ⟨.str _,H1,I1.tok _,⟨_,Y⟩,h⟩
noncomputable def u5(x:J):-D:=x.cps.toList.map λc=>.str ⟨#[c]⟩
def aN(f:WE):WI:=fun δ K=>f δ λx δ1=>match x with
 |.p (.str y)=>K ⟨u5 y,λ_=>True⟩ δ1
 |_=>False
theorem Nr{a:M}{f:WE}{nm:J}{tp:Ε}(ha:JE X a (tD f)):JI X (.Name nm tp) a (ij (aN f)) :=
 (J3 ha).weak fun σ H R h0_=>el7 h0_ λF ad δ K S q k =>⟨F,ad,δ,_,S,q,λx δ1 h1 v F1 aU H1 E1 S1 V1=>by
  split at h1
  .rename_i y
   calc⟨y,V1,k _ _ h1 _ _ _ _ E1 S1 λF' az δ' σ' H' s pre S' _=>⟨by show↑(u5 y)=y.cps.size;simp[u5],λi d ed=>?_⟩⟩;unfold u5 at ed;rw[R1] at ed;let⟨c,ec,rfl⟩:=Tq.mp ed;let hi:=(kP.mp ec).1;calc⟨by show i<y.cps.size;simpa using hi,λv nO ⟨eh,c',rl,ev⟩=>?_⟩;subst eh ev;rw[<-TM,ec] at rl;cases rl
   exact⟨λ_ _ e=>e,Y⟩
  .calc h1.elim⟩
theorem Nt{x z:J}{u:B}{pos:y}(hg:Gl X x)(hm:X.mg x=U u)(r:RelV (.str z) u)(hd:bw x:=by decide):JE X (.Name x pos) (tD (dC (.str z))):=pD (tY hg hm r hd) λ_=>Y
theorem Nu{a b c:M}{f g h:WE}{op gG:CmpOp}{o o':D->D->(D->Prop)->Prop}{pos:Ε}(ho:dM X (compareOp op) o)(gD:dM X (compareOp gG) o')(ha:JE X a (tD f))(hb:JE X b (tD g))(hc:JE X c (tD h))
  (hm:lastMarks [op,gG] [b,c]=ι:=by with_unfolding_all rfl):JT X (.Compare a [op,gG] [b,c] pos) (b9 (dT (pS f g h o o'))) :=
 (Il ho gD ha hb hc hm).weak fun σ H Q h0_=>el7 h0_ λF ad δ K S q k =>by
  calc⟨F,ad,δ,_,S,q,λx δ1 h1 v1 F1 aU H1 E1 S1 V1=>⟨F1,aU,δ1,_,S1,h1,λy δ2 h2 v2 F2 b4 H2 E2 S2 V2=>?_⟩⟩;let⟨d,h3,rd⟩:=eW S2 (V1.ext E2) h2;let⟨e,h4,re⟩:=eW S2 V2 h3;calc⟨F2,d,e,_,S2.sub,rd,re,h4,λz v H' hz sm is=>?_⟩;let S3:=S2.al sm;let E3:=Ext.al S2 sm;split at hz
  .refine⟨θ,is,?_⟩
   rw[Tw Y];calc⟨_,b4,δ2,_,S3,hz,λw δ4 h5 v4 F4 pJ H4 E4 S4 V4=>?_⟩;let⟨d',h6,pI⟩:=eW S4 ((V2.ext E3).ext E4) h5;let⟨e',h7,yA⟩:=eW S4 V4 h6;calc⟨F4,d',e',_,S4.sub,pI,yA,h7,λz v H' hz sm is=>?_⟩;let⟨b,rfl,hb⟩:=pG (ad:=pJ) (x:=.p z) is hz;exact⟨b,Y,k _ _ hb _ _ _ ((((E1.trans E2).trans E3).trans E4).trans (Ext.al S4 sm)) (S4.al sm)⟩
  .refine⟨ι,is,?_⟩
   rw[To Jn];exact⟨ι,Y,k _ _ hz _ _ _ ((E1.trans E2).trans E3) S3⟩
  .calc hz.elim
end L2
namespace LJ
open PySem L2
noncomputable abbrev cs(x:J):-Nat:=x.cps.toList
theorem u7{a b:J}(h:cs a=cs b):a=b:=by let⟨x⟩:=a;let⟨y⟩:=b;calc congrArg Str.mk (Array.toList_inj.mp h)
theorem sM(a b:J):cs (a++b)=cs a++cs b:=by show(a.cps++b.cps).toList=_;simp
theorem u9(a:J):↑a=↑(cs a):=by show a.cps.size=_;simp
theorem yX{c:Nat}:∀{p q u v:-Nat},c∉p->c∉q->p++c::u=q++c::v->p=q/\u=v
 |[],[],_,_,_,_,h=>⟨Y,(Va h).2⟩
 |[],y::q,_,_,_,hq,h=>absurd ((Va h).1▸Cu) hq
 |x::p,[],_,_,hp,_,h=>absurd ((Va h).1▸Cu) hp
 |x::p,y::q,_,_,hp,hq,h=>by
  let⟨e,h⟩:=Va h;let⟨e1,e2⟩:=yX (λz=>hp (Jp _ z)) (λz=>hq (Jp _ z)) h;calc⟨by rw[e,e1],e2⟩
theorem sN(c:Nat)(p q:J)(r:-J):cs (UR ⟨#[c]⟩ (p::q::r))=cs p++c::cs (UR ⟨#[c]⟩ (q::r)):=by
 show cs (p++⟨#[c]⟩++UR ⟨#[c]⟩ (q::r))=_;rw[sM,sM,U0];rfl
theorem Eu{c:Nat}:∀{ps qs:-J},ps≠[]->qs≠[]->(∀p∈ps,c∉cs p)->(∀q∈qs,c∉cs q)->UR ⟨#[c]⟩ ps=UR ⟨#[c]⟩ qs->ps=qs
 |[],_,h,_,_,_,_=>absurd Y h
 |_,[],_,h,_,_,_=>absurd Y h
 |[p],[q],_,_,_,_,h=>congrArg (λx=>[x]) h
 |[p],q::q2::r,_,_,hp,_,h=>by
  let e:=congrArg cs h;rw[sN] at e;exact absurd (show c∈cs p by rw[show cs p=_ from e];simp) (hp p Cu)
 |p::p2::r,[q],_,_,_,hq,h=>by
  let e:=congrArg cs h;rw[sN] at e;exact absurd (show c∈cs q by rw[show cs q=_ from e.symm];simp) (hq q Cu)
 |p::p2::r,q::q2::t,_,_,hp,hq,h=>by
  let e:=congrArg cs h;rw[sN,sN] at e;let⟨e1,e2⟩:=yX (hp p Cu) (hq q Cu) e;rw[u7 e1,Eu (by simp) (by simp) (λz hz=>hp z (Jp _ hz)) (λz hz=>hq z (Jp _ hz)) (u7 e2)]
theorem Ew{c:Nat}{ps:-J}(h:ps≠[])(hp:∀p∈ps,c∉cs p):VD (UR ⟨#[c]⟩ ps) ⟨#[c]⟩=ps:=by
 calc Eu ?_ h (StrLaws.split_free _ c) hp (StrLaws.join_split _ _);ext z;unfold VD at z;split at z
 .cases z
 .split at z
  .cases z
  .rw[X1] at z
   let⟨p,r,e⟩:=StrLaws.partsFrom_ne (UR ⟨#[c]⟩ ps) ↑(⟨#[c]⟩:J) 0 (Vc (UR ⟨#[c]⟩ ps) ⟨#[c]⟩ 0 ↑(UR ⟨#[c]⟩ ps) (↑(UR ⟨#[c]⟩ ps)+1));rw[e] at z;cases z
theorem Ex{c:Nat}{a b:J}(ha:c∉cs a):Vu (a++⟨#[c]⟩++b) ⟨#[c]⟩=(a,⟨#[c]⟩,b):=by
 let sum:∀i,StrLaws.At (a++⟨#[c]⟩++b) ⟨#[c]⟩ ↑(a++⟨#[c]⟩++b) i↔(cs (a++⟨#[c]⟩++b))[i]?=U c:=λi=>StrLaws.subAt_one _ c i;let ex:cs (a++⟨#[c]⟩++b)=cs a++c::cs b:=by rw[sM,sM,U0];rfl
 unfold Vu;rcases StrLaws.occ_head (a++⟨#[c]⟩++b) ⟨#[c]⟩ 1 (ug 1) with⟨_,hn⟩|⟨i,r,e,hi,hk⟩
 .refine absurd ((sum ↑(cs a)).mpr ?_) (hn ↑(cs a))
  rw[ex,Tn (ug _)];simp
 .rw[e]
  let h1:=(sum i).mp hi;let il:i<↑(cs (a++⟨#[c]⟩++b)):=(kP.mp h1).1
  let e1:cs (Wi (a++⟨#[c]⟩++b) 0 i)=(cs (a++⟨#[c]⟩++b)).take i:=by
   show(Wi (a++⟨#[c]⟩++b) 0 i).cps.toList=_;rw[Yq];rfl
  let e2:cs (Wi (a++⟨#[c]⟩++b) (i+1) ↑(a++⟨#[c]⟩++b))=(cs (a++⟨#[c]⟩++b)).drop (i+1):=by
   show(Wi (a++⟨#[c]⟩++b) (i+1) _).cps.toList=_;rw[Yq,T_];rw[Uh,u9];exact ug _
  let fr:c∉(cs (a++⟨#[c]⟩++b)).take i:=by
   rw[<-e1];exact StrLaws.part_free _ c 0 i (by rw[u9];symm) λk _ Nv=>hk k Nv
  let sp:(cs (a++⟨#[c]⟩++b)).take i++c::(cs (a++⟨#[c]⟩++b)).drop (i+1)=cs a++c::cs b:=by
   rw[<-ex]
   conv=>rhs;rw[<-Yr i (cs (a++⟨#[c]⟩++b))]
   rw[Ug il];congr 1;rw[(kP.mp h1).2]
  let⟨q1,q2⟩:=yX fr ha sp;show(_,_,_)=(_,_,_);rw[u7 (e1.trans q1),show i+↑(⟨#[c]⟩:J)=i+1 from Y,u7 (e2.trans q2)]
theorem Ey(m:Nat):cs (num m)=(WC 10 m).map q0I:=PySem.W.KIN.signs_num m
theorem Nx:∀m:Nat,0<m->∃d r,(WC 10 m).map q0I=d::r/\d≠48:=by
 ext m
 induction m using Nat.strongRecOn with
 |_ m ih =>
  ext h0
  by_cases h:m<10
  .rw[Nat.toDigits_of_lt_base h]
   calc⟨(q05 m).toNat,[],Y,?_⟩;let:∀d:Nat,d<10->0<d->(q05 d).toNat≠48:=by decide
   exact this m h h0
  .let hm:m%10<10:=q0j m (by decide)
   let t:WC 10 (m / 10)++WC 10 (m%10)=WC 10 (10*(m / 10)+m%10):=Nat.toDigits_append_toDigits (by decide) ⋯ hm;rw[Nat.div_add_mod] at t;let⟨d,r,e,hd⟩:=ih (m / 10) ⋯ ⋯;calc⟨d,r++(WC 10 (m%10)).map q0I,?_,hd⟩;rw[<-t,TK,e];rfl
theorem yY{n:Int}(h0:0<=n):∀c∈cs (num n),48<=c/\c<=57:=by
 let⟨m,rfl⟩:=X8 h0;ext c hc;rw[Ey m] at hc;let⟨ch,iR,rfl⟩:=Tz.mp hc;let:=Nat.isDigit_of_mem_toDigits (by decide) (by decide) iR;unfold Char.isDigit at this;erw[Tv,Vb] at this;calc this
theorem u_{n:Int}{k:Nat}(hk:1<=k)(h:n.natAbs<10 ^ k):↑(num n)<=k+1:=by
 let:=int_text_length_le10 hk h;unfold num;rw[show↑((toString n:String):J)=↑(toString n) from ofString_length _];symm
end LJ
namespace L2
open PySem PySem.Spec PyProof.Rows
variable[aD]{X:Cx}
def va(_ j:Int):Prop:=j≠0/\j.natAbs<10 ^ 40
theorem Ny:dM X (binaryOp .FloorDiv) (cg va λi j=>.int (i.fdiv j)):=yz (t8 λi j _ _ _ _ _ hc q=>floordiv_int hc.1 q (.inl (PyProof.noPylong_of_log2 ((q2X (Int.natAbs_ne_zero.mpr hc.1)).mpr (TC hc.2 (T5 (by decide:10 ^ 40<=2 ^ 200) (YI (by decide) (by decide)))))))) λ_ _ _=>Y
end L2
open L2
open Lean in
local macro_rules
 | `(tactic| simp! [$ls,*] $[$loc:location]?)=>do
  let a ← ("ZV dep aZ Ui Nat.max_self Nat.max_zero Nat.zero_max Nat.reduceLeDiff au aS dN ag af d1 d2 dC aa jo gb mE iF ax.fix C9 bW bX nU dT nY fG gO bA xZ gP nZ uB bY iH aB a_ b7 pH j6 rR n8 eY fH k_ cD cF oh j8 yn yo cU aj pK passes jr eB lh rV bu oo bL oG eE uZ jB n5 jz e8 oI cg oEq j_ oLt jw ot bK pT sh si jy bB yD yJ eC jx oA e_ iL oz uR pS ik pU ax.trim ft x8 Option.join_some Option.join_none TJ VH List.cons_append Yl Ut YX List.getElem?_cons_zero Wk List.getElem?_nil U7 U8 Cw Wf YV Xt List.take_nil List.any_nil XQ Vl Ue Y5 Bool.and_self q02 Jr Bool.true_eq_false Ve Um true_and and_true and_self reduceCtorEq XX UX Nat.reduceAdd Nat.reduceLT Nat.reduceEqDiff Nat.reduceSub pj Cv".splitOn " ").toArray.mapM λs => `(Parser.Tactic.simpLemma| $(mkIdent s.toName):ident)
  let r ← `(Parser.Tactic.simpLemma| ↓reduceIte)
  let a:Syntax.TSepArray [`Lean.Parser.Tactic.simpStar, `Lean.Parser.Tactic.simpErase, `Lean.Parser.Tactic.simpLemma] "," := ⟨(Syntax.SepArray.ofElems (sep:=",") ((a.push r).map (·.raw)++ls.getElems.map (·.raw))).elemsAndSeps⟩
  `(tactic| simp only [$a,*] $[$loc]?)
local macro_rules | `(tactic| simp! $[$l:location]?) => `(tactic| simp! [] $[$l]?)
set_option maxHeartbeats 8000000
namespace LJ
open PySem L2
variable[aD]
theorem Ez{ns:-Int}{k:Int}(h0:0<=k)(h1:k<(ns.length:Int)):∃n,d7 (ns.map D.int) k=U (.int n):=by
 let⟨i,rfl⟩:∃i:Nat,k=i:=⟨k.toNat,⋯⟩;let hi:i<ns.length:=by symm
 calc⟨ns[i],kM ?_⟩;rw[R1,nH hi];rfl
theorem eQ{α:Type}{x:α}{r:-α}:d7 (x::r) 0=U x:=kM (j:=0) Y
theorem gR{α:Type}{x y:α}{r:-α}:d7 (x::y::r) 1=U y:=kM (j:=1) Y
theorem at2{α:Type}{x y z:α}{r:-α}:d7 (x::y::z::r) 2=U z:=kM (j:=2) Y
theorem sO{a b A B:Int}(h0:0<=a)(h1:a<=A)(h2:0<=b)(h3:b<=B):0<=a*b/\a*b<=A*B :=
 ⟨Int.mul_nonneg h0 h2,Int.mul_le_mul h1 h3 h2 (Int.le_trans h0 h1)⟩
noncomputable def gj:-Int:=[2147483629,2147483587,2147483579,2147483563,2147483549,2147483543,2147483497,2147483489,2147483477,2147483423,2147483399,2147483353,2147483323]
theorem yZ(n:Int):∃q:Int,d7 (gj.map D.int) (n%13)=U (.int q)/\0<q/\q<2147483648:=by
 let h0:0<=n%13:=UN _ (by decide);let h1:n%13<13:=Ur _ (by decide);generalize n%13=j at h0 h1;let⟨i,rfl⟩:∃i:Nat,j=i:=⟨j.toNat,⋯⟩;let hi:i<13:=by symm
 let hl:(gj.map D.int)[i]?=U (.int (gj[i]'(by show i<13;calc hi))):=by
  rw[R1,nH (by show i<13;calc hi)];rfl
 calc⟨_,kM hl,?_⟩;let all:∀q∈gj,0<q/\q<2147483648:=by decide
 calc all _ (WW _)
theorem Nz:iu 3 1=U 1:=rfl
theorem EA:iu 3 2=U 2:=rfl
abbrev Sem(n m:Nat)(g:GD)(b:WS):Prop:=∀ys ovs K',↑ys=n->g ys ovs K'->b (ik ↑ovs K') ⟨ys.map U++R5 m Z,ovs.map U⟩
theorem aV{A B:WS}{K:KS}{δ:ax}(h:∀N:ax->Prop,N=B K->A {K with nx:=N} δ):au A B K δ:=h _ Y
theorem gT{t:WT}{G G':WS}{K:KS}{δ:ax}(h:∀A B:ax->Prop,A=G K->B=G' K->t δ λb δ1=>if b=θ then A δ1 else B δ1):a_ t G G' K δ:=h _ _ Y Y
theorem y0{w:WI}{g:WG}{b:WS}{K:KS}{δ:ax}(h:∀g' b' K',g'=g->b'=b->K'=K->w δ λit δ1=>j7 δ1 it.br g' b' K' it.items δ1):eY w g b K δ:=h _ _ _ Y Y Y
theorem vb{f:WE}{g:WA}{δ:ax}{K:-DV->ax->Prop}(h:∀K',K'=(λx δ1=>g δ1 λxs δ2=>K (x::xs) δ2)->f δ K'):ag f g δ K:=h _ Y
def y3:GD:=λys ovs K=>∃cell at_:Int,ys=[.p (.int cell),.p (.int at_)]/\ovs=[]/\0<=at_/\at_<2 ^ 30/\∀z:Int,K (.p (.int z)) []
def y4:WS:=(au (a_ (dT (d2 (aa 0) (d2 (dC (.int 10)) (dC (.int 18)) (cg bO λi j=>.int (i ^ j.toNat))) (oI λi j=>.bl (g (j<=i))))) (aB (aa 0)) bY) (au (aS 2 (bX (ag (dC (.int 2147483629)) (ag (dC (.int 2147483587)) (ag (dC (.int 2147483579)) (ag (dC (.int 2147483563)) (ag (dC (.int 2147483549)) (ag (dC (.int 2147483543)) (ag (dC (.int 2147483497)) (ag (dC (.int 2147483489)) af)))))))))) (au (aS 2 (d2 (aa 2) (bX (ag (dC (.int 2147483477)) (ag (dC (.int 2147483423)) (ag (dC (.int 2147483399)) (ag (dC (.int 2147483353)) (ag (dC (.int 2147483323)) af)))))) bL)) (au (aS 3 (d2 (d2 (d2 (d2 (d2 (d2 (aa 0) (dC (.int 1000000007)) (cg (λ_ j=>0<j) λi j=>.int (i%j))) (d2 (d2 (dC (.int 2)) (aa 1) e8) (dC (.int 69069)) bL) e8) (d2 (aa 1) (dC (.int 40503)) e8) bL) (dC (.int 977)) bL) (dC (.int 3)) (cg bO λi j=>.int (i ^ j.toNat))) (d2 (aa 2) (d2 (aa 1) (dC (.int 13)) (cg (λ_ j=>0<j) λi j=>.int (i%j))) bu) (cg (λ_ j=>0<j) λi j=>.int (i%j)))) (au (aS 4 (d2 (d2 (d2 (d2 (d2 (aa 3) (d2 (aa 1) (dC (.int 3)) bL) e8) (d2 (aa 0) (dC (.int 65537)) (cg (λ_ j=>0<j) λi j=>.int (i%j))) bL) (dC (.int 5)) bL) (dC (.int 5)) (cg bO λi j=>.int (i ^ j.toNat))) (d2 (aa 2) (d2 (d2 (aa 1) (dC (.int 5)) bL) (dC (.int 13)) (cg (λ_ j=>0<j) λi j=>.int (i%j))) bu) (cg (λ_ j=>0<j) λi j=>.int (i%j)))) (au (aS 5 (d2 (d2 (d2 (d2 (aa 4) (d2 (aa 3) (dC (.int 1009)) (cg (λ_ j=>0<j) λi j=>.int (i%j))) bL) (aa 1) bL) (dC (.int 3)) (cg bO λi j=>.int (i ^ j.toNat))) (d2 (aa 2) (d2 (d2 (aa 1) (dC (.int 7)) bL) (dC (.int 13)) (cg (λ_ j=>0<j) λi j=>.int (i%j))) bu) (cg (λ_ j=>0<j) λi j=>.int (i%j)))) (aB (d2 (d2 (d2 (d2 (aa 3) (dC (.int 2147483647)) e8) (aa 4) bL) (dC (.int 2147483647)) e8) (aa 5) bL))))))))
theorem NA:Sem 2 4 y3 y4:=by
 ext ys ovs K'-⟨cell,k,rfl,rfl,h0,h1,fin⟩;unfold y4;let sP:∀(z:Int)(sl:-(Option DV)),eZ 0 K' (.p (.int z)) ⟨sl,[]⟩:=λz sl=>⟨[],Y,Y,fin z⟩;simp!;calc⟨⟨by decide,by decide,by decide⟩,?_⟩;split
 .exact sP _ _
 let⟨q1,e1,p1,b1⟩:=yZ k;let⟨q2,e2,p2,b2⟩:=yZ (k+5);let⟨q3,e3,p3,b3⟩:=yZ (k+7);erw[gj,TJ,VH] at e1 e2 e3;erw[e1,e2,e3];let c0:0<=cell%1000000007:=UN _ (by decide);let c1:cell%1000000007<1000000007:=Ur _ (by decide);let m1:=sO c0 (Int.le_of_lt c1) (show(0:Int)<=2*k+69069 by symm) (show 2*k+69069<=2147552717 by symm);refine⟨by decide,.inl ⟨by decide,by decide⟩,.inl ⟨⋯,⋯⟩,.inr ⟨by decide,by decide⟩,⟨by decide,by decide,?cp1⟩,by decide,p1,?_⟩
 case cp1 =>
  generalize cell%1000000007*(2*k+69069)=m at m1 ⊢;symm
 generalize(cell%1000000007*(2*k+69069)+k*40503+977) ^ (3:Int).toNat=x1;let o0:0<=x1%q1:=UN _ ⋯;let o1:x1%q1<q1:=Ur _ p1;let d0:0<=cell%65537:=UN _ (by decide);let d1:cell%65537<65537:=Ur _ (by decide);let m2:=sO o0 (show x1%q1<=2147483648 by symm) (show(0:Int)<=k+3 by symm) (show k+3<=1073741827 by symm);refine⟨.inl ⟨⋯,⋯⟩,by decide,⟨by decide,by decide,?cp2⟩,by decide,p2,?_⟩
 case cp2 =>
  generalize x1%q1*(k+3)=m at m2 ⊢;symm
 let t0:0<=(x1%q1*(k+3)+cell%65537+5) ^ (5:Int).toNat%q2:=UN _ ⋯;let t1:(x1%q1*(k+3)+cell%65537+5) ^ (5:Int).toNat%q2<q2:=Ur _ p2;let u0:0<=x1%q1%1009:=UN _ (by decide);let u1:x1%q1%1009<1009:=Ur _ (by decide);generalize(x1%q1*(k+3)+cell%65537+5) ^ (5:Int).toNat%q2=m at t0 t1 ⊢;calc⟨by decide,⟨by decide,by decide,⋯⟩,by decide,p3,.inr ⟨by decide,by decide⟩,.inr ⟨by decide,by decide⟩,sP _ _⟩
noncomputable def gU(ns:-Int)(k z:Int):OV:=.lst [.lst (ns.map D.int),.int k,.int z]
structure aY(n:Int)(o:OV):Prop where
 out:∃ns k z,o=gU ns k z/\ns.length<=63/\0<=k/\k<=n
theorem aY.mono{n m:Int}{o:OV}(h:aY n o)(l:n<=m):aY m o:=by
 let⟨ns,k,z,e,h1,h2,h3⟩:=h.out;calc⟨ns,k,z,e,h1,h2,⋯⟩
def y6:GD:=λys ovs K=>∃n o,ys=[.o 0]/\ovs=[o]/\aY n o/\∀o',aY n o'->K (.a 0) [o']
def y7:WS:=(au (oA (dC (.int 0)) (aa 0) (dC (.int 2))) (aB (aa 0)))
theorem NB:Sem 1 0 y6 y7:=by
 ext ys ovs K'-⟨n,o,rfl,rfl,P,fin⟩;let⟨ns,k,z,rfl,h1,h2,h3⟩:=P.out;unfold y7 gU;simp!;calc⟨[gU ns k 0],Y,Y,fin _ ⟨ns,k,0,Y,h1,h2,h3⟩⟩
def eF:GD:=λys ovs K=>∃(n m:Int)(o:OV),ys=[.o 0,.p (.int m)]/\ovs=[o]/\aY n o/\n<2 ^ 30/\0<m/\m<10 ^ 40/\∀r o',0<=r->r<m->aY (n+1) o'->K (.p (.int r)) [o']
def y8:WS:=(au (a_ (dT (d2 (d2 (aa 0) (dC (.int 2)) bu) (aa 1) oLt)) (au (aS 2 (d2 (aa 0) (dC (.int 1)) bu)) (au (aS 3 (dC (.int 0))) (au (a_ (dT (d2 (aa 2) (dN (ag (d2 (aa 0) (dC (.int 0)) bu) af) bK) oLt)) (aS 3 (d2 (d2 (aa 0) (dC (.int 0)) bu) (aa 2) bu)) (a_ (dT (d2 (dN (ag (d2 (aa 0) (dC (.int 0)) bu) af) bK) (dC (.int 0)) (oI λi j=>.bl (g (j<i))))) (aS 3 (d2 (d2 (d2 (aa 0) (dC (.int 0)) bu) (d2 (d2 (d2 (aa 2) (dC (.int 5)) e8) (dC (.int 3)) bL) (dN (ag (d2 (aa 0) (dC (.int 0)) bu) af) bK) (cg (λ_ j=>0<j) λi j=>.int (i%j))) bu) (d2 (d2 (dC (.int 10)) (dC (.int 17)) (cg bO λi j=>.int (i ^ j.toNat))) (aa 2) bL) (cg (λ_ j=>0<j) λi j=>.int (i%j)))) bY)) (au (oA (d2 (aa 2) (dC (.int 1)) bL) (aa 0) (dC (.int 1))) (oA (aj 2 y3 (ag (aa 3) (ag (aa 2) af))) (aa 0) (dC (.int 2))))))) bY) (au (aS 4 (d2 (d2 (aa 0) (dC (.int 2)) bu) (aa 1) (cg (λ_ j=>0<j) λi j=>.int (i%j)))) (au (oA (d2 (d2 (aa 0) (dC (.int 2)) bu) (aa 1) (cg va λi j=>.int (i.fdiv j))) (aa 0) (dC (.int 2))) (aB (aa 4)))))
theorem NC:Sem 2 3 eF y8:=by
 ext ys ovs K'-⟨n,m,o,rfl,rfl,P,hn,EB,Se,fin⟩;let⟨ns,k,z,rfl,h1,h2,h3⟩:=P.out;unfold y8 gU
 let last:∀(k' z':Int)(sl:-(Option DV)),0<=k'->k'<=n+1->eZ 1 K' (.p (.int (z'%m))) ⟨sl,[U (.lst [.lst (ns.map D.int),.int k',.int (z'.fdiv m)])]⟩:=λk' z' sl a b =>
  ⟨[gU ns k' (z'.fdiv m)],Y,Y,fin _ _ (UN _ ⋯) (Ur _ EB) ⟨ns,k',_,Y,h1,a,b⟩⟩
 let ND:∀z,va z m:=λz=>⟨⋯,⋯⟩
 let rest:∀(k' z':Int)(s2 s3 s4:Option DV),0<=k'->k'<=n+1->(au (aS 4 (d2 (d2 (aa 0) (dC (.int 2)) bu) (aa 1) (cg (λ_ j=>0<j) λi j=>.int (i%j)))) (au (oA (d2 (d2 (aa 0) (dC (.int 2)) bu) (aa 1) (cg va λi j=>.int (i.fdiv j))) (aa 0) (dC (.int 2))) (aB (aa 4)))) (ik 1 K') ⟨[U (.o 0),U (.p (.int m)),s2,s3,s4],[U (.lst [.lst (ns.map D.int),.int k',.int z'])]⟩:=λk' z' s2 s3 s4 a b=>by
  simp![at2,EA];exact⟨EB,ND _,last _ _ _ a b⟩
 calc aV λN hN=>?_;calc gT λA B hA hB=>?_;simp![at2];split
 .subst hA
  calc aV λN2 cJ=>?_;simp![gR];subst cJ;calc aV λN2 cJ=>?_;simp!;subst cJ;refine aV λN2 cJ=>?_
  let go:∀(c:Int)(s4:Option DV),N2 ⟨[U (.o 0),U (.p (.int m)),U (.p (.int k)),U (.p (.int c)),s4],[U (.lst [.lst (ns.map D.int),.int k,.int z])]⟩:=λc s4=>by
   subst cJ;simp![Nz];calc⟨c,k,Y,Y,h2,⋯,λz'=>?_⟩;simp![EA];subst hN;exact rest _ _ _ _ _ ⋯ ⋯
  calc gT λA B hA hB=>?_;simp![eQ];split
  .rename_i dF
   let⟨c,ec⟩:=Ez h2 (U3 dF);subst hA;simp![eQ];rw[ec];exact go _ _
  .subst hB
   calc gT λA B hA hB=>?_;simp![eQ];split
   .rename_i lB
    let lB:=U3 lB;let⟨c,ec⟩:=Ez (ns:=ns) (k:=(k*5+3)%(ns.length:Int)) (UN _ ⋯) (Ur _ lB);subst hA;simp![eQ];calc⟨.inr ⟨by decide,by decide⟩,lB,?_⟩;rw[ec];exact⟨⟨by decide,by decide,by decide⟩,by show(0:Int)<10 ^ 17+k;symm,go _ _⟩
   .subst hB
    exact go _ _
 .subst hB hN
  calc rest _ _ _ _ _ ⋯ ⋯
noncomputable def bH(p:Int×Int):D:=.tup [.int p.1,.int p.2]
structure cL(many:Int)(ps:-(Int×Int)):Prop where
 ends:∀p∈ps,0<=p.1/\p.1<p.2/\p.2<many
 oD:ps.Nodup
 gA:↑ps<=66
theorem cL.sub{many:Int}{ps qs:-(Int×Int)}(h:cL many ps)(s:qs.Sublist ps):cL many qs :=
 ⟨λp hp=>h.ends p (s.subset hp),h.oD.sublist s,T5 s.length_le h.gA⟩
def y9:GD:=λys ovs K=>∃(n kind many:Int)(o:OV),ys=[.o 0,.p (.int kind),.p (.int many)]/\ovs=[o]/\aY n o/\n+100<2 ^ 30/\1<=many/\many<=12/\∀ps o',cL many ps->aY (n+67) o'->K (.n (ps.map bH)) [o']
def y_:WS:=(au (aS 3 (nU af)) (au (eY (j8 (ag (aa 2) af)) (b7 4) (iH (oz (aa 3) (ag (fH (j8 (ag (aa 4) af)) [Z,U 4] (b7 0) cD (bW (ag (aa 0) (ag (aa 1) af)))) af)))) (au (a_ (dT (d2 (aa 1) (dC (.int 1)) oEq)) (aB (k_ (yn (ag (dC (.int 1)) (ag (aa 2) af))) [Z,U 0] (b7 0) cD (bW (ag (aj 2 eF (ag (aa 1) (ag (aa 0) af))) (ag (aa 0) af))))) bY) (au (a_ (dT (d2 (aa 1) (dC (.int 2)) oEq)) (au (aS 5 (fH (j8 (ag (d2 (aa 2) (dC (.int 1)) (oI λi j=>.int (i-j))) af)) [Z] (b7 0) cD (bW (ag (aa 0) (ag (d2 (aa 0) (dC (.int 1)) bL) af))))) (aB (yJ (aa 5) (fH (cF (aa 3)) [Z,U 2] (b7 0) (fG (dT (d2 (aa 0) (bW (ag (dC (.int 0)) (ag (d2 (aa 1) (dC (.int 1)) (oI λi j=>.int (i-j))) af))) oEq)) (dT (d2 (aa 1) (dC (.int 2)) (oI λi j=>.bl (g (j<i)))))) (aa 0))))) bY) (au (a_ (dT (d2 (aa 1) (dC (.int 3)) oEq)) (aB (aa 3)) bY) (au (a_ (dT (d2 (aa 1) (dC (.int 4)) oEq)) (aB (k_ (cF (aa 3)) [Z,U 0] (b7 0) (dT (d2 (aj 2 eF (ag (aa 1) (ag (dC (.int 4)) af))) (dC (.int 0)) oEq)) (aa 0))) bY) (au (a_ (dT (d2 (aa 1) (dC (.int 5)) oEq)) (au (aS 6 (aj 2 eF (ag (aa 0) (ag (d2 (aa 2) (dC (.int 1)) bL) af)))) (aB (k_ (cF (aa 3)) [Z,U 6,U 0] (b7 0) (fG (dT (d2 (d2 (d2 (aa 0) (dC (.int 0)) bu) (aa 1) oLt) (d2 (d2 (aa 0) (dC (.int 1)) bu) (aa 1) oLt) oEq)) (dT (d2 (aj 2 eF (ag (aa 2) (ag (dC (.int 3)) af))) (dC (.int 0)) (oI λi j=>.bl (g (j<i)))))) (aa 0)))) bY) (aB (k_ (cF (aa 3)) [Z,U 0] (b7 0) (dT (d2 (aj 2 eF (ag (aa 1) (ag (dC (.int 2)) af))) (dC (.int 0)) oEq)) (aa 0))))))))))
theorem sub_snoc{α:Type}{zs ps:-α}{i:Nat}{x:α}(h:zs.Sublist (ps.take i))(e:ps[i]?=U x):(zs++[x]).Sublist (ps.take (i+1))/\zs.Sublist (ps.take (i+1)):=by
 let:ps.take (i+1)=ps.take i++[x]:=by rw[WB,e];rfl
 rw[this];calc⟨h.append (ZJ _),h.trans (List.sublist_append_left _ _)⟩
theorem NF{α:Type}{l:-α}{c:α}(h:l.Nodup)(hc:∀x∈l,x=c):↑l<=1:=by
 match l,h,hc with
 |[],_,_=>exact Ui _
 |[_],_,_=>exact ug _
 |x::y::r,h,hc =>
  let:=(Y8.mp h).1 y (Cu);calc absurd ((hc x Cu).trans (hc y (Jp _ Cu)).symm) this
theorem za{n:Int}{o:OV}{ps:-(Int×Int)}{t:WT}{K:-D->ax->Prop}{rest:-(Option DV)}{ev:Option OV}{br:ax->Prop}(hc:∀sl o',br ⟨sl,[U o',ev]⟩)(hw:↑ps<=66)(P:aY n o)(hn:n+70<2 ^ 30)
  (ht:∀(p:Int×Int)(i:Nat)(o':OV)(Q:Bool->ax->Prop),p∈ps->i<=66->aY (n+i) o'->(∀b jC,aY (n+i+1) jC->Q b ⟨U (.p (bH p))::rest,[U jC,ev]⟩)->t ⟨U (.p (bH p))::rest,[U o',ev]⟩ Q)
  (hr:ft 2 rest rest=rest)
  (fin:∀(zs:-(Int×Int)) o',zs.Sublist ps->aY (n+↑ps) o'->K (zs.map bH) ⟨Z::rest,[U o',ev]⟩) :
  gQ ⟨Z::rest,[U o,ev]⟩ br (b7 0) t (aa 0) K (ps.map bH) [] ⟨Z::rest,[U o,ev]⟩:=by
 refine su (λi acc δ=>∃(zs:-(Int×Int))(o':OV),zs.Sublist (ps.take i)/\acc=zs.map bH/\aY (n+i) o'/\δ=⟨Z::rest,[U o',ev]⟩) ⟨[],o,ZJ _,Y,P.mono ⋯,Y⟩ ?_ ?_
 .ext j d acc δ L hj ⟨zs,o',hz,rfl,P',rfl⟩ hL
  rw[R1] at hj;let⟨p,hp,rfl⟩:=Tq.mp hj;let yS:j<↑ps:=(kP.mp hp).1;calc⟨hc _ _,?_⟩;show t ⟨U (.p (bH p))::rest,[U o',ev]⟩ _;refine ht p j o' _ (T2 hp) ⋯ P' λb jC lC=>?_
  let hlen:↑(zs.map bH)<1000:=by
   rw[pj];let:=hz.length_le;rw[TB] at this;symm
  let P3:aY (n+((j+1:Nat):Int)) jC:=lC.mono ⋯
  cases b with
  |true =>
   rw[Tw Y];calc⟨hlen,hL _ _ ⟨zs++[p],jC,(sub_snoc hz hp).1,by rw[TK];rfl,P3,?_⟩⟩;show(⟨Z::ft 2 rest rest,_⟩:ax)=_;rw[hr];rfl
  |false =>
   rw[To (by decide)];calc hL _ _ ⟨zs,jC,(sub_snoc hz hp).2,Y,P3,?_⟩;show(⟨Z::ft 2 rest rest,_⟩:ax)=_;rw[hr];rfl
 .ext acc δ ⟨zs,o',hz,rfl,P',rfl⟩
  rw[pj] at P' hz;rw[T_ (ug _)] at hz;calc⟨hc _ _,fin zs o' hz P'⟩
theorem NG:Sem 3 4 y9 y_:=by
 ext ys ovs K'-⟨n,kind,many,o,rfl,rfl,P,hn,m1,kY,fin⟩;let⟨mm,rfl⟩:∃mm:Nat,many=mm:=⟨many.toNat,⋯⟩;let zb:mm<=12:=by symm
 unfold y_;let bN:cL mm (h_ mm):=⟨λp hp=>xT hp,CZ mm,C0 mm zb⟩;calc aV λN hN=>?_;simp!;subst hN;calc aV λN hN=>?_;simp!;calc⟨⋯,?_⟩;refine oB (λi δ=>δ=⟨[U (.o 0),U (.p (.int kind)),U (.p (.int mm)),U (.o 1),Z,Z,Z],[U o,U (.lst ((h_ i).map bH))]⟩) Y ?_ ?_
 .ext j d δ L hj rfl hL
  let⟨hj,rfl⟩:=j9 hj;simp!;let e:(0+(j:Int))=j:=by symm
  rw[e];refine⟨⋯,?_⟩
  refine pV (λd=>match d with
   |.int a=>bH (a,j)
   |_=>.non) (by rw[ju];symm) trivial ?_ ?_
  .ext d hd acc L' ha h
   let⟨i,hi⟩:=Tp.mp hd;let⟨hi,rfl⟩:=j9 hi;simp!;exact⟨ha,h⟩
  .let e2:(h_ j).map bH++(cE 0 (j:Int).toNat).map (λd=>match d with
    |.int a=>bH (a,j)
    |_=>.non)=(h_ (j+1)).map bH:=by
    show _=(h_ j++_).map bH;unfold cE;rw[TK,Uz,Uz];congr 1;calc Xb λa _=>?_;simp[q07]
   simp!;let Sf:=C0 j ⋯;calc⟨by rw[ju];symm,?_⟩;rw[e2];exact hL _ Y
 .ext δ rfl
  calc⟨trivial,?_⟩;subst hN;let eL:((mm:Int)).toNat=mm:=by symm
  rw[ju,eL];dsimp only
  let back:∀(ps:-(Int×Int))(o':OV)(sl:-(Option DV))(m:-(Option OV)),cL mm ps->aY (n+67) o'->eZ 1 K' (.o (↑m+1)) ⟨sl,U o'::(m++[U (.lst (ps.map bH))])⟩:=λps o' sl m h1 h2=>by
   calc⟨[o'],Y,Y,?_⟩;show if ↑m+1<1 then _ else _;rw[To ⋯]
   let:(U o'::(m++[U (OV.lst (ps.map bH))]))[↑m+1]?=U (U (.lst (ps.map bH))):=by
    rw[Wk,Tn (ug _),Uy];rfl
   dsimp only;rw[this];exact .inl (fin ps o' h1 h2)
  calc aV λN hN=>?_;simp![ay];split
  .refine⟨⋯,?_⟩
   refine su (λi acc δ=>∃(zs:-(Int×Int))(o':OV),↑zs=i/\(∀(q:Nat)(p:Int×Int),zs[q]?=U p->p.2=q+1/\0<=p.1/\p.1<p.2)/\acc=zs.map bH/\aY (n+i) o'/\δ=⟨[Z,U (.o 0)],[U o',U (.lst ((h_ mm).map bH))]⟩) ⟨[],o,Y,λq p e=>by simp at e,Y,P.mono ⋯,Y⟩ ?_ ?_
   .ext j d acc δ L hj ⟨zs,o',hz,hq,rfl,P',rfl⟩ hL
    let⟨hj,rfl⟩:=j9 hj;simp!;calc⟨n+j,1+j,o',Y,Y,P',⋯,⋯,⋯,λr jC r0 r1 lC=>?_⟩;simp!;refine⟨⋯,hL _ _ ⟨zs++[(r,1+(j:Int))],jC,by rw[Cv,hz];rfl,λq p e=>?_,by rw[TK];rfl,lC.mono ⋯,Y⟩⟩
    by_cases c:q<↑zs
    .rw[R4 c] at e
     exact hq q p e
    .let hl:=(kP.mp e).1
     rw[Cv,T9] at hl;let:q=↑zs:=by symm
     subst this;rw[Tn (ug _),Uy] at e;cases(show U (r,1+(j:Int))=U p by simpa using e)
     exact⟨by show 1+(j:Int)=_;symm,r0,r1⟩
   .ext acc δ ⟨zs,o',hz,hq,rfl,P',rfl⟩
    rw[ju] at hz P';calc⟨trivial,?_⟩;refine back zs o' _ [_] ⟨λp hp=>?_,?_,⋯⟩ (P'.mono ⋯)
    .let⟨q,EC⟩:=Tp.mp hp
     let:=hq q p EC;let hl:=(kP.mp EC).1;symm
    .refine Xy.mpr λi j hi hj Sg e=>?_
     let q1:=hq i _ (nH hi);let q2:=hq j _ (nH hj);rw[e] at q1;symm
  subst hN;calc aV λN hN=>?_;simp![ay];split
  .clear hN
   refine⟨⋯,?_⟩
   refine pV (λd=>match d with
    |.int a=>bH (a,a+1)
    |_=>.non) (by rw[ju];symm) trivial ?_ ?_
   .ext d hd acc L' ha h
    let⟨i,hi⟩:=Tp.mp hd;let⟨hi,rfl⟩:=j9 hi;simp!;exact⟨ha,h⟩
   .simp!
    refine DP (λd=>ay d (bH (0,mm-1))&&g ((2:Int)<mm)) id (by rw[pj];let:=bN.gA;symm) Y ?_ ?_
    .ext d hd acc L' ha h h'
     let⟨p,hp,rfl⟩:=Tz.mp hd;erw[bH] at h h';simp![bH];split
     .rename_i q1
      split
      .rename_i q2
       exact⟨ha,h (by rw[q1,q2];rfl)⟩
      .rename_i q2
       exact h' (by rw[q1,VZ _ |>.mp q2];rfl)
     .rename_i q1
      exact h' (by rw[VZ _ |>.mp q1];rfl)
    .simp!
     let er:(cE 0 ((mm:Int)-1).toNat).map (λd=>match d with
       |D.int a=>bH (a,a+1)
       |x=>D.non)=((TY (mm-1)).map λi:Nat=>((i:Int),(i:Int)+1)).map bH:=by
      unfold cE;rw[Uz,Uz];let:((mm:Int)-1).toNat=mm-1:=by symm
      rw[this];calc Xb λa _=>?_;simp[q07]
     let ef:(((h_ mm).map bH).filter λd=>ay d (bH (0,mm-1))&&g ((2:Int)<mm))=((h_ mm).filter λp=>ay (bH p) (bH (0,mm-1))&&g ((2:Int)<mm)).map bH:=by
      rw[List.filter_map];rfl
     rw[er,List.map_id,ef,<-TK]
     let hf:∀p∈(h_ mm).filter (λp=>ay (bH p) (bH (0,mm-1))&&g ((2:Int)<mm)),p=(0,(mm:Int)-1)/\(2:Int)<mm:=λp hp=>by
      let:=(W0.mp hp).2;simp[bH,ay,cG] at this;let⟨a,b⟩:=p;simp at this ⊢;symm
     let h1:↑((h_ mm).filter (λp=>ay (bH p) (bH (0,mm-1))&&g ((2:Int)<mm)))<=1:=NF (bN.oD.sublist YY) λp hp=>(hf p hp).1;refine⟨by rw[ju,pj];symm,back _ o _ [_] ⟨λp hp=>?_,?_,?_⟩ (P.mono ⋯)⟩
     .rcases T1.mp hp with hp|hp
      .let⟨i,hi,rfl⟩:=Tz.mp hp
       let:=T6.mp hi;exact⟨⋯,⋯,by show(i:Int)+1<mm;symm⟩
      .exact bN.ends p (W0.mp hp).1
     .refine U4.mpr ⟨?_,bN.oD.sublist YY,λa ha b hb e=>?_⟩
      .refine Wr.mpr (WM.imp λ{a b} ne e=>ne ?_)
       let:=congrArg q0A e;exact XO this
      .subst e
       let⟨i,hi,rfl⟩:=Tz.mp ha;let:=hf _ hb;let h2:=congrArg q0A this.1;let h3:=congrArg Prod.snd this.1;simp at h2 h3;symm
     .rw[Cv,pj,UE];symm
  subst hN;calc aV λN hN=>?_;simp![ay];split
  .exact⟨[o],Y,Y,.inl (fin _ _ bN (P.mono ⋯))⟩
  subst hN;calc aV λN hN=>?_;simp![ay];split
  .refine za (λ_ _=>Y) bN.gA P ⋯ (λp i o' Q hp hi P' hQ=>?_) Y λzs o' hz P'=>?_
   .simp![ay]
    calc⟨n+i,4,o',Y,Y,P',⋯,⋯,⋯,λr jC r0 r1 lC=>?_⟩;simp!;exact hQ _ _ lC
   .exact back zs o' _ [_] (bN.sub hz) (P'.mono (by let:=bN.gA;symm))
  subst hN;calc aV λN hN=>?_;simp![ay];split
  .refine⟨n,mm+1,o,Y,Y,P,⋯,⋯,⋯,λhalf o1 r0 r1 P1=>?_⟩
   simp!;refine za (n:=n+1) (λ_ _=>Y) bN.gA P1 ⋯ (λp i o' Q hp hi P' hQ=>?_) Y λzs o' hz P'=>?_
   .simp![ay,bH,eQ,gR]
    split
    .refine⟨n+1+i,3,o',Y,Y,P',⋯,⋯,⋯,λr jC r0 r1 lC=>?_⟩
     simp!;exact hQ _ _ lC
    .exact hQ _ _ (P'.mono ⋯)
   .exact back zs o' _ [_] (bN.sub hz) (P'.mono (by let:=bN.gA;symm))
  subst hN;simp![ay];refine za (λ_ _=>Y) bN.gA P ⋯ (λp i o' Q hp hi P' hQ=>?_) Y λzs o' hz P'=>?_
  .simp![ay]
   calc⟨n+i,2,o',Y,Y,P',⋯,⋯,⋯,λr jC r0 r1 lC=>?_⟩;simp!;exact hQ _ _ lC
  .calc back zs o' _ [_] (bN.sub hz) (P'.mono (by let:=bN.gA;symm))
theorem zc{α:Type}:∀{l:-α}{j:Nat}(h:j<↑l),q3U (l[j]::l.eraseIdx j) l
 |x::r,0,h=>Yw _
 |x::r,j+1,h=>by
  let hj:j<↑r:=by simpa using h
  show q3U (r[j]::x::r.eraseIdx j) (x::r);calc(q0m x r[j] _).trans ((zc hj).cons x)
theorem zd{α β:Type}(f:α->β):∀(l:-α)(j:Nat),(l.map f).eraseIdx j=(l.eraseIdx j).map f
 |[],_=>Y
 |_::_,0=>Y
 |x::r,j+1=>by
  show f x::(r.map f).eraseIdx j=f x::(r.eraseIdx j).map f;rw[zd f r j]
noncomputable def bM(y:Int×Int×Int):D:=.tup [.int y.1,.int y.2.1,.int y.2.2]
noncomputable def cz(m:Int)(ys:-(Int×Int×Int)):D:=.tup [.int m,.tup (ys.map bM)]
noncomputable def oH(y:Int×Int×Int):Int×Int:=(y.1,y.2.1)
theorem cL.perm{many:Int}{ps qs:-(Int×Int)}(h:cL many ps)(p:qs.Perm ps):cL many qs :=
 ⟨λx hx=>h.ends x (p.mem_iff.mp hx),p.nodup_iff.mpr h.oD,by rw[p.length_eq];calc h.gA⟩
def ze:GD:=λys ovs K=>∃(n cV most:Int)(o:OV),ys=[.o 0,.p (.int cV),.p (.int most)]/\ovs=[o]/\aY n o/\n+400<2 ^ 30/\1<=cV/\cV<=12/\0<=most/\most<=30 ∧
 ∀m ws o',iB m ws->m<=cV->(↑ws:Int)<=most->aY (n+300) o'->K (.p (cz m ws)) [o']
def zf:WS:=(au (aS 3 (aj 2 eF (ag (aa 0) (ag (dC (.int 8)) af)))) (au (aS 4 (aj 2 eF (ag (aa 0) (ag (dC (.int 4)) af)))) (au (aS 5 (d2 (dC (.int 1)) (aj 2 eF (ag (aa 0) (ag (aa 1) af))) bL)) (au (aS 6 (pK 3 y9 (ag (aa 0) (ag (aa 3) (ag (aa 5) af))))) (au (aS 7 (nU af)) (au (eY (j8 (ag (dN (ag (aa 2) (ag (dN (ag (aa 6) af) bK) af)) si) af)) (b7 8) (au (n8 (uR (aa 6) (ag (aj 2 eF (ag (aa 0) (ag (dN (ag (aa 6) af) bK) af))) af)) (rR 2 (j6 (b7 9) (j6 (b7 10) pH)))) (au (aS 11 (d2 (bX (ag (dC (.int 7)) (ag (aj 2 eF (ag (aa 0) (ag (dC (.int 3)) af))) (ag (d2 (d2 (dC (.int 10)) (dC (.int 9)) (cg bO λi j=>.int (i ^ j.toNat))) (aj 2 eF (ag (aa 0) (ag (dC (.int 2)) af))) (oI λi j=>.int (i-j))) (ag (aj 2 eF (ag (aa 0) (ag (d2 (d2 (dC (.int 10)) (dC (.int 9)) (cg bO λi j=>.int (i ^ j.toNat))) (dC (.int 1)) bL) af))) af))))) (aa 4) bu)) (iH (iL (aa 7) (ag (bW (ag (aa 9) (ag (aa 10) (ag (aa 11) af)))) af)))))) (aB (bW (ag (aa 5) (ag (dN (ag (aa 7) af) sh) af))))))))))
theorem NH:Sem 3 9 ze zf:=by
 ext ys ovs K'-⟨n,cV,most,o,rfl,rfl,P,hn,h1,Sh,s0,Si,fin⟩;unfold zf;calc aV λN hN=>?_;simp!;calc⟨n,8,o,Y,Y,P,⋯,⋯,⋯,λkind o1 _ _ P1=>?_⟩;simp!;subst hN;calc aV λN hN=>?_;simp!;calc⟨n+1,4,o1,Y,Y,P1,⋯,⋯,⋯,λdO o2 p0 p4 P2=>?_⟩;simp!;subst hN;calc aV λN hN=>?_;simp!;calc⟨n+1+1,cV,o2,Y,Y,P2,⋯,⋯,⋯,λmm o3 m0 mh P3=>?_⟩;simp!;subst hN;calc aV λN hN=>?_;simp!;refine⟨n+1+1+1,kind,1+mm,o3,Y,Y,P3,⋯,⋯,⋯,λps o4 ED P4=>?_⟩
 simp!;subst hN;calc aV λN hN=>?_;simp!;subst hN;calc aV λN hN=>?_;let Sj:=ED.gA;simp!;calc⟨⋯,?_⟩;let ek:(min most (↑ps:Int)).toNat=min most.toNat ↑ps:=by symm
 rw[ek];generalize hk:min most.toNat ↑ps=k
 refine oB (λi δ=>∃(qs:-(Int×Int))(ws:-(Int×Int×Int))(o':OV),↑qs+i=↑ps/\↑ws=i/\cL (1+mm) (ws.map oH++qs)/\(∀y∈ws,0<=y.2.2/\y.2.2<=1000000000)/\aY (n+70+4*i) o' ∧
  δ=⟨[U (.o 0),U (.p (.int cV)),U (.p (.int most)),U (.p (.int kind)),U (.p (.int dO)),U (.p (.int (1+mm))),U (.o 1),U (.o 2),Z,Z,Z,Z],[U o',U (.lst (qs.map bH)),U (.lst (ws.map bM))]⟩)
  ⟨ps,[],o4,⋯,Y,ED,λy hy=>absurd hy Tr,P4.mono ⋯,Y⟩ ?_ ?_
 .ext j d δ L hj ⟨qs,ws,o',hq,hw,hp,hy,P',rfl⟩ hL
  let⟨hj,rfl⟩:=j9 hj;let q0:0<↑qs:=by symm
  let NI:=hp.gA;rw[Cv,pj] at NI;calc⟨trivial,?_⟩;erw[b7,U7,U8];calc aV λN2 cJ=>?_;simp!;calc⟨n+70+4*j,↑qs,o',Y,Y,P',⋯,⋯,⋯,λr o1 r0 r1 P1=>?_⟩;let⟨rn,rfl⟩:∃rn:Nat,r=rn:=⟨r.toNat,⋯⟩;let hr:rn<↑qs:=by symm
  let ix:seqIndex? (rn:Int) ↑qs=U rn:=C1 hr;let eq:(qs.map bH)[rn]?=U (.tup [.int qs[rn].1,.int qs[rn].2]):=by rw[R1,nH hr];rfl
  simp![ix,eq];calc⟨⟨⋯,⋯⟩,?_⟩;subst cJ;calc aV λN2 cJ=>?_;erw[aS,d2,bX];calc vb λK3 oJ=>?_;simp!;subst oJ;calc vb λK3 oJ=>?_;simp!;calc⟨n+70+4*j+1,3,o1,Y,Y,P1,⋯,⋯,⋯,λa1 o2 Sk Sl P2=>?_⟩;simp!;subst oJ;calc vb λK3 oJ=>?_;simp!;calc⟨⟨by decide,by decide,by decide⟩,n+70+4*j+1+1,2,o2,Y,Y,P2,⋯,⋯,⋯,λa2 o3 Sm Sn P3=>?_⟩;simp!;subst oJ;calc vb λK3 oJ=>?_;simp!;refine⟨⟨by decide,by decide,by decide⟩,n+70+4*j+1+1+1,10 ^ US 9+1,o3,Y,Y,P3,⋯,by decide,by decide,λa3 o4 So NJ P4=>?_⟩
  simp!;subst oJ;simp!;let e9:(10:Int) ^ US 9=1000000000:=by decide
  rw[e9] at NJ ⊢
  let⟨pr,NK,NL,NM⟩:∃pr:Int,d7 [D.int 7,D.int a1,D.int (1000000000-a2),D.int a3] dO=U (.int pr)/\0<=pr/\pr<=1000000000:=by
   let:dO=0\/dO=1\/dO=2\/dO=3:=by symm
   rcases this with rfl|rfl|rfl|rfl
   .exact⟨7,Y,⋯,⋯⟩
   .exact⟨a1,Y,⋯,⋯⟩
   .exact⟨1000000000-a2,Y,⋯,⋯⟩
   .exact⟨a3,Y,⋯,⋯⟩
  rw[NK];show N2 _;subst cJ;simp!;refine⟨⋯,hL _ ⟨qs.eraseIdx rn,ws++[(qs[rn].1,qs[rn].2,pr)],o4,?_,?_,?_,?_,P4.mono ⋯,?_⟩⟩
  .rw[Xw hr];symm
  .rw[Cv,hw];rfl
  .refine hp.perm ?_
   rw[TK,U0];calc Ys _ ?_;exact zc hr
  .ext y p9
   rcases T1.mp p9 with h|h
   .exact hy y h
   .rw[Ul.mp h];exact⟨NL,NM⟩
  .rw[TK,zd];rfl
 .ext δ ⟨qs,ws,o',hq,hw,hp,hy,P',rfl⟩
  calc⟨trivial,?_⟩;subst hN;simp!;rw[ju] at hw P';calc⟨[o'],Y,Y,?_⟩;refine fin (1+mm) ws o' ⟨⋯,⋯,⋯,λy p9=>?_,?_⟩ ⋯ ⋯ (P'.mono ⋯)
  .let:=hp.ends (oH y) (Uw _ (Tz.mpr ⟨y,p9,Y⟩))
   let h2:=hy y p9;erw[oH] at this;symm
  .calc (U4.mp hp.oD).1
end LJ
namespace L2
open PySem PySem.Spec PyProof.Rows
variable[aD]
def vc:-D->(D->Prop)->Prop
 |[.lst ds],K=>match mM ds with
  |some ps=>(↑ps<=30/\∀p∈ps,0<=p.1/\p.1<p.2/\p.2<12)/\K (.int ↑(fw ps ↑ps))
  |none=>False
 |_,_=>False
section
variable{X:Cx}{fa:WA}
theorem NN{a:M}{p1 p2 q1 q2:y}(hc:X.calm=θ)(hu:X.A.units+64<cLine)(yE:Gl X "len")(hl:X.mg "len" = Z)(yF:bootBuiltins "len" = U (.builtin "len"))(yG:Gl X "set")(hr:X.mg "set" = Z)(yH:bootBuiltins "set" = U (.type "set"))(ha:JA X [a] (bU fa))
  (he:starEach [a] X.env=[(ι,eval a X.env)]:=by rfl) (yI:starEach [.Call (.Name "set" p2) [a] [] q2] X.env=[(ι,eval (.Call (.Name "set" p2) [a] [] q2) X.env)]:=by rfl):JE X (.Call (.Name "len" p1) [.Call (.Name "set" p2) [a] [] q2] [] q1) (tD (dN fa vc)) :=
 (t_ (KO) yE hl yF (kX (qP (MN hc hu) yG hr yH ha (he:=he)) bg) (he:=yI)).weak fun σ H Q h0_=>el7 h0_ λF ad δ K S q k =>⟨F,ad,δ,_,S,q,λxs δ1 h1 vs F1 aU H1 E1 S1 V1=>by
  let⟨ds,h2,iD⟩:=uv S1 V1 h1;unfold vc at h2;split at h2
  .split at h2
   .rename_i es ps e
    let⟨v,rfl,a,vs,rfl,g1,g2⟩:=b8 iD;rw[Ee e] at g2;let⟨as,rfl,hl,g⟩:=Eh g2;calc⟨a,as,ps,Y,bq.of g1,hl,λi b k' e1 e2=>S1.sub _ _ (g i b k' e1 e2),h2.1.2,h2.1.1,λp hp=>⟨p,↑(fw ps ↑ps),Y,bE,by let:=h2.1.1;let:=yP ps ↑ps;symm,?_⟩⟩;let s1:aw H1 (upd H1 p (jn p ↑(fw ps ↑ps))):=cy hp;exact k _ _ h2.2 _ _ _ _ (E1.trans (Ext.al S1 s1)) (S1.al s1) Y
   .exact h2.elim
  .calc h2.elim⟩
end
end L2
namespace LJ
open PySem L2
variable[aD]
noncomputable def vd:D->Bool
 |.int _=>θ
 |_=>ι
noncomputable def d9:D->Int->Int->Bool
 |.int i,lo,hi=>g (lo<=i)&&g (i<=hi)
 |_,_,_=>ι
noncomputable def iZ:D->Int->Bool
 |.tup ds,n=>(↑ds:Int)==n
 |_,_=>ι
theorem cA{K:RV->-OV->Prop}{d:D}{sl:-(Option DV)}(h:K (.p d) []):eZ 0 K (.p d) ⟨sl,[]⟩:=⟨[],Y,Y,h⟩
def ve:GD:=λys ovs K=>∃d,ys=[.p d]/\ovs=[]/\K (.p (.bl (vd d))) []
def zg:WS:=(aB (gP (d1 (aa 0) (bB "int")) (uB (d1 (aa 0) (bB "bool")))))
theorem EE:Sem 1 0 ve zg:=by
 ext ys ovs K'-⟨d,rfl,rfl,k⟩;unfold zg;simp!;cases d<;>erw[bC,aQ]<;>calc cA k
def oK:GD:=λys ovs K=>∃d lo hi,ys=[.p d,.p (.int lo),.p (.int hi)]/\ovs=[]/\K (.p (.bl (d9 d lo hi))) []
def zh:WS:=(aB (gP (aj 1 ve (ag (aa 0) af)) (pS (aa 1) (aa 0) (aa 2) (oI λi j=>.bl (g (i<=j))) (oI λi j=>.bl (g (i<=j))))))
theorem EF:Sem 3 0 oK zh:=by
 ext ys ovs K'-⟨d,lo,hi,rfl,rfl,k⟩;unfold zh;simp!;calc⟨d,Y,Y,?_⟩;cases d<;>simp![vd,d9] at k ⊢ <;> first|exact cA k|skip
 rename_i i
 by_cases c:lo<=i
 .rw[Tt c] at k ⊢
  erw[Wc] at k;exact cA k
 .rw[TH c] at k ⊢
  erw[Yy] at k;calc cA k
def vf:GD:=λys ovs K=>∃d n,ys=[.p d,.p (.int n)]/\ovs=[]/\K (.p (.bl (iZ d n))) []
def zi:WS:=(aB (gP (d1 (aa 0) (bB "tuple")) (d2 (dN (ag (aa 0) af) bK) (aa 1) oEq)))
theorem NO:Sem 2 0 vf zi:=by
 ext ys ovs K'-⟨d,n,rfl,rfl,k⟩;unfold zi;simp!;cases d<;>simp![bC,aQ,iZ,ay] at k ⊢ <;> calc cA k
noncomputable def EG(m:Int):D->D->Bool
 |.int i,b=>d9 b (i+1) (m-1)
 |_,_=>ι
noncomputable def mP(m:Int)(a b:D):Bool:=d9 a 0 (m-1)&&EG m a b
theorem mQ{d:D}{lo hi:Int}(h:d9 d lo hi=θ):∃i,d=.int i/\lo<=i/\i<=hi:=by
 cases d with
 |int i =>
  let h:(g (lo<=i)&&g (i<=hi))=θ:=h;rw[Tv,Vb,Vb] at h;exact⟨i,Y,h⟩
 |_=>cases h
def zj:GD:=λys ovs K=>∃m a b,ys=[.p (.int m),.p a,.p b]/\ovs=[]/\K (.p (.bl (mP m a b))) []
def zk:WS:=(aB (gP (aj 3 oK (ag (aa 1) (ag (dC (.int 0)) (ag (d2 (aa 0) (dC (.int 1)) (oI λi j=>.int (i-j))) af)))) (aj 3 oK (ag (aa 2) (ag (d2 (aa 1) (dC (.int 1)) bL) (ag (d2 (aa 0) (dC (.int 1)) (oI λi j=>.int (i-j))) af))))))
theorem NP:Sem 3 0 zj zk:=by
 ext ys ovs K'-⟨m,a,b,rfl,rfl,k⟩;unfold zk;simp!;calc⟨a,0,m-1,Y,Y,?_⟩;simp!;unfold mP at k;cases q:d9 a 0 (m-1)
 .rw[q] at k
  exact cA k
 .rw[q] at k
  let⟨i,rfl,_,_⟩:=mQ q;simp![Wc,EG] at k ⊢;calc⟨b,i+1,m-1,Y,Y,?_⟩;simp!;calc cA k
noncomputable def bD(m:Int):D->Bool
 |.tup [a,b,p]=>mP m a b&&d9 p 0 1000000000
 |_=>ι
def zo:GD:=λys ovs K=>∃m d,ys=[.p (.int m),.p d]/\ovs=[]/\K (.p (.bl (bD m d))) []
def zp:WS:=(au (a_ (bA (dT (aj 2 vf (ag (aa 1) (ag (dC (.int 3)) af))))) (aB (dC (.bl ι))) bY) (aB (gP (aj 3 zj (ag (aa 0) (ag (d2 (aa 1) (dC (.int 0)) bu) (ag (d2 (aa 1) (dC (.int 1)) bu) af)))) (aj 3 oK (ag (d2 (aa 1) (dC (.int 2)) bu) (ag (dC (.int 0)) (ag (dC (.int 1000000000)) af)))))))
theorem EH{m:Int}{d:D}(h:iZ d 3=ι):bD m d=ι:=by
 unfold bD;split
 .exact absurd h (by simp[iZ])
 .rfl
theorem sQ{d:D}(h:iZ d 3=θ):∃a b c,d=.tup [a,b,c]:=by
 cases d with
 |tup ds =>
  let h:((↑ds:Int)==3)=θ:=h;let h:=TF h
  match ds,h with
  |[a,b,c],_=>exact⟨a,b,c,Y⟩
  |[],h=>simp at h
  |[_],h=>simp at h
  |[_,_],h=>simp at h
  |_::_::_::_::r,h=>simp at h;symm
 |_=>cases h
theorem sR{d:D}(h:iZ d 2=θ):∃a b,d=.tup [a,b]:=by
 cases d with
 |tup ds =>
  let h:((↑ds:Int)==2)=θ:=h;let h:=TF h
  match ds,h with
  |[a,b],_=>exact⟨a,b,Y⟩
  |[],h=>simp at h
  |[_],h=>simp at h
  |_::_::_::r,h=>simp at h;symm
 |_=>cases h
theorem NQ:Sem 2 0 zo zp:=by
 ext ys ovs K'-⟨m,d,rfl,rfl,k⟩;unfold zp;calc aV λN hN=>?_;simp!;calc⟨d,3,Y,Y,?_⟩;simp!;cases q:iZ d 3
 .rw[EH q] at k
  erw[Vl,Ve];exact cA k
 .erw[Ue,Jr,Um]
  subst hN;let⟨a,b,c,rfl⟩:=sQ q;simp![eQ,gR,at2];calc⟨m,a,b,Y,Y,?_⟩;simp![bD] at k ⊢;cases q2:mP m a b
  .rw[q2] at k
   exact cA k
  .rw[q2] at k
   calc⟨c,0,1000000000,Y,Y,?_⟩;simp![Wc] at k ⊢;calc cA k
noncomputable def pairOf:D->Int×Int
 |.tup [.int i,.int j,_]=>(i,j)
 |_=>(0,0)
theorem EI{m:Int}{d:D}(h:bD m d=θ):∃i j p,d=.tup [.int i,.int j,.int p]/\0<=i/\i<j/\j<m/\0<=p/\p<=1000000000:=by
 unfold bD at h;split at h
 .rename_i a b p
  rw[Tv] at h;let⟨h1,h2⟩:=h;unfold mP at h1;rw[Tv] at h1;let⟨i,rfl,i0,i1⟩:=mQ h1.1;let h3:d9 b (i+1) (m-1)=θ:=h1.2;let⟨j,rfl,j0,j1⟩:=mQ h3;let⟨p',rfl,p0,p1⟩:=mQ h2;exact⟨i,j,p',Y,i0,⋯,⋯,p0,p1⟩
 .cases h
noncomputable def ka(m:Int):D->Bool
 |.tup ws=>g (↑ws<=30)&&(ws.all (bD m)&&g ((ws.map pairOf).Nodup))
 |_=>ι
def zq:GD:=λys ovs K=>∃m d,ys=[.p (.int m),.p d]/\ovs=[]/\m<=12/\K (.p (.bl (ka m d))) []
def zr:WS:=(au (a_ (gO (bA (dT (d1 (aa 1) (bB "tuple")))) (dT (d2 (dN (ag (aa 1) af) bK) (dC (.int 30)) (oI λi j=>.bl (g (j<i)))))) (aB (dC (.bl ι))) bY) (au (a_ (bA (dT (dN (ag (fH (cF (aa 1)) [Z,U 0] (b7 0) cD (aj 2 zo (ag (aa 1) (ag (aa 0) af)))) af) jz))) (aB (dC (.bl ι))) bY) (aB (d2 (dN (ag (fH (cF (aa 1)) [Z] (b7 0) cD (eE (aa 0) eC (jx (dC (.int 2))))) af) vc) (dN (ag (aa 1) af) bK) oEq))))
theorem NR:Sem 2 0 zq zr:=by
 ext ys ovs K'-⟨m,d,rfl,rfl,hm,k⟩;unfold zr;refine aV λN hN=>?_
 by_cases ht:∃ws,d=.tup ws
 .let⟨ws,rfl⟩:=ht
  simp![bC,show aQ "tuple" "tuple" = θ from Y]
  by_cases sS:(30:Int)<↑ws
  .rw[Tw (Tt sS)]
   let:ka m (.tup ws)=ι:=by
    show(g (↑ws<=30)&&_)=ι;rw[TH ⋯];rfl
   rw[this] at k;exact cA k
  .rw[To (by rw[TH sS];decide)]
   subst hN;let lD:↑ws<=30:=by symm
   calc aV λN hN=>?_;simp!;refine pV (λd=>.bl (bD m d)) ⋯ trivial ?_ ?_
   .ext d hd acc L ha h
    simp!;calc⟨m,d,Y,Y,?_⟩;simp!;exact⟨ha,h⟩
   .let e:lq (ws.map λd=>D.bl (bD m d))=U (ws.map (bD m)):=by
     let:=DG (ws.map (bD m));rw[Uz] at this;exact this
    simp![e];let ea:(ws.map (bD m)).all id=ws.all (bD m):=by rw[q1x];rfl
    rw[ea];cases q:ws.all (bD m)
    .let:ka m (.tup ws)=ι:=by
      show(g (↑ws<=30)&&(ws.all (bD m)&&_))=ι;rw[q];simp
     rw[this] at k;exact cA k
    .erw[Ue,Jr,Um]
     subst hN;let hw:∀w∈ws,bD m w=θ:=Uc.mp q;simp!;refine pV (λd=>.tup [.int (pairOf d).1,.int (pairOf d).2]) ⋯ trivial ?_ ?_
     .ext d hd acc L ha h
      let⟨i,j,p,rfl,_⟩:=EI (hw d hd)
      let ec:cutD [D.int i,D.int j,D.int p] Z (U 2)=[D.int i,D.int j]:=by
       unfold cutD;rfl
      simp![ec];exact⟨ha,h⟩
     .let ep:mM (ws.map λd=>D.tup [.int (pairOf d).1,.int (pairOf d).2])=U (ws.map pairOf):=by
       let:=Ef (ws.map pairOf);rw[Uz] at this;exact this
      let kk:ka m (.tup ws)=g ((ws.map pairOf).Nodup):=by
       show(g (↑ws<=30)&&(ws.all (bD m)&&_))=_;rw[q,Tt lD];rfl
      rw[kk] at k;simp![vc,ep,ay];refine⟨⟨lD,λp hp=>?_⟩,cA ?_⟩
      .let⟨w,NS,rfl⟩:=Tz.mp hp
       let⟨i,j,p,rfl,a1,a2,a3,_⟩:=EI (hw w NS);exact⟨a1,a2,by show j<12;symm⟩
      .let:((↑(fw (ws.map pairOf) ↑ws):Int)==(↑ws:Int))=g ((ws.map pairOf).Nodup):=by
        by_cases c:(ws.map pairOf).Nodup
        .let e2:=Eg c ↑(ws.map pairOf) (ug _)
         rw[pj] at e2;rw[Tt c,e2,TB,pj,ZE];simp
        .rw[TH c]
         calc beq_false_of_ne λz=>c (MM ?_);rw[pj];symm
       rw[this];exact k
 .let:ka m d=ι:=by
   cases d with
   |tup ws=>exact absurd ⟨ws,Y⟩ ht
   |_=>rfl
  rw[this] at k
  cases d with
  |tup ws=>exact absurd ⟨ws,Y⟩ ht
  |_=>simp![bC];calc cA k
noncomputable def cW:D->Bool
 |.tup [m,ws]=>d9 m 1 12&&(match m with
  |.int i=>ka i ws
  |_=>ι)
 |_=>ι
def sT:GD:=λys ovs K=>∃d,ys=[.p d]/\ovs=[]/\K (.p (.bl (cW d))) []
def zt:WS:=(au (a_ (bA (dT (aj 2 vf (ag (aa 0) (ag (dC (.int 2)) af))))) (aB (dC (.bl ι))) bY) (aB (gP (aj 3 oK (ag (d2 (aa 0) (dC (.int 0)) bu) (ag (dC (.int 1)) (ag (dC (.int 12)) af)))) (aj 2 zq (ag (d2 (aa 0) (dC (.int 0)) bu) (ag (d2 (aa 0) (dC (.int 1)) bu) af))))))
theorem NT:Sem 1 0 sT zt:=by
 ext ys ovs K'-⟨d,rfl,rfl,k⟩;unfold zt;calc aV λN hN=>?_;simp!;calc⟨d,2,Y,Y,?_⟩;simp!;cases q:iZ d 2
 .let:cW d=ι:=by
   unfold cW;split
   .exact absurd q (by simp[iZ])
   .rfl
  rw[this] at k;erw[Vl,Ve];exact cA k
 .erw[Ue,Jr,Um]
  subst hN;let⟨a,b,rfl⟩:=sR q;simp![eQ,gR];calc⟨a,1,12,Y,Y,?_⟩;simp![cW] at k ⊢;cases q2:d9 a 1 12
  .rw[q2] at k
   exact cA k
  .rw[q2] at k
   let⟨i,rfl,_,hi⟩:=mQ q2;calc⟨i,b,Y,Y,hi,?_⟩;simp![Wc] at k ⊢;calc cA k
end LJ
namespace LJ
open PySem L2
theorem EJ{m:Int}{ws:-(Int×Int×Int)}(h:iB m ws):cW (cz m ws)=θ:=by
 show(d9 (.int m) 1 12&&ka m (.tup (ws.map bM)))=θ
 let h1:d9 (.int m) 1 12=θ:=by
  show(g (1<=m)&&g (m<=12))=θ;rw[Tt h.m1,Tt h.kY];rfl
 rw[h1,Wc];show(g (↑(ws.map bM)<=30)&&((ws.map bM).all (bD m)&&g (((ws.map bM).map pairOf).Nodup)))=θ
 let h2:(ws.map bM).all (bD m)=θ:=by
  calc Uc.mpr λd hd=>?_;let⟨y,hy,rfl⟩:=Tz.mp hd;let⟨a,b,c,d,e⟩:=h.ends y hy;show(((g (0<=y.1)&&g (y.1<=m-1))&&(g (y.1+1<=y.2.1)&&g (y.2.1<=m-1)))&&(g (0<=y.2.2)&&g (y.2.2<=1000000000)))=θ;rw[Tt a,Tt (by symm:y.1<=m-1),Tt (by symm:y.1+1<=y.2.1),Tt (by symm:y.2.1<=m-1),Tt d,Tt e];rfl
 let h3:(ws.map bM).map pairOf=ws.map λy=>(y.1,y.2.1):=by rw[Uz];rfl
 rw[h2,h3,Tt h.unlike,pj,Tt h.h9];rfl
variable[aD]
theorem cb{K:RV->-OV->Prop}{d:D}{sl:-(Option DV)}{mu:-(Option OV)}(h:K (.p d) []):eZ 0 K (.p d) ⟨sl,mu⟩:=⟨[],Y,Y,h⟩
def vg:GD:=ve
def EK:WS:=(aB (gP (d1 (aa 0) (bB "int")) (uB (d1 (aa 0) (bB "bool")))))
theorem NU:Sem 1 0 vg EK:=EE
def p_:GD:=oK
def EL:WS:=(aB (gP (aj 1 vg (ag (aa 0) af)) (pS (aa 1) (aa 0) (aa 2) (oI λi j=>.bl (g (i<=j))) (oI λi j=>.bl (g (i<=j))))))
theorem NV:Sem 3 0 p_ EL:=EF
theorem NW(p q:Int×Int):ay (bH p) (bH q)=g (p=q):=by
 let⟨a,b⟩:=p;let⟨c,d⟩:=q;erw[bH,ay,cG,Y5]
 by_cases h1:a=c<;>by_cases h2:b=d<;>simp[h1,h2]
theorem EM:∀ps:-(Int×Int),aZ (ps.map bH)<=1
 |[]=>Ui _
 |p::r=>by
  rw[TJ];let:=EM r;erw[aZ,bH,dep];symm
theorem EN:∀(ps:-(Int×Int))(q:Int×Int),((ps.map bH).any λe=>ay e (.tup [.int q.1,.int q.2]))=g (q∈ps)
 |[],q=>by simp
 |p::r,q=>by
  rw[TJ,XQ,EN r q,show ay (bH p) (.tup [.int q.1,.int q.2])=g (p=q) from NW p q]
  by_cases c:p=q
  .subst c;simp
  .let c':¬ q=p:=λz=>c z.symm
   simp[c,c']
def zu:GD:=sT
def zv:WS:=(au (a_ (gO (bA (dT (d1 (aa 0) (bB "tuple")))) (gO (dT (d2 (dN (ag (aa 0) af) bK) (dC (.int 2)) j_)) (bA (dT (aj 3 p_ (ag (d2 (aa 0) (dC (.int 0)) bu) (ag (dC (.int 1)) (ag (dC (.int 12)) af)))))))) (aB (dC (.bl ι))) bY) (au (a_ (gO (bA (dT (d1 (d2 (aa 0) (dC (.int 1)) bu) (bB "tuple")))) (dT (d2 (dN (ag (d2 (aa 0) (dC (.int 1)) bu) af) bK) (dC (.int 30)) (oI λi j=>.bl (g (j<i)))))) (aB (dC (.bl ι))) bY) (au (aS 1 (nU af)) (au (eY (cF (d2 (aa 0) (dC (.int 1)) bu)) (b7 2) (au (a_ (gO (bA (dT (d1 (aa 2) (bB "tuple")))) (gO (dT (d2 (dN (ag (aa 2) af) bK) (dC (.int 3)) j_)) (bA (dT (aj 3 p_ (ag (d2 (aa 2) (dC (.int 2)) bu) (ag (dC (.int 0)) (ag (d2 (dC (.int 10)) (dC (.int 9)) (cg bO λi j=>.int (i ^ j.toNat))) af)))))))) (aB (dC (.bl ι))) bY) (au (a_ (gO (bA (dT (aj 3 p_ (ag (d2 (aa 2) (dC (.int 0)) bu) (ag (dC (.int 0)) (ag (d2 (d2 (aa 0) (dC (.int 0)) bu) (dC (.int 1)) (oI λi j=>.int (i-j))) af)))))) (bA (dT (aj 3 p_ (ag (d2 (aa 2) (dC (.int 1)) bu) (ag (d2 (d2 (aa 2) (dC (.int 0)) bu) (dC (.int 1)) bL) (ag (d2 (d2 (aa 0) (dC (.int 0)) bu) (dC (.int 1)) (oI λi j=>.int (i-j))) af))))))) (aB (dC (.bl ι))) bY) (au (a_ (dT (d2 (eE (aa 2) eC (jx (dC (.int 2)))) (aa 1) (ot ι))) (aB (dC (.bl ι))) bY) (iH (iL (aa 1) (ag (eE (aa 2) eC (jx (dC (.int 2)))) af))))))) (aB (dC (.bl θ)))))))
theorem NX:Sem 1 2 zu zv:=by
 ext ys ovs K'-⟨d,rfl,rfl,k⟩;unfold zv;refine aV λN hN=>?_
 by_cases ht:iZ d 2=θ
 .let⟨a,b,rfl⟩:=sR ht
  simp![bC,show aQ "tuple" "tuple" = θ from Y,eQ,gR,ay];erw[show(((1+1:Nat):Int)==2)=θ from Y,Ue,Jr,Um];calc⟨a,1,12,Y,Y,?_⟩;simp!;erw[cW] at k;cases q2:d9 a 1 12
  .rw[q2] at k
   erw[Vl,Ve];exact cb k
  .rw[q2] at k
   let⟨i,rfl,_,hi⟩:=mQ q2;erw[Ue,Jr,Um,Wc] at k ⊢;subst hN;refine aV λN hN=>?_
   by_cases hb:∃ws,b=.tup ws
   .let⟨ws,rfl⟩:=hb
    simp![bC,show aQ "tuple" "tuple" = θ from Y,eQ,gR,ay]
    by_cases sS:(30:Int)<↑ws
    .rw[Tw (Tt sS)]
     let:ka i (.tup ws)=ι:=by
      show(g (↑ws<=30)&&_)=ι;rw[TH ⋯];rfl
     rw[this] at k;exact cb k
    .rw[To (by rw[TH sS];decide)]
     let lD:↑ws<=30:=by symm
     subst hN
     let kk:ka i (.tup ws)=(ws.all (bD i)&&g ((ws.map pairOf).Nodup)):=by
      show(g (↑ws<=30)&&_)=_;rw[Tt lD];rfl
     rw[kk] at k;calc aV λN hN=>?_;simp!;subst hN;calc aV λN hN=>?_;simp![gR];refine oB (λj δ=>(∀w∈ws.take j,bD i w=θ)/\((ws.take j).map pairOf).Nodup/\δ=⟨[U (.p (.tup [.int i,.tup ws])),U (.o 0),Z],[U (.lst (((ws.take j).map pairOf).map bH))]⟩) ⟨λw hw=>by simp at hw,Xs,Y⟩ ?_ ?_
     .ext j w δ L hj ⟨h1,h2,rfl⟩ hL
      calc⟨trivial,?_⟩;let yS:j<↑ws:=(kP.mp hj).1;let hm:w∈ws:=T2 hj;let et:ws.take (j+1)=ws.take j++[w]:=by rw[WB,hj];rfl
      let bad:bD i w=ι->K' (.p (.bl ι)) []:=λz=>by
       let:ws.all (bD i)=ι:=List.all_eq_false.mpr ⟨w,hm,by rw[z];decide⟩;rw[this] at k;exact k
      erw[b7,U7,U8];refine aV λN hN=>?_
      by_cases h3:iZ w 3=θ
      .let⟨x,y,z,rfl⟩:=sQ h3
       simp![bC,show aQ "tuple" "tuple" = θ from Y,eQ,gR,at2,ay];erw[show(((2+1:Nat):Int)==3)=θ from Y,Ue,Jr,Um];let e9:(10:Int) ^ US 9=1000000000:=by decide
       rw[e9];calc⟨⟨by decide,by decide,by decide⟩,z,0,1000000000,Y,Y,?_⟩;simp!;cases qz:d9 z 0 1000000000
       .erw[Vl,Ve]
        exact cb (bad (by show(mP i x y&&d9 z 0 1000000000)=ι;rw[qz,Wv]))
       .erw[Ue,Jr,Um]
        subst hN;calc aV λN hN=>?_;simp![eQ,gR];calc⟨x,0,i-1,Y,Y,?_⟩;simp!;cases qx:d9 x 0 (i-1)
        .erw[Vl,Ve]
         exact cb (bad (by show(mP i x y&&d9 z 0 1000000000)=ι;unfold mP;rw[qx];rfl))
        .let⟨u,rfl,_,_⟩:=mQ qx
         simp![eQ,gR];calc⟨y,u+1,i-1,Y,Y,?_⟩;simp!;cases qy:d9 y (u+1) (i-1)
         .erw[Vl,Ve]
          exact cb (bad (by show((d9 (.int u) 0 (i-1)&&d9 y (u+1) (i-1))&&d9 z 0 1000000000)=ι;rw[qy,Wv];rfl))
         .erw[Ue,Jr,Um]
          let⟨v,rfl,_,_⟩:=mQ qy
          let good:bD i (.tup [.int u,.int v,z])=θ:=by
           show((d9 (.int u) 0 (i-1)&&d9 (.int v) (u+1) (i-1))&&d9 z 0 1000000000)=θ;rw[qx,qy,qz];rfl
          subst hN;let ec:cutD [D.int u,D.int v,z] Z (U 2)=[D.int u,D.int v]:=Y;calc aV λN hN=>?_;simp![ec];calc⟨T5 (EM _) (by decide),?_⟩;let ea:((((ws.take j).map pairOf).map bH).any λe=>ay e (.tup [.int u,.int v]))=g ((u,v)∈(ws.take j).map pairOf):=EN _ (u,v);rw[ea]
          by_cases c:(u,v)∈(ws.take j).map pairOf
          .rw[Tt c]
           refine cb ?_
           let nn:¬ (ws.map pairOf).Nodup:=λnd=>by
            let e2:ws.map pairOf=(ws.take j).map pairOf++(ws.drop j).map pairOf:=by rw[<-TK,Yr]
            rw[e2] at nd;calc(U4.mp nd).2.2 (u,v) c (u,v) ?_ Y;rw[Ug yS];let:ws[j]=.tup [.int u,.int v,z]:=(kP.mp hj).2;rw[this];exact Cu
           rw[TH nn,Wv] at k;exact k
          .rw[TH c]
           erw[Jr,Um];subst hN;simp![ec];let hl:↑(ws.take j)<=30:=by rw[TB];symm
           refine⟨⋯,hL _ ⟨λw hw=>?_,?_,?_⟩⟩
           .rw[et] at hw
            rcases T1.mp hw with hw|hw
            .exact h1 w hw
            .rw[Ul.mp hw];exact good
           .rw[et,TK]
            calc U4.mpr ⟨h2,by simp,λa ha b hb e=>c ?_⟩;let hb:b=(u,v):=by simpa[pairOf] using hb
            rw[<-hb,<-e];exact ha
           .rw[et,TK,TK];rfl
      .let:bD i w=ι:=EH (VZ _ |>.mp h3)
       cases w with
       |tup ds =>
        simp![bC,show aQ "tuple" "tuple" = θ from Y,ay];let:((↑ds:Int)==3)=ι:=VZ _ |>.mp h3;rw[this];exact cb (bad (by assumption))
       |_=>simp![bC];exact cb (bad (by assumption))
     .ext δ ⟨h1,h2,rfl⟩
      calc⟨trivial,?_⟩;subst hN;simp!;rw[T_ (ug _)] at h1 h2;rw[Uc.mpr h1,Tt h2] at k;exact cb k
   .let:ka i b=ι:=by
     cases b with
     |tup ws=>exact absurd ⟨ws,Y⟩ hb
     |_=>rfl
    rw[this] at k
    cases b with
    |tup ws=>exact absurd ⟨ws,Y⟩ hb
    |_=>simp![gR,bC];exact cb k
 .let:cW d=ι:=by
   unfold cW;split
   .exact absurd (by simp[iZ]) ht
   .rfl
  rw[this] at k
  cases d with
  |tup ds =>
   simp![bC,show aQ "tuple" "tuple" = θ from Y,ay];let:((↑ds:Int)==2)=ι:=VZ _ |>.mp ht;rw[this];exact cb k
  |_=>simp![bC];calc cb k
theorem zw:∀{ds:-D}{d:D},d∈ds->dep d<=aZ ds
 |a::r,d,h=>by
  erw[aZ];rcases Cy.mp h with rfl|h
  .omega
  .let:=zw h;symm
theorem lE:aQ "NoneType" "bool" = ι:=rfl
theorem lF:aQ "NoneType" "int" = ι:=rfl
theorem lG:aQ "NoneType" "str" = ι:=rfl
theorem lH:aQ "NoneType" "tuple" = ι:=rfl
theorem lI:aQ "NoneType" "list" = ι:=rfl
theorem kc:aQ "bool" "bool" = θ:=rfl
theorem ke:aQ "bool" "int" = θ:=rfl
theorem kg:aQ "bool" "str" = ι:=rfl
theorem kh:aQ "bool" "tuple" = ι:=rfl
theorem ki:aQ "bool" "list" = ι:=rfl
theorem jD:aQ "int" "bool" = ι:=rfl
theorem jE:aQ "int" "int" = θ:=rfl
theorem jF:aQ "int" "str" = ι:=rfl
theorem jG:aQ "int" "tuple" = ι:=rfl
theorem jH:aQ "int" "list" = ι:=rfl
theorem i5:aQ "str" "bool" = ι:=rfl
theorem i7:aQ "str" "int" = ι:=rfl
theorem i8:aQ "str" "str" = θ:=rfl
theorem i9:aQ "str" "tuple" = ι:=rfl
theorem i_:aQ "str" "list" = ι:=rfl
theorem lJ:aQ "tuple" "bool" = ι:=rfl
theorem lK:aQ "tuple" "int" = ι:=rfl
theorem lM:aQ "tuple" "str" = ι:=rfl
theorem lN:aQ "tuple" "tuple" = θ:=rfl
theorem lO:aQ "tuple" "list" = ι:=rfl
theorem lP:aQ "list" "bool" = ι:=rfl
theorem lQ:aQ "list" "int" = ι:=rfl
theorem lR:aQ "list" "str" = ι:=rfl
theorem lS:aQ "list" "tuple" = ι:=rfl
theorem lT:aQ "list" "list" = θ:=rfl
theorem zx:∀{as:-D}{d:D},d∈b6 as as->∃a,d=.tup [a,a]/\a∈as
 |[],d,h=>nomatch h
 |x::r,d,h=>by
  erw[b6] at h;rcases Cy.mp h with rfl|h
  .exact⟨x,Y,Cu⟩
  .let⟨a,e,m⟩:=zx h
   calc⟨a,e,Jp _ m⟩
theorem zy:∀l:-D,aZ (l.map λ_=>D.bl θ)<=55
 |[]=>Ui _
 |_::r=>by
  rw[TJ];let:=zy r;erw[aZ,dep];symm
end LJ
namespace L2
open PySem PySem.Spec PyProof.Rows
variable[aD]
section
variable{X:Cx}{fa:WA}
end
end L2
namespace LJ
open PySem L2
variable[aD]
def EO:GD:=λys ovs K=>∃m ws,iB m ws/\ys=[.p (cz m ws)]/\ovs=[]/\K (.p (.bl θ)) []
noncomputable def lU(ns:-Int):D:=.lst (ns.map D.int)
theorem cX{K:RV->-OV->Prop}{d:D}{sl:-(Option DV)}{mu:-(Option OV)}(h:K (.p d) []):eZ 0 K (.p d) ⟨sl,mu⟩:=⟨[],Y,Y,h⟩
def Nums(ws:-(Int×Int×Int))(ns:-Int):Prop:=∀n∈ns,0<=n/\n<(↑ws:Int)
theorem NY{n:Nat}{z:Int}(h:z∈gL n):0<=z/\z<(n:Int):=by
 unfold gL at h;let⟨i,hi,rfl⟩:=Tz.mp h;let:=T6.mp hi;simp;symm
theorem NZ(n:Nat):(gL n).Nodup:=by
 unfold gL;calc Wr.mpr (WM.imp λ{a b} ne e=>ne ?_);calc XO e
def zz:GD:=λys ovs K=>∃(n m most:Int)(ws:-(Int×Int×Int))(o:OV),iB m ws/\ys=[.o 0,.p (cz m ws),.p (.int most)]/\ovs=[o]/\aY n o/\n+100<2 ^ 30/\0<=most/\most<=1000 ∧
 ∀ns o',Nums ws ns->ns.Nodup->(ns.length:Int)<=most->ns.length<=↑ws->aY (n+31) o'->K (.n (ns.map D.int)) [o']
def zA:WS:=(au (aS 3 (yD (ag (dN (ag (d2 (aa 1) (dC (.int 1)) bu) af) bK) af))) (au (aS 4 (nU af)) (au (eY (j8 (ag (dN (ag (dN (ag (aa 3) af) bK) (ag (aj 2 eF (ag (aa 0) (ag (d2 (aa 2) (dC (.int 1)) bL) af))) af)) si) af)) (b7 5) (iH (iL (aa 4) (ag (uR (aa 3) (ag (aj 2 eF (ag (aa 0) (ag (dN (ag (aa 3) af) bK) af))) af)) af)))) (aB (aa 4)))))
theorem N3:Sem 3 3 zz zA:=by
 ext ys ovs K'-⟨n,m,most,ws,o,W,rfl,rfl,P,hn,s0,s1,fin⟩;let N4:=W.h9;unfold zA;calc aV λN hN=>?_;simp![gR,cz];calc⟨⟨⋯,⋯⟩,?_⟩;subst hN;rw[VS,DK];calc aV λN hN=>?_;simp!;subst hN;calc aV λN hN=>y0 λg' b' K2 hg hb' hK=>?_;simp!;calc⟨n,most+1,o,Y,Y,P,⋯,⋯,⋯,λr o1 r0 r1 P1=>?_⟩;let il:↑(gL ↑ws)=↑ws:=by unfold gL;simp
 simp![il];calc⟨⋯,?_⟩;subst hg hb' hK;let ek:(min (↑ws:Int) r).toNat=min ↑ws r.toNat:=by symm
 rw[ek];generalize hk:min ↑ws r.toNat=k
 refine oB (λi δ=>∃(ls fs:-Int)(o':OV),↑ls+i=↑ws/\fs.length=i/\(fs++ls).Nodup/\Nums ws (fs++ls)/\aY (n+1+i) o' ∧
  δ=⟨[U (.o 0),U (.p (.tup [.int m,.tup (ws.map bM)])),U (.p (.int most)),U (.o 1),U (.o 2),Z],[U o',U (.lst (ls.map D.int)),U (.lst (fs.map D.int))]⟩)
  ⟨gL ↑ws,[],o1,⋯,Y,NZ _,λz hz=>NY hz,P1.mono ⋯,Y⟩ ?_ ?_
 .ext j d δ L hj ⟨ls,fs,o',hl,hf,nd,nu,P',rfl⟩ hL
  let⟨hj,rfl⟩:=j9 hj;let q0:0<↑ls:=by symm
  simp!;calc⟨n+1+j,↑ls,o',Y,Y,P',⋯,⋯,⋯,λz o2 z0 z1 P2=>?_⟩;let⟨zn,rfl⟩:∃zn:Nat,z=zn:=⟨z.toNat,⋯⟩;let hz:zn<↑ls:=by symm
  let ix:seqIndex? (zn:Int) ↑ls=U zn:=C1 hz;let eq:(ls.map D.int)[zn]?=U (.int ls[zn]):=by rw[R1,nH hz];rfl
  simp![ix,eq]
  let pm:((fs++[ls[zn]])++ls.eraseIdx zn).Perm (fs++ls):=by
   rw[U0];exact Ys _ (zc hz)
  refine⟨⟨⋯,⋯⟩,⋯,hL _ ⟨ls.eraseIdx zn,fs++[ls[zn]],o2,?_,?_,pm.nodup_iff.mpr nd,λx hx=>nu x (pm.mem_iff.mp hx),P2.mono ⋯,?_⟩⟩
  .rw[Xw hz];symm
  .rw[Cv,hf];rfl
  .rw[TK,zd];rfl
 .ext δ ⟨ls,fs,o',hl,hf,nd,nu,P',rfl⟩
  calc⟨trivial,?_⟩;show N _;subst hN;simp!;rw[ju] at hf P';calc⟨[o'],Y,Y,.inl (fin fs o' (λx hx=>nu x (Uw _ hx)) (U4.mp nd).1 ⋯ ⋯ (P'.mono ⋯))⟩
end LJ
namespace LJ
open PySem L2 PySem.W
end LJ
namespace LJ
open PySem L2
variable[aD]
def zB:GD:=λys ovs K=>∃(m:Int)(ws:-(Int×Int×Int)),iB m ws/\ys=[.p (cz m ws)]/\ovs=[]/\K (.p .non) []
def zC:WS:=(a_ (bA (dT (aj 1 EO (ag (aa 0) af)))) n5 bY)
theorem N5:Sem 1 0 zB zC:=by
 ext ys ovs K'-⟨m,ws,W,rfl,rfl,k⟩;unfold zC;simp!;calc⟨m,ws,W,Y,Y,?_⟩;simp!;calc cX k
end LJ
namespace LJ
open PySem L2 PySem.Spec PySem.W PyProof.Rows
structure Ev where
 P:q
 w:I
 K:nG
 mg:J->Option B
 base:R
section
variable[aD]
structure Fx(V:Ev)(k:Nat)(x:J)(ps:-J)(n:Nat)(G:GD):Prop where
 ex:∃f fd,Fn V.P V.w V.K V.mg V.base k x ps (lg G n) f fd
def Dx(V:Ev)(x:J)(st:o):Prop:=∃f fd,V.mg x=U (.ref f)/\fY V.K x x st f fd
def ER(V:Ev)(x:J)(st:o)(T:O)(pos:y)(q:J):Prop:=∃f fd,(V.mg x=U (.ref f)/\fY V.K x x st f fd)/\Na V.mg V.base fd T pos q
def Ct(V:Ev)(x:J)(i:Int):Prop:=∃u,V.mg x=U u/\RelV (.int i) u
section
variable{X:Cx}{x:J}{ps:-J}{G:GD}{e:M}{es:-M}{fa:WA}{p pos:y}{j k n:Nat}
theorem gk(F:Fx ⟨X.prog,X.w,X.K,X.mg,X.base⟩ j x ps n G)(hr:bx k X.A)(ha:JA X (e::es) (bU fa))(hj:q3P j k=θ:=by rfl)(hg:Gl X x:=by rfl)(dj:bw x:=by decide)(he:cN X e es:=by rfl)(dm:dI X pos es:=by rfl):
  JE X (.Call (.Name x p) (e::es) [] pos) (tD (aj n G fa)):=let⟨_,_,F⟩:=F.ex;Lu F.ok (hr.mono (WL hj)) hg F.rH F.kp F.bd ha dj he dm
theorem N6(F:Fx ⟨X.prog,X.w,X.K,X.mg,X.base⟩ j x ps n G)(hr:bx k X.A)(ha:JA X (e::es) (bU fa))(hj:q3P j k=θ:=by rfl)(hg:Gl X x:=by rfl)(dj:bw x:=by decide)(he:cN X e es:=by rfl)(dm:dI X pos es:=by rfl):
  JE X (.Call (.Name x p) (e::es) [] pos) (tD (pK n G fa)):=let⟨_,_,F⟩:=F.ex;Lw F.ok (hr.mono (WL hj)) hg F.rH F.kp F.bd ha dj he dm
theorem N7{i:Int}(C:Ct ⟨X.prog,X.w,X.K,X.mg,X.base⟩ x i)(hg:Gl X x:=by rfl)(hd:bw x:=by decide):JE X (.Name x pos) (tD (dC (.int i))):=let⟨_,a,b⟩:=C;K6 hg a b hd
end
noncomputable def N8:NameKind->Bool
 |.local=>θ
 |.cell=>θ
 |_=>ι
noncomputable def N9:NameKind->Bool
 |.free=>ι
 |_=>θ
noncomputable def N_:ScopeKind->Bool
 |.function=>θ
 |_=>ι
noncomputable def vh(N P:-J)(sc:u):Bool:=N_ sc.kind && !sc.isCoroutine && !sc.isGenerator&&g N.Nodup&&g (N.take ↑P=P)&&(P.all λx=>match sc.names.lookup x with
 |some k=>N8 k
 |none=>ι)&&sc.names.all λy=>N9 y.2
theorem gW{N P:-J}{sc:u}(h:vh N P sc=θ):kI N P sc:=by
 unfold vh at h;erw[Tv,Wz,Vb,Uc] at h;let⟨⟨⟨⟨⟨⟨h1,h2⟩,h3⟩,h4⟩,h5⟩,h6⟩,h7⟩:=h;refine⟨?_,h2,h3,h4,h5,λx hx=>?_,λy hy z=>?_⟩
 .cases q:sc.kind<;>rw[q] at h1<;>first|rfl|cases h1
 .let:=h6 x hx
  split at this
  .rename_i k e
   rw[e];cases k<;>first|exact .inl Y|exact .inr Y|cases this
  .cases this
 .let:=h7 y hy
  rw[z] at this;cases this
def gX(x:J)(st:o)(ps:-J):Prop:=∀(kV doc pm:B)(an:Option O)(bh ct:B)(us:-B),↑us=↑ps->bindArgs (U_ x x (kQ st) (d8 st) (cQ st) .none kV doc pm an bh ct) ⟨us,[]⟩=pure (ps.zip us)
section
theorem ES{us:-B}(h:↑us=1):∃a,us=[a]:=List.length_eq_one_iff.mp h
theorem EU{us:-B}(h:↑us=2):∃a b,us=[a,b]:=by
 cases us with
 |nil=>cases h
 |cons a r=>let⟨b,rfl⟩:=ES (q1L h);calc⟨a,b,Y⟩
theorem Oa{us:-B}(h:↑us=3):∃a b c,us=[a,b,c]:=by
 cases us with
 |nil=>cases h
 |cons a r=>let⟨b,c,rfl⟩:=EU (q1L h);calc⟨a,b,c,Y⟩
theorem eR{x:J}{st:o}{ps:-J}(h:∀(kV doc pm:B) (an:Option O) (bh ct a:B),bindArgs (U_ x x (kQ st) (d8 st) (cQ st) .none kV doc pm an bh ct) ⟨[a],[]⟩=pure (ps.zip [a]):=by intros;rfl)(hl:↑ps=1:=by rfl):gX x st ps:=λkV doc pm an bh ct us hu=>by
 let⟨a,rfl⟩:=ES (hu.trans hl);calc h kV doc pm an bh ct a
theorem oM{x:J}{st:o}{ps:-J}(h:∀(kV doc pm:B) (an:Option O) (bh ct a b:B),bindArgs (U_ x x (kQ st) (d8 st) (cQ st) .none kV doc pm an bh ct) ⟨[a,b],[]⟩=pure (ps.zip [a,b]):=by intros;rfl)(hl:↑ps=2:=by rfl):gX x st ps:=λkV doc pm an bh ct us hu=>by
 let⟨a,b,rfl⟩:=EU (hu.trans hl);calc h kV doc pm an bh ct a b
theorem mR{x:J}{st:o}{ps:-J}(h:∀(kV doc pm:B) (an:Option O) (bh ct a b c:B),bindArgs (U_ x x (kQ st) (d8 st) (cQ st) .none kV doc pm an bh ct) ⟨[a,b,c],[]⟩=pure (ps.zip [a,b,c]):=by intros;rfl)(hl:↑ps=3:=by rfl):gX x st ps:=λkV doc pm an bh ct us hu=>by
 let⟨a,b,c,rfl⟩:=Oa (hu.trans hl);calc h kV doc pm an bh ct a b c
variable{V:Ev}{x:J}{st:o}{N ps:-J}{k:Nat}{G:GD}
theorem cY(D:Dx V x st)(bd:gX x st ps)(h:∀{bh:ν} {A:l} {outer:-t} {s:L} {H:Hp} {E:XK} {f:O},bx k (A.deeper (envOfC x (cQ st) ⇑s f bh))->N.Nodup->(A.deeper (envOfC x (cQ st) ⇑s f bh)).units+64<cLine →
   ∃B:WS,bZ (bt fP V.P V.w V.K V.mg V.base N x (cQ st) f bh A outer s H E).mi (d8 st) (cS B)/\∀ys ovs K',↑ys=↑ps->G ys ovs K'->B (ik ↑ovs K') ⟨ys.map U++R5 (↑N-↑ps) Z,ovs.map U⟩)(sc:vh N ps (cQ st)=θ:=by decide +kernel):Fx V (k+1) x ps ↑ps G :=
 let⟨f,fd,a,F⟩:=D
 ⟨f,fd,F.Lo (gW sc) λbh A outer s H E hr=>h hr (gW sc).nd hr.units,a,F.kp,F.binds bd⟩
end
end
section
variable{K:nG}{h:R}{mg:J->Option B}
def Dk(K:nG)(x:J)(st:o):Prop:=∃f fd,TV K mainGlobals x=U (U (.ref f))/\fY K x x st f fd
inductive fK (K:nG):-(J×o)->Prop
 |nil:fK K []
 |cons {x st r}:Dk K x st->fK K r->fK K ((x,st)::r)
theorem zD{x:J}{st:o}{r:-(J×o)}{f:O}{od an:Option O}{sl:Array (Option B)}{oc kV dc pm cd ct:B}(a:TV K mainGlobals x=U (U (.ref f)))(l:K.lookup f=U ⟨oc,od,.func (U_ x x (kQ st) (d8 st) (cQ st) .none kV dc pm an cd ct),sl⟩)(q:Xm K cd x=θ)(k:UK K (.ref f)=θ)(h:fK K r):fK K ((x,st)::r) :=
 .cons ⟨f,_,a,Js l q k⟩ h
theorem fK.at{ds:-(J×o)}(h:fK K ds)(i:Nat){x:J}{st:o}(e:ds[i]?=U (x,st)):Dk K x st:=by
 induction h generalizing i with
 |nil=>cases e
 |cons d _ ih=>cases i with
  |zero=>cases e;exact d
  |succ i=>calc ih i e
def vi(K:nG)(x:J)(st:o)(T:O):Prop:=∃f fd,(TV K mainGlobals x=U (U (.ref f))/\fY K x x st f fd)/\∃cc,fd.code=.ref cc/\PySem.W.codeHdIn K cc T=θ
inductive gY (K:nG):-(J×o×O)->Prop
 |nil:gY K []
 |cons {x st T r}:vi K x st T->gY K r->gY K ((x,st,T)::r)
theorem gY.at{ds:-(J×o×O)}(h:gY K ds)(i:Nat){x:J}{st:o}{T:O}(e:ds[i]?=U (x,st,T)):vi K x st T:=by
 induction h generalizing i with
 |nil=>cases e
 |cons d _ ih=>cases i with
  |zero=>cases e;exact d
  |succ i=>calc ih i e
theorem Ob{x:J}{r:-J}(a:TV K mainGlobals x=U Z)(h:∀y∈r,TV K mainGlobals y=U Z):∀y∈x::r,TV K mainGlobals y=U Z:=λy hy=>by
 rcases Cy.mp hy with rfl|hy
 .exact a
 .calc h y hy
theorem Oc{ls:-mO}(nd:(ls.map (·.T)).Nodup):∀{a b:mO},a∈ls->b∈ls->a.T=b.T->a=b:=by
 induction ls with
 |nil=>ext a b ha;exact nomatch ha
 |cons c r ih =>
  ext a b ha hb e;rw[TJ,VL] at nd;rcases Cy.mp ha with rfl|ha'<;>rcases Cy.mp hb with rfl|hb'
  .rfl
  .exact absurd (Tz.mpr ⟨b,hb',e.symm⟩) nd.1
  .exact absurd (Tz.mpr ⟨a,ha',e⟩) nd.1
  .calc ih nd.2 ha' hb' e
theorem Dk.v{P:q}{w:I}{base:R}{x:J}{st:o}(d:Dk K x st)(X:K.In h)(G:h.Ns mainGlobals mg):Dx ⟨P,w,K,mg,base⟩ x st :=
 let⟨f,fd,a,F⟩:=d
 ⟨f,fd,T3 X G a,F⟩
theorem vi.v{P:ψ}{w:I}{base:R}{x:J}{st:o}{ls:-mO}{T:O}{lp:y}{q:J}(d:vi K x st T)(X:K.In h)(G:h.Ns mainGlobals mg)(KB:K.In base)(hB:∀t∈ls,base.BuiltinsAt mg t.T)(nd:(ls.map (·.T)).Nodup)(ng:∀t∈ls,mainGlobals≠t.T)(hl:⟨T,lp,q⟩∈ls):@ER (lA ls) ⟨P,w,K,mg,base⟩ x st T lp q :=
 let⟨f,fd,⟨a,F⟩,cc,e1,e2⟩:=d
 letI:aD:=lA ls
 ⟨f,fd,⟨T3 X G a,F⟩,⟨cc,e1,PySem.W.codeHd_of_K KB e2⟩,ng _ hl,hB _ hl,M9 hl λa ha b hb e=>Oc nd ha hb e⟩
def Ck(K:nG)(x:J)(i:Int):Prop:=∃u,TV K mainGlobals x=U (U u)/\RelV (.int i) u
theorem Ck.v{P:q}{w:I}{base:R}{x:J}{i:Int}(d:Ck K x i)(X:K.In h)(G:h.Ns mainGlobals mg):Ct ⟨P,w,K,mg,base⟩ x i :=
 let⟨u,a,r⟩:=d
 ⟨u,T3 X G a,r⟩
noncomputable def zE:-J:=["len", "range", "list", "tuple", "set", "sorted", "min", "max", "sum", "all", "any", "enumerate", "zip", "isinstance", "int", "bool", "str", "repr"]
theorem Od(X:K.In h)(G:h.Ns mainGlobals mg)(N:∀x∈zE,TV K mainGlobals x=U Z):BT mg :=
 have n:∀i x,zE[i]?=U x->mg x=Z:=λi x e=>Zj X G (N x (T2 e))
 ⟨n 0 _ Y,n 1 _ Y,n 2 _ Y,n 3 _ Y,n 4 _ Y,n 5 _ Y,n 6 _ Y,n 7 _ Y,n 8 _ Y,n 9 _ Y,n 10 _ Y,n 11 _ Y,n 12 _ Y,n 13 _ Y,n 14 _ Y,n 15 _ Y,n 16 _ Y,n 17 _ Y⟩
end
end LJ
namespace L2
open PySem PySem.Spec PyProof.Rows
def jI(h:R)(a C:O)(dx T:Option O)(fl:B):Prop :=
 ∃vs sl,h.get? a=U ⟨.ref C,dx,.fields vs,sl⟩/\vs[1]?=U (T.elim UC TX)/\∀t,T=U t->t≠a/\∃oT ts,h.get? t=U oT/\oT.data=.fields ts/\ts[3]?=U fl
structure jJ(fs:-O)(a:O)(T:Option O)(h h':R):Prop where
 keep:∀b o,b≠a->U b≠T->b∉fs->h.get? b=U o->h'.get? b=U o
 slot:∀b o,b≠a->U b≠T->h.get? b=U o->∃sl,h'.get? b=U {o with slots:=sl}
section
variable{M:Model}{A:l}{E:aT}{s:ο}{env:t}{outer:-t}{base:R}{L a C:O}{dx T:Option O}{Q:Unit->ο->Prop}
theorem EV{head:B}{hn:Bool}{vs:Array B}{sl:Array (Option B)}(iW:A.frames=U (env::outer))(hl:s.heap.FunFrames base (env::outer))(hf:env.frame=U L)
  (he:s.heap.get? a=U ⟨.ref C,dx,.fields vs,sl⟩) (iU:1<vs.size)
  (h:∀h' T',jI h' a C dx (U T') (rawInt L)->s.heap.get? T'=Z->jJ (dG (env::outer)) a Z s.heap h'->Q () {s with heap:=h'}) :
  G M A (do let x <- frameOf env;let pl <- entryPlaceOf L hn;let b <- YZ head x .none (rawInt L) .none pl;setField (.ref a) 1 b) Q E s:=by
 let na:a∉(env::outer).filterMap (·.frame):=λhm=>by
  let⟨_,o,ho,nf⟩:=hl.mem hm;rw[he] at ho;cases ho;exact nf vs Y
 calc kb (wpAny_frameOf_fun iW hl hf λh1 e1=>?_);calc kb (wpAny_entryPlaceOf λpl dm=>?_);unfold YZ newFields;calc kb (Uo ?_ (dm.sizeOk5 _ _ _ _ _));let zF:=(e1.2.1 a na).trans he;calc Xu (nF _ zF) Y iU ?_;let nT:h1.objs.size≠a:=VY (Jo zF)
 let keep:∀b o,b≠a->h1.get? b=U o->∀ob f,((h1.push ob).update a f).get? b=U o:=λb o n e ob f=>by
  rw[U2 _ _ (Vv n)];exact nF _ e
 refine h _ h1.objs.size ⟨_,_,UI _ (nF _ zF) Y,?_,λt e=>?_⟩ ?_ ⟨λb o n _ nf e=>?_,λb o n _ e=>?_⟩
 .show (vs.setIfInBounds 1 (TX h1.objs.size))[1]?=_
  simp[iU]
 .cases e
  refine⟨nT,_,_,(U2 _ _ (Vv nT)).trans (R0 h1 Y),Y,?_⟩
  first|(simp;done)|(rcases dm with rfl|⟨_,_,_,_,_,_,_,rfl⟩<;>simp)
 .rw[Yx]
  rw[e1.1];exact ug _
 .exact keep b o n ((e1.2.1 b nf).trans e) _ _
 .let⟨kC,e'⟩:=e1.2.2 b o e
  calc⟨kC,keep b _ n e' _ _⟩
theorem zG{t:O}{fl:B}(f:jI s.heap a C dx (U t) fl)(h:∀h',jI h' a C dx (U t) .none->jJ [] a (U t) s.heap h'->Q () {s with heap:=h'}):
  G M A (setFlight (.ref a) Z) Q E s:=by
 let⟨vs,sl,ea,e1,r⟩:=f;let⟨n,oT,ts,et,ed,e3⟩:=r t Y;let h3:=(Ud.mp e3).1;let o:∀b,b≠t->(s.heap.update t (q08 (·.setIfInBounds 3 .none))).get? b=s.heap.get? b:=λb nb=>U2 _ _ (Vv nb);refine wpAny_setFlight_none ea Y e1 et ed h3 (h _ ⟨vs,sl,(o a (Vv n)).trans ea,e1,λt' e=>?_⟩ ⟨λb u _ nb _ e=>?_,λb u _ nb e=>⟨u.slots,?_⟩⟩)
 .cases e
  exact⟨n,_,_,UI _ et (WK (VI ed _)),VI ed _,by simp[h3]⟩
 .exact (o b λz=>nb (by rw[z])).trans e
 .calc (o b λz=>nb (by rw[z])).trans e
theorem EW(iW:A.frames=U (env::outer))(hl:s.heap.FunFrames base (env::outer))(hf:env.frame=U L)(f:jI s.heap a C dx T .none)
  (h:∀h' T',jI h' a C dx (U T') (rawInt L)->s.heap.get? T'=Z->jJ (dG (env::outer)) a T s.heap h'->Q () {s with heap:=h'}):G M A (noteFrame (.ref a) env) Q E s:=by
 let⟨vs,sl,ea,e1,r⟩:=f;let hz:=(Ud.mp e1).1;unfold noteFrame;erw[hf];refine kb (Uj ea Y e1 ?_)
 cases T with
 |none =>
  rw[show(Z:Option O).elim UC TX=UC from Y,To (by decide)];exact EV iW hl hf ea hz h
 |some t =>
  let⟨n,oT,ts,et,ed,e3⟩:=r t Y;let h3:=(Ud.mp e3).1;rw[show(U t).elim UC TX=TX t from Y,Tw (show(TX t != UC)=θ from by simp)];calc kb (Uj et ed e3 ?_);rw[To (show ¬ ((UC==rawInt L)=θ) from by simp[rawInt])];calc kb (Xu et ed h3 ?_);let o:∀b,b≠t->(s.heap.update t (q08 (·.setIfInBounds 3 UC))).get? b=s.heap.get? b:=λb nb=>U2 _ _ (Vv nb);refine EV iW (hl.of_keeps λb u e nf=>⟨u,(o b λz=>?_).trans e,Y⟩) hf ((o a (Vv n)).trans ea) hz λh' T' x1 x2 x3=>h h' T' x1 ?_ ⟨λb u na nb nf e=>x3.keep b u na (by simp) nf ((o b λz=>nb (by rw[z])).trans e),λb u na nb e=>x3.slot b u na (by simp) ((o b λz=>nb (by rw[z])).trans e)⟩
  .rw[z,et] at e;cases e
   exact nf ts ed
  .by_cases z:T'=t
   .rw[z,UI _ et (WK (VI ed _))] at x2;cases x2
   .calc (o T' z).symm.trans x2
theorem Oe(iW:A.frames=U (env::outer))(hl:s.heap.FunFrames base (env::outer))(hf:env.frame=U L)(f:jI s.heap a C dx T .none)
  (h:∀h' T',jI h' a C dx (U T') .none->s.heap.get? T'=Z->jJ (dG (env::outer)) a T s.heap h'->Q () {s with heap:=h'}):G M A (leaving env (.ref a)) Q E s:=by
 unfold leaving;refine kb (EW iW hl hf f λh1 T' x1 x2 x3=>zG x1 λh2 y1 y2=>h h2 T' y1 x2 ⟨λb o na nb nf e=>?_,λb o na nb e=>?_⟩)
 .exact y2.keep b o na (λz=>by cases z;rw[x2] at e;cases e) (by simp) (x3.keep b o na nb nf e)
 .let⟨sl,e'⟩:=x3.slot b o na nb e
  calc⟨sl,y2.keep b _ na (λz=>by cases z;rw[x2] at e;cases e) (by simp) e'⟩
end
def dZ(P:q)(w:I):hV:=λouter H s E e s'=>∃(a C:O)(dx:Option O)(T:O)(H':Hp),e=.ref a/\s'.os=s.os/\AllBare s'.gens/\Un (dG outer) [] H H' s.heap s'.heap/\cK P w H' s'.heap ∧
 jI s'.heap a C dx (U T) .none/\H' a=Z/\H' T=Z/\s.heap.get? a=Z/\s.heap.get? T=Z/\E (.ref C) dx H'
section
variable{X:Cx}{P:q}{w:I}{K:nG}{mg:J->Option B}{base:R}{N:-J}{qual:J}{scope:u}{f:O}{cd:B}{A:l}{outer:-t}{s:L}{H:Hp}{E:XK}
theorem Un.oN{fs:-O}{H H':Hp}{h g h':R}{a:O}{T:Option O}(u:Un fs [] H H' h g)(na:∀o,h.get? a=U o->H a=Z->False)(nT:∀t,T=U t->h.get? t=Z)(ea:∃o,h'.get? a=U o)(x:jJ fs a T g h'):Un fs [] H H' h h' where
 keep:=λb o e n nf nx=>x.keep b o (λz=>by subst z;calc na o e n) (λz=>by rw[nT b z.symm] at e;cases e) nf (u.keep b o e n nf nx)
 slot:=λb o e n nf nx=>by
  let⟨sl,e1⟩:=u.slot b o e n nf nx;let⟨kC,e2⟩:=x.slot b _ (λz=>by subst z;calc na o e n) (λz=>by rw[nT b z.symm] at e;cases e) e1;exact⟨kC,e2⟩
 free:=u.free
 there:=λb o e nx=>by
  let⟨o1,e1⟩:=u.there b o e nx
  by_cases c:b=a
  .rw[c];exact ea
  .let⟨sl,e2⟩:=x.slot b o1 c (λz=>by rw[nT b z.symm] at e;cases e) e1
   exact⟨_,e2⟩
 cC:=u.cC
 cM:=u.cM
 dH:=u.dH
theorem cK.oN{H':Hp}{g h':R}{fs:-O}{a:O}{T:Option O}(k:cK P w H' g)(ha:H' a=Z)(hT:∀t,T=U t->H' t=Z)(hf:∀b∈fs,H' b=Z)(x:jJ fs a T g h'):cK P w H' h':=λb o e=>by
 let ne:∀c,(c=b\/H' c=U (.own b))->H' c≠Z:=λc hc z=>by
  rcases hc with rfl|hc
  .rw[e] at z;cases z
  .rw[hc] at z;cases z
 calc(k b o e).dR (λc v hc z=>x.keep c v (λq=>ne c hc (by rw[q];calc ha)) (λq=>ne c hc (hT c q.symm)) (λq=>ne c hc (hf c q)) z) (λc z=>z) λc xs z=>z
theorem zH{h h' base:R}:∀{l:-t},(∀b∈dG l,∀o,h.get? b=U o->∃sl,h'.get? b=U {o with slots:=sl})->h.FunFrames base l->h'.FunFrames base l
 |[],_,_=>trivial
 |env::r,k,⟨hk,⟨L,o,hf,hn,ho,hd⟩,hr⟩=>by
  let hL:L∈dG (env::r):=by unfold dG;rw[U6,hf];exact Cu
  let⟨sl,e⟩:=k L hL o ho;calc⟨hk,⟨L,_,hf,hn,e,hd⟩,zH (λb hb=>k b (by unfold dG;rw[U6,hf];calc Jp _ hb)) hr⟩
theorem EX{pins:av}{σ:St}{H1 H':Hp}{s1 s2:L}{a C:O}{dx T:Option O}(eX:X=bt (dZ P w) P w K mg base N qual scope f cd A outer s H E)(I:Inv X pins σ H1 s1)(os:s2.os=s1.os)(ba:AllBare s2.gens)(u:Un (dG X.stack) [] H1 H' s1.heap s2.heap)(ok:cK P w H' s2.heap)(F:jI s2.heap a C dx T .none)
  (ha:H' a=Z) (hT:∀t,T=U t->H' t=Z/\s1.heap.get? t=Z) (na:∀o,s1.heap.get? a=U o->H1 a=Z->False) (a0:s.heap.get? a=Z) (q:E (.ref C) dx H'):X.xe (.ref a) s2:=by
 subst eX
 let fr:∀b∈dG (envOfC qual scope ⇑s f cd::outer),H' b=Z:=λb hb=>by
  let⟨_,o,ho,_⟩:=I.stack.mem hb;exact u.free b o ho (I.dg b hb) (by simp)
 let fk:s2.heap.FunFrames base (envOfC qual scope ⇑s f cd::outer):=zH (λb hb o e=>u.any e (I.dg b hb) (by simp)) I.stack;calc Oe (base:=base) (outer:=outer) I.ok.frames fk Y F λh' T' x1 x2 x3=>?_;let u':=u.oN na (λt e=>(hT t e).2) (by let⟨vs,sl,e,_⟩:=x1;calc⟨_,e⟩) x3;let Of:=ok.oN ha (λt e=>(hT t e).1) fr x3;let J:=I.g7 (s':={s2 with heap:=h'}) os u' Of ba (λb z=>absurd z (by simp))
 let gone:∀b,s2.heap.get? b=Z->s.heap.get? b=Z:=λb e=>by
  cases q:s.heap.get? b with
  |none=>rfl
  |some o =>
   let⟨o1,e1⟩:=I.base.there b o q (by calc Tr);let⟨o2,e2⟩:=u.there b o1 e1 (by simp);rw[e] at e2;cases e2
 refine⟨a,C,dx,T',H',Y,J.os,J.bare,J.base,J.aX,x1,ha,?_,a0,gone T' x2,q⟩
 cases z:H' T' with
 |none=>rfl
 |some o =>
  let⟨ob,e⟩:=CO (ok T' o z);rw[x2] at e;cases e
theorem Og:nk (dZ P w) (bt (dZ P w) P w K mg base N qual scope f cd A outer s H E) E:=λpins σ H1 s1 e s' I h=>by
 let⟨a,C,dx,T,H',rfl,os,ba,u,ok,F,ha,hT,a0,t0,q⟩:=h;refine EX Y I os ba u ok F ha (λt e=>by cases e;calc⟨hT,t0⟩) (λo e _=>by rw[a0] at e;cases e) ?_ q
 cases z:s.heap.get? a with
 |none=>rfl
 |some o =>
  let⟨o1,e1⟩:=I.base.there a o z (by calc Tr);rw[a0] at e1;cases e1
noncomputable def gm(H:Hp)(a:O):Hp:=λb=>if b=a then Z else H b
theorem qa{H:Hp}{a b:O}(n:b≠a):gm H a b=H b:=To n
theorem Un.del{fs:-O}{H:Hp}{h:R}{a C:O}{dx:Option O}(e:H a=U (eV a C dx)):Un fs [] H (gm H a) h h where
 keep:=λ_ _ e _ _ _=>e
 slot:=λ_ o e _ _ _=>⟨o.slots,e⟩
 free:=λb o _ n _=>by
  unfold gm;split
  .rfl
  .exact n
 there:=λb o e _=>⟨o,e⟩
 cC:=λb xs q=>by rw[qa (vZ q e (by unfold eV;ext z;cases z))];exact q
 cM:=λb o xs q=>by rw[qa (vZ q e (by unfold eV;ext z;cases z))];exact q
 dH:=λb ps q=>⟨#[],by rw[qa (vZ q e (by unfold eV;ext z;cases z)),q];simp⟩
theorem cK.del{H:Hp}{h:R}{a C:O}{dx:Option O}(k:cK P w H h)(e:H a=U (eV a C dx)):cK P w (gm H a) h:=λb o q=>by
 let nb:b≠a:=λz=>by unfold gm at q;rw[Tw z] at q;cases q
 rw[qa nb] at q;let own:∀c x,H c=U x->(∀φ,x≠.ext φ)->c≠a:=λc x z n y=>by rw[y,e] at z;cases z;exact n _ Y
 calc(k b o q).dR (λc v hc z=>z) (λc z=>by rw[qa (own c _ z (by ext φ y;cases y))];calc z) λc xs z=>by rw[qa (own c _ z (by ext φ y;cases y))];calc z
theorem bS.exc{l:-B}(x:bS K l):l.contains (.type "BaseException")=θ:=by
 induction x with
 |base=>decide
 |own _ _ _ ih=>rw[Wh,ih,Yd]
theorem Oh{M:Model}{A:Β}{env:Ζ}{E:aT}{s:L}{x:Sem B}{Q:Flow->L->Prop}(hh:A.handled=Z)
  (h:G M A x (λv s1=>∃a C dx jm,v=.ref a/\pq K C jm/\K.In s1.heap/\jI s1.heap a C dx Z .none/\E (.ref a) s1) E s):G M A (raiseStmt env (U x) Z) Q E s:=by
 unfold raiseStmt;calc kb (UP h (λv s1 h1=>?_) λ_ _ z=>z);let⟨a,C,dx,jm,rfl,m,k,⟨vs,sl,ea,e1,_⟩,hE⟩:=h1;let⟨nm,q,N,bs,bm,f7,sn,sub,ab,col,dd,k0,k1,k2,k3,k5,l,t,_⟩:=m.CN;let hC:=k _ _ l;let hB:(TX C::bm).contains (.type "BaseException")=θ:=by rw[Wh,t.exc,Yd]
 let⟨hp,g,d,tk,os⟩:=s1
 repeat(first|with_reducible refine ZK ea ?_|with_reducible refine ZK hC ?_|(with_reducible calc wpAny_isSubtype_exc hC ?_;rw[hB])|wp_step)
 rw[e1];calc qY ?_;rw[To (by decide)];calc qY (wpAny_raiseNew_none hh hE)
def Oi(K:nG)(H0:Hp)(te:TE)(E:XK):TS:=λ_ σ H=>te σ H λv H1=>∃(a C:O)(dx:Option O)(jm:Option B),v=.ref a/\H1 a=U (eV a C dx)/\pq K C jm/\H0 a=Z/\E (.ref C) dx (gm H1 a)
theorem Oj{e:M}{te:TE}{pos:y}(eX:X=bt (dZ P w) P w K mg base N qual scope f cd A outer s H E)(he:JE X e te):JS X (.Raise (U e) Z pos) (Oi X.K X.H₀ te E):=by
 calc⟨?_⟩;ext pins s1 σ H1 D I h;show G _ _ (do standAt pos;raiseStmt X.env (U (do let v <- eval e X.env;standAt pos;pure v)) Z) _ _ _;let hc:X.calm=θ:=by rw[eX];rfl
 calc kb (V_ (Oh (K:=X.K) (I.ok.hd hc) (kb (bp (he pins s1 σ H1 _ I h) λu s2 ⟨v,H2,I2,r,a,C,dx,jm,ev,ea,m,h0,q⟩=>kb (V_ (qY ?_))))));subst ev;obtain rfl:u=TX a:=r;let⟨t,et⟩:=Kl (I2.aX a _ ea);let F:jI s2.heap a C dx Z .none:=⟨_,_,et,Y,λ_ z=>nomatch z⟩;calc⟨a,C,dx,jm,Y,m,I2.dU,F,?_⟩;let eP:X.prog=P:=by rw[eX];rfl
 let ew:X.w=w:=by rw[eX];rfl
 let ok:=I2.aX;rw[eP,ew] at ok;calc EX eX I2 Y I2.bare (Un.del ea) (ok.del ea) F (Tw Y) (λ_ z=>nomatch z) (λo _ n=>by rw[ea] at n;cases n) ?_ q;let e0:X.s₀=s:=by rw[eX];rfl
 let ex:X.ex=[]:=by rw[eX];rfl
 cases z:s.heap.get? a with
 |none=>rfl
 |some o =>
  let:=I2.base.free a o (by rw[e0];calc z) h0 (by rw[ex];calc Tr);rw[ea] at this;cases this
end
noncomputable def d3(a C:O)(dx:Option O):HO:=.ext λh=>∃vs sl,h.get? a=U ⟨.ref C,dx,.fields vs,sl⟩
theorem Ol{P:q}{w:I}{H:Hp}{h:R}{a C:O}{dx:Option O}{vs:Array B}{sl:Array (Option B)}(e:h.get? a=U ⟨.ref C,dx,.fields vs,sl⟩):bc P w H h a (d3 a C dx) :=
 ⟨⟨vs,sl,e⟩,⟨_,e⟩,λh1 h2 ⟨Om,kC,e1⟩ k↦⟨Om,kC,k _ e1⟩⟩
theorem EY{P:q}{w:I}{H:Hp}{h:R}{a C:O}{dx:Option O}(x:bc P w H h a (d3 a C dx)):∃vs sl,h.get? a=U ⟨.ref C,dx,.fields vs,sl⟩:=x.1
theorem jJ.more{fs:-O}{a t:O}{T:Option O}{h h1 h2:R}(x:jJ fs a T h h1)(n:h.get? t=Z)(y:jJ [] a (U t) h1 h2):jJ fs a T h h2 where
 keep:=λb o na nb nf e=>y.keep b o na (λz=>by cases z;rw[n] at e;cases e) (by simp) (x.keep b o na nb nf e)
 slot:=λb o na nb e=>by
  let⟨sl,e'⟩:=x.slot b o na nb e;calc⟨sl,y.keep b _ na (λz=>by cases z;rw[n] at e;cases e) (by simp) e'⟩
section
variable{X:Cx}{pins fV:av}{σ:St}{H:Hp}{s:L}{E:aT}
theorem Inv.sU(I:Inv X pins σ H s):Inv {X with pn:=X.pn++pins,xe:=E} [] σ H s :=
 ⟨⟨I.ok.mod,I.ok.kind,I.ok.glob,I.ok.blt,I.ok.above,I.ok.inj,I.ok.has,I.ok.l9,I.ok.hd,I.ok.frames,I.ok.mV,I.ok.qr,I.ok.bs,I.ok.jV,I.ok.fU,I.ok.gC,I.ok.df,I.ok.kA⟩,I.os,I.bare,I.base,I.loc,I.cell,I.free,I.bF,λp hp=>I.pin p hp⁻¹,I.aX,I.len⟩
theorem Inv.fz(I:Inv {X with pn:=X.pn++pins,xe:=E} fV σ H s):Inv X pins σ H s :=
 ⟨⟨I.ok.mod,I.ok.kind,I.ok.glob,I.ok.blt,I.ok.above,I.ok.inj,I.ok.has,I.ok.l9,I.ok.hd,I.ok.frames,I.ok.mV,I.ok.qr,I.ok.bs,I.ok.jV,I.ok.fU,I.ok.gC,I.ok.df,I.ok.kA⟩,I.os,I.bare,I.base,I.loc,I.cell,I.free,I.bF,λp hp=>I.pin p (Uw _ hp),I.aX,I.len⟩
theorem Inv.toSub{A:l}(I:Inv X pins σ H s)(e:A.frames=X.A.frames):Inv {X with A:=A,calm:=false,xe:=E} pins σ H s :=
 ⟨⟨I.ok.mod,I.ok.kind,I.ok.glob,I.ok.blt,I.ok.above,I.ok.inj,I.ok.has,I.ok.l9,(λz=>by cases z),e.trans I.ok.frames,I.ok.mV,I.ok.qr,I.ok.bs,I.ok.jV,I.ok.fU,I.ok.gC,I.ok.df,I.ok.kA⟩,I.os,I.bare,I.base,I.loc,I.cell,I.free,I.bF,I.pin,I.aX,I.len⟩
theorem Inv.sV{A:l}(I:Inv {X with A:=A,calm:=false,xe:=E} pins σ H s)(k:X.Ok):Inv X pins σ H s :=
 ⟨k,I.os,I.bare,I.base,I.loc,I.cell,I.free,I.bF,I.pin,I.aX,I.len⟩
theorem Inv.blank(I:Inv X pins σ H s):Inv X pins (R5 ↑σ Z) H s :=
 ⟨I.ok,I.os,I.bare,I.base,let⟨m,hn,_⟩:=I.loc;⟨m,hn,λi x v _ e _=>by rw[Vz] at e;split at e<;>cases e⟩,I.cell,I.free,I.bF,I.pin,I.aX,by rw[UH];calc I.len⟩
theorem Inv.locs{σ':St}{h':R}{m':J->Option B}{t':Nat}(I:Inv X pins σ H s)(hn:h'.Ns X.env.locals m')(hs:Ws X.env.locals s.heap h')
  (hl:∀(i:Nat)(x:J)(v:V),X.N[i]?=U x->σ'[i]?=U (U v)->o7 X.env.scope x->∃u,RelV v u/\Look X.env h' m' x u) (len:↑σ'=↑X.N):Inv X pins σ' H {s with heap:=h',toks:=t'}:=by
 let⟨m,⟨oL,_,_,Bt,_⟩,_⟩:=id I.loc;let ne:∀b o,X.s₀.heap.get? b=U o->b≠X.env.locals:=λb o e=>TN (TC (Jo e) I.ok.above);refine⟨I.ok,I.os,I.bare,⟨λb o e n hb hx=>(hs.2 b (ne b o e)).trans (I.base.keep b o e n hb hx),λb o e n hb hx=>?_,I.base.free,λb o e hx=>?_,I.base.cC,I.base.cM,I.base.dH⟩,⟨m',hn,hl⟩,λy c e=>?_,I.free,I.bF,λp hp=>?_,λb ob e=>?_,len⟩
 .let⟨sl,e1⟩:=I.base.slot b o e n hb hx
  exact⟨sl,(hs.2 b (ne b o e)).trans e1⟩
 .let⟨o',e1⟩:=I.base.there b o e hx
  exact⟨o',(hs.2 b (ne b o e)).trans e1⟩
 .let⟨w',z⟩:=I.cell y c e
  exact⟨w',z.sameBut hs (I.kB y c e)⟩
 .let⟨e,n,nl,nf,d⟩:=I.pin p hp
  exact⟨(hs.2 p.1 nl).trans e,n,nl,nf,d⟩
 .refine (I.aX b ob e).dR (λc w' hc q=>(hs.2 c ?_).trans q) (λ_ q=>q) λ_ _ q=>q
  ext rfl;rcases hc with rfl|hc
  .rw[I.free] at e;cases e
  .rw[I.free] at hc;cases hc
theorem name_goes{M:Model}{A:Β}{E:aT}{Q:Unit->L->Prop}{i:Nat}{n:J}{pos:Ε}(I:Inv X pins σ H s)(nd:X.N.Nodup)(hi:X.N[i]?=U n)(hk:X.env.scope.names.lookup n=U .local)
  (h:∀s',Inv X pins (σ.set i Z) H s'->Q () s'):G M A (do bindName X.env n .none;unbindBehindTheSuite X.env n pos) Q E s:=by
 calc kb (wpAny_bindName (tW (v:=.non) (u:=.none) I nd hi (.inl hk) Y (λs1 I1=>?_) (.inr hk)));let hp:(X.env.scope.kind==.class||(X.env.scope.kind==.module&&X.env.locals != X.env.globals))=ι:=by rw[I.ok.kind];rfl
 let hl:X.env.kindOf n=U .local:=hk;unfold unbindBehindTheSuite;calc WX ?_;unfold unbindName;calc kb (wpAny_point (kb ?_));unfold deleteName;erw[hl,hp];rw[To (by decide)];let⟨m,hn,hm⟩:=id I1.loc;let hlen:i<↑σ:=by rw[I.len];exact(kP.mp hi).1
 let⟨u0,r0,l0⟩:=hm i n .non hi (by rw[TZ hlen]) (.inl hk)
 let Oo:(m n).isSome=θ:=by
  rcases l0 with⟨_,e⟩|⟨k,_⟩
  .rw[e];rfl
  .rcases k with k|k<;>(rw[hl] at k;cases k)
 calc kb (wpAny_nsDel_keeps hn λh2 v xt dW=>?_);rw[Oo];erw[Ve,Ue,Jr,Um];calc qY (wpAny_point (h _ (I1.locs (t':=s1.toks) xt dW (λj y w e1 e2 e3=>?_) (by rw[Ux];calc I.len))));let nj:j≠i:=λz=>by rw[z,TZ hlen] at e2;cases e2
 rw[T8 (Vv nj)] at e2;let⟨u,r,l⟩:=hm j y w e1 (by rw[T8 (Vv nj)];calc e2) e3;calc⟨u,r,?_⟩;rcases l with⟨k,e⟩|⟨k,c,e,z⟩
 .refine .inl ⟨k,?_⟩
  let:y≠n:=λe=>nj (v9 nd e1 (e▸hi));simp[this,e]
 .calc .inr ⟨k,c,e,z.sameBut dW (I.kB y c e)⟩
end
section
variable{X:Cx}{body eG:-o}{b0:o}{x n:J}{p1 p2 pos:y}{L:O}{i:Nat}{tb:XK->TS}{th:TS}
def Oq(K:nG)(L:O)(i k:Nat)(th:TS)(D:Ends):XK:=λC dx H'=>∃c,C=.ref c/\WD K C (.ref L)=U θ ∧
 ∀a,H' a=Z->th {nx:=fun σ H=>D.nx (σ.set i Z) H,rt:=λ_ _=>False} ((R5 k Z).set i (U (.ref a))) (upd H' a (d3 a c dx))
def zI(K:nG)(L:O)(i:Nat)(tb:XK->TS)(th:TS):TS:=λD σ H=>tb (Oq K L i ↑σ th D) D σ H
theorem Ot(fN:X.stack=X.env::X.outer)(iW:X.env.frame=U X.env.locals)(nd:X.N.Nodup)(hi:X.N[i]?=U n)(hk:X.env.scope.names.lookup n=U .local)(hg:Gl X x)(hm:X.mg x=U (.ref L))(dj:bw x)
  (hb:∀pn xe E,nk (dZ X.prog X.w) {X with pn:=pn,xe:=xe} E->bZ {X with pn:=pn,xe:=xe} body (tb E)) (hs:∀A xe,bZ {X with A:=A,calm:=false,xe:=xe} (b0::eG) th) :
  JS X (.Try body [.ExceptHandler (U (.Name x p1)) (U n) (b0::eG) p2] [] [] pos) (zI X.K L i tb th):=by
 calc⟨?_⟩;ext pins s σ H D I h;calc wpAny_Try_except ?_;refine UP (hb (X.pn++pins) (λe s1=>G (S X.prog X.w) X.A (noteFrame e X.env) (λ_ s2=>G (S X.prog X.w) X.A (setFlight e Z) (λ_ s3=>G (S X.prog X.w) X.A (handleBy e X.env [.ExceptHandler (U (.Name x p1)) (U n) (b0::eG) p2]) (SP X pins D) X.xe s3) X.xe s2) X.xe s1) _ ?_ [] s σ H D I.sU h) (λf s1 hq=>?_) (λe s1 z=>z)
 .ext fV σ' H1 s1 e s' I1 hx
  let⟨a,C,dx,T,H',rfl,os,ba,u,ok,F,ha,hT,a0,t0,c,ec,em,q⟩:=hx;cases ec
  let hA:X.A.frames=U (X.env::X.outer):=by rw[<-fN];exact I.ok.frames
  let iC:s1.heap.FunFrames X.base (X.env::X.outer):=by rw[<-fN];exact I1.stack
  let EZ:∀b∈dG (X.env::X.outer),H1 b=Z:=by rw[<-fN];exact I1.dg
  let u:Un (dG (X.env::X.outer)) [] H1 H' s1.heap s'.heap:=by rw[<-fN];exact u
  let fk:s'.heap.FunFrames X.base (X.env::X.outer):=zH (λb hb o e=>u.any e (EZ b hb) (by simp)) iC
  let fr:∀b∈dG (X.env::X.outer),H' b=Z:=λb hb=>by
   let⟨_,o,ho,_⟩:=iC.mem hb;exact u.free b o ho (EZ b hb) (by simp)
  let na:∀o,s1.heap.get? a=U o->H1 a=Z->False:=λo e _=>by rw[a0] at e;cases e
  let inv:∀h,jJ (dG (X.env::X.outer)) a (U T) s'.heap h->(∃o,h.get? a=U o)->Inv X pins σ' H' {s' with heap:=h}:=λh x e =>
   Inv.fz (I1.g7 (s':={s' with heap:=h}) os (by show Un (dG X.stack) _ _ _ _ _;rw[fN];calc u.oN na (λt e=>by cases e;calc t0) e x) (ok.oN ha (λt e=>by cases e;calc hT) fr x) ba (λb z=>absurd z (by simp)))
  calc EW hA fk iW F λh4 T4 x1 x2 x3=>?_;calc zG x1 λh5 y1 y2=>?_;let e5:=x3.more x2 y2;let⟨Sq,Sr,E5,_⟩:=id y1;let J5:=inv h5 e5 ⟨_,E5⟩;calc wpAny_handleBy_cons (codeAny_handlers_test (tX (X:={X with A:=X.A.mark (U (.ref a)),calm:=false,xe:=λ_ _=>False}) (J5.toSub Y) hg hm ?_ dj)) (by ext q;cases q);let LT:PySem.W.Looks (S X.prog X.w) h5 (typeOf (.ref a)) (.ref C):=(PySem.W.Looks.ld E5).andThen .now;calc PySem.W.Looks.here (PySem.W.exm_one J5.dU LT em) ?_;show codeAny _ _ _ _ _;calc codeAny_handlers_suite_as ?_;calc zG y1 λh6 z1 z2=>?_;let e6:=e5.more x2 z2
  let⟨Ss,Su,E7,_⟩:=id z1;let Ou:=ok.oN ha (λt e=>by cases e;calc hT) fr e6;let u6:=u.oN na (λt e=>by cases e;calc t0) ⟨_,E7⟩ e6;let ne:∀b y,H' b=U y->b≠a:=λb y e z=>by rw[z,ha] at e;cases e
  let J6:Inv X pins (R5 ↑σ Z) (upd H' a (d3 a C dx)) {s' with heap:=h6}:=by
   let:=Inv.blank (Inv.fz (I1.g7 (s':={s' with heap:=h6}) (H':=upd H' a (d3 a C dx)) os (by
    show Un (dG X.stack) _ _ _ _ _;rw[fN]
    calc⟨u6.keep,u6.slot,λb o e n nx=>by rw[bj (λz=>by rw[z,a0] at e;cases e)];calc u6.free b o e n nx,u6.there,λb xs e=>by rw[bj (ne _ _ (u6.cC b xs e))];calc u6.cC b xs e,λb o xs e=>by rw[bj (ne _ _ (u6.cM b o xs e))];calc u6.cM b o xs e,λb ps e=>by let⟨more,e'⟩:=u6.dH b ps e;calc⟨more,by rw[bj (ne _ _ e')];calc e'⟩⟩)
    (λb o e=>by
     by_cases c:b=a
     .subst c;rw[bE] at e;cases e;exact Ol E7
     .rw[bj c] at e
      calc(Ou b o e).dR (λ_ _ _ z=>z) (λc z=>by rw[bj (ne _ _ z)];calc z) λc xs z=>by rw[bj (ne _ _ z)];calc z) ba (λb z=>absurd z (by simp))))
   rwa [show ↑σ'=↑σ from I1.len.trans I.len.symm] at this
  let hl:i<↑(R5 ↑σ (Z:Option V)):=by rw[UH,I.len];exact(kP.mp hi).1
  calc tW (X:=X) J6 nd hi (.inl hk) (v:=.ref a) Y (λs7 I7=>?_) (.inr hk);refine UP (hs (X.A.mark (U (.ref a))) _ pins s7 _ _ _ (I7.toSub Y) (q a ha)) (λf s8 hf=>?_) (λe s8 z=>z)
  cases f with
  |next =>
   let⟨σ9,H9,I9,q9⟩:=hf;exact name_goes (I9.sV I.ok) nd hi hk λs9 J9=>⟨_,_,J9,q9⟩
  |brk=>let⟨_,_,_,q9⟩:=hf;exact Uu q9
  |cont=>let⟨_,_,_,q9⟩:=hf;exact Uu q9
  |ret v=>let⟨_,_,_,_,_,q9⟩:=hf;exact Uu q9
 .cases f with
  |next =>
   let⟨σ',H',I',q⟩:=hq;exact W5 ⟨σ',H',I'.fz,q⟩
  |brk=>let⟨σ',H',I',q⟩:=hq;exact⟨σ',H',I'.fz,q⟩
  |cont=>let⟨σ',H',I',q⟩:=hq;exact⟨σ',H',I'.fz,q⟩
  |ret u=>let⟨v,σ',H',I',r,q⟩:=hq;calc⟨v,σ',H',I'.fz,r,q⟩
end
section
variable{X:Cx}{pins:av}{σ:St}{H:Hp}{s:L}{e:M}{ta:TE}{pos:y}
theorem Ov{a zJ:O}{dx:Option O}{c:B}{b:Bool}{A:l}{E':aT}{Q:aT}(I:Inv X pins σ H s)(ea:H a=U (d3 a zJ dx))(cl:bz X.K zJ)(hd:∀d,dx=U d->∃fs,H d=U (.xd fs))
  (e:Ts X.K (.ref zJ) c=U b) (h:∀tk,Q (.bool b) {s with toks:=tk}):G (S X.prog X.w) A (call (.builtin "isinstance") [.ref a,c]) Q E' s:=by
 let⟨vs,sl,ht⟩:=EY (I.aX a _ ea);refine Us (Kh cl) I.dU ?_ e (λz=>nomatch z) h
 cases dx with
 |none=>exact⟨_,Z,ht,Y,Y,trivial⟩
 |some d =>
  let⟨fs,ed⟩:=hd d Y;let⟨mA,hn,_⟩:=(show ∃mA,s.heap.Ns1 d mA/\∀g,gB (fs.lookup g) (mA g) from I.aX d _ ed);let⟨od,ho,_⟩:=wI hn;calc⟨_,U od,ht,Y,Y,ho⟩
theorem Ox:gF X (.builtin "isinstance") (λxs H Q=>∃a C dx y c b,xs=[.ref a,y]/\kW y=U c/\H a=U (d3 a C dx)/\bz X.K C/\(∀d,dx=U d->∃fs,H d=U (.xd fs))/\Ts X.K (.ref C) c=U b/\Q (.bl b) H):=by
 ext pins s σ H xs us Q I rv h;let⟨a,C,dx,y,c,b,rfl,hc,ea,cl,hd,e,q⟩:=h;let⟨u,w',rfl,rx,ry⟩:=rv.two;cases rx
 rw[CP ry hc];calc Ov I ea cl hd e λtk=>⟨.bl b,H,I.tok tk,Y,q⟩
def E8(K:nG)(ta:TE)(f:J):TE:=fun σ H Q=>ta σ H λx H1=>∃a C d fs v,x=.ref a/\H1 a=U (d3 a C (U d))/\bz K C/\wL K C f/\H1 d=U (.xd fs)/\fs.lookup f=U v/\Q v H1
theorem Oy{fn:J}(he:JE X e ta)(hb:attributeBase e fn X.env (eval e X.env)=eval e X.env):JE X (.Attribute e fn pos) (E8 X.K ta fn):=by
 calc⟨?_⟩;ext pins s σ H Q I h;calc Ir hb (bp (he pins s σ H _ I h) λu s1 ⟨x,H1,I1,rx,a,C,d,fs,v,ex,ea,c,n,ed,l,q⟩=>?_);subst ex;obtain rfl:u=TX a:=rx;let⟨vs,sl,ht⟩:=EY (I1.aX a _ ea);let⟨mA,hn,hr⟩:=(show ∃mA,s1.heap.Ns1 d mA/\∀g,gB (fs.lookup g) (mA g) from I1.aX d _ ed);let⟨od,ho,hl⟩:=wI hn;let⟨cd,fW,hm,f7⟩:=c.cd;let Oz:q0p s1.heap a ⟨.ref C,U d,.fields vs,sl⟩ C (U od):=⟨ht,Y,Y,ho⟩;let r:=hr fn;rw[l] at r;let⟨u,eu,ru⟩:=r.some_of;calc Ke I1.dU Oz c.ga c.gh c.base (PySem.W.findObj_own (by rw[Zr,fW];simpa using f7) n Y (by rw[hl,eu])) (Ip ru) ?_;calc⟨v,H1,I1.tok _,ru,q⟩
end
theorem fY.vj{P:ψ}{w:I}{K:nG}{mg:J->Option B}{base:R}{x qual:J}{st:o}{f:O}{fd:FuncData}{N ps:-J}{k:Nat}{sp:Sp}(F:fY K x qual st f fd)(S:kI N ps (cQ st))(len:∀vs H Q E,sp vs H Q E->↑vs=↑ps)
  (eA:∀(bh:B)(A:l)(outer:-Ζ)(s:L)(H:Hp)(vs:-V)(Q:VK)(E:XK),bx k (A.deeper (envOfC qual (cQ st) ⇑s f bh))->sp vs H Q E →
   ∃t,bZ (bt (dZ P w) P w K mg base N qual (cQ st) f bh A outer s H E) (d8 st) t/\t {nx:=λ_ H'=>Q .non H',rt:=Q} (start N vs) H):bP P w K mg base (dZ P w) (k+1) f fd ps sp:=by
 let⟨oc,od,kV,doc,pm,an,bh,ct,kJ,rfl,lk,fW⟩:=F.ex;calc B4 lk fW S len λA outer s H vs Q E hr h=>?_;let⟨t,g,q⟩:=eA bh A outer s H vs Q E hr h;calc⟨t,g,q⟩
variable[aD]
structure Kp(H H':Hp):Prop where
 keep:∀a o,H a=U o->a∉aD.ad->H' a=U o
 tab:aD.ok H'
theorem Kp.none{H H':Hp}(x:Kp H H'){a:O}(h:H' a=Z):H a=Z:=by
 cases e:H a with
 |none=>rfl
 |some o =>
  by_cases c:a∈aD.ad
  .let⟨ps,q⟩:=aD.tb x.tab c
   rw[h] at q;cases q
  .rw[x.keep a o e c] at h;cases h
theorem OA{H:Hp}{a:O}{o:HO}(h:H a=Z):gm (upd H a o) a=H:=by
 funext b;unfold gm upd;split
 .rename_i e;rw[e];exact h.symm
 .rfl
end L2
namespace LJ
open PySem L2
structure ExcAt(H:Hp)(a C:O)(dx:Option O):Prop where
 ob:H a=U (d3 a C dx)
 dd:∀d,dx=U d->∃fs,H d=U (.xd fs)
theorem ExcAt.same{H H':Hp}{a C:O}{dx:Option O}(x:ExcAt H a C dx)(s:aw H H'):ExcAt H' a C dx:=⟨s _ _ x.ob,λd e=>let⟨fs,h⟩:=x.dd d e;⟨fs,s _ _ h⟩⟩
structure zK(K:nG)(L:O)(Cs:-O):Prop where
 len:↑Cs=13
 each:∀(j:Nat)(C:O),Cs[j]?=U C->bz K C/\Ts K (.ref C) (.ref L)=U θ/\Ts K (.ref C) (.type "ValueError")=U θ/\∀(i:Nat)(C':O),Cs[i]?=U C'->Ts K (.ref C) (.ref C')=U (g (i=j))
 above:bz K L/\Ts K (.ref L) (.ref L)=U θ/\Ts K (.ref L) (.type "ValueError")=U θ/\∀(i:Nat)(C':O),Cs[i]?=U C'->Ts K (.ref L) (.ref C')=U ι
 lV:∀(j:Nat)(C:O),Cs[j]?=U C->wL K C "place"
noncomputable def cB:-J:=["way", "join", "step", "house", "web", "price", "many", "closed", "free", "nothing", "number", "text", "line"]
theorem jK{H:Hp}{a:O}{o:HO}(h:H a=Z):aw H (upd H a o):=λb u e=>by rw[bj (cm e h)];calc e
noncomputable def names13:-J:=["NoWay", "NoJoin", "NoStep", "NoHouse", "NoWeb", "NoPrice", "TooMany", "Closed", "Free", "Nothing", "NoNumber", "NoText", "NoLine"]
noncomputable def dy:-J:=["way", "join", "step", "house", "web", "price", "many", "closed", "free", "nothing", "number", "text"]
structure zL(mg:J->Option B)(L:O)(Cs:-O):Prop where
 zM:mg "isinstance" = Z
 VE:mg "ValueError" = Z
 OB:mg "LotError" = U (.ref L)
 cls:∀(j:Nat)(x:J),names13[j]?=U x->∃C,Cs[j]?=U C/\mg x=U (.ref C)
theorem OC:bootBuiltins "ValueError" = U (.type "ValueError"):=by decide +kernel
section
variable{X:Cx}{a C:O}{dx:Option O}
def sW(a C:O)(dx:Option O)(v:Bool):TE:=fun σ H Q=>σ[0]?=U (U (.ref a))/\ExcAt H a C dx/\Q (.bl v) H
def lW(a C:O)(dx:Option O)(vs:-Bool):TA:=fun σ H Q=>σ[0]?=U (U (.ref a))/\ExcAt H a C dx/\Q (vs.map V.bl) H
def oO(a C:O)(dx:Option O)(vs:-Bool):TE:=fun σ H Q=>σ[0]?=U (U (.ref a))/\ExcAt H a C dx/\∀(l:O)(H':Hp),aw H H'->H' l=U (.lst (vs.map V.bl))->Q (.ref l) H'
def jL(a C:O)(dx:Option O)(us vs:-Bool):TE:=fun σ H Q=>∃l:O,σ[0]?=U (U (.ref a))/\σ[1]?=U (U (.ref l))/\H l=U (.lst (us.map V.bl))/\ExcAt H a C dx/\∀(l':O)(H':Hp),aw H H'->H' l'=U (.lst ((us++vs).map V.bl))->Q (.ref l') H'
theorem zN{y z:J}{p q r pos:Ε}{cv:V}{c:B}{v:Bool}(h0:JE X (.Name y q) (fE 0))(hz:JE X (.Name z r) (tC cv))(hc:kW cv=U c)(cl:bz X.K C)(kt:Ts X.K (.ref C) c=U v)(hg:Gl X "isinstance")(hm:X.mg "isinstance" = Z):
  JE X (.Call (.Name "isinstance" p) [.Name y q,.Name z r] [] pos) (sW a C dx v) :=
 (t_ Ox hg hm W9 (iA h0 (iA hz bg)) (by decide) (by decide) Y Y).weak fun σ H Q ⟨e0,e,q⟩↦⟨_,e0,a,C,dx,_,_,_,Y,hc,e.ob,cl,e.dd,kt,q⟩
theorem sX:JA X [] (lW a C dx []):=bg.weak fun σ H Q ⟨_,_,q⟩↦q
theorem iN{f:M}{as es:-M}{k:-Keyword}{p:y}{v:Bool}{vs:-Bool}(h:JE X (.Call f as k p) (sW a C dx v))(r:JA X es (lW a C dx vs)):JA X (.Call f as k p::es) (lW a C dx (v::vs)) :=
 (kX h r).weak fun σ H Q ⟨e0,e,q⟩↦⟨e0,e,e0,e,q⟩
theorem sY{es:-M}{pos:y}{vs:-Bool}(h:JA X es (lW a C dx vs))(hl:↑vs<=20):JE X (.List es pos) (oO a C dx vs) :=
 (jW h).weak fun σ H Q ⟨e0,e,q⟩↦⟨e0,e,(by rw[pj];calc f_ hl),λl hl=>q l _ (jK hl) bE⟩
theorem vk{n:J}{q p pos:y}{es:-M}{us vs:-Bool}(h1:JE X (.Name n q) (fE 1))(h:JE X (.List es p) (oO a C dx vs))(hl:↑us+↑vs<=20):JE X (.BinOp (.Name n q) .Add (.List es p) pos) (jL a C dx us vs) :=
 (m_ ue h1 h).weak fun σ H Q ⟨l,e0,e1,gg,e,q⟩↦⟨_,e1,e0,e,λm H1 s hm=>⟨l,m,_,_,Y,Y,s _ _ gg,hm,(by rw[pj,pj];calc f_ hl),λp hp=>q p _ (s.trans (jK hp)) (by rw[TK];calc bE)⟩⟩
theorem OD{es:-M}{pos:y}(ss:-J)(h:strsOf es=U ss)(hl:↑ss<=20):JE X (.List es pos) (λ_ H Q=>∀p,H p=Z->Q (.ref p) (upd H p (.lst (ss.map V.str)))):=KC h (f_ hl)
theorem OE{e:M}{ta:TE}{fn:J}{pos:y}(he:JE X e ta)(hb:attributeBase e fn X.env (eval e X.env)=eval e X.env):JE X (.Attribute e fn pos) (E8 X.K ta fn):=⟨Oy he hb⟩
end
noncomputable def dz(b:Nat->Bool):-Bool:=[b 0,b 1,b 2,b 3,b 4,b 5,b 6,b 7,b 8,b 9,b 10,b 11,b 12]
noncomputable def cnt(us:-Bool):Nat:=(us.map V.bl).countP λz=>fj z (.bl θ)
theorem zO:∀us:-Bool,(us.map V.bl).all iV=θ
 |[]=>Y
 |_::us=>by rw[TJ,XM,zO us];rfl
theorem OF{j:Nat}(h:j<4):(dy.map V.str)[j]?=U (.str (cB.getD j "")):=by
 rcases j with _|_|_|_|j
 .rfl
 .rfl
 .rfl
 .rfl
 .omega
theorem OG{j:Nat}(h:j<13):(dy.map V.str++[V.str "line"])[j]?=U (.str (cB.getD j "")):=by
 rcases j with _|_|_|_|_|_|_|_|_|_|_|_|_|j
 .rfl
 .rfl
 .rfl
 .rfl
 .rfl
 .rfl
 .rfl
 .rfl
 .rfl
 .rfl
 .rfl
 .rfl
 .rfl
 .omega
noncomputable def sZ(j:Nat)(n:Int):-V:=if j<4 then[.str (cB.getD j ""),.int n] else[.str (cB.getD j "")]
def lX(Cs:-O):Sp:=λvs H Q _=>∃(j:Nat)(n:Int)(a C:O)(dx:Option O),vs=[.ref a]/\j<13/\Cs[j]?=U C/\ExcAt H a C dx/\(j<4->∃d,dx=U d/\H d=U (.xd [("place",.int n)]))/\∀(l:O)(H':Hp),aw H H'->H l=Z->H' l=U (.lst (sZ j n))->Q (.ref l) H'
theorem OH:∀j:Nat,j<13->cnt (dz λi=>g (i=j))=1:=by decide
theorem E9{b:Nat->Bool}{i:Nat}{z:V}(h:((dz b).map V.bl)[i]?=U z):z=.bl (b i):=by
 unfold dz at h;rcases i with _|_|_|_|_|_|_|_|_|_|_|_|_|i<;>simp at h<;>calc h.symm
end LJ
namespace LJ
open PySem L2 PySem.Spec PySem.W PyProof.Rows
def E_(c:Nat)(n:Int)(dx:Option O)(H:Hp):Prop:=(c<4/\∃d,dx=U d/\H d=U (.xd [("place",.int n)]))\/(4<=c/\dx=Z)
abbrev gz:=Nat->Int->Prop
section
variable[aD]
def Kept(H0:Hp):-O->-(Option OV)->Hp->Prop:=λad mu H=>∀b o,H0 b=U o->b∉aD.ad->H b=U o/\¬ Lv ad mu b
@[reducible] noncomputable def Fb (ok:gz) (H0:Hp):b_:=⟨ok,Kept H0,λE k b o e n=>by
 let⟨h1,h2⟩:=k b o e n;calc⟨E.keep b o h1 h2 n,λl=>?_⟩;rcases E.bR b l with z|z
 .exact h2 z
 .rw[h1] at z;cases z⟩
def Fc(Cs:-O)(G:gz->GD)(n:Nat):Sp:=λvs H Q E=>∃ok:gz,lg (G ok) n vs H Q E/\∀c p,ok c p->∀C dx H',Cs[c]?=U C->Kp H H'->E_ c p dx H'->E (.ref C) dx H'
structure gn[b_](Cs:-O)(E:XK)(H0:Hp):Prop where
 go:∀{c p C dx ad mu H'},b_.ok c p->b_.kp ad mu H'->aD.ok H'->Cs[c]?=U C->E_ c p dx H'->E (.ref C) dx H'
 fr:∀{ad mu H' a},b_.kp ad mu H'->aD.ok H'->H' a=Z->H0 a=Z
def zP(ok:gz)(c:Nat):WS:=λ_ _=>ok c 0
section
variable{P:q}{w:I}{K:nG}{mg:J->Option B}{base:R}{N:-J}{qual:J}{scope:u}{f:O}{cd:B}{A:l}{outer:-t}{s:L}{H:Hp}{E:XK}{Cs:-O}{c:Nat}{C:O}{x:J}{e:M}{fe:WA}{p p2 pos:y}
theorem OI[b_]{t:J}(M:pq K C Z)(R:gn Cs E H)(hC:Cs[c]?=U C)(h4:4<=c)(hm:mg x=U (.ref C))(hg:Gl (bt (dZ P w) P w K mg base N qual scope f cd A outer s H E) x:=by rfl)(dj:bw x:=by decide)
  (he:JA (bt (dZ P w) P w K mg base N qual scope f cd A outer s H E) [e] (iq (tC (.str t)) jh))
  (hs:starEach [e] (bt (dZ P w) P w K mg base N qual scope f cd A outer s H E).env=(ι,eval e (bt (dZ P w) P w K mg base N qual scope f cd A outer s H E).env)::starEach [] (bt (dZ P w) P w K mg base N qual scope f cd A outer s H E).env:=by rfl) (dm:(backTo p2 (starEach [] (bt (dZ P w) P w K mg base N qual scope f cd A outer s H E).env)).any (·.1)=ι:=by rfl) :
  JS (bt (dZ P w) P w K mg base N qual scope f cd A outer s H E) (.Raise (U (.Call (.Name x p) [e] [] p2)) Z pos) (cS (zP b_.ok c)):=by
 calc JS.weak ⟨Oj Y (Kn M hg hm he dj hs dm)⟩ λD σ H1 ⟨F,ad,δ,K1,S,q,k⟩=>?_;calc⟨by show 1<=sizeLine;decide,λa ha=>⟨a,C,Z,Z,Y,bE,M,R.fr k.kp S.tab ha,?_⟩⟩;rw[OA ha];calc R.go q k.kp S.tab hC (.inr ⟨h4,Y⟩)
structure Fy(V:Ev)(Cs:-O)(k:Nat)(x:J)(ps:-J)(n:Nat)(G:gz->GD):Prop where
 ex:∃f fd,bP V.P V.w V.K V.mg V.base (dZ V.P V.w) k f fd ps (Fc Cs G n)/\V.mg x=U (.ref f)/\UK V.K (.ref f)=θ/\Binds V.K fd ps []
section
variable{X:Cx}{j k n:Nat}{ps:-J}{G:gz->GD}{es:-M}{fa:WA}
theorem OJ[b_](R:gn Cs E H){σ:L2.St}{H1:Hp}{Q:VK}{F:Hp}{ad:-O}{δ:ax}{K1:DV->ax->Prop}(S:SR F ad δ σ H1)(q:aj n (G b_.ok) fa δ K1)(kp:b_.kp ad δ.mu H1)(kk:∀x δ',K1 x δ'->∀v F' az H',Ext F ad δ.mu H1 F' az δ'.mu H'->SR F' az δ' σ H'->dJ F' az x v->Q v H'):qJ (Fc Cs G n) [] E (bU fa) σ H1 Q :=
 ⟨F,ad,δ,_,S,q,λxs δ1 h1 vs F1 aU H2 E1 S1 V1=>⟨b_.ok,Dr kk h1 E1 S1 V1,λc p o C dx H' hC z pl=>R.go o (b_.st (Ext.M_ S1 z.keep z.tab) (b_.st E1 kp)) z.tab hC pl⟩⟩
theorem Fd[b_](Fy:Fy ⟨X.prog,X.w,X.K,X.mg,X.base⟩ Cs j x ps n G)(R:gn Cs E H)(hp:nk (dZ X.prog X.w) X E)(hr:bx k X.A)(ha:JA X (e::es) (bU fa))(hj:q3P j k=θ:=by rfl)(hg:Gl X x:=by rfl)(dj:bw x:=by decide)
  (hs:cN X e es:=by rfl) (dm:dI X p2 es:=by rfl) (hw:swapsWith (.Call (.Name x p) (e::es) [] p2) Z pos.line X.env=pure ι:=by rfl) :
  JS X (.Expr (.Call (.Name x p) (e::es) [] p2) pos) (cS (iH (aj n (G b_.ok) fa))):=by
 let⟨g,fd,F1,hm,hk,hb⟩:=Fy.ex;calc(BF (qK F1 (hr.mono (WL hj)) hg hm hk hb .nil hp ha dj hs dm) hw).weak λD σ H1 ⟨F,ad,δ,K1,S,q,k⟩↦OJ R S q k.kp λx δ1 h1 v F1 aU H1 E1 S1 V1=>k.nx _ h1 _ _ _ _ E1 S1
end
end
def ET(V:Ev)(Cs:-O)(c:Nat)(x:J):Prop:=4<=c/\∃C,Cs[c]?=U C/\pq V.K C Z/\V.mg x=U (.ref C)
section
variable{V:Ev}{N:-J}{qual:J}{scope:u}{f:O}{cd:B}{A:l}{outer:-t}{s:L}{H:Hp}{E:XK}{Cs:-O}{x:J}{e:M}{fe:WA}{p p2 pos:y}{k:Nat}
theorem OK[b_]{c:Nat}{t:J}(XS:ET V Cs c x)(R:gn Cs E H)(he:JA (bt (dZ V.P V.w) V.P V.w V.K V.mg V.base N qual scope f cd A outer s H E) [e] (iq (tC (.str t)) jh))
  (hg:Gl (bt (dZ V.P V.w) V.P V.w V.K V.mg V.base N qual scope f cd A outer s H E) x:=by rfl) (dj:bw x:=by decide)
  (hs:starEach [e] (bt (dZ V.P V.w) V.P V.w V.K V.mg V.base N qual scope f cd A outer s H E).env=(ι,eval e (bt (dZ V.P V.w) V.P V.w V.K V.mg V.base N qual scope f cd A outer s H E).env)::starEach [] (bt (dZ V.P V.w) V.P V.w V.K V.mg V.base N qual scope f cd A outer s H E).env:=by rfl) (dm:(backTo p2 (starEach [] (bt (dZ V.P V.w) V.P V.w V.K V.mg V.base N qual scope f cd A outer s H E).env)).any (·.1)=ι:=by rfl) :
  JS (bt (dZ V.P V.w) V.P V.w V.K V.mg V.base N qual scope f cd A outer s H E) (.Raise (U (.Call (.Name x p) [e] [] p2)) Z pos) (cS (zP b_.ok c)) :=
 let⟨h4,_,hC,M,hm⟩:=XS
 OI M R hC h4 hm hg dj he hs dm
end
theorem vj{V:Ev}{Cs:-O}{x:J}{st:χ}{N ps:-J}{k:Nat}{G:gz->GD}(D:Dx V x st)(bd:gX x st ps)(hG:∀ok ys ovs K,G ok ys ovs K->ovs=[])(h:∀{bh:ν} {A:l} {outer:-t} {s:L} {H:Hp} {E:XK} {f:O} [b_],gn Cs E H->bx k (A.deeper (envOfC x (cQ st) ⇑s f bh))->N.Nodup->(A.deeper (envOfC x (cQ st) ⇑s f bh)).units+64<cLine →
   ∃B:WS,bZ (bt (dZ V.P V.w) V.P V.w V.K V.mg V.base N x (cQ st) f bh A outer s H E) (d8 st) (cS B)/\∀ys ovs K',↑ys=↑ps->G b_.ok ys ovs K'->B (ik ↑ovs K') ⟨ys.map U++R5 (↑N-↑ps) Z,ovs.map U⟩)(sc:vh N ps (cQ st)=θ:=by decide +kernel):Fy V Cs (k+1) x ps ↑ps G:=by
 let⟨f,fd,a,F⟩:=D;calc⟨f,fd,F.vj (gW sc) (λvs H Q E h=>let⟨_,h,_⟩:=h;h.1) (λbh A outer s H vs Q E hr hh=>?_),a,F.kp,F.binds bd⟩;let⟨ok,⟨hl,Fz,ad,ys,ovs,K',S0,g,kk⟩,hE⟩:=hh;let ho:=hG ok ys ovs K' g;subst ho;let ea:ad=[]:=VB.mp S0.cx;subst ea;letI:b_:=Fb ok H;let R:gn Cs E H:=⟨λ{c p C dx ad mu H'} o kp tb hC pl=>hE c p o C dx H' hC ⟨λb u e n=>(kp b u e n).1,tb⟩ pl,λ{ad mu H' a} kp tb e=>Kp.none ⟨λb u e n=>(kp b u e n).1,tb⟩ e⟩;let⟨B,jb,hb⟩:=h R hr (gW sc).nd hr.units
 let hy:↑ys=↑ps:=by
  let:=S0.len;rw[pj] at this;rw[<-hl,this];show _=↑(ys.map U);rw[pj]
 refine⟨_,jb,Fz,[],⟨ys.map U++R5 (↑N-↑ps) Z,[]⟩,ik 0 K',by rw[<-hl];calc S0.start,hb ys [] K' hy g,⟨fun δ' h F' az σ' H' E' S'=>?_,fun δ' h=>h.elim,fun δ' h=>h.elim,λy δ' h v F' az σ' H' E' S' V=>?_,λb o e n=>⟨e,λ⟨k,ov,z,_⟩↦by simp at z⟩⟩⟩
 .exact uF (ovs:=[]) (σ':=σ') S0 E' S' (x:=.p .non) (v:=.non) Y h kk
 .calc uF (ovs:=[]) (σ':=σ') S0 E' S' V h kk
end
end LJ
namespace LJ
open PySem L2 PySem.Spec PySem.W
variable[aD]
noncomputable def qb(c:Nat)(n:Int):-D:=if c<4 then[.str (cB.getD c ""),.int n] else[.str (cB.getD c "")]
noncomputable def vm(tup:Bool)(c:Nat)(n:Int):D:=if tup then .tup (qb c n) else .lst (qb c n)
theorem OL{F:Hp}(c:Nat)(n:Int):ae F (qb c n) (sZ c n):=by
 unfold qb sZ;split
 .exact⟨_,_,Y,Y,⟨_,_,Y,Y,Y⟩⟩
 .calc⟨_,_,Y,Y,Y⟩
section
variable{X:Cx}{body eG:-o}{b0 st:o}{x n:J}{p1 p2 pos:y}{L:O}{ic ie:Nat}{B:gz->WS}{f1:WE}{tup:Bool}{Cs:-O}
end
end LJ
namespace L2
open PySem PySem.Spec PyProof.Rows
variable[aD]
section
variable{X:Cx}{o i e v:M}{fo fi fv fk fe:WE}{pos:y}
end
end L2
namespace LJ
open PySem L2
variable[aD]
end LJ
namespace LJ
open PySem L2
variable[aD]
end LJ
namespace L2
open PySem
variable[aD]
section
variable{F F' H H':Hp}{ad az:-O}{δ δ':ax}{σ σ':St}
end
section
variable{X:Cx}{Sv iC jg mj:o}{i n:Nat}{G:GD}{fa:WA}{t:WT}{B:TS}{E:XK}
end
end L2
namespace LJ
open PySem L2
variable[aD]
end LJ
namespace LJ
open PySem L2
abbrev Wy:=Int×Int×Int
section
variable{S S':Wy->Prop}{a b c:Int}
end
variable[aD]
def vn(ok:gz):GD:=λys ovs K=>∃d,ys=[.p d]/\ovs=[]/\(cW d=ι->ok 4 0)/\(cW d=θ->K (.p .non) [])
theorem OM:∀ok ys ovs K,vn ok ys ovs K->ovs=[]:=λok ys ovs K ⟨_,_,h,_⟩↦h
def zQ(ok:gz):WS:=(a_ (bA (dT (aj 1 sT (ag (aa 0) af)))) (zP ok 4) bY)
theorem ON(ok:gz):Sem 1 0 (vn ok) (zQ ok):=by
 ext ys ovs K'-⟨d,rfl,rfl,k0,k⟩;unfold zQ;calc gT λA1 B1 hA hB=>?_;simp!;calc⟨d,Y,Y,?_⟩;simp!
 cases q:cW d with
 |false =>
  simp!;subst hA;exact k0 q
 |true =>
  simp!;subst hB;calc cX (k q)
end LJ
namespace PySem
open Sem (wp)
structure ZG(z TI TO i j:O)(fp gp:-O):Prop where
 a1:TI≠z
 a2:TO≠z
 a3:i≠z
 a4:j≠z
 a5:TI≠TO
 a6:TI≠i
 a7:TI≠j
 a8:TO≠i
 a9:TO≠j
 b1:i≠j
 f1:z∉fp
 f2:TO∉fp
 f3:j∉fp
 g1:z∉gp
 g2:TO∉gp
 g3:i∉gp
theorem bk{a:O}{h h':R}(hs:Ws a h h'){b:O}{o:f}(n:b≠a)(e:h.get? b=U o):h'.get? b=U o:=(hs.2 b n).trans e
section
variable{prog:q}{w:I}{A:l}{E:aT}{s:L}{z TI TO i j:O}{fp gp:-O}{n m k:Nat}{P P':Nat->B->Prop}{St iO:Nat->R->Prop}{a b:B}
theorem OO{Q:aT}(D:Draws prog w A i fp n P St)(D':Draws prog w A j gp m P' iO)(Z:ZG z TI TO i j fp gp)
  (hz:IsZip s.heap z TI TO .none) (hI:IsPair s.heap TI (.ref i) (.ref j)) (hO:IsPair s.heap TO a b) (st:St k s.heap) (fO:iO k s.heap) (hk:k<n) (hZ:k<m)
  (hQ:∀x y h' tk,P k x->P' k y->IsZip h' z TI TO (rawInt ⇑s)->IsPair h' TO x y->St (k+1) h'->iO (k+1) h'->IsPair h' ⇑s x y →
   (∀c o,c≠z->c≠TO->c≠i->c≠j->s.heap.get? c=U o->h'.get? c=U o)->Q (.ref ⇑s) {s with heap:=h',toks:=tk}) :
  G (S prog w) A (Builtin.«zip.__next__» ⟨[.ref z],[]⟩) (λfin s'=>∃v,fin=.done (.ret v)/\Q v s') E s:=by
 show G _ _ (field (.ref z) 2 >>= _) _ _ _;calc kb (Uj hz Y (x:=.bool ι) Y ?_);show G _ _ (field (.ref z) 3 >>= _) _ _ _;calc kb (Uj hz Y (x:=.ref TI) Y (kb (U1 hI Y ?_)));show G _ _ (UM (.ref z) >>= _) _ _ _;calc kb ?_;unfold UM;calc kb (Uj hz Y (x:=.none) Y (qY ?_));erw[Ve];calc kb (Zf (kb (Uj hz Y (x:=.ref TO) Y (kb (Vm hz (by simp) λk1 z1 s1=>?_)))));let z1:IsZip k1 z TI TO .ellipsis:=z1;calc kb ?_;erw[ZW,q0g,Ym,YE];calc kb (kb (WX ?_));show G _ _ (UB (.ref i) >>= _) _ _ _;refine kb (D.item k {s with heap:=k1} _ _ hk (D.frame k _ _ st λc hc o e=>bk s1 (λy=>Z.f1 (y▸hc)) e) λx k2 t2 px jg s2=>qY ?_)
 let o2:IsPair k2 TO a b:=bk s2 Z.a8 (bk s1 Z.a2 hO);calc kb (U1 o2 Y (kb (WZ o2 λk3 o3 s3=>?_)));let o3:IsPair k3 TO x b:=o3;calc kb (Z4 (qY (kb (kb (WX ?_)))));show G _ _ (UB (.ref j) >>= _) _ _ _;let oP:iO k k3:=D'.frame k _ _ fO λc hc o e=>bk s3 (λy=>Z.g2 (y▸hc)) (bk s2 (λy=>Z.g3 (y▸hc)) (bk s1 (λy=>Z.g1 (y▸hc)) e));let mj:St (k+1) k3:=D.frame _ _ _ jg λc hc o e=>bk s3 (λy=>Z.f2 (y▸hc)) e;calc kb (D'.item k {s with heap:=k3,toks:=t2} _ _ hZ oP λy k4 t4 py OQ s4=>qY ?_);let o4:IsPair k4 TO x b:=bk s4 Z.a9 o3;refine kb (U1 o4 Y (kb (WZ o4 λk5 o5 s5=>?_)))
 let o5:IsPair k5 TO x y:=o5;calc kb (Z4 (qY (qY (kb (U1 o5 Y (kb (wpAny_newTuple ?_)))))));let sz:k5.objs.size=⇑s:=by rw[s5.1,s4.1,s3.1,s2.1,s1.1]
 let z5:IsZip k5 z TI TO .ellipsis:=bk s5 Z.a2.symm (bk s4 Z.a4.symm (bk s3 Z.a2.symm (bk s2 Z.a3.symm z1)));let kp:∀c o,c≠z->c≠TO->c≠i->c≠j->s.heap.get? c=U o->k5.get? c=U o:=λc o c1 c2 c3 c4 e=>bk s5 c2 (bk s4 c4 (bk s3 c2 (bk s2 c3 (bk s1 c1 e))));let t5:St (k+1) k5:=D.frame _ _ _ mj λc hc o e=>bk s5 (λy=>Z.f2 (y▸hc)) (bk s4 (λy=>Z.f3 (y▸hc)) e);let OR:iO (k+1) k5:=D'.frame _ _ _ OQ λc hc o e=>bk s5 (λy=>Z.g2 (y▸hc)) e;let zl:z<k5.objs.size:=Jo z5;show G _ _ (V8 (.ref z) (.ref k5.objs.size) >>= _) _ _ _;calc kb ?_;unfold V8;refine kb (Vm (show IsZip (k5.push {cls:=.type "tuple",data:=.seq #[x,y]}) z TI TO .ellipsis from nF _ z5) (by simp) λk7 z7 s7=>?_)
 let z7:IsZip k7 z TI TO (rawInt k5.objs.size):=z7;calc Vm z7 (by simp) λk8 z8 s8=>?_;let z8:IsZip k8 z TI TO (rawInt k5.objs.size):=z8;let up:∀c o,c≠z->k5.get? c=U o->k8.get? c=U o:=λc o c1 e=>bk s8 c1 (bk s7 c1 (nF _ e));let p8:IsPair k8 k5.objs.size x y:=bk s8 (VY zl) (bk s7 (VY zl) (R0 _ Y));rw[sz] at z8 p8;calc qY ⟨_,Y,?_⟩;show Q (.ref k5.objs.size) _;rw[sz];calc hQ x y k8 t4 px py z8 (up _ _ Z.a2 o5) (D.frame _ _ _ t5 λc hc o e=>up c o (λy=>Z.f1 (y▸hc)) e) (D'.frame _ _ _ OR λc hc o e=>up c o (λy=>Z.g1 (y▸hc)) e) p8 λc o c1 c2 c3 c4 e=>up c o c1 (kp c o c1 c2 c3 c4 e)
theorem OS{Q:Fin->L->Prop}(D:Draws prog w A i fp n P St)(D':Draws prog w A j gp m P' iO)(Z:ZG z TI TO i j fp gp)
  (hz:IsZip s.heap z TI TO .none) (hI:IsPair s.heap TI (.ref i) (.ref j)) (hO:IsPair s.heap TO a b) (st:St k s.heap) (fO:iO k s.heap) (hk:k=n\/(k<n/\k=m))
  (hE:∀h' e tk,(∀c o,c≠z->c≠TO->c≠i->c≠j->s.heap.get? c=U o->h'.get? c=U o)->(∃o,h'.get? e=U o/\o.cls=.type "StopIteration")->E (.ref e) {s with heap:=h',toks:=tk}) :
  G (S prog w) A (Builtin.«zip.__next__» ⟨[.ref z],[]⟩) Q E s:=by
 show G _ _ (field (.ref z) 2 >>= _) _ _ _;calc kb (Uj hz Y (x:=.bool ι) Y ?_);show G _ _ (field (.ref z) 3 >>= _) _ _ _;calc kb (Uj hz Y (x:=.ref TI) Y (kb (U1 hI Y ?_)));show G _ _ (UM (.ref z) >>= _) _ _ _;calc kb ?_;unfold UM;calc kb (Uj hz Y (x:=.none) Y (qY ?_));erw[Ve];calc kb (Zf (kb (Uj hz Y (x:=.ref TO) Y (kb (Vm hz (by simp) λk1 z1 s1=>?_)))));let z1:IsZip k1 z TI TO .ellipsis:=z1;calc kb ?_;erw[ZW,q0g,Ym,YE];calc kb (kb (WX ?_));show G _ _ (UB (.ref i) >>= _) _ _ _;let iC:St k k1:=D.frame k _ _ st λc hc o e=>bk s1 (λy=>Z.f1 (y▸hc)) e
 rcases hk with rfl|⟨hk,rfl⟩
 .refine kb (D.done {s with heap:=k1} _ _ iC λk2 e s2 he=>?_)
  let⟨oe,ho,hc⟩:=he;let z2:IsZip k2 z TI TO .ellipsis:=s2 _ _ Z.a3.symm z1;let ez:e≠z:=λx=>by subst x;rw[z2] at ho;cases ho;simp at hc
  exact Vm z2 (by simp) λk3 _ s3=>hE k3 e _ (λc o c1 _ c3 _ x=>bk s3 c1 (s2 _ _ c3 (bk s1 c1 x))) ⟨oe,bk s3 ez ho,hc⟩
 .refine kb (D.item k {s with heap:=k1} _ _ hk iC λx k2 t2 px jg s2=>qY ?_)
  let o2:IsPair k2 TO a b:=bk s2 Z.a8 (bk s1 Z.a2 hO);calc kb (U1 o2 Y (kb (WZ o2 λk3 o3 s3=>?_)));calc kb (Z4 (qY (kb (kb (WX ?_)))));show G _ _ (UB (.ref j) >>= _) _ _ _;let oP:iO k k3:=D'.frame k _ _ fO λc hc o e=>bk s3 (λy=>Z.g2 (y▸hc)) (bk s2 (λy=>Z.g3 (y▸hc)) (bk s1 (λy=>Z.g1 (y▸hc)) e));calc kb (D'.done {s with heap:=k3,toks:=t2} _ _ oP λk4 e s4 he=>?_);let⟨oe,ho,hc⟩:=he;let z4:IsZip k4 z TI TO .ellipsis:=s4 _ _ Z.a4.symm (bk s3 Z.a2.symm (bk s2 Z.a3.symm z1));let ez:e≠z:=λx=>by subst x;rw[z4] at ho;cases ho;simp at hc
  calc Vm z4 (by simp) λk5 _ s5=>hE k5 e _ (λc o c1 c2 c3 c4 x=>bk s5 c1 (s4 _ _ c4 (bk s3 c2 (bk s2 c3 (bk s1 c1 x))))) ⟨oe,bk s5 ez ho,hc⟩
theorem OT{Q:Option B->L->Prop}(D:Draws prog w A.in1 i fp n P St)(D':Draws prog w A.in1 j gp m P' iO)(Z:ZG z TI TO i j fp gp)
  (hz:IsZip s.heap z TI TO .none) (hI:IsPair s.heap TI (.ref i) (.ref j)) (hO:IsPair s.heap TO a b) (st:St k s.heap) (fO:iO k s.heap) (hk:k<n) (hZ:k<m)
  (hQ:∀x y h' tk,P k x->P' k y->IsZip h' z TI TO (rawInt ⇑s)->IsPair h' TO x y->St (k+1) h'->iO (k+1) h'->IsPair h' ⇑s x y →
   (∀c o,c≠z->c≠TO->c≠i->c≠j->s.heap.get? c=U o->h'.get? c=U o)->Q (U (.ref ⇑s)) {s with heap:=h',toks:=tk}):G (S prog w) A (pyNext (.ref z)) Q E s:=by
 let hT:s.TypeIs (.ref z) "zip" := ⟨_,hz,Y⟩;unfold pyNext;calc kb (XN (Uv (name:=R3 "__next__") hT W_ (Vf W_ hT ZX (OO D D' Z hz hI hO st fO hk hZ λx y h' tk a1 a2 a3 a4 a5 a6 a7 a8=>qY (hQ x y h' tk a1 a2 a3 a4 a5 a6 a7 a8)) (ZL _))))
theorem OU{Q:Option B->L->Prop}(D:Draws prog w A.in1 i fp n P St)(D':Draws prog w A.in1 j gp m P' iO)(Z:ZG z TI TO i j fp gp)
  (hz:IsZip s.heap z TI TO .none) (hI:IsPair s.heap TI (.ref i) (.ref j)) (hO:IsPair s.heap TO a b) (st:St k s.heap) (fO:iO k s.heap) (hk:k=n\/(k<n/\k=m))
  (hQ:∀h' tk,(∀c o,c≠z->c≠TO->c≠i->c≠j->s.heap.get? c=U o->h'.get? c=U o)->Q η {s with heap:=h',toks:=tk}):G (S prog w) A (pyNext (.ref z)) Q E s:=by
 let hT:s.TypeIs (.ref z) "zip" := ⟨_,hz,Y⟩;unfold pyNext;calc kb (XN (Uv (name:=R3 "__next__") hT W_ (Vf W_ hT ZX (OS D D' Z hz hI hO st fO hk λh' e tk kp he=>?_) (ZL _))));let⟨o,ho,hc⟩:=he;calc kb (wpAny_isInstance (T:="StopIteration") (b:=true) ⟨o,ho,hc⟩ isSubtype_stop (qY (hQ _ _ kp)))
end
def cZ(h:R)(t:Bool)(l:O)(xs:Array B):Prop:=match t with
 |true=>h.IsTuple l xs
 |false=>h.IsList l xs
noncomputable abbrev gZ(t:Bool)(l:O)(k:Nat):f:={cls:=.type (match t with|true=>"tuple_iterator" | false=>"list_iterator"),data:=.fields #[.ref l,.int k 0]}
def d4(h:R)(t:Bool)(it l:O)(k:Nat):Prop:=match t with
 |true=>h.IsTupleIter it l k
 |false=>h.IsListIter it l k
theorem cZ.lt{h:R}{t:Bool}{l:O}{xs:Array B}(x:cZ h t l xs):l<h.objs.size:=by
 cases t<;>(let⟨o,e,_⟩:=x;calc Jo e)
theorem cZ.at{h h':R}{t:Bool}{l:O}{xs:Array B}(x:cZ h t l xs)(k:∀o,h.get? l=U o->h'.get? l=U o):cZ h' t l xs:=by
 cases t with
 |true=>exact Heap.IsTuple.at x k
 |false=>calc Heap.IsList.at x k
theorem d4.at{h h':R}{t:Bool}{i l:O}{n:Nat}(x:d4 h t i l n)(k:∀o,h.get? i=U o->h'.get? i=U o):d4 h' t i l n:=by
 cases t with
 |true=>exact Heap.IsTupleIter.at x k
 |false=>calc Heap.IsListIter.at x k
theorem d4.obj{h:R}{t:Bool}{i l:O}{n:Nat}(x:d4 h t i l n):∃o,h.get? i=U o/\∀v,o.data≠.cell v:=by
 cases t<;>(let⟨o,e,_,d⟩:=x;calc⟨o,e,λv z=>by rw[d] at z;cases z⟩)
theorem d4.new{h:R}{t:Bool}{i l:O}(e:h.get? i=U (gZ t l 0)):d4 h t i l 0:=by
 cases t<;>calc⟨_,e,Y,Y⟩
section
variable{prog:q}{w:I}{A:l}{E:aT}{s:L}
theorem vo(hh:A.handled=Z)(t:Bool)(it l:O)(jl:l≠it)(items:Array B):Draws prog w A it [it,l] items.size (λi v=>items[i]?=U v) (λi h=>d4 h t it l i/\cZ h t l items):=by
 cases t
 .exact Draws.list hh it l jl items
 .calc Lz hh it l jl items
theorem Fe{t:Bool}{l:O}{xs:Array B}{Q:aT}(hl:cZ s.heap t l xs)(h:Q (.ref ⇑s) {s with heap:=s.heap.push (gZ t l 0)}):G (S prog w) A (pyIter (.ref l)) Q E s:=by
 cases t
 .exact VT hl h
 .calc Zg hl h
end
noncomputable abbrev vp(h:R)(t:Bool)(l:O):R:=h.push (gZ t l 0)
noncomputable abbrev vq(h:R)(t u:Bool)(l m:O):R:=(vp h t l).push (gZ u m 0)
noncomputable abbrev vt(h:R)(t u:Bool)(l m:O):R:=(vq h t u l m).push {cls:=.type "tuple",data:=.seq #[.ref h.objs.size,.ref (vp h t l).objs.size]}
noncomputable abbrev vv(h:R)(t u:Bool)(l m:O):R:=(vt h t u l m).push {cls:=.type "tuple",data:=.seq #[.none,.none]}
noncomputable abbrev qc(h:R)(t u:Bool)(l m:O):R:=(vv h t u l m).push {cls:=.type "zip",data:=.fields #[.none,.bool ι,.bool ι,.ref (vq h t u l m).objs.size,.ref (vt h t u l m).objs.size]}
theorem OW(t u:Bool)(l m:O)(xs ys:Array B):
  Meets (Builtin.«zip.__new__» ⟨[.type "zip",.ref l,.ref m],[]⟩) (λ_ R s=>cZ s.heap t l xs/\cZ s.heap u m ys/\R (.ok (.ret (.ref (vv s.heap t u l m).objs.size))) {s with heap:=qc s.heap t u l m}) :=
 .of_wp λprog w A R s h=>by
  let⟨hp,g,d,tk,os⟩:=s;let⟨h1,h2,h⟩:=h;let OX:=sub_zip;let e1:cZ (Shared.heap ⟨hp,g,d,tk,os⟩) t l xs:=h1;let e2:cZ (Shared.heap ⟨hp.push (gZ t l 0),g,d,tk,os⟩) u m ys:=cZ.at h2 λo e=>nF _ e
  wp_walk using Fe e1,Fe e2
  calc⟨_,Y,h⟩
section
variable{prog:q}{w:I}{A:l}{E:aT}{s:L}
theorem OY{t u:Bool}{l m:O}{xs ys:Array B}{Q:aT}(h1:cZ s.heap t l xs)(h2:cZ s.heap u m ys)
  (h:∀h',IsZip h' (⇑s+4) (⇑s+2) (⇑s+3) .none->IsPair h' (⇑s+2) (.ref ⇑s) (.ref (⇑s+1)) →
   IsPair h' (⇑s+3) .none .none->d4 h' t ⇑s l 0->d4 h' u (⇑s+1) m 0->(∀c o,s.heap.get? c=U o->h'.get? c=U o)->Q (.ref (⇑s+4)) {s with heap:=h'}) :
  G (S prog w) A (call (.type "zip") [.ref l,.ref m]) Q E s:=by
 calc callType_new F.called_zip (by decide) (F.typeCall_zip_2 _ _) (F.newCall_zip_2 _ _) (λobj=>F.args_object_init_3 obj _ _) F.entry_zip_new (OW t u l m xs ys) ⟨h1,h2,?_⟩;let z1:(vp s.heap t l).objs.size=⇑s+1:=Vj ..;let z2:(vq s.heap t u l m).objs.size=⇑s+2:=by rw[Vj,z1]
 let z3:(vt s.heap t u l m).objs.size=⇑s+3:=by rw[Vj,z2]
 let z4:(vv s.heap t u l m).objs.size=⇑s+4:=by rw[Vj,z3]
 let q5:(qc s.heap t u l m).get? (vv s.heap t u l m).objs.size=U _:=R0 _ Y;let q4:(qc s.heap t u l m).get? (vt s.heap t u l m).objs.size=U _:=nF _ (R0 _ Y);let q3:(qc s.heap t u l m).get? (vq s.heap t u l m).objs.size=U _:=nF _ (nF _ (R0 _ Y));let q2:(qc s.heap t u l m).get? (vp s.heap t l).objs.size=U (gZ u m 0):=nF _ (nF _ (nF _ (R0 _ Y)));let q1:(qc s.heap t u l m).get? ⇑s=U (gZ t l 0):=nF _ (nF _ (nF _ (nF _ (R0 _ Y))));show _/\_;rw[z2,z3,z4] at q5;rw[z1,z2] at q3;rw[z3] at q4;rw[z1] at q2;rw[z4];calc⟨⟨_,q5,Y⟩,h _ q5 q3 q4 (.new q1) (.new q2) λc o x=>nF _ (nF _ (nF _ (nF _ (nF _ x))))⟩
end
end PySem
namespace L2
open PySem PySem.Spec PyProof.Rows
def iP(K:nG)(H:Hp)(t:Bool)(a:O)(xs:-V):Prop:=match t with
 |true=>bJ K H a xs
 |false=>bq K H a xs
section
variable{X:Cx}{pins:av}{σ:St}{H:Hp}{s:L}
theorem Inv.sq{t:Bool}{a:O}{xs:-V}(I:Inv X pins σ H s)(h:iP X.K H t a xs):∃ah:-B,Vals xs ah/\cZ s.heap t a ah.toArray:=by
 cases t
 .let⟨ah,r,p,_⟩:=I.list h;exact⟨ah,r,p.isList⟩
 .let⟨ah,r,⟨o,o1,o2,n,o3⟩,_⟩:=I.tuple h;calc⟨ah,r,o,o1,o2,n,o3⟩
theorem Inv.jM{t:Bool}{a:O}{xs ys:-V}(I:Inv X pins σ H s)(h:iP X.K H t a xs)(h':iP X.K H t a ys):xs=ys:=by
 cases t
 .exact I.eg h h'
 .calc I.fh h h'
end
noncomputable def s_(K:nG)(t u:Bool)(a b:O):It :=
 ⟨λi H=>∃xs ys x y,iP K H t a xs/\iP K H u b ys/\xs[i]?=U x/\ys[i]?=U y,
  λi H v H'=>∃T x y,v=.ref T/\H T=Z/\H'=upd H T (.tup [x,y])/\(∀xs,iP K H t a xs->xs[i]?=U x)/\∀ys,iP K H u b ys->ys[i]?=U y,
  λi H=>∃xs ys,iP K H t a xs/\iP K H u b ys/\((↑xs=i)\/(i<↑xs/\↑ys=i))⟩
structure zR(t u:Bool)(z TI TO i1 i2 l1 l2:O)(i:Nat)(h:R):Prop where
 hz:IsZip h z TI TO .none
 ja:IsPair h TI (.ref i1) (.ref i2)
 jN:∃x y,IsPair h TO x y
 h1:d4 h t i1 l1 i
 h2:d4 h u i2 l2 i
theorem OZ{P:ψ}{w:ω}{K:nG}{elts:-M}{x1}{tp:Ε}{t u:Bool}{z TI TO i1 i2 l1 l2:O}(D:ZG z TI TO i1 i2 [i1,l1] [i2,l2])(n1:l1≠i1)(n2:l2≠i2):
  Turn P w K (.Tuple elts x1 tp) (s_ K t u l1 l2) [z,TI,TO,i1,i2] z (zR t u z TI TO i1 i2 l1 l2) where
 mem:=by simp
 obj:=λi h st b hb=>by
  let⟨hz,ja,⟨x,y,jN⟩,g1,g2⟩:=st;erw[Cy,Tr,UA] at hb;rcases hb with rfl|rfl|rfl|rfl|rfl
  .exact⟨_,hz,λv z=>by cases z⟩
  .exact⟨_,ja,λv z=>by cases z⟩
  .exact⟨_,jN,λv z=>by cases z⟩
  .exact g1.obj
  .exact g2.obj
 keep:=λi h h' st k=>by
  let⟨hz,ja,⟨x,y,jN⟩,g1,g2⟩:=st;exact⟨k z (by simp) _ hz,k TI (by simp) _ ja,⟨x,y,k TO (by simp) _ jN⟩,g1.at λo q=>k i1 (by simp) o q,g2.at λo q=>k i2 (by simp) o q⟩
 item:=by
  ext X hP hw hK hc i pins s σ H E I hf st hg;subst hP hw hK;let⟨hz,ja,⟨a,b,jN⟩,g1,g2⟩:=id st;let⟨xs,ys,x,y,qd,qe,hx,hy⟩:=hg;let⟨ah,rv,p⟩:=I.sq qd;let⟨bo,tj,p2⟩:=I.sq qe;let hh:X.A.in1.handled=Z:=by rw[Xr];exact I.ok.hd hc
  let lx:=(kP.mp hx).1;let ly:=(kP.mp hy).1;calc OT (vo hh t i1 l1 n1 ah.toArray) (vo hh u i2 l2 n2 bo.toArray) D hz ja jN ⟨g1,p⟩ ⟨g2,p2⟩ (by rw[xu,<-↑rv];calc lx) (by rw[xu,<-↑tj];calc ly) λcu cv k1 tk pu pv z1 t1 a1 a2 O0 vw=>⟨_,Y,?_⟩;let⟨u',hu,ru⟩:=rv.get hx;let⟨v',hv,O1⟩:=tj.get hy;let pu:ah[i]?=U cu:=by simpa using pu
  let pv:bo[i]?=U cv:=by simpa using pv
  rw[hu] at pu;rw[hv] at pv;obtain rfl:=TU pu;obtain rfl:=TU pv;calc wpAny_letOwnedTupleGo_zip z1 λk2 z2 dW=>?_;let O3:⇑s≠z:=VY (Jo hz);let O4:IsPair k2 ⇑s u' v':=(dW.2 _ O3).trans O0
  let O5:∀b o,b∉[z,TI,TO,i1,i2]->s.heap.get? b=U o->k2.get? b=U o:=λb o hb q=>by
   erw[Cy,Tr,UA,not_or] at hb;exact(dW.2 _ hb.1).trans (vw b o hb.1 hb.2.2.1 hb.2.2.2.1 hb.2.2.2.2 q)
  let hn:H ⇑s=Z:=I.aX.fresh (ug _);refine⟨.ref ⇑s,upd H ⇑s (.tup [x,y]),I.f6 (ch:=[z,TI,TO,i1,i2]) (t':=tk) hf O5 (ug _) ?_,Y,⟨_,x,y,Y,hn,Y,λzs hy=>by rw[I.jM hy qd];calc hx,λzs p9=>by rw[I.jM p9 qe];calc hy⟩,⟨z2,?_,⟨u',v',(dW.2 _ D.a2).trans t1⟩,a1.1.at λo q=>(dW.2 _ D.a3).trans q,a2.1.at λo q=>(dW.2 _ D.a4).trans q⟩,λb hb=>?_⟩
  .exact⟨by show 2<=sizeLine;decide,[u',v'],.cons ru (.cons O1 .nil),_,O4,Y,_,Y⟩
  .exact (dW.2 _ D.a1).trans (vw TI _ D.a1 D.a5 D.a6 D.a7 ja)
  .let:b<⇑s:=by
    let⟨o1,q1,_⟩:=g1.obj;let⟨o2,q2,_⟩:=g2.obj;erw[Cy,Tr,UA] at hb;rcases hb with rfl|rfl|rfl|rfl|rfl
    .exact Jo hz
    .exact Jo ja
    .exact Jo jN
    .exact Jo q1
    .exact Jo q2
   rw[bj (TN this)];exact(hf b hb).1
 done:=by
  ext X hP hw hK hc i pins s σ H E I hf st hg;subst hP hw hK;let⟨hz,ja,⟨a,b,jN⟩,g1,g2⟩:=id st;let⟨xs,ys,qd,qe,hx⟩:=hg;let⟨ah,rv,p⟩:=I.sq qd;let⟨bo,tj,p2⟩:=I.sq qe;let hh:X.A.in1.handled=Z:=by rw[Xr];exact I.ok.hd hc
  let hl:=↑rv;let ph:=↑tj;refine OU (vo hh t i1 l1 n1 ah.toArray) (vo hh u i2 l2 n2 bo.toArray) D hz ja jN ⟨g1,p⟩ ⟨g2,p2⟩ ?_ λk1 tk vw=>⟨Y,I.iz (t':=tk) (ch:=[z,TI,TO,i1,i2]) hf λb o hb q=>?_⟩
  .rw[xu,xu];symm
  .erw[Cy,Tr,UA,not_or] at hb
   exact vw b o hb.1 hb.2.2.1 hb.2.2.2.1 hb.2.2.2.2 q
 self:=λA i s Q E st h=>ZY st.hz h
theorem O6(n l1 l2:Nat)(q1:l1<n)(q2:l2<n):ZG (n+4) (n+2) (n+3) n (n+1) [n,l1] [n+1,l2]:=by
 constructor<;>first|(show @Ne Nat _ _;symm)|(ext h;erw[Cy,Tr,UA] at h;rcases h with h|h<;>(let h:(_:Nat)=_:=h;symm))
section
variable{X:Cx}{elts:-M}{x1:Nat}{tp:y}
def O7(K:nG)(ta:TA):TI:=fun σ H R=>ta σ H λvs H1=>∃a b t u,vs=[.ref a,.ref b]/\(∃xs,iP K H1 t a xs)/\(∃ys,iP K H1 u b ys)/\R (s_ K t u a b) H1
theorem O8{a b:M}{ta:TA}{p pos:y}(hg:Gl X "zip")(hm:X.mg "zip" = Z)(ha:JA X [a,b] ta)(hs:starEach [a,b] X.env=[(ι,eval a X.env),(ι,eval b X.env)]:=by rfl)(dW:starEach [b] X.env=[(ι,eval b X.env)]:=by rfl):
  JI X (.Tuple elts x1 tp) (.Call (.Name "zip" p) [a,b] [] pos) (O7 X.K ta):=by
 calc⟨λpins s σ H R I h=>?_⟩;calc Call_ (mW I hg hm JY (UU (bp (ha pos pins s σ H _ I h) λus s1 h0_=>el5 h0_ λvs H1 I1 r1 q1=>?_) (by rw[hs,dW]) (by rw[dW];rfl)));let⟨l1,l2,t,u,e,⟨xs,qd⟩,⟨ys,qe⟩,q⟩:=q1;subst e
 cases r1 with
 |cons r rr =>
  cases rr with
  |cons r' O9 =>
   cases O9
   cases r
   cases r'
   let⟨ah,rv,p⟩:=I1.sq qd;let⟨bo,tj,p2⟩:=I1.sq qe;let b1:l1<⇑s1:=p.lt;let b2:l2<⇑s1:=p2.lt;calc OY p p2 λh' hz ja jN xI zS hk=>?_;let I2:Inv X pins σ H1 {s1 with heap:=h'}:=I1.kept (t':=s1.toks) hk;let D:=O6 ⇑s1 l1 l2 b1 b2;calc ZY hz ?_;refine⟨_,_,_,_,H1,Y,I2,OZ D (TN b1) (TN (UZ b2)),⟨hz,ja,⟨_,_,jN⟩,xI,zS⟩,λb hb=>?_,q⟩
   let hb':⇑s1<=b:=by
    erw[Cy,Tr,UA] at hb;rcases hb with rfl|rfl|rfl|rfl|rfl
    .exact VC _ _
    .exact VC _ _
    .exact VC _ _
    .exact ug _
    .exact VC _ _
   calc I1.ip hb' (I1.aX.fresh hb')
end
section
variable[aD]{X:Cx}{a b:M}{fa:WA}
def vx(fa:WA):WI:=fun δ K=>fa δ λxs δ1=>match xs with
 |[x,y]=>oh x δ1 λi=>oh y δ1 λj=>K ⟨b6 i.items j.items,fun δ'=>i.br δ'/\j.br δ'⟩ δ1
 |_=>False
theorem Ff{F H:Hp}{ad:-O}{δ:ax}{σ:St}{x:DV}{v:V}{K0:nG}{K:mH->Prop}(S:SR F ad δ σ H)(hv:dJ F ad x v)(h:oh x δ K):∃a it t,v=.ref a/\K it/\(∃xs,iP K0 H t a xs) ∧
  ∀(F':Hp)(az:-O)(δ':ax)(σ':St)(H':Hp),aw F F'->(∀(k:Nat)(a:O),ad[k]?=U a->az[k]?=U a)->SR F' az δ' σ' H'->it.br δ'->∃ws,iP K0 H' t a ws/\ae F' it.items ws:=by
 let⟨a,it,e,hk,r⟩:=Du S hv h;rcases r with⟨⟨vs,e1⟩,r⟩|⟨⟨vs,e1⟩,r⟩
 .exact⟨a,it,ι,e,hk,⟨vs,bq.of e1⟩,λF' az δ' σ' H' s pre S' ck=>let⟨ws,q1,q2⟩:=r F' az δ' σ' H' s pre S' ck;⟨ws,bq.of q1,q2⟩⟩
 .calc⟨a,it,θ,e,hk,⟨vs,bJ.of e1⟩,λF' az δ' σ' H' s pre S' ck=>let⟨ws,q1,q2⟩:=r F' az δ' σ' H' s pre S' ck;⟨ws,bJ.of q1,q2⟩⟩
theorem O_{elts:-M}{x1:Nat}{tp p pos:Ε}(hg:Gl X "zip")(hm:X.mg "zip" = Z)(ha:JA X [a,b] (bU fa))(hs:starEach [a,b] X.env=[(ι,eval a X.env),(ι,eval b X.env)]:=by rfl)(dW:starEach [b] X.env=[(ι,eval b X.env)]:=by rfl):
  JI X (.Tuple elts x1 tp) (.Call (.Name "zip" p) [a,b] [] pos) (ij (vx fa)):=(O8 hg hm ha hs dW).weak fun σ H R h0_=>el7 h0_ λF ad δ K S q k =>⟨F,ad,δ,_,S,q,λxs δ1 h1 vs F1 aU H1 E1 S1 V1=>by
 match xs,h1,V1 with
 |[x,y],g1,⟨v,r,e,W1,w,r2,e2,W2,W3⟩ =>
  subst e;subst e2;let W4:r2=[]:=W3;subst W4;let⟨a,it,t,rfl,uV,Pa,r⟩:=Ff (K0:=X.K) S1 W1 g1;let⟨b,jt,u,rfl,hk,dW,r'⟩:=Ff (K0:=X.K) S1 W2 uV;calc⟨a,b,t,u,Y,Pa,dW,k _ _ hk _ _ _ _ E1 S1 λF' az δ' σ' H' s pre S' ck=>?_⟩;let⟨ws,e1,e2⟩:=r F' az δ' σ' H' s pre S' ck.1;let⟨zs,e3,e4⟩:=r' F' az δ' σ' H' s pre S' ck.2;refine⟨⟨ws,zs,e1,e3,?_⟩,λi d ed=>?_⟩
  .rw[↑e2,↑e4,uJ];symm
  .let⟨d1,d2,Pb,Pc,rfl⟩:=Ds ed
   let⟨w1,f1,g1⟩:=pM e2 Pb;let⟨w2,f2,g2⟩:=pM e4 Pc;calc⟨⟨ws,zs,w1,w2,e1,e3,f1,f2⟩,λy nO ⟨T,v1,v2,ey,hT,eh,Pd,Pf⟩=>?_⟩;subst eh ey;let q1:=Pd ws e1;let q2:=Pf zs e3;rw[f1] at q1;cases q1;rw[f2] at q2;cases q2;exact⟨cy hT,LC S'.sub hT g1 g2⟩
 |[],h1,_=>exact h1.elim
 |[_],h1,_=>exact h1.elim
 |_::_::_::_,h1,_=>calc h1.elim⟩
end
end L2
namespace LJ
open PySem L2
variable[aD]
theorem Pg{ds:-D}{t:Nat}(h:t<=↑ds):cutD ds (U (t:Int)) Z=ds.drop t:=by
 unfold cutD;rw[HT.nv ↑ds 0 t,HT.B5,Nat.min_eq_left h,T_ (by rw[Uh];symm)]
theorem oQ{α:Type}{δ0:ax}{br:ax->Prop}{g:WG}{t:WT}{f:WE}{K:-D->ax->Prop}(xs:-α)(a b:α->D)(hl:↑xs<=1000)(hc:br δ0)
  (st:∀x∈xs,∀acc (L:-D->ax->Prop),↑acc<1000->L (acc++[b x]) δ0->pU δ0 br g t f (a x) acc δ0 L)
  (fin:K (xs.map b) δ0):gQ δ0 br g t f K (xs.map a) [] δ0:=by
 refine su (λi acc δ=>δ=δ0/\acc=(xs.take i).map b) ⟨Y,Y⟩ ?_ ?_
 .ext j d acc δ L hj ⟨rfl,rfl⟩ hL
  rw[R1] at hj;let⟨x,hx,rfl⟩:=Tq.mp hj;let dF:=(kP.mp hx).1;calc st x (T2 hx) _ L (by rw[pj,TB];symm) (hL _ _ ⟨Y,?_⟩);rw[List.take_add_one,TK,hx];rfl
 .ext acc δ ⟨rfl,rfl⟩
  calc⟨hc,?_⟩;rw[pj,ZV];calc fin
theorem vy{i:Int}(h:i.natAbs<10 ^ 40):i.natAbs.log2<1920:=by
 by_cases z:i.natAbs=0
 .rw[z];decide
 .calc (q2X z).mpr (TC h (T5 (by decide:10 ^ 40<=2 ^ 200) (YI (by decide) (by decide))))
def d_(n:Int):Prop:=0<=n/\n<10 ^ 10
theorem d_.log{n:Int}(h:d_ n):n.natAbs.log2<1920:=vy (by let:=h.1;let:=h.2;symm)
theorem d_.len{n:Int}(h:d_ n):↑(num n)<=10:=PySem.W.KT.len_num h.1 h.2
theorem d_.free{n:Int}(h:d_ n){c:Nat}(hc:c<48\/57<c):c∉cs (num n):=λz=>by let:=yY h.1 c z;symm
def jO(y:Wy):Prop:=d_ y.1/\d_ y.2.1/\d_ y.2.2
noncomputable def fT(y:Wy):J:=num y.1++"-" ++ num y.2.1++":" ++ num y.2.2
theorem eI:↑(R3 "-")=1/\↑(R3 ":")=1/\↑(R3 ",")=1/\↑(R3 " ")=1:=by decide +kernel
theorem Ph{y:Wy}(h:jO y):↑(fT y)<=32:=by
 let:=h.1.len;let:=h.2.1.len;let:=h.2.2.len;let:=eI;unfold fT;erw[VU];symm
theorem tw{m:Int}{ws:-Wy}(W:iB m ws):∀y∈ws,jO y:=λy hy=>by
 let⟨a,b,c,d,e⟩:=W.ends y hy;let:=W.kY;calc⟨⟨⋯,⋯⟩,⟨⋯,⋯⟩,⟨⋯,⋯⟩⟩
noncomputable def gq(m:Int)(ws:-Wy):J:=UR "," (num m::ws.map fT)
noncomputable def ff(ns:-Int):J:=if ns=[] then "-" else UR " " (ns.map num)
def zT:GD:=λys ovs K=>∃y:Wy,jO y/\ys=[.p (bM y)]/\ovs=[]/\K (.p (.str (fT y))) []
def zU:WS:=(au (aS 1 (d2 (aa 0) (dC (.int 0)) bu)) (au (aS 2 (d2 (aa 0) (dC (.int 1)) bu)) (au (aS 3 (d2 (aa 0) (dC (.int 2)) bu)) (aB (aM (aG (d1 (aa 1) aE) (aG (dC (.str "-")) (aG (d1 (aa 2) aE) (aG (dC (.str ":")) (aG (d1 (aa 3) aE) aK))))))))))
theorem Pj:Sem 1 3 zT zU:=by
 ext ys ovs K'-⟨y,h,rfl,rfl,k⟩;let l1:=h.1.len;let l2:=h.2.1.len;let l3:=h.2.2.len;let l4:=eI;unfold zU bM;simp![aq,aO,aE,ak,aF,aH,aI,ar,aJ,aM,aG,aK,aN,eQ,gR,at2,Str.empty_append,VU];calc⟨h.1.log,⋯,⋯,h.2.1.log,⋯,⋯,h.2.2.log,⋯,⋯,cX k⟩
theorem Pk:R3 "," = ⟨#[44]⟩:=by decide +kernel
theorem Fg:R3 " " = ⟨#[32]⟩:=by decide +kernel
theorem Fh:R3 "-" = ⟨#[45]⟩:=by decide +kernel
theorem Fi:R3 ":" = ⟨#[58]⟩:=by decide +kernel
theorem vz{s:J}{xs:-J}(h1:↑s=1)(hl:↑xs<=100)(hx:∀x∈xs,↑x<=50):JoinOk s xs=θ:=by
 unfold JoinOk;rw[StrLaws.joinFits hx (by rw[h1];let:=Nat.mul_le_mul_right 50 hl;symm)];rfl
theorem Fj{s:J}{xs:-J}{B:Nat}(h1:↑s=1)(hx:∀x∈xs,↑x<=B):↑(UR s xs)<=↑xs*(B+1):=by
 let:=StrLaws.join_length_le s xs;let:=StrLaws.sumLen_le xs hx;rw[h1] at *;rw[Nat.mul_add];symm
theorem tE{m:Int}{ws:-Wy}(W:iB m ws):(∀x∈num m::ws.map fT,↑x<=20)/\↑(num m::ws.map fT)<=31:=by
 let w:=W.h9;let tm:d_ m:=⟨by let:=W.m1;symm,by let:=W.kY;symm⟩;calc⟨λx hx=>?_,by erw[Cw,pj];symm⟩;rcases Cy.mp hx with rfl|hx
 .let:=tm.len;symm
 .let⟨y,hy,rfl⟩:=Tz.mp hx
  let⟨a,b,c,d,e⟩:=W.ends y hy;let:=W.kY;let l1:=u_ (n:=y.1) (k:=2) (by decide) ⋯;let l2:=u_ (n:=y.2.1) (k:=2) (by decide) ⋯;let l3:=(tw W y hy).2.2.len;let:=eI;unfold fT;erw[VU];symm
def tF:GD:=λys ovs K=>∃(m:Int)(ws:-Wy),iB m ws/\ys=[.p (cz m ws)]/\ovs=[]/\K (.p (.str (gq m ws))) []
def zV:WS:=(au (iH (aj 1 zB (ag (aa 0) af))) (aB (aq (dC (.str ",")) (ag (d2 (bX (ag (dN (ag (d2 (aa 0) (dC (.int 0)) bu) af) ak) af)) (fH (cF (d2 (aa 0) (dC (.int 1)) bu)) [Z] (b7 0) cD (aj 1 zT (ag (aa 0) af))) bL) af) aF)))
theorem Pl:Sem 1 0 tF zV:=by
 ext ys ovs K'-⟨m,ws,W,rfl,rfl,k⟩;let w:=W.h9;let tm:d_ m:=⟨by let:=W.m1;symm,by let:=W.kY;symm⟩;unfold zV;calc aV λN hN=>?_;simp![aq,aO,aE,ak,aF,aH,aI,ar,aJ,aM,aG,aK,aN];calc⟨m,ws,W,Y,Y,?_⟩;simp![aq,aO,aE,ak,aF,aH,aI,ar,aJ,aM,aG,aK,aN];subst hN;simp![aq,aO,aE,ak,aF,aH,aI,ar,aJ,aM,aG,aK,aN,cz,eQ,gR];calc⟨tm.log,?_⟩;refine oQ ws bM (λy=>.str (fT y)) ⋯ trivial ?_ ?_
 .ext y hy acc L ha h
  simp![aq,aO,aE,ak,aF,aH,aI,ar,aJ,aM,aG,aK,aN];exact⟨y,tw W y hy,Y,Y,ha,h⟩
 .simp![aq,aO,aE,ak,aF,aH,aI,ar,aJ,aM,aG,aK,aN]
  refine⟨⋯,num m::ws.map fT,?_,?_,cX k⟩
  .erw[TJ,Uz];rfl
  .calc vz eI.2.2.1 (by let:=(tE W).2;symm) λx hx=>by let:=(tE W).1 x hx;symm
def Fits(ns:-Int):Prop:=ns.length<=80/\∀n∈ns,n.natAbs<10 ^ 40
theorem Fits.txt{ns:-Int}(h:Fits ns):∀x∈ns.map num,↑x<=41:=λx hx=>by
 let⟨n,hn,rfl⟩:=Tz.mp hx;calc u_ (by decide) (h.2 n hn)
def qf:GD:=λys ovs K=>∃ns:-Int,Fits ns/\ys=[.p (lU ns)]/\ovs=[]/\K (.p (.str (ff ns))) []
def zW:WS:=(au (a_ (dT (d2 (dN (ag (aa 0) af) bK) (dC (.int 0)) oEq)) (aB (dC (.str "-"))) bY) (aB (aq (dC (.str " ")) (ag (fH (cF (aa 0)) [Z] (b7 0) cD (dN (ag (aa 0) af) ak)) af) aF)))
theorem Pn:Sem 1 0 qf zW:=by
 ext ys ovs K'-⟨ns,h,rfl,rfl,k⟩;let hl:=h.1;unfold zW lU;calc aV λN hN=>?_;calc gT λA B hA hB=>?_;simp![aq,aO,aE,ak,aF,aH,aI,ar,aJ,aM,aG,aK,aN,ay]
 by_cases c:ns=[]
 .subst c
  rw[Tw (by simp)];subst hA;simp![aq,aO,aE,ak,aF,aH,aI,ar,aJ,aM,aG,aK,aN];exact cX k
 .rw[To c⁻¹]
  subst hB;simp![aq,aO,aE,ak,aF,aH,aI,ar,aJ,aM,aG,aK,aN];subst hN;simp![aq,aO,aE,ak,aF,aH,aI,ar,aJ,aM,aG,aK,aN];refine oQ ns D.int (λn=>.str (num n)) ⋯ trivial ?_ ?_
  .ext n hn acc L ha h2
   simp![aq,aO,aE,ak,aF,aH,aI,ar,aJ,aM,aG,aK,aN];exact⟨vy (h.2 n hn),ha,h2⟩
  .simp![aq,aO,aE,ak,aF,aH,aI,ar,aJ,aM,aG,aK,aN]
   calc⟨ns.map num,by rw[Uz];rfl,vz eI.2.2.2 (by rw[pj];symm) λx hx=>by let:=h.txt x hx;symm,?_⟩;unfold ff at k;rw[To c] at k;calc cX k
def vA:GD:=λys ovs K=>∃x:J,ys=[.p (.str x)]/\ovs=[]/\K (.p .non) []
def zX:WS:=(a_ (bA (dT (d1 (aa 0) (bB "str")))) n5 bY)
theorem Po:Sem 1 0 vA zX:=by
 ext ys ovs K'-⟨x,rfl,rfl,k⟩;unfold zX;calc gT λA B hA hB=>?_;simp![aq,aO,aE,ak,aF,aH,aI,ar,aJ,aM,aG,aK,aN];subst hB;calc⟨[],Y,Y,k⟩
def zY:GD:=λys ovs K=>∃n:Int,d_ n/\ys=[.p (.str (num n))]/\ovs=[]/\K (.p (.bl θ)) []
def zZ:WS:=(au (a_ (gO (bA (dT (pS (dC (.int 1)) (dN (ag (aa 0) af) bK) (dC (.int 10)) (oI λi j=>.bl (g (i<=j))) (oI λi j=>.bl (g (i<=j)))))) (bA (dT (dN (ag (fH (aN (aa 0)) [Z] (b7 0) cD (d2 (aa 0) (dC (.str "0123456789")) ar)) af) jz)))) (aB (dC (.bl ι))) bY) (aB (nZ (d2 (aa 0) (dC (.str "0")) oEq) (d2 (d2 (aa 0) (dC (.int 0)) bu) (dC (.str "0")) j_))))
theorem Pp{c:Nat}(h:48<=c/\c<=57):ZH "0123456789" ⟨#[c]⟩=θ:=by
 unfold ZH;rw[StrLaws.found_one];let e:(R3 "0123456789").cps.toList=[48,49,50,51,52,53,54,55,56,57]:=by decide +kernel
 rw[e];calc Tt ?_;erw[Cy,Tr,UA];symm
theorem Pq:num 0=R3 "0" := by decide +kernel
theorem Fl{n:Int}(h0:0<=n)(h:n≠0):∃d r,cs (num n)=d::r/\d≠48:=by
 let⟨m,rfl⟩:=X8 h0;rw[Ey];calc Nx m ⋯
theorem Fm{n:Int}(h0:0<=n):cs (num n)≠[]:=by
 by_cases c:n=0
 .subst c;decide +kernel
 .let⟨d,r,e,_⟩:=Fl h0 c
  rw[e];simp
theorem Fp:∀l:-Nat,lq (l.map λ_=>D.bl θ)=U (l.map λ_=>θ)
 |[]=>Y
 |_::r=>by rw[TJ,lq,Fp r];rfl
theorem Pr:∀l:-Nat,(l.map λ_=>θ).all id=θ:=λl=>Uc.mpr λb hb=>by
 let⟨_,_,rfl⟩:=Tz.mp hb;rfl
theorem Pt:Sem 1 0 zY zZ:=by
 ext ys ovs K'-⟨n,h,rfl,rfl,k⟩;let hl:=h.len;let jl:=Fm h.1
 let Fq:1<=↑(num n):=by
  rw[u9]
  cases q:cs (num n) with
  |nil=>exact absurd q jl
  |cons a r=>simp
 unfold zZ;calc aV λN hN=>?_;calc gT λA B hA hB=>?_;simp![aq,aO,aE,ak,aF,aH,aI,ar,aJ,aM,aG,aK,aN];calc⟨⋯,?_⟩;let e1:g ((1:Int)<=(↑(num n):Int))=θ:=Tt ⋯;let e2:g ((↑(num n):Int)<=10)=θ:=Tt ⋯;simp![aq,aO,aE,ak,aF,aH,aI,ar,aJ,aM,aG,aK,aN,e1,e2];refine oQ (cs (num n)) (λc=>.str ⟨#[c]⟩) (λ_=>.bl θ) (by rw[<-u9];symm) trivial ?_ ?_
 .ext c hc acc L ha h2
  simp![aq,aO,aE,ak,aF,aH,aI,ar,aJ,aM,aG,aK,aN,Pp (yY h.1 c hc)];exact⟨ha,h2⟩
 .rw[Fp]
  simp![aq,aO,aE,ak,aF,aH,aI,ar,aJ,aM,aG,aK,aN,Pr];subst hB;simp![aq,aO,aE,ak,aF,aH,aI,ar,aJ,aM,aG,aK,aN];subst hN
  by_cases c:n=0
  .subst c
   simp![aq,aO,aE,ak,aF,aH,aI,ar,aJ,aM,aG,aK,aN,ay,Pq,XX];exact cX k
  .let⟨d,r,e,hd⟩:=Fl h.1 c
   let e3:(num n==R3 "0")=ι:=by
    calc V7.mpr λz=>hd ?_;let z2:=congrArg cs z;rw[e,show cs (R3 "0")=[48] by decide +kernel] at z2;exact(Va z2).1
   let e4:((⟨#[d]⟩:J)==R3 "0")=ι:=by
    calc V7.mpr λz=>hd ?_;let z2:=congrArg cs z;rw[show cs (R3 "0")=[48] by decide +kernel] at z2;exact(Va z2).1
   let e5:d7 (num n).cps.toList 0=U d:=by rw[show(num n).cps.toList=d::r from e];exact eQ
   simp![aq,aO,aE,ak,aF,aH,aI,ar,aJ,aM,aG,aK,aN,ay,e3,e5,e4];calc⟨⋯,cX k⟩
def oR:GD:=λys ovs K=>∃n:Int,d_ n/\ys=[.p (.str (num n))]/\ovs=[]/\K (.p (.int n)) []
def z6:WS:=(au (a_ (bA (dT (aj 1 zY (ag (aa 0) af)))) n5 bY) (aB (dN (ag (aa 0) af) aJ)))
theorem Pu:Sem 1 0 oR z6:=by
 ext ys ovs K'-⟨n,h,rfl,rfl,k⟩;unfold z6;calc aV λN hN=>?_;calc gT λA B hA hB=>?_;simp![aq,aO,aE,ak,aF,aH,aI,ar,aJ,aM,aG,aK,aN];calc⟨n,h,Y,Y,?_⟩;simp![aq,aO,aE,ak,aF,aH,aI,ar,aJ,aM,aG,aK,aN];subst hB;simp![aq,aO,aE,ak,aF,aH,aI,ar,aJ,aM,aG,aK,aN];subst hN;simp![aq,aO,aE,ak,aF,aH,aI,ar,aJ,aM,aG,aK,aN];calc⟨n,PySem.W.KIN.num_reads h.1 h.2,by let:=h.len;symm,cX k⟩
theorem Pw{n:Int}(h:d_ n):45∉cs (num n):=h.free (.inl (by decide))
def z9:GD:=λys ovs K=>∃y:Wy,jO y/\ys=[.p (.str (fT y))]/\ovs=[]/\K (.p (bM y)) []
def z_:WS:=(au (aS 1 (aq (aa 0) (ag (dC (.str "-")) af) aI)) (au (aS 2 (aq (d2 (aa 1) (dC (.int 2)) bu) (ag (dC (.str ":")) af) aI)) (aB (bW (ag (aj 1 oR (ag (d2 (aa 1) (dC (.int 0)) bu) af)) (ag (aj 1 oR (ag (d2 (aa 2) (dC (.int 0)) bu) af)) (ag (aj 1 oR (ag (d2 (aa 2) (dC (.int 2)) bu) af)) af)))))))
theorem Px{y:Wy}(h:jO y):Vu (fT y) "-" = (num y.1,R3 "-",num y.2.1++":" ++ num y.2.2)/\Vu (num y.2.1++":" ++ num y.2.2) ":" = (num y.2.1,R3 ":",num y.2.2):=by
 unfold fT;rw[Fh,Fi];calc⟨?_,Ex (h.2.1.free (.inr (by decide)))⟩;rw[VF,VF,VF,<-VF (num y.1),Ex (Pw h.1),VF]
theorem Py:Sem 1 2 z9 z_:=by
 ext ys ovs K'-⟨y,h,rfl,rfl,k⟩;let l0:=Ph h;let l1:=h.1.len;let l2:=h.2.1.len;let l3:=h.2.2.len;let l4:=eI;let⟨p1,p2⟩:=Px h;unfold z_;calc aV λN hN=>?_;simp![aq,aO,aE,ak,aF,aH,aI,ar,aJ,aM,aG,aK,aN,p1];calc⟨⟨by decide +kernel,⋯⟩,?_⟩;subst hN;calc aV λN hN=>?_;simp![aq,aO,aE,ak,aF,aH,aI,ar,aJ,aM,aG,aK,aN,at2,p2];calc⟨⟨by decide +kernel,by erw[VU];symm⟩,?_⟩;subst hN;simp![aq,aO,aE,ak,aF,aH,aI,ar,aJ,aM,aG,aK,aN,eQ,at2];calc⟨y.1,h.1,Y,Y,?_⟩;simp![aq,aO,aE,ak,aF,aH,aI,ar,aJ,aM,aG,aK,aN,eQ,at2];calc⟨y.2.1,h.2.1,Y,Y,?_⟩;simp![aq,aO,aE,ak,aF,aH,aI,ar,aJ,aM,aG,aK,aN,eQ,at2]
 calc⟨y.2.2,h.2.2,Y,Y,?_⟩;simp![aq,aO,aE,ak,aF,aH,aI,ar,aJ,aM,aG,aK,aN];calc cX k
def Aa:GD:=λys ovs K=>∃(m:Int)(ws:-Wy),iB m ws/\ys=[.p (.str (gq m ws))]/\ovs=[]/\K (.p (cz m ws)) []
def Ab:WS:=(au (iH (aj 1 vA (ag (aa 0) af))) (au (aS 1 (aq (aa 0) (ag (dC (.str ",")) af) aH)) (au (aS 2 (bW (ag (aj 1 oR (ag (d2 (aa 1) (dC (.int 0)) bu) af)) (ag (dN (ag (fH (cF (eE (aa 1) (jx (dC (.int 1))) eC)) [Z] (b7 0) cD (aj 1 z9 (ag (aa 0) af))) af) sh) af)))) (au (a_ (bA (dT (aj 1 sT (ag (aa 2) af)))) n5 bY) (aB (aa 2))))))
theorem Pz{m:Int}{ws:-Wy}(W:iB m ws):∀p∈num m::ws.map fT,44∉cs p:=λp hp=>by
 let tm:d_ m:=⟨by let:=W.m1;symm,by let:=W.kY;symm⟩;rcases Cy.mp hp with rfl|hp
 .exact tm.free (.inl (by decide))
 .let⟨y,hy,rfl⟩:=Tz.mp hp
  let⟨h1,h2,h3⟩:=tw W y hy;unfold fT;rw[Fh,Fi];erw[sM,T1,not_or];calc⟨⟨⟨⟨h1.free (.inl (by decide)),by decide⟩,h2.free (.inl (by decide))⟩,by decide⟩,h3.free (.inl (by decide))⟩
theorem PA:Sem 1 2 Aa Ab:=by
 ext ys ovs K'-⟨m,ws,W,rfl,rfl,k⟩;let w:=W.h9;let tm:d_ m:=⟨by let:=W.m1;symm,by let:=W.kY;symm⟩;let wl:=tE W
 let tl:↑(gq m ws)<=1000:=by
  unfold gq;rw[Cw,pj] at wl;let:=Fj (s:=R3 ",") eI.2.2.1 wl.1;rw[Cw,pj] at this;symm
 let sp:VD (gq m ws) "," = num m::ws.map fT:=by
  unfold gq;rw[Pk];exact Ew (by simp) (Pz W)
 let cd:∀(x:D)(xs:-D),cutD (x::xs) (U 1) Z=xs:=λx xs=>by
  rw[show(1:Int)=((1:Nat):Int) from Y,Pg (by simp)];rfl
 unfold Ab;calc aV λN hN=>?_;simp![aq,aO,aE,ak,aF,aH,aI,ar,aJ,aM,aG,aK,aN];calc⟨_,Y,Y,?_⟩;simp![aq,aO,aE,ak,aF,aH,aI,ar,aJ,aM,aG,aK,aN];subst hN;calc aV λN hN=>?_;simp![aq,aO,aE,ak,aF,aH,aI,ar,aJ,aM,aG,aK,aN,sp];calc⟨⟨by decide +kernel,tl⟩,?_⟩;subst hN;calc aV λN hN=>?_;simp![aq,aO,aE,ak,aF,aH,aI,ar,aJ,aM,aG,aK,aN,eQ];calc⟨m,tm,Y,Y,?_⟩;simp![aq,aO,aE,ak,aF,aH,aI,ar,aJ,aM,aG,aK,aN,cd,Uz];refine oQ ws (D.str∘fT) bM ⋯ trivial ?_ ?_
 .ext y hy acc L ha h2
  simp![aq,aO,aE,ak,aF,aH,aI,ar,aJ,aM,aG,aK,aN];exact⟨y,tw W y hy,Y,Y,ha,h2⟩
 .simp![aq,aO,aE,ak,aF,aH,aI,ar,aJ,aM,aG,aK,aN]
  subst hN;calc aV λN hN=>?_;calc gT λA B hA hB=>?_;simp![aq,aO,aE,ak,aF,aH,aI,ar,aJ,aM,aG,aK,aN];calc⟨_,Y,Y,?_⟩;rw[show cW (.tup [.int m,.tup (ws.map bM)])=θ from EJ W];simp![aq,aO,aE,ak,aF,aH,aI,ar,aJ,aM,aG,aK,aN];subst hB;simp![aq,aO,aE,ak,aF,aH,aI,ar,aJ,aM,aG,aK,aN];subst hN;simp![aq,aO,aE,ak,aF,aH,aI,ar,aJ,aM,aG,aK,aN];calc cX k
theorem Fits.of{ns:-Int}(h1:ns.length<=80)(h2:∀n∈ns,d_ n):Fits ns:=⟨h1,λn hn=>by let a:=(h2 n hn).1;let b:=(h2 n hn).2;symm⟩
theorem PB{ns:-Int}(hn:∀n∈ns,d_ n)(c:ns≠[]):UR " " (ns.map num)≠R3 "-" := by
 cases ns with
 |nil=>exact absurd Y c
 |cons n r =>
  ext z;let z2:=congrArg cs z;rw[show cs (R3 "-")=[45] by decide +kernel,Fg] at z2;let h0:=hn n Cu
  let⟨d,u,e⟩:∃d u,cs (num n)=d::u:=by
   cases q:cs (num n) with
   |nil=>exact absurd q (Fm h0.1)
   |cons d u=>exact⟨d,u,Y⟩
  let hd:=yY h0.1 d (by rw[e];calc Cu)
  cases r with
  |nil =>
   rw[show cs (UR ⟨#[32]⟩ ([n].map num))=cs (num n) from Y,e] at z2;let:=(Va z2).1;symm
  |cons n2 r =>
   rw[TJ,TJ,sN,e] at z2;let:=(Va z2).1;symm
def Ac:GD:=λys ovs K=>∃ns:-Int,ns.length<=80/\(∀n∈ns,d_ n)/\ys=[.p (.str (ff ns))]/\ovs=[]/\K (.n (ns.map D.int)) []
def Ad:WS:=(au (iH (aj 1 vA (ag (aa 0) af))) (au (a_ (dT (d2 (aa 0) (dC (.str "-")) oEq)) (aB (nU af)) bY) (aB (k_ (cF (aq (aa 0) (ag (dC (.str " ")) af) aH)) [Z] (b7 0) cD (aj 1 oR (ag (aa 0) af))))))
theorem PC:Sem 1 0 Ac Ad:=by
 ext ys ovs K'-⟨ns,hl,hn,rfl,rfl,k⟩;unfold Ad;calc aV λN hN=>?_;simp![aq,aO,aE,ak,aF,aH,aI,ar,aJ,aM,aG,aK,aN];calc⟨_,Y,Y,?_⟩;simp![aq,aO,aE,ak,aF,aH,aI,ar,aJ,aM,aG,aK,aN];subst hN;calc aV λN hN=>?_;refine gT λA B hA hB=>?_
 by_cases c:ns=[]
 .subst c
  simp![aq,aO,aE,ak,aF,aH,aI,ar,aJ,aM,aG,aK,aN,show ay (.str (ff [])) (.str (R3 "-"))=θ from fu (.str (R3 "-"))];subst hA;simp![aq,aO,aE,ak,aF,aH,aI,ar,aJ,aM,aG,aK,aN];exact⟨[],Y,Y,.inl k⟩
 .let e1:ff ns=UR " " (ns.map num):=by unfold ff;rw[To c]
  simp![aq,aO,aE,ak,aF,aH,aI,ar,aJ,aM,aG,aK,aN,e1,show ay (.str (UR " " (ns.map num))) (.str (R3 "-"))=ι from V7.mpr (PB hn c)];subst hB;simp![aq,aO,aE,ak,aF,aH,aI,ar,aJ,aM,aG,aK,aN];subst hN
  let tl:↑(UR " " (ns.map num))<=1000:=by
   let:=Fj (s:=R3 " ") (xs:=ns.map num) (B:=10) eI.2.2.2 λx hx=>by
    let⟨n,h,rfl⟩:=Tz.mp hx;exact(hn n h).len
   rw[pj] at this;symm
  let sp:VD (UR " " (ns.map num)) " " = ns.map num:=by
   rw[Fg]
   exact Ew c⁻¹ λp hp=>by
    let⟨n,h,rfl⟩:=Tz.mp hp;exact(hn n h).free (.inl (by decide))
  simp![aq,aO,aE,ak,aF,aH,aI,ar,aJ,aM,aG,aK,aN,sp,Uz];calc⟨⟨by decide +kernel,tl⟩,?_⟩;refine oQ ns (D.str∘num) D.int ⋯ trivial ?_ ?_
  .ext n h acc L ha h2
   simp![aq,aO,aE,ak,aF,aH,aI,ar,aJ,aM,aG,aK,aN];exact⟨n,hn n h,Y,Y,ha,h2⟩
  .simp![aq,aO,aE,ak,aF,aH,aI,ar,aJ,aM,aG,aK,aN]
   calc⟨[],Y,Y,.inl k⟩
def Ae:GD:=tF
def Af:WS:=(au (aS 1 (fH (cF (d2 (aa 0) (dC (.int 1)) bu)) [Z,Z,Z] (rR 3 (j6 (b7 0) (j6 (b7 1) (j6 (b7 2) pH)))) cD (d2 (d2 (d2 (d2 (dN (ag (aa 0) af) ak) (dC (.str "-")) bL) (dN (ag (aa 1) af) ak) bL) (dC (.str ":")) bL) (dN (ag (aa 2) af) ak) bL))) (aB (aq (dC (.str ",")) (ag (d2 (bX (ag (dN (ag (d2 (aa 0) (dC (.int 0)) bu) af) ak) af)) (aa 1) bL) af) aF)))
theorem PD:Sem 1 1 Ae Af:=by
 ext ys ovs K'-⟨m,ws,W,rfl,rfl,k⟩;let w:=W.h9;let tm:d_ m:=⟨by let:=W.m1;symm,by let:=W.kY;symm⟩;unfold Af;calc aV λN hN=>?_;simp![aq,aO,aE,ak,aF,aH,aI,ar,aJ,aM,aG,aK,aN,cz,gR];refine oQ ws bM (λy=>.str (fT y)) ⋯ trivial ?_ ?_
 .ext y hy acc L ha h
  let⟨h1,h2,h3⟩:=tw W y hy;let l1:=h1.len;let l2:=h2.len;let l3:=h3.len;let l4:=eI;unfold bM;simp![aq,aO,aE,ak,aF,aH,aI,ar,aJ,aM,aG,aK,aN,VU];refine⟨h1.log,⋯,h2.log,⋯,⋯,h3.log,⋯,ha,h⟩
 .subst hN
  simp![aq,aO,aE,ak,aF,aH,aI,ar,aJ,aM,aG,aK,aN,eQ];refine⟨tm.log,⋯,num m::ws.map fT,?_,?_,cX k⟩
  .erw[TJ,Uz];rfl
  .calc vz eI.2.2.1 (by let:=(tE W).2;symm) λx hx=>by let:=(tE W).1 x hx;symm
theorem vB:∀us:-Int,aZ (us.map D.int)=0
 |[]=>Y
 |_::r=>by rw[TJ,aZ,vB r];rfl
def Ag:GD:=qf
def Ah:WS:=(aB (xZ (dT (d2 (aa 0) (bX af) oEq)) (dC (.str "-")) (aq (dC (.str " ")) (ag (fH (cF (aa 0)) [Z] (b7 0) cD (dN (ag (aa 0) af) ak)) af) aF)))
theorem PE:Sem 1 0 Ag Ah:=by
 ext ys ovs K'-⟨ns,h,rfl,rfl,k⟩;let hl:=h.1;unfold Ah lU
 by_cases c:ns=[]
 .subst c
  simp![aq,aO,aE,ak,aF,aH,aI,ar,aJ,aM,aG,aK,aN,show ay (.lst []) (.lst [])=θ from Y];exact cX k
 .let q:ay (.lst (ns.map D.int)) (.lst [])=ι:=by
   cases ns with
   |nil=>exact absurd Y c
   |cons n r=>rfl
  simp![aq,aO,aE,ak,aF,aH,aI,ar,aJ,aM,aG,aK,aN,q];calc⟨by rw[vB];decide,?_⟩;refine oQ ns D.int (λn=>.str (num n)) ⋯ trivial ?_ ?_
  .ext n hn acc L ha h2
   simp![aq,aO,aE,ak,aF,aH,aI,ar,aJ,aM,aG,aK,aN];exact⟨vy (h.2 n hn),ha,h2⟩
  .simp![aq,aO,aE,ak,aF,aH,aI,ar,aJ,aM,aG,aK,aN]
   calc⟨ns.map num,by rw[Uz];rfl,vz eI.2.2.2 (by rw[pj];symm) λx hx=>by let:=h.txt x hx;symm,?_⟩;unfold ff at k;rw[To c] at k;calc cX k
end LJ
namespace LJ
open PySem L2 PySem.Spec PySem.W
variable[aD]
def Fs(ic ie:Nat)(B:gz->WS)(w:J):WS:=λK δ=>(δ.mu=[]/\ic<↑δ.sl/\ie<↑δ.sl)/\B (λc p=>K.rt (.p (.bl (ay (vm ι c p) (.lst [.str w])))) ⟨[],[]⟩) ⟨λ_=>False,λ_ _=>False,λ_=>False,λ_=>False⟩ δ
theorem PF{F H H' H4:Hp}{ad:-O}{mu:-(Option OV)}{δ:ax}{σ:St}{K:KS}{D:Ends}{b:Bool}(S:SR F [] δ σ H)(k:rQ F [] δ.mu H K D)(kp:Kept H ad mu H')(tb:aD.ok H')(sm:aw H' H4)(h:K.rt (.p (.bl b)) ⟨[],[]⟩):D.rt (.bl b) H4:=by
 let t4:aD.ok H4:=aD.same tb sm;let keep:∀b o,H b=U o->b∉aD.ad->H4 b=U o:=λb o e n=>sm b o (kp b o e n).1;refine k.rt _ _ h (.bl b) F [] [] H4 ⟨λ_ _ e=>e,λ_ _ e=>.inl e,λb o e _ nt=>keep b o e nt,λ_ _ e=>e,λa ⟨k,ov,y,_⟩↦by simp at y,λb o e=>?_⟩ ⟨λb o e=>keep b o (S.sub b o e) λw=>(by rw[S.nt b w] at e;cases e),λa ⟨k,ov,y,_⟩↦by simp at y,Y,λk l a ov ow e=>by simp at e,λk ov e=>by simp at e,λi x e=>by simp at e,Y,t4,S.nt⟩ Y
 by_cases y:b∈aD.ad
 .let⟨ps,q⟩:=aD.tb t4 y;exact⟨_,q⟩
 .calc⟨o,keep b o e y⟩
def Ai:R2:=λx y H Q=>∃F d e K,aw F H/\eN F H d x/\eN F H e y/\oEq d e K/\Made F H K Q
section
variable{X:Cx}{body eG:-o}{b0 st:o}{x n w:J}{p1 p2 pos:y}{L:O}{ic ie:Nat}{B:gz->WS}{Cs:-O}
theorem PG(fN:X.stack=X.env::X.outer)(iW:X.env.frame=U X.env.locals)(nd:X.N.Nodup)(hi:X.N[ie]?=U n)(hk:X.env.scope.names.lookup n=U .local)(hg:Gl X x)(hm:X.mg x=U (.ref L))(hL:∀(c:Nat) (C:O),Cs[c]?=U C->c<13/\WD X.K (.ref C) (.ref L)=U θ)(jl:ic≠ie)
  (hb:∀{pn xe E H0}[b_],nk (dZ X.prog X.w) {X with pn:=pn,xe:=xe} E->gn Cs E H0->bZ {X with pn:=pn,xe:=xe} body (cS (B b_.ok))) (hs:∀A xe,bZ {X with A:=A,calm:=false,xe:=xe} (b0::eG) (cO (fE ie) (g_ ic)))
  (hr:JS X st (qA (BA (Bx (fE ic)) (pb Ai (qJ (lX Cs) [] E0 (iq (fE ic) jh)) (qI (iq (tC (.str w)) jh)))))) (dj:bw x:=by decide) :
  bZ X [.Try body [.ExceptHandler (U (.Name x p1)) (U n) (b0::eG) p2] [] [] pos,st] (cS (Fs ic ie B w)):=by
 refine(o9 (Ot (tb:=λE D σ H=>∃ex:b_,@gn _ ex Cs E H/\@cS _ ex (B ex.ok) D σ H) fN iW nd hi hk hg hm dj (λpn xe E hp=>⟨λpins s σ H D I h=>?_⟩) λA xe=>(hs A xe)) (mX hr)).weak λD σ H ⟨F,ad,δ,K,S,⟨⟨PH,dF,hle⟩,q⟩,k⟩=>?_
 .let⟨ex,R,h⟩:=h
  exact(hb hp R) pins s σ H D I h
 .let ea:ad=[]:=VB.mp (by rw[S.cx,PH];rfl)
  subst ea;letI ex:b_:=Fb (λc p=>K.rt (.p (.bl (ay (vm ι c p) (.lst [.str w])))) ⟨[],[]⟩) H;refine⟨ex,?_,F,[],δ,⟨λ_=>False,λ_ _=>False,λ_=>False,λ_=>False⟩,S,q,?_⟩
  .refine⟨λ{c p C dx ad mu H'} o kp tb hC pl=>?_,λ{ad mu H' a} kp tb e=>Kp.none ⟨λb u e n=>((show Kept H ad mu H' from kp) b u e n).1,tb⟩ e⟩
   let⟨PJ,hx⟩:=hL c C hC;calc⟨C,Y,hx,λa ha=>?_⟩;let hl:=S.len;let e0:((R5 ↑σ (Z:Option V)).set ie (U (.ref a)))[ie]?=U (U (.ref a)):=TZ (by rw[UH];symm)
   let e1:((((R5 ↑σ (Z:Option V)).set ie (U (.ref a))).set ic (U (.ref a))).set ie Z)[ic]?=U (U (.ref a)):=by
    rw[T8 (λz=>jl z.symm),TZ (by rw[Ux,UH];symm)]
   let s1:aw H' (upd H' a (d3 a C dx)):=cy ha
   let XE:ExcAt (upd H' a (d3 a C dx)) a C dx:=by
    calc⟨bE,λd e=>?_⟩;rcases pl with⟨_,d',e',h'⟩|⟨_,e'⟩
    .rw[e] at e';cases e';exact⟨_,s1 _ _ h'⟩
    .rw[e] at e';cases e'
   let PP:c<4->∃d,dx=U d/\upd H' a (d3 a C dx) d=U (.xd [("place",.int p)]):=λh4=>by
    rcases pl with⟨_,d',e',h'⟩|⟨g4,_⟩
    .exact⟨d',e',s1 _ _ h'⟩
    .omega
   calc⟨.ref a,e0,.ref a,e1,θ,Y,?_⟩;rw[Tw Y];calc⟨.ref a,e1,c,p,a,C,dx,Y,PJ,hC,XE,PP,λl H3 sm Sw e3=>?_⟩;calc⟨(show 1<=sizeLine by decide),λz hz=>?_⟩;let s4:aw H3 (upd H3 z (.lst [.str w])):=cy hz;refine⟨λ_=>Z,.lst (qb c p),.lst [.str w],λr=>r=.bl (ay (vm ι c p) (.lst [.str w])),λ_ _ e=>(nomatch e),⟨l,_,Y,s4 _ _ e3,OL c p⟩,⟨z,_,Y,bE,⟨_,_,Y,Y,Y⟩⟩,⟨?_,?_⟩,λr v H5 er PK is=>?_⟩
   .unfold qb
    split
    .simp[dep,aZ]
    .simp[dep,aZ]
   .unfold vm;rw[To Jn]
   .subst er
    cases(show v=.bl _ from is)
    exact PF S k kp tb (((s1.trans sm).trans s4).trans PK) o
  .calc⟨fun δ' h=>h.elim,fun δ' h=>h.elim,fun δ' h=>h.elim,λx δ' h=>h.elim,λb o e n=>⟨e,λ⟨k,ov,z,_⟩↦by simp at z⟩⟩
end
end LJ
namespace LJ
open PySem L2
variable[aD]
mutual
noncomputable def iQ:D->Nat
 |.tup ds=>max ↑ds (eJ ds)
 |.lst ds=>max ↑ds (eJ ds)
 |_=>0
noncomputable def eJ:-D->Nat
 |[]=>0
 |d::ds=>max (iQ d) (eJ ds)
end
theorem dA{l:Nat}:∀{ds:-D},eJ ds<=l↔∀d∈ds,iQ d<=l
 |[]=>by simp[eJ]
 |d::r=>by
  erw[eJ,Cy,forall_eq_or_imp,<-dA (ds:=r)];symm
theorem dB{l:Nat}:∀{ds:-D},aZ ds<=l↔∀d∈ds,dep d<=l
 |[]=>by simp[aZ]
 |d::r=>by
  erw[aZ,Cy,forall_eq_or_imp,<-dB (ds:=r)];symm
def Bd(l m:Nat)(d:D):Prop:=iQ d<=l/\dep d<=m
theorem Bd.mono{l l' m m':Nat}{d:D}(h:Bd l m d)(h1:l<=l')(h2:m<=m'):Bd l' m' d:=⟨T5 h.1 h1,T5 h.2 h2⟩
theorem bI{l m:Nat}{ds:-D}:Bd l (m+1) (.tup ds)↔↑ds<=l/\∀d∈ds,Bd l m d:=by
 unfold Bd;erw[iQ,dep]
 constructor
 .ext ⟨h1,h2⟩
  let a:eJ ds<=l:=by symm
  let b:aZ ds<=m:=by symm
  exact⟨⋯,λd hd=>⟨dA.mp a d hd,dB.mp b d hd⟩⟩
 .ext ⟨h1,h2⟩
  let a:eJ ds<=l:=dA.mpr λd hd=>(h2 d hd).1;let b:aZ ds<=m:=dB.mpr λd hd=>(h2 d hd).2;symm
theorem oS{l m:Nat}{ds:-D}:Bd l (m+1) (.lst ds)↔↑ds<=l/\∀d∈ds,Bd l m d:=by
 unfold Bd;erw[iQ,dep]
 constructor
 .ext ⟨h1,h2⟩
  let a:eJ ds<=l:=by symm
  let b:aZ ds<=m:=by symm
  exact⟨⋯,λd hd=>⟨dA.mp a d hd,dB.mp b d hd⟩⟩
 .ext ⟨h1,h2⟩
  let a:eJ ds<=l:=dA.mpr λd hd=>(h2 d hd).1;let b:aZ ds<=m:=dB.mpr λd hd=>(h2 d hd).2;symm
theorem vC{α:Type}{xs:-α}{k:Int}(h0:0<=k)(h1:k<(↑xs:Int)):∃x∈xs,d7 xs k=U x:=by
 let⟨i,rfl⟩:∃i:Nat,k=i:=⟨k.toNat,⋯⟩;let hi:i<↑xs:=by symm
 calc⟨xs[i],WW hi,kM (nH hi)⟩
theorem tG{ds:-D}{lo hi:Option Int}{d:D}(h:d∈cutD ds lo hi):d∈ds:=Yv (List.mem_of_mem_take h)
theorem tH(ds:-D)(lo hi:Option Int):↑(cutD ds lo hi)<=↑ds:=by
 unfold cutD;rw[TB,Uh];symm
def kj(n:Nat):GD:=λys ovs K=>∃(N deep:Int)(l m:Nat)(d:D)(o:OV),ys=[.o 0,.p d,.p (.int deep)]/\ovs=[o]/\aY N o/\N+10*(n+1)<2 ^ 30/\deep<=n/\n<=3/\Bd l m d/\l<=400/\1<=l/\m<=40 ∧
 ∀d' o',Bd (l+1) (m+1) d'->aY (N+4*(n+1)) o'->K (.p d') [o']
noncomputable def oU:-D:=[.non,.bl θ,.bl ι,.str "",.str "0",.tup [],.lst [],.int (10 ^ US 20),.int (-1),.int 0,.int 1,.int (10 ^ US 9),.int (10 ^ US 9+1),.tup [.int 0],.lst [.int 0],.int 12]
theorem PL:∀x∈oU,Bd 1 1 x:=by
 ext x hx;erw[oU,Cy,Tr,UA] at hx;rcases hx with rfl|rfl|rfl|rfl|rfl|rfl|rfl|rfl|rfl|rfl|rfl|rfl|rfl|rfl|rfl|rfl<;>calc⟨by simp[iQ,eJ],by simp[dep,aZ]⟩
def Aj(kj:GD):WS:=(au (aS 3 (aj 2 eF (ag (aa 0) (ag (dC (.int 8)) af)))) (au (aS 4 (aj 2 eF (ag (aa 0) (ag (dC (.int 16)) af)))) (au (aS 5 (d2 (aj 2 eF (ag (aa 0) (ag (dC (.int 9)) af))) (dC (.int 2)) (oI λi j=>.int (i-j)))) (au (a_ (fG (dT (d1 (aa 1) (bB "tuple"))) (fG (dT (d2 (aa 1) (bW af) j_)) (fG (dT (d2 (aa 2) (dC (.int 0)) (oI λi j=>.bl (g (j<i))))) (dT (d2 (aa 4) (dC (.int 3)) (oI λi j=>.bl (g (j<i)))))))) (au (aS 6 (aj 2 eF (ag (aa 0) (ag (dN (ag (aa 1) af) bK) af)))) (aB (d2 (d2 (eE (aa 1) eC (jx (aa 6))) (bW (ag (aj 3 kj (ag (aa 0) (ag (d2 (aa 1) (aa 6) bu) (ag (d2 (aa 2) (dC (.int 1)) (oI λi j=>.int (i-j))) af)))) af)) bL) (eE (aa 1) (jx (d2 (aa 6) (dC (.int 1)) bL)) eC) bL))) bY) (au (aS 7 (bX (ag (dC .non) (ag (dC (.bl θ)) (ag (dC (.bl ι)) (ag (dC (.str "")) (ag (dC (.str "0")) (ag (bW af) (ag (bX af) (ag (d2 (dC (.int 10)) (dC (.int 20)) (cg bO λi j=>.int (i ^ j.toNat))) (ag (d1 (dC (.int 1)) jy) (ag (dC (.int 0)) (ag (dC (.int 1)) (ag (d2 (dC (.int 10)) (dC (.int 9)) (cg bO λi j=>.int (i ^ j.toNat))) (ag (d2 (d2 (dC (.int 10)) (dC (.int 9)) (cg bO λi j=>.int (i ^ j.toNat))) (dC (.int 1)) bL) (ag (bW (ag (dC (.int 0)) af)) (ag (bX (ag (dC (.int 0)) af)) (ag (dC (.int 12)) af)))))))))))))))))) (au (a_ (dT (d1 (aa 1) (bB "tuple"))) (au (aS 8 (bX (ag (dN (ag (aa 1) af) pT) (ag (d2 (aa 1) (eE (aa 1) eC (jx (dC (.int 1)))) bL) (ag (eE (aa 1) eC (jx (d1 (dC (.int 1)) jy))) (ag (d1 (aa 1) uZ) (ag (d2 (aa 1) (bW (ag (aa 5) af)) bL) (ag (eE (aa 1) (jx (dC (.int 1))) eC) (ag (bW (ag (aa 1) af)) af))))))))) (aB (d2 (d2 (aa 8) (bX (ag (d2 (aa 7) (aa 4) bu) af)) bL) (aa 3) bu))) bY) (au (a_ (dT (aj 1 vg (ag (aa 1) af))) (aB (d2 (bX (ag (d2 (aa 1) (dC (.int 1)) bL) (ag (d2 (aa 1) (dC (.int 1)) (oI λi j=>.int (i-j))) (ag (d2 (dC (.int 0)) (aa 1) (oI λi j=>.int (i-j))) (ag (aa 5) (ag (aa 5) (ag (d2 (aa 1) (dC (.int 1)) oEq) (ag (d2 (dC (.int 13)) (aa 1) (oI λi j=>.int (i-j))) (ag (d2 (aa 7) (aa 4) bu) af))))))))) (aa 3) bu)) bY) (aB (d2 (aa 7) (aa 4) bu)))))))))
def Ak(g:Nat->GD):Nat->GD
 |0=>λ_ _ _=>False
 |n+1=>g n
theorem PM(n:Nat):Sem 3 6 (kj n) (Aj (Ak kj n)):=by
 ext ys ovs K'-⟨N,deep,l,m,d,o,rfl,rfl,P,Sy,Ft,Sz,bd,hl,Fq,hm,fin⟩;unfold Aj;let back:∀(d':D)(o':OV)(sl:-(Option DV))(mu:-(Option OV)),Bd (l+1) (m+1) d'->aY (N+4*(n+1)) o'->eZ 1 K' (.p d') ⟨sl,U o'::mu⟩:=λd' o' sl mu h1 h2=>⟨[o'],Y,Y,fin d' o' h1 h2⟩;calc aV λN' hN=>?_;simp!;calc⟨N,8,o,Y,Y,P,⋯,⋯,⋯,λkind o1 k0 k8 P1=>?_⟩;simp!;subst hN;calc aV λN' hN=>?_;simp!;calc⟨N+1,16,o1,Y,Y,P1,⋯,⋯,⋯,λpick o2 p0 SA P2=>?_⟩;simp!;subst hN;refine aV λN' hN=>?_
 simp!;calc⟨N+1+1,9,o2,Y,Y,P2,⋯,⋯,⋯,λnr o3 n0 n9 P3=>?_⟩;simp!;subst hN;let Pe:aY (N+4*(n+1)) o3:=P3.mono ⋯;let⟨od,PN,Fu⟩:=vC (xs:=oU) (k:=pick) p0 (by show pick<16;symm);let Al:Bd (l+1) (m+1) od:=(PL od PN).mono ⋯ ⋯;let tail:∀N':ax->Prop,True:=λ_=>trivial;refine aV λN' hN=>?_
 by_cases ht:∃ds,d=.tup ds
 .let⟨ds,rfl⟩:=ht
  let⟨mm,rfl⟩:∃mm,m=mm+1:=⟨m-1,by let:=bd.2;erw[dep] at this;symm⟩;let⟨b1,b2⟩:=bI.mp bd
  let rest:N' ⟨[U (.o 0),U (.p (.tup ds)),U (.p (.int deep)),U (.p (.int kind)),U (.p (.int pick)),U (.p (.int (nr-2))),Z,Z,Z],[U o3]⟩:=by
   subst hN;calc aV λN' hN=>?_;simp!;calc⟨⟨by decide,by decide,by decide⟩,⟨by decide,by decide,by decide⟩,⟨by decide,by decide,by decide⟩,?_⟩;subst hN;calc aV λN' hN=>?_;let c1:=tH ds Z (U 1);let lY:d7 [D.non,D.bl θ,D.bl ι,D.str (R3 ""),D.str (R3 "0"),D.tup [],D.lst [],D.int (10 ^ US 20),D.int (-1),D.int 0,D.int 1,D.int (10 ^ US 9),D.int (10 ^ US 9+1),D.tup [D.int 0],D.lst [D.int 0],D.int 12] pick=U od:=Fu;simp![bC,show aQ "tuple" "tuple" = θ from Y,lY];let⟨r,hr,er⟩:=vC (xs:=[D.lst ds,D.tup (ds++cutD ds Z (U 1)),D.tup (cutD ds Z (U (-1))),D.tup ds.reverse,D.tup (ds++[D.int (nr-2)]),D.tup (cutD ds (U 1) Z),D.tup [D.tup ds],od]) (k:=kind) k0 (by show kind<8;symm)
   rw[er];calc⟨⋯,⋯,back _ _ _ _ ?_ Pe⟩;erw[Cy,Tr,UA] at hr;let up:∀y∈ds,Bd (l+1) (mm+1) y:=λy hy=>(b2 y hy).mono ⋯ ⋯;let ib:Bd (l+1) (mm+1) (.int (nr-2)):=⟨Ui _,Ui _⟩;rcases hr with rfl|rfl|rfl|rfl|rfl|rfl|rfl|rfl
   .exact oS.mpr ⟨⋯,up⟩
   .refine bI.mpr ⟨?_,λy hy=>?_⟩
    .rw[Cv]
     let:↑(cutD ds Z (U 1))<=1:=by
      unfold cutD;rw[TB];let:HT.bf ↑ds ↑ds (U 1)=min 1 ↑ds:=HT.nv ↑ds ↑ds 1;rw[this];symm
     symm
    .rcases T1.mp hy with hy|hy
     .exact up y hy
     .exact up y (tG hy)
   .exact bI.mpr ⟨by let:=tH ds Z (U (-1));symm,λy hy=>up y (tG hy)⟩
   .exact bI.mpr ⟨by rw[Vx];symm,λy hy=>up y (List.mem_reverse.mp hy)⟩
   .refine bI.mpr ⟨by rw[Cv,T9];symm,λy hy=>?_⟩
    rcases T1.mp hy with hy|hy
    .exact up y hy
    .rw[Ul.mp hy];exact ib
   .exact bI.mpr ⟨by let:=tH ds (U 1) Z;symm,λy hy=>up y (tG hy)⟩
   .refine bI.mpr ⟨by show 1<=l+1;symm,λy hy=>?_⟩
    rw[Ul.mp hy];exact bd.mono ⋯ ⋯
   .exact Al
  simp![bC,show aQ "tuple" "tuple" = θ from Y,ay];calc⟨by let:=bd.2;erw[dep] at this;symm,?_⟩;cases q:cG ds []
  .erw[Vl,Ve]
   by_cases hd:0<deep
   .rw[Tw (Tt hd)]
    by_cases hp:3<pick
    .rw[Tw (Tt hp)]
     let dn:0<↑ds:=by
      cases ds with
      |nil=>cases q
      |cons _ _=>exact Wn _
     calc⟨N+1+1+1,↑ds,o3,Y,Y,P3,⋯,⋯,⋯,λat_ o4 a0 a1 P4=>?_⟩;let⟨x,hx,ex⟩:=vC (xs:=ds) (k:=at_) a0 a1;let⟨nn,rfl⟩:∃nn:Nat,n=nn+1:=⟨n-1,⋯⟩;simp![ex];calc⟨N+1+1+1+1,deep-1,l,mm,x,o4,Y,Y,P4,⋯,⋯,⋯,b2 x hx,hl,Fq,⋯,λd' o5 b5 P5=>?_⟩;let c1:=tH ds Z (U at_);let c2:=tH ds (U (at_+1)) Z;simp!;refine⟨⋯,⋯,back _ _ _ _ (bI.mpr ⟨?_,λy hy=>?_⟩) (P5.mono ⋯)⟩
     .let e1:↑(cutD ds Z (U at_))=at_.toNat:=by
       unfold cutD;rw[TB,Uh];let:HT.bf ↑ds 0 Z=0:=Y
       let h2:HT.bf ↑ds ↑ds (U at_)=min at_.toNat ↑ds:=by
        let⟨ii,rfl⟩:∃ii:Nat,at_=ii:=⟨at_.toNat,⋯⟩;exact HT.nv ↑ds ↑ds ii
       rw[this,h2];symm
      let e2:↑(cutD ds (U (at_+1)) Z)=↑ds-(at_.toNat+1):=by
       unfold cutD;rw[TB,Uh];let:HT.bf ↑ds ↑ds Z=↑ds:=Y
       let h2:HT.bf ↑ds 0 (U (at_+1))=min (at_.toNat+1) ↑ds:=by
        let⟨ii,rfl⟩:∃ii:Nat,at_=ii:=⟨at_.toNat,⋯⟩;exact HT.nv ↑ds 0 (ii+1)
       rw[this,h2];symm
      rw[Cv,Cv,e1,e2,T9];symm
     .rcases T1.mp hy with hy|hy
      .rcases T1.mp hy with hy|hy
       .exact (b2 y (tG hy)).mono ⋯ ⋯
       .rw[Ul.mp hy];exact b5
      .exact (b2 y (tG hy)).mono ⋯ ⋯
    .rw[To (by rw[TH hp];decide)]
     exact rest
   .rw[To (by rw[TH hd];decide)]
    exact rest
  .erw[Ue,Jr,Um]
   exact rest
 .let nt:∀K2:KS,True:=λ_=>trivial
  let lY:d7 [D.non,D.bl θ,D.bl ι,D.str (R3 ""),D.str (R3 "0"),D.tup [],D.lst [],D.int (10 ^ US 20),D.int (-1),D.int 0,D.int 1,D.int (10 ^ US 9),D.int (10 ^ US 9+1),D.tup [D.int 0],D.lst [D.int 0],D.int 12] pick=U od:=Fu
  let Fv:aQ (bC d) "tuple" = ι:=by
   cases d with
   |tup ds=>exact absurd ⟨ds,Y⟩ ht
   |_=>rfl
  simp![Fv];subst hN;calc aV λN' hN=>?_;simp!;calc⟨⟨by decide,by decide,by decide⟩,⟨by decide,by decide,by decide⟩,⟨by decide,by decide,by decide⟩,?_⟩;subst hN;calc aV λN' hN=>?_;simp![Fv];subst hN;calc aV λN' hN=>?_;simp!;calc⟨d,Y,Y,?_⟩;simp!
  by_cases hi:∃i,d=.int i
  .let⟨i,rfl⟩:=hi
   simp![vd,lY,ay];let⟨r,hr,er⟩:=vC (xs:=[D.int (i+1),D.int (i-1),D.int (0-i),D.int (nr-2),D.int (nr-2),D.bl (i==1),D.int (13-i),od]) (k:=kind) k0 (by show kind<8;symm);rw[er];calc back _ _ _ _ ?_ Pe;erw[Cy,Tr,UA] at hr;rcases hr with rfl|rfl|rfl|rfl|rfl|rfl|rfl|rfl
   all_goals first|exact Al|exact⟨Ui _,Ui _⟩
  .let hw:vd d=ι:=by
    cases d with
    |int i=>exact absurd ⟨i,Y⟩ hi
    |_=>rfl
   rw[hw];erw[Jr,Um];subst hN;simp![lY];calc back _ _ _ _ Al Pe
end LJ
namespace LJT
open PySem L2 LJ
variable[aD]
mutual
noncomputable def jP:D->Bool
 |.lst ds=>g (↑ds<=1000)&&dP ds
 |.tup ds=>g (↑ds<=1000)&&dP ds
 |_=>θ
noncomputable def dP:-D->Bool
 |[]=>θ
 |d::r=>jP d&&dP r
end
theorem fL:∀{ds:-D},dP ds=θ->∀d∈ds,jP d=θ
 |[],_,d,h=>nomatch h
 |a::r,hn,d,h=>by
  erw[dP,Tv] at hn;rcases Cy.mp h with rfl|h
  .exact hn.1
  .calc fL hn.2 d h
def aP(n:Nat):GD:=λys ovs K=>∃d,dep d<=n/\n<=50/\jP d=θ/\ys=[.p d,.p d]/\ovs=[]/\K (.p (.bl θ)) []
def aA(oV:GD):WS:=(au (a_ (dT (d2 (aa 1) (dC .non) jB)) (aB (d2 (aa 0) (dC .non) jB)) bY) (au (a_ (gO (dT (d1 (aa 1) (bB "bool"))) (dT (d1 (aa 0) (bB "bool")))) (aB (gP (d1 (aa 1) (bB "bool")) (gP (d1 (aa 0) (bB "bool")) (d2 (aa 0) (aa 1) oEq)))) bY) (au (a_ (dT (d1 (aa 1) (bB "int"))) (aB (gP (d1 (aa 0) (bB "int")) (d2 (aa 0) (aa 1) oEq))) bY) (au (a_ (dT (d1 (aa 1) (bB "str"))) (aB (gP (d1 (aa 0) (bB "str")) (d2 (aa 0) (aa 1) oEq))) bY) (au (a_ (gO (dT (d2 (d1 (aa 1) (bB "tuple")) (d1 (aa 0) (bB "tuple")) j_)) (dT (d2 (d1 (aa 1) (bB "list")) (d1 (aa 0) (bB "list")) j_))) (aB (dC (.bl ι))) bY) (au (a_ (dT (d2 (dN (ag (aa 0) af) bK) (dN (ag (aa 1) af) bK) j_)) (aB (dC (.bl ι))) bY) (aB (d2 (dC (.bl ι)) (fH (vx (ag (aa 0) (ag (aa 1) af))) [Z,Z] (rR 2 (j6 (b7 0) (j6 (b7 1) pH))) cD (aj 2 oV (ag (aa 0) (ag (aa 1) af)))) (ot θ)))))))))
def gu(g:Nat->GD):Nat->GD
 |0=>λ_ _ _=>False
 |n+1=>g n
theorem PQ(g:GD){K':RV->-OV->Prop}(k:K' (.p (.bl θ)) []):aA g (ik 0 K') ⟨[U (.p .non),U (.p .non)],[]⟩:=by
 unfold aA;calc aV λN hN=>?_;simp![bC,lE,lF,lG,lH,lI,ay];calc cb k
theorem PR(g:GD){K':RV->-OV->Prop}(b:Bool)(k:K' (.p (.bl θ)) []):aA g (ik 0 K') ⟨[U (.p (.bl b)),U (.p (.bl b))],[]⟩:=by
 unfold aA;calc aV λN hN=>?_;simp![bC,kc,ke,kg,kh,ki,fu];subst hN;calc aV λN hN=>?_;simp![bC,kc,ke,kg,kh,ki,fu];calc cb k
theorem same_int(g:GD){K':RV->-OV->Prop}(b:Int)(k:K' (.p (.bl θ)) []):aA g (ik 0 K') ⟨[U (.p (.int b)),U (.p (.int b))],[]⟩:=by
 unfold aA;calc aV λN hN=>?_;simp![bC,jD,jE,jF,jG,jH,fu];subst hN;calc aV λN hN=>?_;simp![bC,jD,jE,jF,jG,jH,fu];subst hN;calc aV λN hN=>?_;simp![bC,jD,jE,jF,jG,jH,fu];calc cb k
theorem same_str(g:GD){K':RV->-OV->Prop}(b:J)(k:K' (.p (.bl θ)) []):aA g (ik 0 K') ⟨[U (.p (.str b)),U (.p (.str b))],[]⟩:=by
 unfold aA;calc aV λN hN=>?_;simp![bC,i5,i7,i8,i9,i_,fu];subst hN;calc aV λN hN=>?_;simp![bC,i5,i7,i8,i9,i_,fu];subst hN;calc aV λN hN=>?_;simp![bC,i5,i7,i8,i9,i_,fu];subst hN;calc aV λN hN=>?_;simp![bC,i5,i7,i8,i9,i_,fu];calc cb k
theorem PS{n:Nat}{K':RV->-OV->Prop}{ds:-D}(hd:dep (.lst ds)<=n)(hn:n<=50)(nd:jP (.lst ds)=θ)(k:K' (.p (.bl θ)) []):aA (gu aP n) (ik 0 K') ⟨[U (.p (.lst ds)),U (.p (.lst ds))],[]⟩:=by
 unfold aA;calc aV λN hN=>?_;simp![bC,lE,lF,lG,lH,lI,kc,ke,kg,kh,ki,jD,jE,jF,jG,jH,i5,i7,i8,i9,i_,lJ,lK,lM,lN,lO,lP,lQ,lR,lS,lT];subst hN;calc aV λN hN=>?_;simp![bC,lE,lF,lG,lH,lI,kc,ke,kg,kh,ki,jD,jE,jF,jG,jH,i5,i7,i8,i9,i_,lJ,lK,lM,lN,lO,lP,lQ,lR,lS,lT];subst hN;calc aV λN hN=>?_;simp![bC,lE,lF,lG,lH,lI,kc,ke,kg,kh,ki,jD,jE,jF,jG,jH,i5,i7,i8,i9,i_,lJ,lK,lM,lN,lO,lP,lQ,lR,lS,lT];subst hN;calc aV λN hN=>?_;simp![bC,lE,lF,lG,lH,lI,kc,ke,kg,kh,ki,jD,jE,jF,jG,jH,i5,i7,i8,i9,i_,lJ,lK,lM,lN,lO,lP,lQ,lR,lS,lT];subst hN;calc aV λN hN=>?_;simp![bC,lP,lQ,lR,lS,lT]
 subst hN;erw[fu,Ue,Jr,Um];calc aV λN hN=>?_;simp![fu];subst hN;let⟨m,rfl⟩:∃m,n=m+1:=⟨n-1,by erw[dep] at hd;symm⟩;let Am:aZ ds<=m:=by erw[dep] at hd;symm
 let An:dP ds=θ:=by erw[jP,Tv] at nd;exact nd.2
 let tI:↑ds<=1000:=by erw[jP,Tv,Vb] at nd;exact nd.1
 let zl:↑(b6 ds ds)<=1000:=by rw[uJ];symm
 simp![vx];refine L2.pV (λd=>.bl θ) zl trivial ?_ ?_
 .ext d qt acc L ha h
  let⟨a,rfl,ma⟩:=zx qt;simp!;calc⟨a,T5 (zw ma) Am,⋯,fL An a ma,Y,Y,?_⟩;simp!;exact⟨ha,h⟩
 .simp!
  let e1:((b6 ds ds).map λ_=>D.bl θ).any (λe=>ay e (.bl ι))=ι:=by
   rw[VR];ext x hx;let⟨_,_,rfl⟩:=Tz.mp hx;simp[ay]
  let e2:aZ ((b6 ds ds).map λ_=>D.bl θ)<=55:=zy _;calc⟨e2,by rw[e1];calc cb k⟩
theorem jQ{n:Nat}{K':RV->-OV->Prop}{ds:-D}(hd:dep (.tup ds)<=n)(hn:n<=50)(nd:jP (.tup ds)=θ)(k:K' (.p (.bl θ)) []):aA (gu aP n) (ik 0 K') ⟨[U (.p (.tup ds)),U (.p (.tup ds))],[]⟩:=by
 unfold aA;calc aV λN hN=>?_;simp![bC,lE,lF,lG,lH,lI,kc,ke,kg,kh,ki,jD,jE,jF,jG,jH,i5,i7,i8,i9,i_,lJ,lK,lM,lN,lO,lP,lQ,lR,lS,lT];subst hN;calc aV λN hN=>?_;simp![bC,lE,lF,lG,lH,lI,kc,ke,kg,kh,ki,jD,jE,jF,jG,jH,i5,i7,i8,i9,i_,lJ,lK,lM,lN,lO,lP,lQ,lR,lS,lT];subst hN;calc aV λN hN=>?_;simp![bC,lE,lF,lG,lH,lI,kc,ke,kg,kh,ki,jD,jE,jF,jG,jH,i5,i7,i8,i9,i_,lJ,lK,lM,lN,lO,lP,lQ,lR,lS,lT];subst hN;calc aV λN hN=>?_;simp![bC,lE,lF,lG,lH,lI,kc,ke,kg,kh,ki,jD,jE,jF,jG,jH,i5,i7,i8,i9,i_,lJ,lK,lM,lN,lO,lP,lQ,lR,lS,lT];subst hN;calc aV λN hN=>?_;simp![bC,lJ,lK,lM,lN,lO]
 subst hN;erw[fu,Ue,Jr,Um];calc aV λN hN=>?_;simp![fu];subst hN;let⟨m,rfl⟩:∃m,n=m+1:=⟨n-1,by erw[dep] at hd;symm⟩;let Am:aZ ds<=m:=by erw[dep] at hd;symm
 let An:dP ds=θ:=by erw[jP,Tv] at nd;exact nd.2
 let tI:↑ds<=1000:=by erw[jP,Tv,Vb] at nd;exact nd.1
 let zl:↑(b6 ds ds)<=1000:=by rw[uJ];symm
 simp![vx];refine L2.pV (λd=>.bl θ) zl trivial ?_ ?_
 .ext d qt acc L ha h
  let⟨a,rfl,ma⟩:=zx qt;simp!;calc⟨a,T5 (zw ma) Am,⋯,fL An a ma,Y,Y,?_⟩;simp!;exact⟨ha,h⟩
 .simp!
  let e1:((b6 ds ds).map λ_=>D.bl θ).any (λe=>ay e (.bl ι))=ι:=by
   rw[VR];ext x hx;let⟨_,_,rfl⟩:=Tz.mp hx;simp[ay]
  let e2:aZ ((b6 ds ds).map λ_=>D.bl θ)<=55:=zy _;calc⟨e2,by rw[e1];calc cb k⟩
theorem eK(n:Nat):Sem 2 0 (aP n) (aA (gu aP n)):=by
 ext ys ovs K'-⟨d,hd,hn,nd,rfl,rfl,k⟩
 .cases d with
  |tup ds=>exact jQ hd hn nd k
  |non=>exact PQ _ k
  |bl b=>exact PR _ b k
  |int b=>exact same_int _ b k
  |str b=>exact same_str _ b k
  |lst ds=>calc PS hd hn nd k
end LJT
namespace L2
open PySem PySem.Spec PyProof.Rows
variable[aD]{X:Cx}{e:M}{f:WE}
end L2
namespace L2
open PySem PySem.Spec PyProof.Rows
variable[aD]
noncomputable def vD(mu:-(Option OV)):Option DV->Option DV
 |some (.p d)=>U (.p d)
 |some (.o k)=>match mu[k]? with
  |some (some (.lst ds))=>U (.p (.lst ds))
  |_=>Z
 |some (.t d k)=>match mu[k]? with
  |some (some (.lst ds))=>U (.p (.tup [d,.lst ds]))
  |_=>Z
 |none=>Z
noncomputable def ax.d5(δ:ax):ax:=⟨δ.sl.map (vD δ.mu),δ.mu.map λ_=>Z⟩
def Ao(t:WT):WT:=fun δ K=>t δ.d5 λb _=>K b δ
section
variable{F F' H H':Hp}{ad az:-O}{δ δ':ax}{σ σ':St}
open Classical in
noncomputable def km (F H:Hp) (ad:List Addr) (mu:List (Option OV)):Hp:=λa=>if ∃(k:Nat)(ds:List D),ad[k]?=some a/\mu[k]?=some (some (.lst ds)) then H a else F a
theorem PT(S:SR F ad δ σ H):aw F (km F H ad δ.mu)/\SR (km F H ad δ.mu) ad δ.d5 σ H:=by
 let nl:∀{a:O}{o:HO},F a=U o->¬ ∃(k:Nat)(ds:-D),ad[k]?=U a/\δ.mu[k]?=U (U (.lst ds)):=λe z=>by let⟨k,ds,e1,e2⟩:=z;rw[S.off _ ⟨k,_,e1,e2⟩] at e;cases e
 let sm:aw F (km F H ad δ.mu):=λa o e=>by unfold km;rw[To (nl e)];exact e
 let at':∀{k:Nat}{a:O}{ds:-D},ad[k]?=U a->δ.mu[k]?=U (U (.lst ds))->∃vs,km F H ad δ.mu a=U (.lst vs)/\ae (km F H ad δ.mu) ds vs:=λ{k a ds} e1 e2=>by
  let⟨a',o,e3,e4,vs,rfl,h⟩:=S.mu k _ e2;rw[e1] at e3;cases e3;exact⟨vs,by unfold km;rw[Tw ⟨k,ds,e1,e2⟩];calc e4,h.same sm⟩
 let no:∀(k:Nat)(ov:OV),δ.d5.mu[k]?=U (U ov)->False:=λk ov e=>by
  unfold ax.d5 at e;dsimp only at e;rw[R1] at e;let⟨_,_,z⟩:=Tq.mp e;cases z
 refine⟨sm,λa o e=>?_,λa ⟨k,ov,_,e⟩↦(no k ov e).elim,by unfold ax.d5;dsimp only;rw[pj];calc S.cx,λk l a ov ow _ _ e _=>(no k ov e).elim,λk ov e=>(no k ov e).elim,λi x e=>?_,by unfold ax.d5;dsimp only;rw[pj];calc S.len,S.tab,λa ha=>?_⟩
 .unfold km at e
  split at e
  .exact e
  .exact S.sub a o e
 .unfold ax.d5 at e
  dsimp only at e;rw[R1] at e;let⟨s,e1,e2⟩:=Tq.mp e
  match s,e2 with
  |none,e2=>cases e2
  |some (.p d),e2 =>
   cases(show U (DV.p d)=U x from e2)
   let⟨v,h1,h2⟩:=S.sl i _ e1;exact⟨v,h1,h2.same sm⟩
  |some (.o k),e2 =>
   unfold vD at e2;dsimp only at e2;split at e2
   .rename_i ds em
    cases e2
    let⟨v,h1,a,h2,rfl⟩:=S.sl i _ e1;let⟨vs,z1,z2⟩:=at' h2 em;calc⟨_,h1,?_⟩;show Is _ (.lst ds) _;erw[Is];exact⟨a,vs,Y,z1,z2⟩
   .cases e2
  |some (.t d k),e2 =>
   unfold vD at e2;dsimp only at e2;split at e2
   .rename_i ds em
    cases e2
    let⟨v,h1,a,b,u,rfl,h2,h3,h4⟩:=S.sl i _ e1;let⟨vs,z1,z2⟩:=at' h4 em;calc⟨_,h1,?_⟩;show Is _ (.tup [d,.lst ds]) _;erw[Is,ae];exact⟨a,_,Y,sm _ _ h2,u,_,Y,h3.same sm,.ref b,_,Y,⟨b,vs,Y,z1,z2⟩,Y⟩
   .cases e2
 .unfold km
  split
  .rename_i z
   let⟨k,ds,e1,e2⟩:=z;let⟨a',o,e3,e4,vs,rfl,_⟩:=S.mu k _ e2;rw[e1] at e3;cases e3;let⟨ps,q⟩:=aD.tb S.tab ha;rw[e4] at q;cases q
  .calc S.nt a ha
theorem PU{F1:Hp}{aU:-O}{PV:-(Option OV)}(S:SR F ad δ σ H)(E:Ext (km F H ad δ.mu) ad δ.d5.mu H F1 aU PV H')(tk:aD.ok H'):Ext F ad δ.mu H F ad δ.mu H'/\SR F ad δ σ H':=by
 let no:∀a,¬ Lv ad δ.d5.mu a:=λa ⟨k,ov,_,e⟩↦by
  unfold ax.d5 at e;dsimp only at e;rw[R1] at e;let⟨_,_,z⟩:=Tq.mp e;cases z
 let kp:∀a o,H a=U o->a∉aD.ad->H' a=U o:=λa o e n=>E.keep a o e (no a) n;calc⟨⟨λ_ _ e=>e,λ_ _ e=>.inl e,λa o e _ n=>kp a o e n,λ_ _ e=>e,λ_ l=>.inl l,E.gM⟩,⟨λa o e=>kp a o (S.sub a o e) (λz=>by rw[S.nt a z] at e;cases e),S.off,S.cx,S.inj,λk ov e=>?_,S.sl,S.len,tk,S.nt⟩⟩;let⟨a,o,e1,e2,h⟩:=S.mu k ov e;calc⟨a,o,e1,kp a o e2 λz=>?_,h⟩;let⟨ps,q⟩:=aD.tb S.tab z;rw[e2] at q;rcases h.kind with⟨_,y⟩|⟨_,y⟩|⟨_,y⟩<;>rw[y] at q<;>cases q
end
section
variable{X:Cx}{a b e:M}{es:-M}{f:WE}{fa:WA}{t:WT}{pos:y}
theorem PW(ha:JT X a (b9 t)):JT X a (b9 (Ao t)):=ha.weak fun σ H Q h0_=>el7 h0_ λF ad δ K S q k =>by
 let⟨_,S1⟩:=PT S
 exact⟨_,ad,δ.d5,_,S1,q,λb δ1 h1 F1 aU H1 E1 S2=>by
  let⟨e,s⟩:=PU S E1 S2.tab
  calc k _ _ h1 _ _ _ e s⟩
end
end L2
namespace LJ
open PySem L2 PySem.Spec PySem.W PyProof.Rows
section
variable[aD]{X:Cx}{k j n:Nat}{x:J}{ps:-J}{p pos:y}{e:M}{es:-M}{fa:WA}{G:GD}
end
end LJ
namespace LJ
open PySem L2
variable[aD]
def vE(ok:gz):GD:=λys ovs K=>∃d,ys=[.p d]/\ovs=[]/\cW d=ι/\ok 4 0
theorem PX:∀ok ys ovs K,vE ok ys ovs K->ovs=[]:=λok ys ovs K ⟨_,_,h,_⟩↦h
def Ap(ok:gz):WS:=(au (iH (aj 1 (vn ok) (ag (aa 0) af))) n5)
theorem PY(ok:gz):Sem 1 0 (vE ok) (Ap ok):=by
 ext ys ovs K'-⟨d,rfl,rfl,h,o⟩;unfold Ap;simp!;calc⟨d,Y,Y,λ_=>o,λz=>by rw[h] at z;cases z⟩
def Aq:GD:=λys ovs K=>∃d,ys=[.p d]/\ovs=[]/\cW d=ι/\K (.p (.bl θ)) []
def Ar:WS:=(au (aS 1 (dC .non)) (Fs 1 2 (λok=>(iH (aj 1 (vE ok) (ag (aa 0) af)))) "web"))
theorem PZ:Sem 1 2 Aq Ar:=by
 ext ys ovs K'-⟨d,rfl,rfl,h,k⟩;unfold Ar;calc aV λN hN=>?_;simp!;subst hN;calc⟨⟨Y,(show 1<3 by decide),(show 2<3 by decide)⟩,?_⟩;simp!;calc⟨d,Y,Y,h,cX k⟩
theorem P0{m:Int}{ws:-(Int×Int×Int)}(h:iB m ws):Bd 30 3 (cz m ws):=by
 calc bI.mpr ⟨by show 2<=30;symm,λd hd=>?_⟩;erw[Cy,Tr,UA] at hd;rcases hd with rfl|rfl
 .exact⟨Ui _,Ui _⟩
 .refine bI.mpr ⟨by rw[pj];calc h.h9,λd hd=>?_⟩
  let⟨y,_,rfl⟩:=Tz.mp hd;calc bI.mpr ⟨by show 3<=30;symm,λd hd=>?_⟩;erw[Cy,Tr,UA] at hd;rcases hd with rfl|rfl|rfl<;>calc⟨Ui _,Ui _⟩
theorem tJ:∀ws:-Wy,aZ (ws.map bM)<=1
 |[]=>Ui _
 |y::r=>by
  let:=tJ r;rw[TJ,aZ];show max 1 _<=1;symm
theorem Fw:∀ws:-Wy,LJT.dP (ws.map bM)=θ
 |[]=>Y
 |y::r=>by rw[TJ,LJT.dP,Fw r];rfl
theorem FA:∀ms:-Int,LJT.dP (ms.map D.int)=θ
 |[]=>Y
 |y::r=>by rw[TJ,LJT.dP,FA r];rfl
theorem P7{m:Int}{ws:-Wy}:dep (cz m ws)<=3:=by
 let:=tJ ws;show max 0 (max (aZ (ws.map bM)+1) 0)+1<=3;symm
theorem P8{m:Int}{ws:-Wy}(W:iB m ws):LJT.jP (cz m ws)=θ:=by
 let:=W.h9;show(g ((2:Nat)<=1000)&&(θ&&((g (↑(ws.map bM)<=1000)&&LJT.dP (ws.map bM))&&θ)))=θ;rw[Fw,pj,Tt (show ↑ws<=1000 by symm)];rfl
theorem P9{ms:-Int}(h:↑ms<=80):LJT.jP (lU ms)=θ:=by
 show(g (↑(ms.map D.int)<=1000)&&LJT.dP (ms.map D.int))=θ;rw[FA,pj,Tt (show ↑ms<=1000 by symm)];rfl
theorem P_{ms:-Int}:dep (lU ms)<=3:=by
 show aZ (ms.map D.int)+1<=3;rw[vB];decide
theorem As:iB 3 [(0,2,5),(0,1,0)]:=⟨by decide,by decide,by decide,by decide,by decide⟩
theorem Qa:gq 3 [(0,2,5),(0,1,0)]=R3 "3,0-2:5,0-1:0" := by decide +kernel
abbrev oV:=LJT.aP 3
noncomputable abbrev KL:KS:=⟨λ_=>False,λx _=>x=.p (.bl θ),λ_=>False,λ_=>False⟩
def Au:WS:=(au (eY (j8 (ag (dC (.int 5)) af)) (b7 2) (au (aS 3 (aj 3 ze (ag (aj 1 y6 (ag (aa 1) af)) (ag (dC (.int 12)) (ag (dC (.int 30)) af))))) (au (aS 4 (aj 1 Ae (ag (aa 3) af))) (au (a_ (gO (bA (dT (aj 2 oV (ag (aj 1 tF (ag (aa 3) af)) (ag (aa 4) af))))) (bA (dT (aj 2 oV (ag (aj 1 Aa (ag (aa 4) af)) (ag (aa 3) af)))))) (aB (dC (.bl ι))) bY) (au (aS 5 (aj 3 (kj 3) (ag (aa 1) (ag (aa 3) (ag (dC (.int 3)) af))))) (au (a_ (fG (bA (dT (aj 1 zu (ag (aa 5) af)))) (bA (dT (aj 1 Aq (ag (aa 5) af))))) (aB (dC (.bl ι))) bY) (au (aS 6 (aj 3 zz (ag (aa 1) (ag (aa 3) (ag (dC (.int 30)) af))))) (au (aS 7 (d2 (fH (j8 (ag (aj 2 eF (ag (aa 1) (ag (dC (.int 4)) af))) af)) [Z,U 1] (b7 0) cD (aj 2 eF (ag (aa 1) (ag (d2 (dC (.int 10)) (dC (.int 10)) (cg bO λi j=>.int (i ^ j.toNat))) af)))) (bX (ag (dC (.int 0)) (ag (d2 (d2 (dC (.int 10)) (dC (.int 10)) (cg bO λi j=>.int (i ^ j.toNat))) (dC (.int 1)) (oI λi j=>.int (i-j))) af))) bL)) (eY (cF (bX (ag (aa 6) (ag (aa 7) (ag (d2 (d2 (aa 6) (aa 7) bL) (aa 6) bL) (ag (bX af) af)))))) (b7 8) (au (aS 9 (dN (ag (aa 8) af) pT)) (au (aS 4 (aj 1 Ag (ag (aa 8) af))) (au (a_ (gO (bA (dT (aj 2 oV (ag (aj 1 qf (ag (aa 9) af)) (ag (aa 4) af))))) (dT (d2 (aa 9) (aa 8) j_))) (aB (dC (.bl ι))) bY) (eY (j8 (ag (dC (.int 2)) af)) (b7 10) (au (aS 11 (pK 1 Ac (ag (aa 4) af))) (au (a_ (Ao (bA (dT (aj 2 oV (ag (aa 11) (ag (aa 8) af)))))) (aB (dC (.bl ι))) bY) (iH (iL (aa 11) (ag (dC (.int 0)) af)))))))))))))))))) (au (aS 7 (bX (ag (d2 (d2 (dC (.int 10)) (dC (.int 11)) (cg bO λi j=>.int (i ^ j.toNat))) (aj 2 eF (ag (aa 1) (ag (d2 (dC (.int 10)) (dC (.int 30)) (cg bO λi j=>.int (i ^ j.toNat))) af))) bL) (ag (dC (.int 0)) af)))) (au (a_ (bA (dT (aj 2 oV (ag (aj 1 qf (ag (dN (ag (aa 7) af) pT) af)) (ag (d2 (dN (ag (d2 (aa 7) (dC (.int 0)) bu) af) ak) (dC (.str " 0")) bL) af))))) (aB (dC (.bl ι))) bY) (aB (gP (d2 (aj 1 qf (ag (bX af) af)) (dC (.str "-")) oEq) (d2 (aj 1 tF (ag (bW (ag (dC (.int 3)) (ag (bW (ag (bW (ag (dC (.int 0)) (ag (dC (.int 2)) (ag (dC (.int 5)) af)))) (ag (bW (ag (dC (.int 0)) (ag (dC (.int 1)) (ag (dC (.int 0)) af)))) af))) af))) af)) (dC (.str "3,0-2:5,0-1:0")) oEq))))))
theorem Qb(ns:-Int)(hn:ns.length<=63):Au KL ⟨Z::U (.o 0)::R5 10 Z,[U (gU ns 0 0)]⟩:=by
 unfold Au;calc aV λN hN=>?_;simp![aq,aO,aE,ak,aF,aH,aI,ar,aJ,aM,aG,aK,aN];calc⟨by decide,?_⟩;refine oB (λi δ=>∃o,aY (1000*i) o/\δ=⟨Z::U (.o 0)::R5 10 Z,[U o]⟩) ⟨gU ns 0 0,⟨ns,0,0,Y,hn,⋯,⋯⟩,Y⟩ ?_ ?_
 .ext j d δ L hj ⟨o,P,rfl⟩ hL
  let⟨FC,rfl⟩:=j9 hj;let FC:j<5:=FC;calc⟨trivial,?_⟩;erw[b7,Ut,YX,U7,U8];generalize(0+(j:Int))=jt;calc aV λN2 cJ=>?_;simp![aq,aO,aE,ak,aF,aH,aI,ar,aJ,aM,aG,aK,aN];calc⟨1000*j,o,Y,Y,P,λo1 P1=>?_⟩;simp![aq,aO,aE,ak,aF,aH,aI,ar,aJ,aM,aG,aK,aN];calc⟨1000*j,12,30,o1,Y,Y,P1,⋯,⋯,⋯,⋯,⋯,λm ws o2 W _ _ P2=>?_⟩;let N4:=W.h9;simp![aq,aO,aE,ak,aF,aH,aI,ar,aJ,aM,aG,aK,aN];subst cJ;calc aV λN2 cJ=>?_;simp![aq,aO,aE,ak,aF,aH,aI,ar,aJ,aM,aG,aK,aN];calc⟨m,ws,W,Y,Y,?_⟩;simp![aq,aO,aE,ak,aF,aH,aI,ar,aJ,aM,aG,aK,aN]
  subst cJ;calc aV λN2 cJ=>?_;calc gT λA B hA hB=>?_;simp![aq,aO,aE,ak,aF,aH,aI,ar,aJ,aM,aG,aK,aN];calc⟨m,ws,W,Y,Y,?_⟩;simp![aq,aO,aE,ak,aF,aH,aI,ar,aJ,aM,aG,aK,aN];calc⟨_,Ui _,by decide,Y,Y,Y,?_⟩;simp![aq,aO,aE,ak,aF,aH,aI,ar,aJ,aM,aG,aK,aN];calc⟨m,ws,W,Y,Y,?_⟩;simp![aq,aO,aE,ak,aF,aH,aI,ar,aJ,aM,aG,aK,aN];calc⟨_,P7,by decide,P8 W,Y,Y,?_⟩;simp![aq,aO,aE,ak,aF,aH,aI,ar,aJ,aM,aG,aK,aN];subst hB;simp![aq,aO,aE,ak,aF,aH,aI,ar,aJ,aM,aG,aK,aN];subst cJ;calc aV λN2 cJ=>?_;simp![aq,aO,aE,ak,aF,aH,aI,ar,aJ,aM,aG,aK,aN]
  calc⟨1000*j+400,3,30,3,cz m ws,o2,Y,Y,P2.mono ⋯,⋯,by decide,by decide,P0 W,by decide,by decide,by decide,λbad o3 Bb P3=>?_⟩;simp![aq,aO,aE,ak,aF,aH,aI,ar,aJ,aM,aG,aK,aN];subst cJ;calc aV λN2 cJ=>?_;calc gT λA B hA hB=>?_;simp![aq,aO,aE,ak,aF,aH,aI,ar,aJ,aM,aG,aK,aN];refine⟨bad,Y,Y,?_⟩
  let go:N2 ⟨[Z,U (.o 0),U (.p (.int jt)),U (.p (cz m ws)),U (.p (.str (gq m ws))),U (.p bad),Z,Z,Z,Z,Z,Z],[U o3]⟩:=by
   subst cJ;calc aV λN2 cJ=>?_;simp![aq,aO,aE,ak,aF,aH,aI,ar,aJ,aM,aG,aK,aN];calc⟨1000*j+450,m,30,ws,o3,W,Y,Y,P3.mono ⋯,⋯,⋯,⋯,λus o4 hu nd SD ul P4=>?_⟩;simp![aq,aO,aE,ak,aF,aH,aI,ar,aJ,aM,aG,aK,aN];subst cJ;calc aV λN2 cJ=>?_;simp![aq,aO,aE,ak,aF,aH,aI,ar,aJ,aM,aG,aK,aN];calc⟨1000*j+481,4,o4,Y,Y,P4.mono ⋯,⋯,⋯,⋯,λr o5 r0 r1 P5=>?_⟩;simp![aq,aO,aE,ak,aF,aH,aI,ar,aJ,aM,aG,aK,aN];calc⟨⋯,?_⟩;refine su (λi acc δ=>∃gs o,↑gs=i/\(∀x∈gs,d_ x)/\acc=gs.map D.int/\aY (1000*j+490+i) o/\δ=⟨[Z,U (.o 0)],[U o]⟩) ⟨[],o5,Y,(λ_ h=>nomatch h),Y,P5.mono ⋯,Y⟩ ?_ ?_
   .ext i d acc δ L2 hi ⟨gs,o,gl,gt,rfl,P,rfl⟩ Qc
    let SE:=(j9 hi).1;simp![aq,aO,aE,ak,aF,aH,aI,ar,aJ,aM,aG,aK,aN];calc⟨by unfold bO;decide,1000*j+490+i,10 ^ US 10,o,Y,Y,P,⋯,by decide,by decide,λx o6 x0 x1 P6=>?_⟩;simp![aq,aO,aE,ak,aF,aH,aI,ar,aJ,aM,aG,aK,aN];calc⟨⋯,Qc _ _ ⟨gs++[x],o6,by rw[Cv,gl];rfl,λy hy=>?_,by rw[TK];rfl,P6.mono ⋯,Y⟩⟩;rcases T1.mp hy with hy|hy
    .exact gt y hy
    .cases Ul.mp hy
     exact⟨x0,x1⟩
   .ext acc δ ⟨gs,o6,gl,gt,rfl,P6,rfl⟩
    calc⟨trivial,?_⟩;rw[ju] at gl P6;let g4:↑gs<=4:=by symm
    simp![aq,aO,aE,ak,aF,aH,aI,ar,aJ,aM,aG,aK,aN];calc⟨by unfold bO;decide,⋯,?_⟩;let ge:gs.map D.int++[D.int 0,D.int (10 ^ US 10-1)]=(gs++[0,10 ^ 10-1]).map D.int:=by rw[TK];rfl
    rw[ge]
    let Av:∀x∈gs++[0,10 ^ 10-1],d_ x:=λx hx=>by
     rcases T1.mp hx with hx|hx
     .exact gt x hx
     .erw[Cy,Tr,UA] at hx
      rcases hx with rfl|rfl<;>exact⟨by decide,by decide⟩
    let Qd:↑(gs++[0,10 ^ 10-1])<=6:=by rw[Cv];erw[Cw,Wf];symm
    generalize gs++[0,10 ^ 10-1]=gr at Av Qd;subst cJ;calc y0 λg' b' K2 hg hb' hK=>?_;simp![aq,aO,aE,ak,aF,aH,aI,ar,aJ,aM,aG,aK,aN];calc⟨⋯,⋯,?_⟩;let tu:∀x∈us,d_ x:=λx hx=>by let:=hu x hx;exact⟨this.1,by let:=this.2;symm⟩
    let all:∀d∈[D.lst (us.map D.int),.lst (gr.map D.int),.lst (us.map D.int++gr.map D.int++us.map D.int),.lst []],∃ms:-Int,d=lU ms/\↑ms<=80/\∀x∈ms,d_ x:=λd hd=>by
     erw[Cy,Tr,UA] at hd;rcases hd with rfl|rfl|rfl|rfl
     .exact⟨us,Y,⋯,tu⟩
     .exact⟨gr,Y,⋯,Av⟩
     .refine⟨us++gr++us,by unfold lU;rw[TK,TK],by erw[Cv];symm,λx hx=>?_⟩
      rcases T1.mp hx with hx|hx
      .rcases T1.mp hx with hx|hx
       .exact tu x hx
       .exact Av x hx
      .exact tu x hx
     .exact⟨[],Y,by decide,λ_ h=>nomatch h⟩
    generalize[D.lst (us.map D.int),.lst (gr.map D.int),.lst (us.map D.int++gr.map D.int++us.map D.int),.lst []]=ah at all;subst hg hb' hK;refine oB (λ_ δ=>∃tx,δ=⟨[Z,U (.o 0),U (.p (.int jt)),U (.p (cz m ws)),U (.p (.str tx)),U (.p bad),U (.p (.lst (us.map D.int))),U (.p (.lst (gr.map D.int))),Z,Z,Z,Z],[U o6]⟩) ⟨_,Y⟩ ?_ ?_
    .ext i d δ L3 hi ⟨tx,rfl⟩ Qe
     let⟨ms,rfl,ml,mt⟩:=all d (T2 hi);let F:=Fits.of ml mt;calc⟨trivial,?_⟩;erw[b7,U7,U8];calc aV λN2 cJ=>?_;simp![aq,aO,aE,ak,aF,aH,aI,ar,aJ,aM,aG,aK,aN,lU];subst cJ;calc aV λN2 cJ=>?_;simp![aq,aO,aE,ak,aF,aH,aI,ar,aJ,aM,aG,aK,aN];calc⟨ms,F,Y,Y,?_⟩;simp![aq,aO,aE,ak,aF,aH,aI,ar,aJ,aM,aG,aK,aN];subst cJ;calc aV λN2 cJ=>?_;calc gT λA B hA hB=>?_;simp![aq,aO,aE,ak,aF,aH,aI,ar,aJ,aM,aG,aK,aN];calc⟨ms,F,Y,Y,?_⟩;simp![aq,aO,aE,ak,aF,aH,aI,ar,aJ,aM,aG,aK,aN];calc⟨_,Ui _,by decide,Y,Y,Y,?_⟩;simp![aq,aO,aE,ak,aF,aH,aI,ar,aJ,aM,aG,aK,aN,fu]
     calc⟨by rw[vB];decide,?_⟩;subst hB;simp![aq,aO,aE,ak,aF,aH,aI,ar,aJ,aM,aG,aK,aN];subst cJ;calc y0 λg' b' K2 hg hb' hK=>?_;simp![aq,aO,aE,ak,aF,aH,aI,ar,aJ,aM,aG,aK,aN];calc⟨by decide,?_⟩;subst hg hb' hK;refine oB (λ_ δ=>δ=⟨[Z,U (.o 0),U (.p (.int jt)),U (.p (cz m ws)),U (.p (.str (ff ms))),U (.p bad),U (.p (.lst (us.map D.int))),U (.p (.lst (gr.map D.int))),U (.p (.lst (ms.map D.int))),U (.p (.lst (ms.map D.int))),Z,Z],[U o6]⟩) Y ?_ ?_
     .ext i2 d2 δ L4 zS rfl Aw
      let Aw:=Aw _ Y;let⟨ai,rfl⟩:∃ai,d2=.int ai:=⟨_,(j9 zS).2⟩;calc⟨trivial,?_⟩;erw[b7,U7,U8];calc aV λN2 cJ=>?_;simp![aq,aO,aE,ak,aF,aH,aI,ar,aJ,aM,aG,aK,aN];calc⟨ms,ml,mt,Y,Y,?_⟩;simp![aq,aO,aE,ak,aF,aH,aI,ar,aJ,aM,aG,aK,aN];subst cJ;calc aV λN2 cJ=>?_;calc gT λA B hA hB=>?_;simp![aq,aO,aE,ak,aF,aH,aI,ar,aJ,aM,aG,aK,aN,Ao,ax.d5,vD];calc⟨lU ms,P_,by decide,P9 ml,Y,Y,?_⟩;simp![aq,aO,aE,ak,aF,aH,aI,ar,aJ,aM,aG,aK,aN];subst hB;simp![aq,aO,aE,ak,aF,aH,aI,ar,aJ,aM,aG,aK,aN];subst cJ;simp![aq,aO,aE,ak,aF,aH,aI,ar,aJ,aM,aG,aK,aN]
      exact⟨⋯,Aw⟩
     .ext δ rfl
      calc⟨trivial,?_⟩;simp![aq,aO,aE,ak,aF,aH,aI,ar,aJ,aM,aG,aK,aN];exact Qe _ ⟨_,Y⟩
    .ext δ ⟨tx,rfl⟩
     calc⟨trivial,?_⟩;simp![aq,aO,aE,ak,aF,aH,aI,ar,aJ,aM,aG,aK,aN];exact hL _ ⟨o6,P6.mono ⋯,Y⟩
  cases q:cW bad with
  |true =>
   simp![aq,aO,aE,ak,aF,aH,aI,ar,aJ,aM,aG,aK,aN];subst hB;exact go
  |false =>
   simp![aq,aO,aE,ak,aF,aH,aI,ar,aJ,aM,aG,aK,aN];calc⟨bad,Y,Y,q,?_⟩;simp![aq,aO,aE,ak,aF,aH,aI,ar,aJ,aM,aG,aK,aN];subst hB;exact go
 .ext δ ⟨o,P,rfl⟩
  calc⟨trivial,?_⟩;subst hN;dsimp only;calc aV λN hN=>?_;simp![aq,aO,aE,ak,aF,aH,aI,ar,aJ,aM,aG,aK,aN];calc⟨by unfold bO;decide,by unfold bO;decide,5000,10 ^ US 30,o,Y,Y,P.mono (by rw[ju];decide),by decide,by decide,by decide,λx o6 x0 x1 P6=>?_⟩;simp![aq,aO,aE,ak,aF,aH,aI,ar,aJ,aM,aG,aK,aN];subst hN
  let F:Fits [10 ^ US 11+x,0]:=⟨(show 2<=80 by decide),λn hn=>by
   erw[Cy,Tr,UA] at hn;let x1:x<10 ^ 30:=x1;let e:(10:Int) ^ US 11=10 ^ 11:=Y;rcases hn with rfl|rfl
   .rw[e];symm
   .decide⟩
  generalize(10:Int) ^ US 11+x=y at F;calc aV λN hN=>?_;calc gT λA B hA hB=>?_;simp![aq,aO,aE,ak,aF,aH,aI,ar,aJ,aM,aG,aK,aN,eQ];calc⟨[y,0],F,Y,Y,?_⟩;let ly:=u_ (n:=y) (k:=40) (by decide) (F.2 y Cu);let l0:↑(R3 " 0")=2:=by decide +kernel
  simp![aq,aO,aE,ak,aF,aH,aI,ar,aJ,aM,aG,aK,aN,eQ];refine⟨vy (F.2 y Cu),⋯,?_⟩
  let e:ff [y,0]=num y++R3 " 0" := by
   show num y++R3 " " ++ num 0=_;rw[VF,show R3 " " ++ num 0=R3 " 0" by decide +kernel]
  rw[e];calc⟨_,Ui _,by decide,Y,Y,Y,?_⟩;simp![aq,aO,aE,ak,aF,aH,aI,ar,aJ,aM,aG,aK,aN];subst hB;simp![aq,aO,aE,ak,aF,aH,aI,ar,aJ,aM,aG,aK,aN];subst hN;simp![aq,aO,aE,ak,aF,aH,aI,ar,aJ,aM,aG,aK,aN];calc⟨[],⟨by decide,λ_ h=>nomatch h⟩,Y,Y,?_⟩;simp![aq,aO,aE,ak,aF,aH,aI,ar,aJ,aM,aG,aK,aN,show ay (.str (ff [])) (.str (R3 "-"))=θ from fu (.str (R3 "-"))];calc⟨3,[(0,2,5),(0,1,0)],As,Y,Y,?_⟩;rw[Qa];simp![aq,aO,aE,ak,aF,aH,aI,ar,aJ,aM,aG,aK,aN,fu]
end LJ
namespace HT
open PySem PySem.Spec PyProof.Rows
section
open PySem.SeqAt
open PySem.AutoSeq1 (wpAny_loadPart')
open PySem.MeetsSeq PySem.MeetsSeq2 PySem.MeetsSeq3
end
section
variable{prog:q}{w:I}{A:l}{E:aT}{s:L}
end
end HT
namespace L2
open PySem PySem.Spec PyProof.Rows PySem.W
section
variable{X:Cx}{pins:av}{σ:St}{H:Hp}{s:L}{E:aT}{l q I S:O}{P:-V->Hp->Prop}{xs:-V}{d:B}{R:Result->L->Prop}
end
variable[aD]
section
variable{X:Cx}{params:Arguments}{body:M}{scope:u}{sL:y}{x:J}{Nb:-J}{cp:-(Option Nat)}{fb:WE}{T:O}
variable{e:M}{f:WE}{p1 q1 qL Qf:y}
end
end L2
namespace L2
open PySem PySem.Spec PyProof.Rows
noncomputable def Qg:M->-J
 |.Name x _=>[x]
 |.Tuple es _ _=>es.filterMap fun
  |.Name x _=>U x
  |_=>Z
 |_=>[]
noncomputable def cf(N:-J)(cp:-(Option Nat))(tg:M):-J:=Qg tg++cp.filterMap λc=>c.bind λi=>N[i]?
variable[aD]
section
variable{X:Cx}{tg iter elt:M}{ifs:-M}{scope:u}{pos:y}{w:WI}{g:WG}{t:WT}{f:WE}{cp:-(Option Nat)}
theorem Qh(hi:JI X tg iter (ij w))(hg:∀d,(cf X.N cp tg).Nodup->JG (bT X scope (cf X.N cp tg) d) tg (ig g))(hf:∀d,JF (bT X scope (cf X.N cp tg) d) ifs (b9 t))(he:∀d,JE (bT X scope (cf X.N cp tg) d) elt (tD f))(hc:X.calm=θ:=by rfl)(hn:μ (cf X.N cp tg).Nodup=θ:=by kernel_rfl)
  (hk:scope.kind=.function:=by rfl) (ho:j2 X.N X.env.scope scope (cf X.N cp tg) cp=θ:=by kernel_rfl) (hs:∀x,foldedSetIterable iter X.env x=pure x:=by ext _;rfl) :
  JE X (.ListComp elt [⟨tg,iter,ifs,0⟩] scope pos) (tD (fH w cp g t f)):=Di cp _ hc hi (λd=>hg d (U3 hn)) hf he hk ho hs
theorem Qi(hi:JI X tg iter (ij w))(hg:∀d,(cf X.N cp tg).Nodup->JG (bT X scope (cf X.N cp tg) d) tg (ig g))(hf:∀d,JF (bT X scope (cf X.N cp tg) d) ifs (b9 t))(he:∀d,JE (bT X scope (cf X.N cp tg) d) elt (tD f))(hc:X.calm=θ:=by rfl)(hn:μ (cf X.N cp tg).Nodup=θ:=by kernel_rfl)
  (hk:scope.kind=.function:=by rfl) (ho:j2 X.N X.env.scope scope (cf X.N cp tg) cp=θ:=by kernel_rfl) (hs:∀x,foldedSetIterable iter X.env x=pure x:=by ext _;rfl) :
  JE X (.ListComp elt [⟨tg,iter,ifs,0⟩] scope pos) (tD (k_ w cp g t f)):=Lk cp _ hc hi (λd=>hg d (U3 hn)) hf he hk ho hs
theorem Qj[b_]{i:Nat}{x:J}{pos' fZ:y}(hN:X.N.Nodup)(hit:JI X tg iter (ij w))(hg:∀d,(cf X.N cp tg).Nodup->JG (bT X scope (cf X.N cp tg) d) tg (ig g))(hf:∀d,JF (bT X scope (cf X.N cp tg) d) ifs (b9 t))(he:∀d,JE (bT X scope (cf X.N cp tg) d) elt (tD f))(hi:X.N[i]?=U x:=by rfl)(hx:Loc X.env.scope x:=by trivial)(hc:X.calm=θ:=by rfl)(hn:μ (cf X.N cp tg).Nodup=θ:=by kernel_rfl)
  (hk:scope.kind=.function:=by rfl) (ho:j2 X.N X.env.scope scope (cf X.N cp tg) cp=θ:=by kernel_rfl) (hs:∀x,foldedSetIterable iter X.env x=pure x:=by ext _;rfl)
  (rp:swapsWith (.ListComp elt [⟨tg,iter,ifs,0⟩] scope pos) (U (.Name x pos')) fZ.line X.env=pure θ:=by rfl)
  (kD:dS X x:=by first|exact .inl Y|exact .inr Y|assumption) :
  JS X (.Assign [.Name x pos'] (.ListComp elt [⟨tg,iter,ifs,0⟩] scope pos) fZ) (cS (aS i (fH w cp g t f))):=Ll cp _ hN hi hx hc hit (λd=>hg d (U3 hn)) hf he hk ho hs rp kD
end
end L2
namespace LJ
open PySem L2 PySem.Spec PySem.W PyProof.Rows
variable[aD]{X:Cx}{Z:Ev}{x:J}{ps:-J}{G:GD}{e:M}{es:-M}{fa:WA}{p pos:y}{j k n:Nat}
end LJ
namespace LJ
open PySem L2 PySem.Spec PySem.W PyProof.Rows
variable[aD]
def Ax(V:Ev)(x z:J):Prop:=∃u,V.mg x=U u/\RelV (.str z) u
theorem Qk{X:Cx}{x z:J}{pos:y}(C:Ax ⟨X.prog,X.w,X.K,X.mg,X.base⟩ x z)(hg:Gl X x:=by rfl)(hd:bw x:=by decide):JE X (.Name x pos) (tD (dC (.str z))):=let⟨_,a,b⟩:=C;Nt hg a b hd
def Ay(K:nG)(x z:J):Prop:=∃u,TV K mainGlobals x=U (U u)/\RelV (.str z) u
theorem Ay.v{K:nG}{h:R}{mg:J->Option B}{P:q}{w:I}{base:R}{x z:J}(d:Ay K x z)(X:K.In h)(G:h.Ns mainGlobals mg):Ax ⟨P,w,K,mg,base⟩ x z :=
 let⟨u,a,r⟩:=d
 ⟨u,T3 X G a,r⟩
end LJ
namespace LJ
open PySem L2
noncomputable def top(i:Nat):o:=PySem.Challenge.pw_lotjoin_k76_webs_and_lists_written.main.body.getD i (.Pass ⟨0,0,0,0⟩)
section
variable[aD]{Z:Ev}
set_option hygiene false
local macro_rules | `(tactic| ac_rfl) => `(tactic| repeat' first|(show JE _ (.Name _ _) _;(first|exact dv _|exact N7 (by assumption)|exact Qk (by assumption)))|(show JE _ (.Constant _ _ _) _;(first|exact de|exact pE|exact xY))|(show JA _ _ _;(first|exact dQ|refine bV ?_ ?_|refine du ?_ ?_|refine kZ ?_ ?_|refine gN ?_ ?_|refine k6 ?_ ?_|refine nR ?_ ?_|refine iE ?_ ?_))|(show JE _ (.Call _ _ _ _) _;(first|refine yW PySem.F.slot_str_join PySem.F.type_str_join Ni ?_ ?_|refine yW X7 PySem.F.type_str_split Nk ?_ ?_|refine yW Xv PySem.F.type_str_partition Nl ?_ ?_|refine rN Nd (by rfl) B.str uu ?_|refine rN Nf (by rfl) B.int ur ?_|refine gk (by assumption) hr ?_|refine N6 (by assumption) hr ?_|refine pF uQ (by rfl) B.len WH ?_|refine pF (LV rfl) (by rfl) B.all KR ?_|refine pF (LW rfl) (by rfl) B.min L_ ?_|refine rN DJ (by rfl) B.list rK ?_|refine rN LU (by rfl) B.tuple pw ?_|refine fQ yB (by rfl) B.isinstance (by rfl) B.int ur ?_|refine fQ sj (by rfl) B.isinstance (by rfl) B.bool rJ ?_|refine fQ yC (by rfl) B.isinstance (by rfl) B.str uu ?_|refine fQ sk (by rfl) B.isinstance (by rfl) B.tuple pw ?_|refine Ma rfl (by rfl) B.list rK (by rfl) B.range L9 ?_|refine NN rfl hu (by rfl) B.len WH (by rfl) B.set KQ ?_|refine(pf Vd PySem.F.slot_list_append PySem.F.type_list_append Ci ?_ ?_).weak L5|refine(pf Vd PySem.F.slot_list_extend PySem.F.type_list_extend Jg ?_ ?_).weak L6|refine(pf Vd PySem.F.slot_list_pop PySem.F.type_list_pop Jh ?_ ?_).weak L7))|(show JE _ (.Subscript _ _ _) _;(first|refine nP ou ?_ ?_ λ_ _=>rfl|refine pY ?_ ?_ ?_))|(show JE _ (.BinOp _ _ _ _) _;(first|refine eO (op:=.Add) lz ?_ ?_|refine eO (op:=.Sub) pO ?_ ?_|refine eO (op:=.Mult) LH ?_ ?_|refine eO (op:=.Mod) LI ?_ ?_|refine eO (op:=.FloorDiv) Ny ?_ ?_|refine eO (op:=.Pow) uN ?_ ?_|refine Mc ?_ ?_))|(show JE _ (.Compare _ _ _ _) _;(first|refine iX (op:=.In) Ng ?_ ?_ (by rfl)|refine iX (op:=.Eq) (oq hu) ?_ ?_ (by rfl)|refine iX (op:=.NotEq) (pP hu) ?_ ?_ (by rfl)|refine iX (op:=.Lt) (DB hu) ?_ ?_ (by rfl)|refine iX (op:=.LtE) r_ ?_ ?_ (by rfl)|refine iX (op:=.Gt) uO ?_ ?_ (by rfl)|refine LQ r_ r_ ?_ ?_ ?_))|(show JE _ _ _;(first|refine Np ?_|refine Nq ?_|refine nX ?_|refine K7 ?_|refine nW ?_|refine rP ?_ ?_|refine La ?_ ?_|refine uD ?_|refine Lb ?_|refine Lc ?_ ?_ ?_|refine Qh ?_ (λd nd=>?_) (λd=>?_) λd=>?_|refine Qi ?_ (λd nd=>?_) (λd=>?_) λd=>?_))|(show JS _ _ _;(first|refine Fd (by assumption) R Og hr ?_|refine OK (by assumption) R (f9 o8 bg)|refine iY ?_|refine j5 ?_ ?_ ?_|refine Qj nd ?_ (λd nd=>?_) (λd=>?_) λd=>?_|refine mG nd rfl (by trivial) ?_|refine Lf ?_|refine(wx ?_ (BI ?_ ?_ set_list)).weak L8|refine Lg ?_ ?_|refine Lh q0h rfl ?_ ?_ ?_|exact Md))|(show bZ _ _ _;(first|refine iI ?_|refine gf ?_ ?_|exact j4|exact SF))|(show JT _ _ _;(first|refine iG (op:=.Eq) (oq hu) ?_ ?_ (by rfl)|refine iG (op:=.NotEq) (pP hu) ?_ ?_ (by rfl)|refine iG (op:=.Lt) (DB hu) ?_ ?_ (by rfl)|refine iG (op:=.Gt) uO ?_ ?_ (by rfl)|refine iG (op:=.GtE) LL ?_ ?_ (by rfl)|refine iG (op:=.In) (LO hu) ?_ ?_ (by rfl)|refine Nu r_ r_ ?_ ?_ ?_|refine PW ?_|refine K8 ?_|refine JW.jt (uC ?_ ?_)|refine JW.jt (rO ?_ ?_)|refine mF ?_))|(show JW _ _ _;(first|refine uC ?_ ?_|refine x4 ?_|refine rO ?_ ?_|refine C_ ?_))|refine Nn ?_ ?_|exact Nm|refine Nr ?_|exact pQ|refine pR ?_|refine LD (by rfl) B.range ?_|refine LF (by rfl) B.range ?_|refine LB ?_|exact x5 nd rfl (by trivial)|refine Dd rfl ?_|exact Dc|refine x6 ?_ ?_|exact De|refine Li ?_)
noncomputable abbrev FD:o:=top 19
abbrev FE(Z:Ev):Prop:=Fx Z 1 "is_whole" ["thing"] 1 ve
theorem Ql(D:Dx Z "is_whole" FD)(B:BT Z.mg):FE Z:=cY (N:=["thing"]) D eR λhr nd hu=>⟨zg,(by ac_rfl),EE⟩
noncomputable abbrev FF:o:=top 20
abbrev vF(Z:Ev):Prop:=Fx Z 2 "is_within" ["thing", "least", "most"] 3 oK
theorem Qm(D:Dx Z "is_within" FF)(B:BT Z.mg)(SG:FE Z):vF Z:=cY (N:=["thing", "least", "most"]) D mR λhr nd hu=>⟨zh,(by ac_rfl),EF⟩
noncomputable abbrev FG:o:=top 21
abbrev Az(Z:Ev):Prop:=Fx Z 1 "is_tuple_of" ["thing", "size"] 2 vf
theorem Qn(D:Dx Z "is_tuple_of" FG)(B:BT Z.mg):Az Z:=cY (N:=["thing", "size"]) D oM λhr nd hu=>⟨zi,(by ac_rfl),NO⟩
noncomputable abbrev FH:o:=top 22
abbrev FI(Z:Ev):Prop:=Fx Z 3 "are_ends" ["many", "one", "other"] 3 zj
theorem Qo(D:Dx Z "are_ends" FH)(B:BT Z.mg)(FJ:vF Z):FI Z:=cY (N:=["many", "one", "other"]) D mR λhr nd hu=>⟨zk,(by ac_rfl),NP⟩
noncomputable abbrev FK:o:=top 23
abbrev FL(Z:Ev):Prop:=Fx Z 4 "is_way" ["many", "thing"] 2 zo
theorem Qp(D:Dx Z "is_way" FK)(B:BT Z.mg)(SH:Ct Z "MOST_PRICE" 1000000000)(Qq:Az Z)(SI:FI Z)(FJ:vF Z):FL Z:=cY (N:=["many", "thing"]) D oM λhr nd hu=>⟨zp,(by ac_rfl),NQ⟩
noncomputable abbrev FN:o:=top 24
abbrev FO(Z:Ev):Prop:=Fx Z 5 "are_ways" ["many", "thing"] 2 zq
theorem Qr(D:Dx Z "are_ways" FN)(B:BT Z.mg)(SJ:Ct Z "MOST_WAYS" 30)(SK:FL Z):FO Z:=cY (N:=["many", "thing"]) D oM λhr nd hu=>⟨zr,(by ac_rfl),NR⟩
noncomputable abbrev FP:o:=top 25
abbrev tK(Z:Ev):Prop:=Fx Z 6 "is_web" ["thing"] 1 sT
theorem Qs(D:Dx Z "is_web" FP)(B:BT Z.mg)(SM:Ct Z "MOST_HOUSES" 12)(Qq:Az Z)(FJ:vF Z)(SN:FO Z):tK Z:=cY (N:=["thing"]) D eR λhr nd hu=>⟨zt,(by ac_rfl),NT⟩
theorem Qt(h:tK Z):Fx Z 6 "is_web" ["thing"] 1 EO:=by
 let⟨f,fd,F⟩:=h.ex;calc⟨f,fd,F.ok.imp λvs H Q E ⟨hl,Fz,ad,ys,ovs,K,S,⟨m,ws,W,e1,e2,k⟩,kk⟩↦⟨hl,Fz,ad,ys,ovs,K,S,⟨_,e1,e2,by rw[EJ W];calc k⟩,kk⟩,F.rH,F.kp,F.bd⟩
noncomputable abbrev AA:o:=top 26
abbrev FQ(Z:Ev):Prop:=Fx Z 7 "need_web" ["web"] 1 zB
theorem Qu(D:Dx Z "need_web" AA)(B:BT Z.mg)(AB:tK Z):FQ Z:=have G2:=Qt AB;cY (N:=["web"]) D eR λhr nd hu=>⟨zC,(by ac_rfl),N5⟩
noncomputable abbrev FT:o:=top 30
abbrev FU(Z:Ev):Prop:=Fx Z 1 "way_text" ["way"] 1 zT
theorem Qv(D:Dx Z "way_text" FT)(B:BT Z.mg):FU Z:=cY (N:=["way", "one", "other", "price"]) D eR λhr nd hu=>⟨zU,(by ac_rfl),Pj⟩
noncomputable abbrev AD:o:=top 31
abbrev FV(Z:Ev):Prop:=Fx Z 8 "show_web" ["web"] 1 tF
theorem Qw(D:Dx Z "show_web" AD)(B:BT Z.mg)(SO:FQ Z)(SQ:FU Z):FV Z:=cY (N:=["web"]) D eR λhr nd hu=>⟨zV,(by ac_rfl),Pl⟩
noncomputable abbrev FW:o:=top 32
abbrev FX(Z:Ev):Prop:=Fx Z 1 "show_list" ["numbers"] 1 qf
theorem Qx(D:Dx Z "show_list" FW)(B:BT Z.mg):FX Z:=cY (N:=["numbers"]) D eR λhr nd hu=>⟨zW,(by ac_rfl),Pn⟩
noncomputable abbrev FY:o:=top 33
abbrev AE(Z:Ev):Prop:=Fx Z 1 "need_text" ["thing"] 1 vA
theorem Qy(D:Dx Z "need_text" FY)(B:BT Z.mg):AE Z:=cY (N:=["thing"]) D eR λhr nd hu=>⟨zX,(by ac_rfl),Po⟩
noncomputable abbrev FZ:o:=top 34
abbrev F0(Z:Ev):Prop:=Fx Z 1 "is_number_text" ["text"] 1 zY
theorem Qz(D:Dx Z "is_number_text" FZ)(B:BT Z.mg)(SS:Ct Z "MOST_FIGURES" 10)(SU:Ax Z "FIGURES" "0123456789"):F0 Z:=cY (N:=["text"]) D eR λhr nd hu=>⟨zZ,(by ac_rfl),Pt⟩
noncomputable abbrev F7:o:=top 35
abbrev vG(Z:Ev):Prop:=Fx Z 2 "read_number" ["text"] 1 oR
theorem QA(D:Dx Z "read_number" F7)(B:BT Z.mg)(SV:F0 Z):vG Z:=cY (N:=["text"]) D eR λhr nd hu=>⟨z6,(by ac_rfl),Pu⟩
noncomputable abbrev F8:o:=top 36
abbrev F9(Z:Ev):Prop:=Fx Z 3 "read_way" ["text"] 1 z9
theorem QB(D:Dx Z "read_way" F8)(B:BT Z.mg)(F_:vG Z):F9 Z:=cY (N:=["text", "by_dash", "by_colon"]) D eR λhr nd hu=>⟨z_,(by ac_rfl),Py⟩
noncomputable abbrev Ga:o:=top 37
abbrev Gb(Z:Ev):Prop:=Fx Z 7 "read_web" ["text"] 1 Aa
theorem QC(D:Dx Z "read_web" Ga)(B:BT Z.mg)(QD:AE Z)(SW:F9 Z)(F_:vG Z)(AB:tK Z):Gb Z:=cY (N:=["text", "parts", "web"]) D eR λhr nd hu=>⟨Ab,(by ac_rfl),PA⟩
noncomputable abbrev Gd:o:=top 38
abbrev Ge(Z:Ev):Prop:=Fx Z 3 "read_list" ["text"] 1 Ac
theorem QE(D:Dx Z "read_list" Gd)(B:BT Z.mg)(QD:AE Z)(F_:vG Z):Ge Z:=cY (N:=["text"]) D eR λhr nd hu=>⟨Ad,(by ac_rfl),PC⟩
noncomputable abbrev Gf:o:=top 40
abbrev Gg(Z:Ev):Prop:=Fx Z 1 "_law_spread" ["cell", "at"] 2 y3
theorem QF(D:Dx Z "_law_spread" Gf)(B:BT Z.mg):Gg Z:=cY (N:=["cell", "at", "primes", "one", "two", "three"]) D oM λhr nd hu=>⟨y4,(by ac_rfl),NA⟩
noncomputable abbrev Gh:o:=top 42
abbrev Gi(Z:Ev):Prop:=Fx Z 1 "_law_anew" ["pen"] 1 y6
theorem QG(D:Dx Z "_law_anew" Gh)(B:BT Z.mg):Gi Z:=cY (N:=["pen"]) D eR λhr nd hu=>⟨y7,(by ac_rfl),NB⟩
noncomputable abbrev Gj:o:=top 43
abbrev oW(Z:Ev):Prop:=Fx Z 2 "_law_take" ["pen", "many"] 2 eF
theorem QH(D:Dx Z "_law_take" Gj)(B:BT Z.mg)(SX:Gg Z):oW Z:=cY (N:=["pen", "many", "at", "cell", "found"]) D oM λhr nd hu=>⟨y8,(by ac_rfl),NC⟩
noncomputable abbrev Gk:o:=top 44
abbrev vH(Z:Ev):Prop:=Fx Z 1 "_law_is_whole" ["thing"] 1 vg
theorem QI(D:Dx Z "_law_is_whole" Gk)(B:BT Z.mg):vH Z:=cY (N:=["thing"]) D eR λhr nd hu=>⟨EK,(by ac_rfl),NU⟩
noncomputable abbrev Gm:o:=top 46
abbrev Gn(Z:Ev):Prop:=Fx Z 3 "_law_pairs_of" ["pen", "kind", "many"] 3 y9
theorem QJ(D:Dx Z "_law_pairs_of" Gm)(B:BT Z.mg)(jR:oW Z):Gn Z:=cY (N:=["pen", "kind", "many", "every", "other", "ring", "half"]) D mR λhr nd hu=>⟨y_,(by ac_rfl),NG⟩
noncomputable abbrev Gp:o:=top 47
abbrev Gq(Z:Ev):Prop:=Fx Z 4 "_law_web" ["pen", "houses", "most"] 3 ze
theorem QK(D:Dx Z "_law_web" Gp)(B:BT Z.mg)(jR:oW Z)(SY:Gn Z):Gq Z:=cY (N:=["pen", "houses", "most", "kind", "prices", "many", "pairs", "ways", "k", "one", "other", "price"]) D mR λhr nd hu=>⟨zf,(by ac_rfl),NH⟩
noncomputable abbrev Gr:o:=top 48
abbrev Gs(Z:Ev):Prop:=Fx Z 2 "_law_is_in" ["thing", "low", "high"] 3 p_
theorem QL(D:Dx Z "_law_is_in" Gr)(B:BT Z.mg)(tL:vH Z):Gs Z:=cY (N:=["thing", "low", "high"]) D mR λhr nd hu=>⟨EL,(by ac_rfl),NV⟩
noncomputable abbrev Gu:o:=top 49
abbrev Gv(Z:Ev):Prop:=Fx Z 3 "_law_is_web" ["thing"] 1 zu
theorem QM(D:Dx Z "_law_is_web" Gu)(B:BT Z.mg)(S7:Gs Z):Gv Z:=cY (N:=["thing", "pairs", "way"]) D eR λhr nd hu=>⟨zv,(by ac_rfl),NX⟩
noncomputable abbrev Gw:o:=top 51
abbrev Gx(Z:Ev):Prop:=Fx Z 3 "_law_some_ways" ["pen", "web", "most"] 3 zz
theorem QN(D:Dx Z "_law_some_ways" Gw)(B:BT Z.mg)(jR:oW Z):Gx Z:=cY (N:=["pen", "web", "most", "left", "found", "k"]) D mR λhr nd hu=>⟨zA,(by ac_rfl),N3⟩
noncomputable abbrev Gy:o:=top 53
abbrev Gz(Z:Ev):Prop:=Fx Z 1 "_law_web_text" ["web"] 1 Ae
theorem QO(D:Dx Z "_law_web_text" Gy)(B:BT Z.mg):Gz Z:=cY (N:=["web", "ways"]) D eR λhr nd hu=>⟨Af,(by ac_rfl),PD⟩
noncomputable abbrev GA:o:=top 54
abbrev GB(Z:Ev):Prop:=Fx Z 1 "_law_list_text" ["numbers"] 1 Ag
theorem QP(D:Dx Z "_law_list_text" GA)(B:BT Z.mg):GB Z:=cY (N:=["numbers"]) D eR λhr nd hu=>⟨Ah,(by ac_rfl),PE⟩
abbrev GC(Z:Ev)(Cs:-O):Prop:=Fy Z Cs 7 "need_web" ["web"] 1 vn
theorem QQ{Cs:-O}(D:Dx Z "need_web" AA)(B:BT Z.mg)(vI:ET Z Cs 4 "NoWeb")(AB:tK Z):GC Z Cs:=vj (N:=["web"]) D eR OM λR hr nd hu=>⟨zQ b_.ok,(by ac_rfl),ON b_.ok⟩
abbrev GF(Z:Ev)(Cs:-O):Prop:=Fy Z Cs 8 "show_web" ["web"] 1 vE
theorem QR{Cs:-O}(D:Dx Z "show_web" AD)(B:BT Z.mg)(S8:GC Z Cs):GF Z Cs:=vj (N:=["web"]) D eR PX λR hr nd hu=>⟨Ap b_.ok,(by ac_rfl),PY b_.ok⟩
noncomputable abbrev dE:o:=top 52
noncomputable abbrev GG:o:=dE
noncomputable abbrev xR(Z:Ev)(f:O)(bh:B)(A:l)(outer:-t)(s:L)(H:Hp)(E:XK):Cx:=(bt fP Z.P Z.w Z.K Z.mg Z.base ["caught", "some", "words", "at"] "_law_refusal" (cQ dE) f bh A outer s H E).mi
theorem mS:kI ["caught", "some", "words", "at"] ["caught"] (cQ dE):=gW (by decide +kernel)
theorem QS{f L:O}{Cs:-O}{fd:FuncData}{sp:Sp}(F:fY Z.K "_law_refusal" "_law_refusal" dE f fd)(T:zL Z.mg L Cs)(len:∀vs H Q E,sp vs H Q E->↑vs=1)
  (jX:∀vs H Q E,sp vs H Q E->∃(a C:O)(dx:Option O)(b:Nat->Bool),vs=[.ref a]/\ExcAt H a C dx/\bz Z.K C/\(∀(i:Nat)(C':O),Cs[i]?=U C'->Ts Z.K (.ref C) (.ref C')=U (b i))/\Ts Z.K (.ref C) (.ref L)=U θ/\Ts Z.K (.ref C) (.type "ValueError")=U θ ∧
   (cnt (dz b)≠1->∀(l:O)(H':Hp),aw H H'->H' l=U (.lst [.str "odd"])->Q (.ref l) H') ∧
   (cnt (dz b)=1->∃j:Nat,j<13/\(∀z,((dz b).map V.bl)[j]?=U z->fj z (.bl θ)=θ)/\(∀m z,m<j->((dz b).map V.bl)[m]?=U z->fj z (.bl θ)=ι) ∧
    (j<4->wL Z.K C "place" /\ ∃(d:O)(n:Int),dx=U d/\H d=U (.xd [("place",.int n)])/\∀(l:O)(H':Hp),aw H H'->H l=η->H' l=U (.lst [.str (cB.getD j ""),.int n])->Q (.ref l) H') ∧
    (4<=j->∀(l:O)(H':Hp),aw H H'->H l=η->H' l=U (.lst [.str (cB.getD j "")])->Q (.ref l) H'))):bP Z.P Z.w Z.K Z.mg Z.base fP 1 f fd ["caught"] sp:=by
 calc F.ui mS (λvs H Q E h=>len vs H Q E h) (λbh A outer s H vs Q E hr h=>?_);let⟨a,C,dx,b,rfl,E0,cl,kt,kL,kV,odd,good⟩:=jX vs H Q E h;let nd:=mS.nd;let gI:Gl (xR Z f bh A outer s H E) "isinstance" := by rfl
 let v0:∀q,JE (xR Z f bh A outer s H E) (.Name "caught" q) (fE 0):=λq=>jv 0;let v1:∀q,JE (xR Z f bh A outer s H E) (.Name "some" q) (fE 1):=λq=>jv 1
 let nI:∀(i:Nat)(x:J),names13[i]?=U x->Gl (xR Z f bh A outer s H E) x->bw x->∀p q r t,JE (xR Z f bh A outer s H E) (.Call (.Name "isinstance" p) [.Name "caught" q,.Name x r] [] t) (sW a C dx (b i)):=λi x hx g d p q r t=>by
  let⟨c,e,m⟩:=T.cls i x hx;exact zN (v0 q) (tY (v:=.ref c) g m Y d) Y cl (kt i c e) gI T.zM
 let nL:∀p q r t,JE (xR Z f bh A outer s H E) (.Call (.Name "isinstance" p) [.Name "caught" q,.Name "LotError" r] [] t) (sW a C dx θ):=λp q r t=>zN (v0 q) (tY (v:=.ref L) (by rfl) T.OB Y) Y cl kL gI T.zM;let nV:∀p q r t,JE (xR Z f bh A outer s H E) (.Call (.Name "isinstance" p) [.Name "caught" q,.Name "ValueError" r] [] t) (sW a C dx θ):=λp q r t=>zN (v0 q) (Bw (by rfl) T.VE OC (v:=.ty "ValueError") Y) Y cl kV gI T.zM;let h0:JS (xR Z f bh A outer s H E) ((d8 dE).getD 0 (.Pass ⟨0,0,0,0⟩)) (cO (oO a C dx [b 0,b 1,b 2]) (g_ 1)):=CT nd Y (Wm Y) (sY (iN (nI 0 _ Y Y Y _ _ _ _) (iN (nI 1 _ Y Y Y _ _ _ _) (iN (nI 2 _ Y Y Y _ _ _ _) sX))) (by show 3<=20;decide)) (.inr Y)
 let h1:JS (xR Z f bh A outer s H E) ((d8 dE).getD 1 (.Pass ⟨0,0,0,0⟩)) (cO (jL a C dx ([b 0,b 1,b 2]) [b 3,b 4,b 5]) (g_ 1)):=uk nd Y (Wm Y) (vk (v1 _) (sY (iN (nI 3 _ Y Y Y _ _ _ _) (iN (nI 4 _ Y Y Y _ _ _ _) (iN (nI 5 _ Y Y Y _ _ _ _) sX))) (by show 3<=20;decide)) (by show 3+3<=20;decide)) (.inr Y);let h2:JS (xR Z f bh A outer s H E) ((d8 dE).getD 2 (.Pass ⟨0,0,0,0⟩)) (cO (jL a C dx ([b 0,b 1,b 2]++[b 3,b 4,b 5]) [b 6,b 7,b 8]) (g_ 1)):=uk nd Y (Wm Y) (vk (v1 _) (sY (iN (nI 6 _ Y Y Y _ _ _ _) (iN (nI 7 _ Y Y Y _ _ _ _) (iN (nI 8 _ Y Y Y _ _ _ _) sX))) (by show 3<=20;decide)) (by show 6+3<=20;decide)) (.inr Y)
 let h3:JS (xR Z f bh A outer s H E) ((d8 dE).getD 3 (.Pass ⟨0,0,0,0⟩)) (cO (jL a C dx ([b 0,b 1,b 2]++[b 3,b 4,b 5]++[b 6,b 7,b 8]) [b 9,b 10,b 11]) (g_ 1)):=uk nd Y (Wm Y) (vk (v1 _) (sY (iN (nI 9 _ Y Y Y _ _ _ _) (iN (nI 10 _ Y Y Y _ _ _ _) (iN (nI 11 _ Y Y Y _ _ _ _) sX))) (by show 3<=20;decide)) (by show 9+3<=20;decide)) (.inr Y);let h4:JS (xR Z f bh A outer s H E) ((d8 dE).getD 4 (.Pass ⟨0,0,0,0⟩)) (cO (jL a C dx ([b 0,b 1,b 2]++[b 3,b 4,b 5]++[b 6,b 7,b 8]++[b 9,b 10,b 11]) [b 12]) (g_ 1)):=uk nd Y (Wm Y) (vk (v1 _) (sY (iN (nI 12 _ Y Y Y _ _ _ _) sX) (by show 1<=20;decide)) (by show 12+1<=20;decide)) (.inr Y)
 let h5:JS (xR Z f bh A outer s H E) ((d8 dE).getD 5 (.Pass ⟨0,0,0,0⟩)) (λD σ H1=>∃l:O,σ[0]?=U (U (.ref a))/\σ[1]?=U (U (.ref l))/\H1 l=U (.lst ((dz b).map V.bl))/\ExcAt H1 a C dx/\(cnt (dz b)≠1->∀(l':O)(H':Hp),aw H1 H'->H' l'=U (.lst [.str "odd"])->D.rt (.ref l') H')/\(cnt (dz b)=1->D.nx σ H1)):=by
  calc(BG (JW.jt (we (wH Ie (pf Vd PySem.F.slot_list_count PySem.F.type_list_count Kr (v1 _) (f9 wb bg)) je (BR _)) (we (wg (wc (nL _ _ _ _))) (Bz (wg (wc (nV _ _ _ _))))))) (mX (qB (jW (f9 o8 bg)))) g8).weak ?_;ext D σ H1 ⟨l,e0,e1,hl,e,od,gd⟩;refine⟨_,e1,.inl ⟨Y,_,bq.of hl⟩,l,_,_,Y,Y,bq.of hl,Y,zO _,Y,_,Y,?_⟩
  by_cases hc:cnt (dz b)=1
  .refine Jt (congrArg (λn:Nat=>V.int n) hc) ?_
   exact⟨e0,e,_,Y,nJ ⟨e0,e,_,Y,nJ (gd hc)⟩⟩
  .refine KG (λz=>hc (XO (V.int.inj z))) ?_
   exact xv ⟨f_ (by show 1<=20;decide),λp hp=>od hc p _ (jK hp) bE⟩
 let h6:JS (xR Z f bh A outer s H E) ((d8 dE).getD 6 (.Pass ⟨0,0,0,0⟩)) (cO (λ_ H Q=>∀p,H p=η->Q (.ref p) (upd H p (.lst (dy.map V.str)))) (g_ 2)):=CT (i:=2) nd Y (Wm Y) (OD dy Y (by decide)) (.inr Y)
 let h7:JS (xR Z f bh A outer s H E) ((d8 dE).getD 7 (.Pass ⟨0,0,0,0⟩)) (λD σ H1=>∃(l:O)(j:Nat),σ[1]?=U (U (.ref l))/\H1 l=U (.lst ((dz b).map V.bl))/\j<13/\(∀z,((dz b).map V.bl)[j]?=U z->fj z (.bl θ)=θ)/\(∀m z,m<j->((dz b).map V.bl)[m]?=U z->fj z (.bl θ)=ι)/\D.nx (σ.set 3 (U (.int (j:Nat)))) H1):=by
  calc(KD (i:=3) nd Y (Wm Y) (pf Vd PySem.F.slot_list_index PySem.F.type_list_index Ku (v1 _) (f9 wb bg)) (.inr Y)).weak ?_;ext D σ H1 ⟨l,j,e1,hl,hj,i1,i2,gd⟩;exact⟨_,e1,.inl ⟨Y,_,bq.of hl⟩,l,_,_,j,Y,Y,bq.of hl,Y,zO _,hj,i1,i2,gd⟩
 let h8:JS (xR Z f bh A outer s H E) ((d8 dE).getD 8 (.Pass ⟨0,0,0,0⟩)) _:=qB (BE (wH BQ (jv 3) je (BR _)) (jW (nN (uc ud (jv 2) (jv 3) (λ_ _=>Y)) (xQ (OE (v0 _) Y) bg))) (jW (nN (uc ud (m_ ue (jv 2) (jW (f9 o8 bg))) (jv 3) (λ_ _=>Y)) bg)));calc⟨_,KI (mD (by decide) h0 (mD (by decide) h1 (mD (by decide) h2 (mD (by decide) h3 (mD (by decide) h4 (mD (by decide) h5 (mD (by decide) h6 (mD (by decide) h7 (KH (by rfl) h8))))))))),?_⟩;calc⟨Y,E0,λl1 H1 s1 q1=>?_⟩;calc⟨l1,Y,Y,q1,E0.same s1,λl2 H2 s2 q2=>?_⟩;let GH:=s1.trans s2;refine⟨l2,Y,Y,q2,E0.same GH,λl3 H3 s3 q3=>?_⟩
 let GI:=GH.trans s3;calc⟨l3,Y,Y,q3,E0.same GI,λl4 H4 s4 q4=>?_⟩;let GJ:=GI.trans s4;calc⟨l4,Y,Y,q4,E0.same GJ,λl5 H5 s5 q5=>?_⟩;let AF:=GJ.trans s5;calc⟨l5,Y,Y,q5,E0.same AF,λnc l H' sH hH=>odd nc l H' (AF.trans sH) hH,λhc=>?_⟩;let⟨j,hj,i1,i2,gA,many⟩:=good hc;ext p hp;let qg:aw H (upd H5 p (.lst (dy.map V.str))):=AF.trans (jK hp);calc⟨l5,j,Y,(jK hp) _ _ q5,hj,i1,i2,?_⟩;refine⟨_,Y,_,_,Y,Y,_,Y,xw (λdF=>?_) (λQT=>?_)⟩
 .let tM:j<4:=by let:=U3 dF;symm
  let⟨na,d,n,ed,hd,fin⟩:=gA tM;subst ed;let E6:=E0.same qg;calc⟨_,Y,_,Y,p,_,_,_,Y,Y,bq.of bE,kM (OF tM),_,Y,a,C,d,_,_,Y,E6.ob,cl,na,qg _ _ hd,Y,f_ (by show 2<=20;decide),λl hl=>?_⟩;exact fin l _ (qg.trans (jK hl)) (qg.free hl) bE
 .let AG:4<=j:=by
   by_cases z:j<4
   .exact absurd (Tt (show(j:Int)<4 by symm)) QT
   .omega
  calc⟨_,Y,f_ (by show 1<=20;decide),λm hm=>⟨p,m,_,_,Y,Y,(by rw[bj (cm bE hm)];calc bE),bE,f_ (by show 13<=20;decide),λr hr=>⟨_,Y,r,_,_,_,Y,Y,bq.of bE,kM (OG hj),f_ (by show 1<=20;decide),λl hl=>?_⟩⟩⟩;calc many AG l _ (((qg.trans (jK hm)).trans (jK hr)).trans (jK hl)) (((qg.trans (jK hm)).trans (jK hr)).free hl) bE
theorem QU{f L:O}{Cs:-O}{fd:FuncData}(F:fY Z.K "_law_refusal" "_law_refusal" dE f fd)(T:zL Z.mg L Cs)(W:zK Z.K L Cs):bP Z.P Z.w Z.K Z.mg Z.base fP 1 f fd ["caught"] (lX Cs):=by
 refine QS F T (λvs H Q E h=>?_) (λvs H Q E h=>?_)
 .let⟨_,_,_,_,_,rfl,_⟩:=h;rfl
 .let⟨j,n,a,C,dx,rfl,hj,hC,E0,hd,fin⟩:=h
  let⟨cl,kL,kV,kt⟩:=W.each j C hC;refine⟨a,C,dx,λi=>g (i=j),Y,E0,cl,kt,kL,kV,λnc=>absurd (OH j hj) nc,λ_=>⟨j,hj,λz hz=>?_,λm z hm hz=>?_,λh4=>?_,λh4 l H' s hl hH=>fin l H' s hl ?_⟩⟩
  .rw[E9 hz];show fj (.bl (g (j=j))) (.bl θ)=θ;rw[Tt Y];rfl
  .rw[E9 hz];show fj (.bl (g (m=j))) (.bl θ)=ι;rw[TH ⋯];rfl
  .let⟨d,ed,hd⟩:=hd h4
   calc⟨W.lV j C hC,d,n,ed,hd,λl H' s hl hH=>fin l H' s hl ?_⟩;rw[hH,sZ,Tw h4]
  .rw[hH,sZ,To ⋯]
noncomputable abbrev GK:o:=top 55
abbrev GL(Z:Ev):Prop:=Fx Z 9 "_law_refused" ["thing"] 1 Aq
theorem QV{Cs:-O}{L fR:O}{AH:FuncData}(D:Dx Z "_law_refused" GK)(B:BT Z.mg)(GR:Fn Z.P Z.w Z.K Z.mg Z.base 1 "_law_refusal" ["caught"] (lX Cs) fR AH)(hL:Z.mg "LotError" = U (.ref L))(hX:∀(c:Nat) (C:O),Cs[c]?=U C->c<13/\WD Z.K (.ref C) (.ref L)=U θ)(QW:GF Z Cs):GL Z:=cY (N:=["thing", "caught", "e"]) D eR λhr nd hu=>⟨Ar,(gf (mG (i:=1) nd Y (by trivial) ux) (PG (w:="web") Y Y nd Y Y (by rfl) hL hX (by decide) (λhp R=>(iI (Fd QW R hp hr (bV (dv 0) dQ)))) (λA xe=>mX (mZ (i:=1) nd Y (by trivial) (jv 2))) (qB (BC (HA (Hz (jv 1))) (BB (BS (oq hu) (qK GR.ok (hr.mono (by decide)) (by rfl) GR.rH GR.kp GR.bd .nil uh (iA (jv 1) bg)) (jW (f9 o8 bg)) (by rfl))))))),PZ⟩
noncomputable abbrev AI:o:=top 45
theorem AJ{x:J}{st:o}{ps:-J}{n:Nat}(D:Dx Z x st)(bd:gX x st ps):Fx Z 0 x ps n (λ_ _ _=>False) :=
 let⟨f,fd,a,F⟩:=D
 ⟨f,fd,⟨λvs H Q E h=>by let⟨_,_,_,_,_,_,_,hF,_⟩:=h;calc hF.elim,λA outer s H args us vs Q E _ _ _ _ h=>by let⟨_,_,_,_,_,_,_,hF,_⟩:=h;calc hF.elim⟩,a,F.kp,F.binds bd⟩
theorem GN(D:Dx Z "_law_same" AI)(B:BT Z.mg)(n:Nat)(GP:Fx Z n "_law_same" ["found", "due"] 2 (LJT.gu LJT.aP n)):Fx Z (n+1) "_law_same" ["found", "due"] 2 (LJT.aP n):=cY (N:=["found", "due"]) D oM λhr nd hu=>⟨LJT.aA (LJT.gu LJT.aP n),(gf (j5 (iG Ej (dv 1) ux (by rfl)) (iI (iY (iX Ej (dv 0) ux (by rfl)))) j4) (gf (j5 (JW.jt (uC (mF (fQ sj (by rfl) B.isinstance (by rfl) B.bool rJ (dv 1))) (x4 (mF (fQ sj (by rfl) B.isinstance (by rfl) B.bool rJ (dv 0)))))) (iI (iY (rP (fQ sj (by rfl) B.isinstance (by rfl) B.bool rJ (dv 1)) (rP (fQ sj (by rfl) B.isinstance (by rfl) B.bool rJ (dv 0)) (uD (iX (oq hu) (dv 0) (dv 1) (by rfl))))))) j4) (gf (j5 (mF (fQ yB (by rfl) B.isinstance (by rfl) B.int ur (dv 1))) (iI (iY (rP (fQ yB (by rfl) B.isinstance (by rfl) B.int ur (dv 0)) (uD (iX (oq hu) (dv 0) (dv 1) (by rfl)))))) j4) (gf (j5 (mF (fQ yC (by rfl) B.isinstance (by rfl) B.str uu (dv 1))) (iI (iY (rP (fQ yC (by rfl) B.isinstance (by rfl) B.str uu (dv 0)) (uD (iX (oq hu) (dv 0) (dv 1) (by rfl)))))) j4) (gf (j5 (JW.jt (uC (iG (pP hu) (fQ sk (by rfl) B.isinstance (by rfl) B.tuple pw (dv 1)) (fQ sk (by rfl) B.isinstance (by rfl) B.tuple pw (dv 0)) (by rfl)) (x4 (iG (pP hu) (fQ DL (by rfl) B.isinstance (by rfl) B.list rK (dv 1)) (fQ DL (by rfl) B.isinstance (by rfl) B.list rK (dv 0)) (by rfl))))) (iI (iY pE)) j4) (gf (j5 (iG (pP hu) (pF uQ (by rfl) B.len WH (bV (dv 0) dQ)) (pF uQ (by rfl) B.len WH (bV (dv 1) dQ)) (by rfl)) (iI (iY pE)) j4) (iI (iY (iX (LP hu) pE (Di [η,η] ["one", "other"] Y (O_ (by rfl) B.zip (bV (dv 0) (bV (dv 1) dQ))) (λd=>(Dd Y (x6 (x5 (i:=0) (show(["one", "other"]:-J).Nodup by decide +kernel) Y (by trivial)) (x6 (x5 (i:=1) (show(["one", "other"]:-J).Nodup by decide +kernel) Y (by trivial)) Dc)))) (λd=>De) (λd=>(gk (hj:=Yt (ug _)) GP hr (bV (dv 0) (bV (dv 1) dQ))))) (by rfl)))))))))),LJT.eK n⟩
abbrev QX(Z:Ev):Prop:=Fx Z 4 "_law_same" ["found", "due"] 2 (LJT.aP 3)
theorem QY(D:Dx Z "_law_same" AI)(B:BT Z.mg)(n:Nat):Fx Z (n+1) "_law_same" ["found", "due"] 2 (LJT.aP n):=by
 induction n with
 |zero=>exact GN D B 0 (AJ D oM)
 |succ m ih=>calc GN D B (m+1) ih
noncomputable abbrev AK:o:=top 50
theorem AL{k:Nat}{x:J}{st:o}{ps:-J}{n:Nat}(D:Dx Z x st)(bd:gX x st ps):Fx Z k x ps n (λ_ _ _=>False) :=
 let⟨f,fd,a,F⟩:=D
 ⟨f,fd,⟨λvs H Q E h=>by let⟨_,_,_,_,_,_,_,hF,_⟩:=h;calc hF.elim,λA outer s H args us vs Q E _ _ _ _ h=>by let⟨_,_,_,_,_,_,_,hF,_⟩:=h;calc hF.elim⟩,a,F.kp,F.binds bd⟩
theorem GQ(D:Dx Z "_law_bent" AK)(B:BT Z.mg)(jR:oW Z)(tL:vH Z)(n:Nat)(GS:Fx Z (n+2) "_law_bent" ["pen", "thing", "deep"] 3 (Ak kj n)):Fx Z (n+3) "_law_bent" ["pen", "thing", "deep"] 3 (kj n):=cY (N:=["pen", "thing", "deep", "kind", "pick", "number", "at", "odd", "some"]) D mR λhr nd hu=>⟨Aj (Ak kj n),(gf (mG (i:=3) nd Y (by trivial) (gk jR hr (bV (dv 0) (du de dQ)))) (gf (mG (i:=4) nd Y (by trivial) (gk jR hr (bV (dv 0) (du de dQ)))) (gf (mG (i:=5) nd Y (by trivial) (eO pO (gk jR hr (bV (dv 0) (du de dQ))) de)) (gf (j5 (JW.jt (rO (mF (fQ sk (by rfl) B.isinstance (by rfl) B.tuple pw (dv 1))) (rO (iG (pP hu) (dv 1) (nW dQ) (by rfl)) (rO (iG uO (dv 2) de (by rfl)) (C_ (iG uO (dv 4) de (by rfl))))))) (gf (mG (i:=6) nd Y (by trivial) (gk jR hr (bV (dv 0) (kZ (pF uQ (by rfl) B.len WH (bV (dv 1) dQ)) dQ)))) (iI (iY (eO lz (eO lz (pY (dv 1) pQ (pR (dv 6))) (nW (kZ (gk (hj:=Yt (ug _)) GS hr (bV (dv 0) (gN (nP ou (dv 1) (dv 6) (λ_ _=>Y)) (iE (eO pO (dv 2) de) dQ)))) dQ))) (pY (dv 1) (pR (eO lz (dv 6) de)) pQ))))) j4) (gf (mG (i:=7) nd Y (by trivial) (nX (du ux (du pE (du pE (du xY (du xY (k6 (nW dQ) (nR (nX dQ) (iE (eO uN de de) (iE (DF de) (du de (du de (iE (eO uN de de) (iE (eO lz (eO uN de de) de) (k6 (nW (du de dQ)) (nR (nX (du de dQ)) (du de dQ)))))))))))))))))) (gf (j5 (mF (fQ sk (by rfl) B.isinstance (by rfl) B.tuple pw (dv 1))) (gf (mG (i:=8) nd Y (by trivial) (nX (kZ (rN DJ (by rfl) B.list rK (bV (dv 1) dQ)) (iE (eO lz (dv 1) (pY (dv 1) pQ (pR de))) (gN (pY (dv 1) pQ (pR (DF de))) (gN (M1 (dv 1)) (iE (eO lz (dv 1) (nW (bV (dv 5) dQ))) (gN (pY (dv 1) (pR de) pQ) (k6 (nW (bV (dv 1) dQ)) dQ))))))))) (iI (iY (nP ou (eO lz (dv 8) (nX (gN (nP ou (dv 7) (dv 4) (λ_ _=>Y)) dQ))) (dv 3) (λ_ _=>Y))))) j4) (gf (j5 (mF (gk tL hr (bV (dv 1) dQ))) (iI (iY (nP ou (nX (iE (eO lz (dv 1) de) (iE (eO pO (dv 1) de) (iE (eO pO de (dv 1)) (bV (dv 5) (bV (dv 5) (iE (iX (oq hu) (dv 1) de (by rfl)) (iE (eO pO de (dv 1)) (gN (nP ou (dv 7) (dv 4) (λ_ _=>Y)) dQ))))))))) (dv 3) (λ_ _=>Y)))) j4) (iI (iY (nP ou (dv 7) (dv 4) (λ_ _=>Y))))))))))),PM n⟩
abbrev QZ(Z:Ev):Prop:=Fx Z 6 "_law_bent" ["pen", "thing", "deep"] 3 (kj 3)
theorem Q0(D:Dx Z "_law_bent" AK)(B:BT Z.mg)(jR:oW Z)(tL:vH Z)(n:Nat):Fx Z (n+3) "_law_bent" ["pen", "thing", "deep"] 3 (kj n):=by
 induction n with
 |zero=>exact GQ D B jR tL 0 (AL D mR)
 |succ m ih=>calc GQ D B jR tL (m+1) ih
noncomputable abbrev vJ:o:=top 41
theorem jS:kI ["script", "cells", "k", "cell"] ["script"] (cQ vJ):=gW (by decide +kernel)
theorem Q1{f:O}{fd:FuncData}(F:fY Z.K "_law_open" "_law_open" vJ f fd)(h1:Z.mg "list" = η)(h2:Z.mg "enumerate" = η):bP Z.P Z.w Z.K Z.mg Z.base fP 1 f fd ["script"] (Ek Z.K):=by
 refine F.ui jS (λvs H Q E h=>?_) (λbh A outer s H vs Q E hr h=>?_)
 .let⟨a,ns,rfl,_⟩:=h
  rfl
 .let⟨a,ns,rfl,hS,hlen,fin⟩:=h
  let nd:=jS.nd
  refine⟨_,o9 (mZ (i:=1) nd Y (Wm Y) (qP xf (by rfl) h1 PyProof.Rows.boot_list (hU (wX fF (jv 0) B8 (ub je)) bg)))
   (o9 (BM q0h Y (JZ (by rfl) h2 (hU (wX fF (jv 0) (ub je) (ub je)) bg)) (BH Y (wt (wo (i:=2) nd Y (Wm Y)) (wt (wo (i:=3) nd Y (Wm Y)) hJ)))
    (mX (wx (m_ BO (uc ud (jv 1) (m_ wF (jv 2) je) (λ_ _=>Y)) (jv 3)) (BI (jv 1) (m_ wF (jv 2) je) set_list))))
   (mX (qB (jW (hU (jv 1) (hU je (hU je bg))))))),?_⟩
  calc⟨_,Y,_,Y,a,_,Y,hS,λl1 n1=>⟨l1,_,Y,.inl (bq.of bE),λc nc=>?_⟩⟩;let s1:aw H (upd (upd H l1 (.lst (cw (ns.map V.int) η (U 12)))) c (.lst (cw (ns.map V.int) η (U 12)))):=(pZ n1).trans (pZ nc);calc⟨_,Y,_,Y,_,Y,a,_,Y,s1.seq hS,λl2 n2=>⟨l2,Y,⟨_,bq.of bE⟩,?_⟩⟩;let Q2:H c=η:=(pZ n1).free nc;let Q3:=n2
  let hcc:∃ms:-Int,↑ms=min 12 ns.length/\cw (ns.map V.int) η (U 12)=ms.map V.int:=by
   calc⟨_,?_,yV ns η (U 12)⟩;rw[TB,Uh];let e1:HT.bf ns.length 0 η=0:=HT.B5 _ _;let e2:HT.bf ns.length ns.length (U 12)=min 12 ns.length:=HT.nv ns.length ns.length 12;rw[e1,e2];symm
  let yR:↑(cw (ns.map V.int) (U 12) (U 63))=ns.length-12:=by
   rw[yV,pj,TB,Uh];let e1:HT.bf ns.length 0 (U 12)=min 12 ns.length:=HT.nv ns.length 0 12;let e2:HT.bf ns.length ns.length (U 63)=min 63 ns.length:=HT.nv ns.length ns.length 63;rw[e1,e2];symm
  let GU:∀i x,(cw (ns.map V.int) (U 12) (U 63))[i]?=U x->∃n:Int,x=V.int n:=λi x e=>by
   rw[yV,R1] at e
   cases q:((ns.drop (HT.bf ns.length 0 (U 12))).take (HT.bf ns.length ns.length (U 63)-HT.bf ns.length 0 (U 12)))[i]? with
   |none=>rw[q] at e;cases e
   |some n=>rw[q] at e;exact⟨n,(TU e).symm⟩
  generalize cw (ns.map V.int) (U 12) (U 63)=rest at yR GU n2 ⊢;let⟨ms,Q4,Q5⟩:=hcc
  refine Kw (K:=Z.K) (a:=l2) (xs:=rest) (λi σ H2=>∃(ks:-Int)(v1 v2:Option V),σ=[U (.ref a),U (.ref c),v1,v2]/\H2 c=U (.lst (ks.map V.int))/\↑ks=min 12 ns.length/\H2 l2=U (.lst rest)/\aw H H2)
   ⟨ms,η,η,Y,?_,Q4,bE,?_⟩ (λi σ H2 _ ⟨_,_,_,_,_,_,q,_⟩↦bq.of q) ?_ ?_
  .rw[bj (cm bE n2),bE,Q5]
  .exact s1.trans (pZ n2)
  .ext i x T σ H2 hi ⟨ks,v1,v2,rfl,hc,hk,ph,sm⟩ hT
   let⟨n,rfl⟩:=GU i x hi;let yf:i<↑rest:=(kP.mp hi).1;let Q6:↑ks=12:=by symm
   let cT:c≠T:=cm hc hT;let me:upd H2 T (.tup [.int i,.int n]) c=U (.lst (ks.map V.int)):=by rw[bj cT];exact hc
   let j0:0<=((i:Int))%12:=UN _ (by decide);let j1:((i:Int))%12<12:=Ur _ (by decide);let⟨m,em⟩:=M3 (ns:=ks) j0 ⋯
   let ix:iu ↑(ks.map V.int) ((i:Int)%12)=U ((i:Int)%12).toNat:=by
    unfold iu;rw[Tw j0,Tw (by rw[pj];symm)]
   calc⟨T,_,Y,bJ.of bE,Y,_,_,Y,_,_,Y,Y,?_⟩;calc⟨_,Y,_,Y,_,_,Y,Y,(show(0:Int)<12 by decide),_,_,_,_,Y,Y,bq.of me,em,_,Y,_,_,Y,Y,_,Y,_,Y,_,_,Y,Y,(show(0:Int)<12 by decide),_,_,_,_,Y,Y,me,ix,?_⟩;refine⟨ks.set ((i:Int)%12).toNat (m+n),_,_,Y,?_,by rw[Ux];calc hk,?_,?_⟩
   .rw[bE,List.map_set]
   .let Q7:l2≠c:=by
     ext z;subst z;exact absurd Q3 (by rw[bE];ext y;cases y)
    rw[bj Q7,bj (cm ph hT)];exact ph
   .ext b o e
    rw[bj (cm e Q2)];exact pZ hT b o (sm b o e)
  .ext σ H2 ⟨ks,v1,v2,rfl,hc,hk,ph,sm⟩
   calc⟨_,Y,(by show 3<=sizeLine;decide),λp np=>?_⟩;let Q8:H p=η:=sm.free np;calc fin p c _ (sm.trans (pZ np)) Q8 ⟨bE,⟨ks,by rw[bj (cm hc np)];calc hc,⋯⟩,Int.le_refl 0⟩
noncomputable abbrev qh:o:=top 56
theorem Q9{f oX:O}{fd lZ:FuncData}(F:fY Z.K "law" "law" qh f fd)(B:BT Z.mg)(GO:Fn Z.P Z.w Z.K Z.mg Z.base 1 "_law_open" ["script"] (Ek Z.K) oX lZ)(S9:Gq Z)(S_:Gi Z)(Ta:Gz Z)(GP:QX Z)(Tb:FV Z)(Tc:Gb Z)(GS:QZ Z)(Td:Gv Z)(Te:GL Z)(Tf:Gx Z)(jR:oW Z)(Tg:GB Z)(Th:FX Z)(Ti:Ge Z):bP Z.P Z.w Z.K Z.mg Z.base fP 21 f fd ["script"] (u3 Z.K):=by
 let sc:kI ["script", "pen", "turn", "web", "text", "bad", "ways", "great", "some", "handed", "again", "found"] ["script"] (cQ qh):=gW (by decide +kernel);refine F.ui (k:=20) sc (λvs H Q E h=>?_) (λbh A outer s H vs Q E hr h=>?_)
 .let⟨a,ns,rfl,_⟩:=h
  rfl
 let⟨a,ns,rfl,hS,hlen,hT,fin⟩:=h;let nd:=sc.nd;let hu:=hr.units;let rest:bZ (bt fP Z.P Z.w Z.K Z.mg Z.base ["script", "pen", "turn", "web", "text", "bad", "ways", "great", "some", "handed", "again", "found"] "law" (cQ qh) f bh A outer s H E).mi ((d8 qh).drop 1) (cS Au):=(by ac_rfl);calc⟨_,o9 (mZ (i:=1) nd Y (by trivial) (qK GO.ok (hr.mono (by decide)) (by rfl) GO.rH GO.kp GO.bd .nil uh (iA (jv 0) bg))) rest,?_⟩;calc⟨_,Y,a,ns,Y,hS,hlen,λp c H1 sm hp N1=>?_⟩;let⟨F',ms,hm,S⟩:=M5 (a:=a) (n:=10) (aD.same hT sm) N1;calc M6 S (Qb ms hm) fin
end
end LJ
namespace LJ
open PySem L2 PySem.Spec PySem.W PyProof.Rows
theorem Q_{l:OpenLaw}{q:ψ}{loose:-J}{XP:(J->Option B)->R->Prop}{YP:I->R->Prop}{d:DefRec}{K:Params->Frag}{kk:Nat}(hn:l.most=U 63)(q_:d.params.defaults=[])(hr:bx kk callerA)
  (hY:∀(w:I)(h:R),YP w h->(K w.params).In h)
  (F:∀(w:I)(mg:J->Option B)(fa:O)(h:R),(K w.params).In h->h.Ns mainGlobals mg->mg d.name=U (.ref fa) →
   ∃fd:FuncData,(∀(s:L)(u:B),BindsTo s fd ⟨[u],[]⟩ [("script",u)])/\∀base:R,(K w.params).In base->base.Ns mainGlobals mg->(∀t∈([]:-mO),base.BuiltinsAt mg t.T)->bP l.prog w (K w.params) mg base fP kk fa fd ["script"] (@u3 (lA []) (K w.params))) :
  WalkO q loose XP YP l.row.toRowW d [] (λf vs=>q0x f vs) :=
 L2.Cr (n:=63) (k:=kk) (x:="script") (CX:=λ_=>fP) (sp:=λw=>@u3 (lA []) (K w.params)) hn (by decide) q_ hr hY
  (λw mg fa h KX G kO=>by
   let⟨fd,hb,hF⟩:=F w mg fa h KX G kO
   calc⟨fd,hb,λbase k1 k2=>hF base k1 k2 λt ht=>nomatch ht⟩)
  (λ_ _ a ns hl _ hS=>by letI:aD:=lA [];calc⟨a,ns,Y,hS,hl,(λt ht=>nomatch ht),λ_=>Y⟩) λ_ _ _ _ _ z=>z
end LJ
namespace LJ
open PySem L2
noncomputable def vK:-mO:=[]
noncomputable def GV:-(J×o×O):=[]
noncomputable def vL(K:nG)(C:O):Bool :=
 (match PySem.W.clsIn K C with|some cd=>gx cd.mro&&cd.hasDict|none=>ι) &&
 (Vh K (.ref C) "__getattribute__" == U (U (.builtin "BaseException.__getattribute__"))) &&
 (Vh K (.ref C) "__getattr__" == U Z) &&
 (Vh K (.ref C) "__setattr__" == U (U (.builtin "object.__setattr__"))) &&
 (Vh K (.ref C) "__class__" == U (U (.builtin "object.__class__"))) &&
 (Zs K (.builtin "object.__class__") "__get__" == U (U (.builtin "getset_descriptor.__get__"))) &&
 (Z8 K (.builtin "object.__class__")==U θ)
theorem GW{K:nG}{C:O}(h:vL K C=θ):bz K C:=by
 unfold vL at h;erw[Tv] at h;let⟨⟨⟨⟨⟨⟨h1,h2⟩,h3⟩,h4⟩,h5⟩,h6⟩,h7⟩:=h;calc⟨?_,TF h2,TF h3,TF h4,TF h5,TF h6,TF h7⟩;split at h1
 .rename_i cd e
  erw[Tv] at h1;exact⟨cd,e,h1.1,h1.2⟩
 .cases h1
noncomputable def AM(K:nG)(L:O)(Cs:-O):Bool :=
 vL K L&&(Ts K (.ref L) (.ref L)==U θ)&&(Ts K (.ref L) (.type "ValueError")==U θ) &&
 (Cs.zipIdx.all λz=>Ts K (.ref L) (.ref z.1)==U ι) &&
 (Cs.zipIdx.all λy=>vL K y.1&&(Vh K (.ref y.1) "place" == U Z)&&(Ts K (.ref y.1) (.ref L)==U θ)&&(Ts K (.ref y.1) (.type "ValueError")==U θ) &&
  Cs.zipIdx.all λz=>Ts K (.ref y.1) (.ref z.1)==U (g (z.2=y.2)))
theorem Ra{K:nG}{L:O}{Cs:-O}(hl:↑Cs=13)(h:AM K L Cs=θ):zK K L Cs:=by
 unfold AM at h;erw[Tv] at h;let⟨⟨⟨⟨h1,h2⟩,h3⟩,h4⟩,h5⟩:=h;let at_:∀{i:Nat}{C:O},Cs[i]?=U C->(C,i)∈Cs.zipIdx:=λ{i C} e=>List.mk_mem_zipIdx_iff_getElem?.mpr e;let each:∀(j:Nat)(C:O),Cs[j]?=U C->_:=λj C e=>Uc.mp h5 (C,j) (at_ e);refine⟨hl,λj C e=>?_,⟨GW h1,TF h2,TF h3,λi C' e=>TF (Uc.mp h4 (C',i) (at_ e))⟩,λj C e=>?_⟩
 .let:=each j C e
  erw[Tv] at this;let⟨⟨⟨⟨a,_⟩,c⟩,d⟩,f⟩:=this;exact⟨GW a,TF c,TF d,λi C' e'=>TF (Uc.mp f (C',i) (at_ e'))⟩
 .let:=each j C e
  erw[Tv] at this;calc TF this.1.1.1.2
noncomputable def nsOk(K:nG)(N:O)(name:J)(r:Option B):Bool:=match Z3 N K with
 |some ⟨_,_,.dict es _,_⟩=>(es.all λe=>match e.key with|.str _ _=>θ|_=>ι)&&(nsFind es name==r)
 |_=>ι
theorem GX{K:nG}{N:O}{name:J}{r:Option B}(h:nsOk K N name r=θ):rD K N name r:=by
 unfold nsOk at h;split at h
 .rename_i oc od es ep sl e
  erw[Tv] at h;exact⟨oc,od,es,ep,sl,e,h.1,TF h.2⟩
 .cases h
theorem Rb{K:nG}{L C N:O}{nm q:J}{bs:-B}{f7:Bool}{sn:-J}{sub:-B}{ab:Bool}{col:Option Bool}{dd:Option O}{k0 k1 k2 k3 k5:Option B}{jm:Option B}(T:bS K (.ref L::nM))
  (l:K.lookup C=U (excClassObj nm q C N bs (.ref L::nM) f7 sn sub ab col dd k0 k1 k2 k3 k5 "ValueError.__new__")) (n:nsOk K N "__init__" jm=θ) (kp:UK K (.ref C)=θ):pq K C jm :=
 ⟨⟨_,_,N,_,_,_,_,_,_,_,_,_,_,_,_,_,l,T,GX n⟩,kp⟩
noncomputable abbrev dp(x:J)(s:o):J×o:=(x,s)
noncomputable def GY:-(J×o):=[dp "is_whole" FD,dp "is_within" FF,dp "is_tuple_of" FG,dp "are_ends" FH,dp "is_way" FK,dp "are_ways" FN,dp "is_web" FP,dp "need_web" AA,dp "way_text" FT,dp "show_web" AD,dp "show_list" FW,dp "need_text" FY,dp "is_number_text" FZ,dp "read_number" F7,dp "read_way" F8,dp "read_web" Ga,dp "read_list" Gd,dp "_law_spread" Gf,dp "_law_open" vJ,dp "_law_anew" Gh,dp "_law_take" Gj,dp "_law_is_whole" Gk,dp "_law_same" AI,dp "_law_pairs_of" Gm,dp "_law_web" Gp,dp "_law_is_in" Gr,dp "_law_is_web" Gu,dp "_law_bent" AK,dp "_law_some_ways" Gw,dp "_law_refusal" GG,dp "_law_web_text" Gy,dp "_law_list_text" GA,dp "_law_refused" GK,dp "law" qh]
theorem Rc{l:q0a}{w:I}{K:nG}{h:R}{mg:J->Option ν}{fa:O}{L N0 c0 c1 c2 c3 c4 c5 c6 c7 c8 c9 kn kq kr:O}{Rf Rg:J}{Rh:-ν}{Ri:Bool}{Rj:-J}{AN:-ν}{Rk:Bool}{AO:Option Bool}{Rl:Option O}{Rm Rn Ro Rp Rq:Option ν}{M4:O}{AQ AR:J}{AS:-ν}{AU:Bool}{AV:-J}{tN:-ν}{AW:Bool}{tO:Option Bool}{AX:Option O}{AY AZ A0 A2 A3:Option ν}(X:K.In h)(G:h.Ns mainGlobals mg)(Rr:mg "law" = U (.ref fa))(DS:fK K GY)(LS:gY K GV)(N:∀x∈zE,TV K mainGlobals x=U η)(fM:Ck K "MOST_HOUSES" 12)(g0:Ck K "MOST_WAYS" 30)(gv:Ck K "MOST_PRICE" 1000000000)(jT:Ay K "FIGURES" "0123456789")(fg:Ck K "MOST_FIGURES" 10)(aL:TV K mainGlobals "LotError" = U (U (.ref L)))(lL:K.lookup L=U (excClassObj Rf Rg L N0 Rh (nM) Ri Rj AN Rk AO Rl Rm Rn Ro Rp Rq "ValueError.__new__"))(nL:nsOk K N0 "__init__" η=θ)(aC0:TV K mainGlobals "NoWay" = U (U (.ref c0)))(aC1:TV K mainGlobals "NoJoin" = U (U (.ref c1)))(aC2:TV K mainGlobals "NoStep" = U (U (.ref c2)))(aC3:TV K mainGlobals "NoHouse" = U (U (.ref c3)))(aC4:TV K mainGlobals "NoWeb" = U (U (.ref c4)))(aC5:TV K mainGlobals "NoPrice" = U (U (.ref c5)))(aC6:TV K mainGlobals "TooMany" = U (U (.ref c6)))(aC7:TV K mainGlobals "Closed" = U (U (.ref c7)))(aC8:TV K mainGlobals "Free" = U (U (.ref c8)))(aC9:TV K mainGlobals "Nothing" = U (U (.ref c9)))(aC10:TV K mainGlobals "NoNumber" = U (U (.ref kn)))(aC11:TV K mainGlobals "NoText" = U (U (.ref kq)))(aC12:TV K mainGlobals "NoLine" = U (U (.ref kr)))(kit:AM K L [c0,c1,c2,c3,c4,c5,c6,c7,c8,c9,kn,kq,kr]=θ)(exm:([c0,c1,c2,c3,c4,c5,c6,c7,c8,c9,kn,kq,kr].all λc=>WD K (.ref c) (.ref L)==U θ)=θ)(zVE:TV K mainGlobals "ValueError" = U η)(lC4:K.lookup c4=U (excClassObj AQ AR c4 M4 AS (.ref L::nM) AU AV tN AW tO AX AY AZ A0 A2 A3 "ValueError.__new__"))(nC4:nsOk K M4 "__init__" η=θ)(kC4:UK K (.ref c4)=θ)
  : ∃fd:FuncData,(∀(s:ο)(v:ν),BindsTo s fd ⟨[v],[]⟩ [("script",v)])/\∀base:R,K.In base->base.Ns mainGlobals mg->(∀t∈vK,base.BuiltinsAt mg t.T)->bP l.prog w K mg base fP 21 fa fd ["script"] (@u3 (lA vK) K):=by
 let⟨f,fd,a,F⟩:=DS.at (x:="law") (st:=qh) 33 Y;cases Rr.symm.trans (T3 X G a)
 letI:aD:=lA vK;let B:=Od X G N;calc⟨fd,λs v=>by let⟨_,_,_,_,_,_,_,_,_,rfl,_⟩:=F.ex;calc .of_eq Y,λbase KB _ hB=>?_⟩;let D:∀(i:Nat){x:J}{st:o},GY[i]?=U (x,st)->Dx ⟨l.prog,w,K,mg,base⟩ x st:=λi _ _ e=>(DS.at i e).v X G;let M:∀(i:Nat){x:J}{st:o}{T:O}{lp:y}{q:J},GV[i]?=U (x,st,T)->vK[i]?=U ⟨T,lp,q⟩->ER ⟨l.prog,w,K,mg,base⟩ x st T lp q:=λi _ _ _ _ _ e e2=>(LS.at i e).v X G KB hB (by decide) (by decide) (T2 e2);let W:zK K L [c0,c1,c2,c3,c4,c5,c6,c7,c8,c9,kn,kq,kr]:=Ra Y kit
 let T:zL mg L [c0,c1,c2,c3,c4,c5,c6,c7,c8,c9,kn,kq,kr]:=by
  calc⟨B.isinstance,Zj X G zVE,T3 X G aL,λj x hx=>?_⟩;unfold names13 at hx;rcases j with _|_|_|_|_|_|_|_|_|_|_|_|_|j<;>simp at hx<;>subst hx
  .exact⟨_,Y,T3 X G aC0⟩
  .exact⟨_,Y,T3 X G aC1⟩
  .exact⟨_,Y,T3 X G aC2⟩
  .exact⟨_,Y,T3 X G aC3⟩
  .exact⟨_,Y,T3 X G aC4⟩
  .exact⟨_,Y,T3 X G aC5⟩
  .exact⟨_,Y,T3 X G aC6⟩
  .exact⟨_,Y,T3 X G aC7⟩
  .exact⟨_,Y,T3 X G aC8⟩
  .exact⟨_,Y,T3 X G aC9⟩
  .exact⟨_,Y,T3 X G aC10⟩
  .exact⟨_,Y,T3 X G aC11⟩
  .exact⟨_,Y,T3 X G aC12⟩
 let TL:bS K (.ref L::nM):=.own lL (GX nL) .base;let hX:∀(c:Nat)(C:O),([c0,c1,c2,c3,c4,c5,c6,c7,c8,c9,kn,kq,kr]:-O)[c]?=U C->c<13/\WD K (.ref C) (.ref L)=U θ:=λc C e=>⟨(kP.mp e).1,TF (Uc.mp exm C (T2 e))⟩;let oY:ET ⟨l.prog,w,K,mg,base⟩ [c0,c1,c2,c3,c4,c5,c6,c7,c8,c9,kn,kq,kr] 4 "NoWeb" := ⟨by decide,c4,Y,Rb TL lC4 nC4 kC4,T3 X G aC4⟩;let Rt:=Ql (D 0 Y) B;let A4:=Qm (D 1 Y) B Rt;let GZ:=Qn (D 2 Y) B;let Ru:=Qo (D 3 Y) B A4;let Rv:=Qp (D 4 Y) B (gv.v X G) GZ Ru A4;let Rw:=Qr (D 5 Y) B (g0.v X G) Rv;let A5:=Qs (D 6 Y) B (fM.v X G) GZ A4 Rw
 let Rx:=QQ (Cs:=[c0,c1,c2,c3,c4,c5,c6,c7,c8,c9,kn,kq,kr]) (D 7 Y) B oY A5;let Ry:=Qu (D 7 Y) B A5;let Rz:=Qv (D 8 Y) B;let RA:=QR (Cs:=[c0,c1,c2,c3,c4,c5,c6,c7,c8,c9,kn,kq,kr]) (D 9 Y) B Rx;let RB:=Qw (D 9 Y) B Ry Rz;let RC:=Qx (D 10 Y) B;let G0:=Qy (D 11 Y) B;let RD:=Qz (D 12 Y) B (fg.v X G) (jT.v X G);let A6:=QA (D 13 Y) B RD;let RE:=QB (D 14 Y) B A6;let RF:=QC (D 15 Y) B G0 RE A6 A5;let RG:=QE (D 16 Y) B G0 A6;let RH:=QF (D 17 Y) B;let RI:=QG (D 19 Y) B;let tP:=QH (D 20 Y) B RH;let G1:=QI (D 21 Y) B;let RJ:=QY (D 22 Y) B 3;let RK:=QJ (D 23 Y) B tP
 let RL:=QK (D 24 Y) B tP RK;let RM:=QL (D 25 Y) B G1;let RN:=QM (D 26 Y) B RM;let RO:=Q0 (D 27 Y) B tP G1 3;let RP:=QN (D 28 Y) B tP;let⟨fR,AH,aR,FR⟩:=D 29 (x:="_law_refusal") (st:=GG) Y;let GR:Fn l.prog w K mg base 1 "_law_refusal" ["caught"] (lX [c0,c1,c2,c3,c4,c5,c6,c7,c8,c9,kn,kq,kr]) fR AH:=⟨QU (Z:=⟨l.prog,w,K,mg,base⟩) FR T W,aR,FR.kp,FR.binds eR⟩;let RQ:=QO (D 30 Y) B;let RR:=QP (D 31 Y) B;let RS:=QV (D 32 Y) B GR (T3 X G aL) hX RA;let⟨fo,Tj,ao,Fo⟩:=D 18 (x:="_law_open") (st:=vJ) Y;calc Q9 (Z:=⟨l.prog,w,K,mg,base⟩) F B ⟨Q1 Fo B.list B.enumerate,ao,Fo.kp,Fo.binds eR⟩ RL RI RQ RJ RB RF RO RN RS RP tP RR RC RG
end LJ
open PySem PySem.W PyProof.Rows
end
open LJ L2
inductive PySem.W.Fast:Prop|tw8551002395891704675|tw16308455295999824981|tw979481896820575365|tw2562284088839103117|tw8334309140817855408|tw12105455303216010858|tw8958510690293120369|tw9941267582463286088|tw13197521111248635379|tw12373629566761864703|tw7703879487805587589|tw11031282630000742074|tw7370130378254905426|tw7933972718643978488|tw14433238793681692386|tw4842534276283260709|tw12204875486535308056|tw12429241138487623743|tw6457684161088121992|tw3144943754167369245|tw17662307460945103366|tw5912363226973448537|tw9537230537160122965|tw16590896713788283522|tw10919769664632161734|tw17870357915848275759|tw18346021363335083598|tw13905461383535010974|tw16720119407569151029|tw5205460232707073957|tw5057644259040299036|tw1138767897059519530|tw6525893217977972985|tw9211972018676907646|tw11748226735043035641|tw6556209744612652351|tw11724091668358298212|tw2818330992190542082|tw15564940089974933902|tw4631633231608594512|tw420599676995371894|tw13587616246013548864|tw7479331809522506190|tw8522502447939122356|tw12974588479439508824|tw18257538985563025442|tw8165571200083457854|tw866962212658509368|tw237047317378791489|tw17955182903023875673|tw11630137387483459706|tw15158920859322885271|tw18361318502660361781|tw4152107580715741324|tw9364133150943432263|tw11612564650330897928|tw15913973332428573389|tw11654601920372503784|tw17422273395077775572|tw3263880242104887863|tw7288317095126617254|tw5907019122373930113|tw10527241287197472653|tw6826622564304611480|tw6160726674115418514|tw11111677295859192224|tw1806141041972175444|tw4362698845402970954|tw18098491179608481675|tw15260846148331047136|tw12748200353955479728|tw184366489203386195|tw15703392473156670107|tw14954927245625694249|tw17387871854382218347|tw13172105204811738031|tw13464604532916708585|tw4944307620597383441|tw15174462093382185909|tw31699857969801277|tw9408187599855001806|tw8538695343613069012|tw5139739478078034497|tw3485627293808831545|tw14189810724589961728|tw9110718551833455141|tw2077039623478702201|tw1085649091306833391|tw9325232360040064544|tw16051376502880332425|tw17453490150390190676|tw5735463944206575297|tw3559642560510943294|tw4057021807403554037|tw6582671448973734407|tw15986728400968669364|tw16270802787858897583|tw8750118644872790353|tw10142533204084198134|tw7510585295042442039|tw13725645910158588515|tw954992763988213186|tw320070823478437597|tw16641240319315950771|tw5486116160051564074|tw623039776624757823|tw4281269556119354069|tw17881377378046231372|tw15972183049615114512|tw10894381520957675665|tw14632756111057647517|tw1005325470640238449|tw2488620401036879288|tw4815489227315926185|tw8102578401677235595|tw15500648631291659665|tw8624588858810530629|tw4035267524476379675|tw5932021665462319125|tw9853549146141884293|tw12215577024711293401|tw962661632905587944|tw9593399464328457384|tw4029803683350217337|tw5980702680762811604|tw7902607014947661097|tw17742516519235376683|tw7619091066739580894|tw11082468560421644667|tw8918468880784632910|tw5671951686157757719|tw7212243277279376992|tw17041972907984271447|tw5885482133115311777|tw12669269779275591868|tw38147192188863988|tw9859388392638107366|tw573505095890303413|tw3185192351030929698|tw14635237309899177479|tw8973552683540961993|tw2296400889283396197|tw445194532417334926|tw9197332818731387983|tw10269782747140804627|tw16298372156539442240|tw15926157052133765839|tw16830290787263427782|tw8728049041440271782|tw2172750250823281750|tw3476552696203726947|tw9174029921604993950|tw10888474820249916253|tw834874964037829780|tw7350534753219096533|tw3366436492524613442|tw7735531469370503832|tw9958947318438138100|tw15202010728868887394|tw17990313832716741607|tw4162254254361990821|tw2233197578830452833|tw14936254902720846237|tw7828356266281189408|tw14381927116958786228|tw15371144313688217216|tw396290274479480821|tw18203017963845682573|tw12931184849507855801|tw7728172327698668513|tw6725114177497526137|tw9611188006027145512|tw12510217417933378576|tw2787761716701693966|tw9545486009927187203|tw7475599163672078332|tw11214842941144361982|tw14766615031857920905|tw10716448559737378069|tw10432959690142885549|tw9822466891299140037|tw17855526476653314068|tw6312261747242190494|tw18080293727526165307|tw7631354720306333262|tw9993872290394152512|tw6403393893683647409|tw5549511560476161677|tw7435223459333901920|tw4823843713118096002|tw7836948554067589570|tw5791397368517123670|tw10376820054689407437|tw2939144988018224362|tw10767074610929082317|tw5697969852573171777|tw3034636206361997238|tw12008394849063871403|tw5115075252495947087|tw17526202789297747351|tw11765978579084204050|tw17818473254461599824|tw3875608790706188088|tw11593898202554268589|tw8054546098244390326|tw11803888136943826778|tw9706718502838389922|tw7759710875044329939|tw7135293777799274021|tw11216122756110230402|tw5763933062268465689|tw13135391912830576340|tw9553730862713229907|tw14100926798974762377|tw3886001551292169440|tw13799139288894561415|tw16434574231219497239|tw2798064249268186304|tw5099624473355186121|tw14637730681072678400|tw16620698416618563279|tw12834498282772424785|tw4912481689830510594|tw16875660232459307371|tw5309344735912262426|tw15097509304633063790|tw470407420327394967|tw10004779143746604034|tw9731225936500746705|tw11469693365430462528|tw9389552813602867|tw12814963754163746360|tw15638534052964752821|tw3803518445304912669|tw16299368536289074152|tw15845927611054294506|tw173713407043341250|tw6040817791620185970|tw11319632335373030818|tw14841268210484780202|tw16368086673669496561|tw5858920176758635862|tw14245084440718460517|tw15187409501545555136|tw9322766584571703043|tw7370185328097750797|tw259323454685990627|tw2844744660834828763|tw16346597663403276238|tw810589554556420130|tw10039443417765412091|tw6920937177055084613|tw7264052617433653917|tw2226990838956993787|tw4428944518261417109|tw8621544633783438292|tw13235048849448177038|tw3735451461744046567|tw17851263947977558264|tw4373936118725144357|tw11411672877914191931|tw15698386437144386753|tw5831274769558035411|tw10560345285225354735|tw14373496588332464059|tw2359144067563423635|tw6804364662151069220|tw16725229183648678279|tw5448009277724565595|tw1360691955790898833|tw3329862012273214729|tw6748236457893562212|tw6412402240078406141|tw7579906508595454865|tw15668439185175956373|tw15419118974042662356|tw9944927172697345621|tw15487415125147059807
set_option maxRecDepth 100000 in
set_option maxHeartbeats 0 in
theorem PySem.Challenge.cw_lotjoin_k76_webs_and_lists_written_holds : PySem.Challenge.rw_lotjoin_k76_webs_and_lists_written.Holds := by
 w_on;o_law;k_head;(case hw=>w_witness2)
 k_fill
 refine LJ.Q_ (l:=PySem.Challenge.rw_lotjoin_k76_webs_and_lists_written) (kk:=21) rfl rfl ⟨rfl,by decide,by decide,rfl⟩ (λw h Y=>PySem.W.kIn_of Y) ?F
 case F =>
  intro w mg fa h KX G kO;refine' LJ.Rc KX G kO ?dD ?dL ?dN ⟨_,by k_is,_,rfl⟩ ⟨_,by k_is,_,rfl⟩ ⟨_,by k_is,_,rfl⟩ ⟨_,by k_is,_,rfl⟩ ⟨_,by k_is,_,rfl⟩ ?aL ?lL ?nL ?aC0 ?aC1 ?aC2 ?aC3 ?aC4 ?aC5 ?aC6 ?aC7 ?aC8 ?aC9 ?aC10 ?aC11 ?aC12 ?kit ?exm ?zVE ?lC4 ?nC4 ?kC4
  (case dD=>repeat' first|exact LJ.fK.nil|refine LJ.zD (by k_is) (by k_is) (by k_is) (by k_is) ?_)
  (case dL=>repeat' first|exact LJ.gY.nil|refine LJ.RT (by k_is) (by k_is) (by k_is) (by k_is) (by kernel_rfl) ?_)
  (case dN=>repeat' first|exact List.forall_mem_nil _|refine LJ.Ob (by k_is) ?_)
  (case aL=>k_is)
  (case aC0=>k_is)
  (case aC1=>k_is)
  (case aC2=>k_is)
  (case aC3=>k_is)
  (case aC4=>k_is)
  (case aC5=>k_is)
  (case aC6=>k_is)
  (case aC7=>k_is)
  (case aC8=>k_is)
  (case aC9=>k_is)
  (case aC10=>k_is)
  (case aC11=>k_is)
  (case aC12=>k_is)
  (case lL=>k_is)
  (case nL=>kernel_rfl)
  (case kit=>kernel_rfl)
  (case exm=>kernel_rfl)
  (case zVE=>k_is)
  (case lC4=>k_is)
  (case nC4=>kernel_rfl)
  (case kC4=>k_is)
