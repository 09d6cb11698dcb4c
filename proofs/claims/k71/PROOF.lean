import PyProof.Rows.All
import Wide.All
import OpenK.AllK
import Wide.FinOn
import Lean
import PyProof.Rows.SetFrom
import PyProof.TupleKey
import PyProof.SetRoads
import PySem.SetOps
import PyProof.EqAt
import PyProof.EqKinds
import PyProof.TupleCall
import KE.KDictList
import KE.KDictLaws
import PyProof.NeKinds
import PyProof.Draws
import KE.KSortTup
import KE.KLam
import PyProof.ListRange
import PyProof.TupleOfSeq
import KE.KNestM
import KE.KMinKey
import PyProof.MinMaxWalk
import PyProof.Conv_int_bool
import PySem.Challenge.RW_lotjoin_k71_which_are_narrow
set_option Elab.async false
set_option linter.all false
set_option maxRecDepth 100000
local macro_rules | `(tactic| trivial) => `(tactic| first | exact Or.inl rfl | exact Or.inr rfl)
abbrev mq:=@PySem.wpAny_bind
abbrev oU:=@List.getElem?_eq_getElem
abbrev oV:=@List.length_map
abbrev oW:=@List.getElem?_eq_some_iff
abbrev qt:=@PySem.Heap.get?_push_of_some
abbrev sD:=@List.size_toArray
abbrev uX:=@Nat.le_refl
abbrev xR:=@PySem.wpAny_pure
abbrev DD:=@List.getD_eq_getElem?_getD
abbrev DE:=@List.length_cons
abbrev DF:=@decide_eq_false
abbrev DG:=@List.length_append
abbrev LR:=@List.getElem?_map
abbrev LU:=@List.mem_append_right
abbrev LV:=@decide_eq_true
abbrev LW:=@Int.toNat_natCast
abbrev LX:=@if_neg
abbrev My:=@List.mem_map
abbrev UL:=@PySem.Heap.lt_size
abbrev UM:=@List.mem_iff_getElem?
abbrev UN:=@Array.length_toList
abbrev UO:=@if_pos
abbrev UP:=@Option.map_eq_some_iff
abbrev UQ:=@List.mem_cons_self
abbrev Vq:=@PySem.Heap.get?_push_size
abbrev Vr:=@List.mem_cons
abbrev Vs:=@List.mem_cons_of_mem
abbrev Vt:=@List.getElem?_append_left
abbrev Vu:=@List.getElem?_append_right
abbrev Vv:=@Bool.false_ne_true
abbrev Vw:=@Nat.lt_of_lt_of_le
abbrev Vx:=@Nat.ne_of_lt
abbrev Vy:=@List.map_cons
abbrev Vz:=@List.map_map
abbrev VA:=@List.mem_of_getElem?
abbrev VB:=@List.lookup_cons
abbrev VC:=@List.map_append
abbrev VD:=@PyProof.Rows.slot_tuple_getitem
abbrev VE:=@Option.some.inj
abbrev VF:=@PySem.Heap.SameBut.update
abbrev VG:=@PySem.wpAny_holding
abbrev VH:=@List.length_singleton
abbrev VI:=@List.mem_singleton
abbrev VJ:=@List.mem_range
abbrev VL:=@List.length_range
abbrev VM:=@List.length_take
abbrev VN:=@List.getElem?_eq_none
abbrev VO:=@List.mem_append
abbrev VP:=@PySem.boot_len
abbrev VQ:=@List.not_mem_nil
abbrev VR:=@List.mem_filter
abbrev VS:=@PySem.wpAny_loadPart'
abbrev VT:=@List.set_cons_zero
abbrev VU:=@List.set_cons_succ
abbrev VW:=@Bool.false_eq_true
abbrev VX:=@Array.getElem?_toList
abbrev VY:=@Bool.and_eq_true
abbrev VZ:=@Nat.zero_add
abbrev V6:=@Nat.zero_le
abbrev V7:=@PySem.wpAny_newObj_type
abbrev V8:=@Int.emod_lt_of_pos
abbrev V9:=@List.getElem?_take_of_lt
abbrev V_:=@Nat.le_trans
abbrev Wa:=@Nat.sub_self
abbrev Wb:=@List.mem_map_of_mem
abbrev Wc:=@PySem.PassesOwn.never
abbrev Wd:=@List.length_eq_zero_iff
abbrev We:=@of_decide_eq_true
abbrev Wf:=@List.mem_append_left
abbrev Wg:=@PySem.sizeLine_eq
abbrev Wh:=@List.getElem?_set_ne
abbrev Wi:=@List.getElem?_set_self
abbrev Wj:=@List.take_of_length_le
abbrev Wk:=@PySem.mem_of_lookup
abbrev Wl:=@List.replicate_succ
abbrev Wm:=@List.map_congr_left
abbrev Wn:=@Array.getD_eq_getD_getElem?
abbrev Wo:=@PySem.F.plainAttrs_list
abbrev Wq:=@PySem.Around.under_plainId
abbrev Wr:=@List.zip_cons_cons
abbrev Ws:=@Int.emod_nonneg
abbrev Wt:=@PySem.W.kia_one
abbrev Wu:=@List.all_eq_true
abbrev Wv:=@List.getElem?_range
abbrev Ww:=@PySem.wpAny_mono
abbrev Wx:=@PySem.wpAny_truthy_bool
abbrev Wz:=@decide_eq_true_eq
abbrev WB:=@LawfulBEq.eq_of_beq
abbrev WC:=@Nat.lt_irrefl
abbrev WD:=@List.length_nil
abbrev WH:=@List.filter_map
abbrev WJ:=@List.pairwise_cons
abbrev WK:=@List.getElem_mem
abbrev WL:=@PyProof.Rows.callWith_type1
abbrev WM:=@Nat.le_of_lt
abbrev WN:=@PySem.codeAny_builtin
abbrev WQ:=@List.length_set
abbrev WR:=@List.map_id
abbrev WU:=@Classical.byContradiction
abbrev WV:=@Array.getElem?_eq_getElem
abbrev WW:=@List.drop_eq_getElem_cons
abbrev WX:=@List.getElem?_toArray
abbrev WY:=@PySem.plainId_quiet
abbrev WZ:=@Option.isSome_iff_exists
abbrev W0:=@Nat.lt_succ_of_lt
abbrev W5:=@PySem.wpAny_callSpecial?_slot
abbrev W6:=@PySem.wpAny_pyIter_enum
abbrev W7:=@List.nodup_append
abbrev W8:=@List.map_nil
abbrev W9:=@List.any_cons
abbrev W_:=@Nat.lt_succ_self
abbrev Xa:=@List.getElem_map
abbrev Xb:=@PySem.F.slot_tuple_iterator_next
abbrev Xc:=@PySem.wpAny_passesOwn
abbrev Xd:=@PyProof.Rows.get?_update_seq
abbrev Xe:=@List.ext_getElem?
abbrev Xf:=@if_false
abbrev Xg:=@PySem.wpAny_pyIter_list
abbrev Xh:=@List.any_eq_false
abbrev Xi:=@PySem.wpAny_field
abbrev Xj:=@List.flatten_cons
abbrev Xk:=@List.pairwise_map
abbrev Xl:=@PySem.F.slot_list_append
abbrev Xm:=@PySem.F.type_list_append
abbrev Xn:=@List.countP_cons
abbrev Xo:=@PySem.wpAny_seqItems
abbrev Xp:=@PySem.wpAny_call_entry
abbrev Xq:=@List.take_succ
abbrev Xr:=@PySem.wpAny_tryCatch
abbrev Xs:=@List.Nodup.length_le_of_subset
abbrev Xt:=@PySem.wpAny_letGo
abbrev Xu:=@PySem.F.called_set
abbrev Xv:=@PySem.wpAny_Call_Name_kw
abbrev Xw:=@List.nodup_cons
abbrev Xx:=@List.foldl_cons
abbrev Xy:=@List.find?_cons
abbrev Xz:=@PySem.wpAny_updateSeq
abbrev XA:=@PySem.wpAny_standAt
abbrev XB:=@PySem.Heap.get?_update_self
abbrev XC:=@Ne.symm
abbrev XD:=@List.zip_nil_left
abbrev XE:=@List.append_assoc
abbrev XF:=@List.reverse_cons
abbrev XG:=@Bool.not_eq_true'
abbrev XH:=@List.foldl_append
abbrev XI:=@Array.getElem?_eq_some_iff
abbrev XJ:=@PySem.Heap.size_push
abbrev XM:=@Array.perm_iff_toList_perm
abbrev XN:=@Nat.ne_of_gt
abbrev XO:=@List.length_drop
abbrev XQ:=@List.pairwise_iff_getElem
abbrev XR:=@List.filterMap_cons
abbrev XS:=@List.length_reverse
abbrev XT:=@List.map_eq_nil_iff
abbrev XU:=@PySem.AutoSeq1.sub_tuple_tuple
abbrev XW:=@PySem.F.args_tuple_add_2
abbrev XX:=@PyProof.Rows.listUpdate_at
abbrev XY:=@PySem.wpAny_newList
abbrev XZ:=@PySem.PlainL.isList
abbrev X0:=@List.mem_filterMap
abbrev X1:=@PySem.tupleKind_room_in1
abbrev X7:=@PySem.Around.in1_handled
abbrev X8:=@PySem.wpAny_pyIter_tuple
abbrev X9:=@PyProof.Rows.F.plain_set_update_loop
abbrev X_:=@List.getElem?_replicate
abbrev Ya:=@PySem.F.entry_tuple_add
abbrev Yb:=@List.getElem?_cons_succ
abbrev Yc:=@Nat.le_of_lt_succ
abbrev Yd:=@PySem.wpAny_setState_of
abbrev Ye:=@or_false
abbrev Yf:=@PySem.W.cellsFrom_some
abbrev Yg:=@PySem.richCompare_meets_room
abbrev Yh:=@PySem.F.slot_tuple_add
abbrev Yi:=@if_true
abbrev Yj:=@List.length_filterMap_eq_countP
abbrev Yk:=@List.length_replicate
abbrev Yl:=@PySem.F.slot_dict_get
abbrev Ym:=@List.length_filter_le
abbrev Yn:=@List.nodup_range
abbrev Yo:=@PySem.wpAny_forIn_list
abbrev Yp:=@PySem.Walks.list
abbrev Yq:=@List.getElem_inj
abbrev Yr:=@List.take_length
abbrev Ys:=@List.any_eq_true
abbrev Yt:=@List.reverse_reverse
abbrev Yu:=@List.eq_nil_of_length_eq_zero
abbrev Yv:=@PySem.wpAny_execs_nil
abbrev Yw:=@List.append_nil
abbrev Yx:=@PySem.F.args_tuple_iterator_next_1
abbrev Yy:=@PyProof.Rows.lt_int
abbrev Yz:=@PyProof.Rows.entry_tuple_getitem
abbrev YA:=@List.filter_eq_self
abbrev YB:=@PySem.codeAny_mono
abbrev YD:=@Array.toList_setIfInBounds
abbrev YE:=@Array.forIn_toList
abbrev YF:=@Nat.lt_of_le_of_lt
abbrev YH:=@PySem.Calls.spliced_cons
abbrev YI:=@List.zip_nil_right
abbrev YK:=@PySem.Heap.IsSliceOf.new
abbrev YM:=@List.take_zero
abbrev YN:=@PySem.wpAny_sequenceKey
abbrev YO:=@PySem.slot_list_getitem
abbrev YQ:=@Nat.le_succ
abbrev YR:=@Option.isSome_map
abbrev YS:=@Array.getElem_mem_toList
abbrev YT:=@List.eq_of_mem_replicate
abbrev YV:=@PySem.W.mg_of
abbrev YW:=@Option.getD_none
abbrev YY:=@PySem.wpAny_eqBool_int
abbrev YZ:=@PySem.noFill_tuple_add
abbrev Y0:=@Nat.succ_ne_self
abbrev Y1:=@PySem.F.args_dict_get_3
abbrev Y2:=@List.cons_append
abbrev Y3:=@List.getElem?_cons_zero
abbrev Y4:=@PySem.F.args_tuple_gt_2
abbrev Y5:=@Array.toList_replicate
abbrev Y6:=@Array.toList_filterMap
abbrev Y7:=@PySem.wpAny_typeOf
abbrev Za:=@PySem.call_meets
abbrev Zb:=@PySem.F.entry_dict_get
abbrev Zc:=@Int.zero_add
abbrev Zd:=@List.drop_of_length_le
abbrev Ze:=@PySem.wpAny_rule
abbrev Zf:=@Nat.le_of_eq
abbrev Zg:=@PySem.F.entry_tuple_gt
abbrev Zh:=@Nat.succ.inj
abbrev Zi:=@List.find?_some
abbrev Zj:=@Option.map_some
abbrev Zk:=@Array.size_push
abbrev Zl:=@PySem.wpAny_specialOf
abbrev Zm:=@List.of_mem_zip
abbrev Zn:=@PySem.SeqAt.EqAt.same
abbrev Zo:=@Array.Perm.refl
abbrev Zp:=@List.cons.injEq
abbrev Zq:=@List.Perm.of_eq
abbrev Zy:=@Array.size_map
abbrev Zz:=@Bool.false_and
abbrev ZA:=@List.drop_zero
abbrev ZI:=@Bool.or_false
abbrev ZJ:=@Int.ofNat.inj
abbrev ZK:=@List.map_take
abbrev ZN:=@Int.ediv_one
abbrev ZT:=@Iff.rfl
theorem el7 {α β γ ε : Type} {A B C : α → β → γ → ε → Prop} {R : Prop} (h : ∃ F ad δ K, A F ad δ K ∧ B F ad δ K ∧ C F ad δ K) (k : ∀ F ad δ K, A F ad δ K → B F ad δ K → C F ad δ K → R) : R := h.elim fun F h => h.elim fun a h => h.elim fun d h => h.elim fun K h => k F a d K h.1 h.2.1 h.2.2
theorem el5 {α β : Type} {A B C : α → β → Prop} {R : Prop} (h : ∃ F ad, A F ad ∧ B F ad ∧ C F ad) (k : ∀ F ad, A F ad → B F ad → C F ad → R) : R := h.elim fun F h => h.elim fun a h => k F a h.1 h.2.1 h.2.2
theorem el3 {α : Type} {A B : α → Prop} {R : Prop} (h : ∃ F, A F ∧ B F) (k : ∀ F, A F → B F → R) : R := h.elim fun F h => k F h.1 h.2
set_option compiler.extract_closed false
local macro_rules | `(tactic| omega) => `(tactic| first | lia | omega (config := {}))
namespace LJS
open PySem PySem.SetTable
noncomputable def nx (m i:Nat):Nat:=(i * 5 + 1) % (m + 1)
noncomputable def lO (m:Nat):Nat->Nat->Nat
 | 0,i=>i
 | n + 1,i=>lO m n (nx m i)
theorem uM (m:Nat):∀ a b i,lO m (a + b) i=lO m b (lO m a i)
 | 0,b,i=>by rw[VZ];rfl
 | a + 1,b,i=>by rw[Nat.succ_add];exact uM m a b (nx m i)
noncomputable def wN (m:Nat):Nat->Nat->List Nat
 | 0,_=>[]
 | n + 1,i=>i :: wN m n (nx m i)
theorem B_ (m:Nat):∀ {n i e:Nat},e∈wN m n i->∃ k,k < n/\lO m k i=e
 | 0,_,_,h=>nomatch h
 | n + 1,i,e,h=>by
  rcases Vr.mp h with rfl | h
  ·exact⟨0,Nat.succ_pos _,rfl⟩
  ·obtain⟨k,hk,e⟩:=B_ m h
   exact⟨k + 1,Nat.succ_lt_succ hk,e⟩
noncomputable def Mk (m:Nat):Prop:=m=7\/m=31\/m=127
noncomputable def rF (m:Nat):Bool:=(List.range (m + 1)).all fun e=>(wN m (m + 1) 0).contains e
theorem Ca {m:Nat} (h:Mk m):rF m=true/\lO m (m + 1) 0=0:=by
 rcases h with rfl | rfl | rfl<;>exact⟨by decide +kernel,by decide +kernel⟩
theorem nq {m:Nat} (h:Mk m) {e:Nat} (he:e <= m):∃ k,k <= m/\lO m k 0=e:=by
 have:=Wu.mp (Ca h).1 e (VJ.mpr (Nat.lt_succ_of_le he))
 obtain⟨k,hk,q⟩:=B_ m (List.contains_iff_mem.mp this)
 exact⟨k,Yc hk,q⟩
theorem IL {m:Nat} (h:Mk m) {i e:Nat} (hi:i <= m) (he:e <= m):∃ n,n <= m/\lO m n i=e:=by
 obtain⟨a,ha,rfl⟩:=nq h hi
 obtain⟨b,hb,rfl⟩:=nq h he
 by_cases UE:a <= b
 ·refine⟨b - a,by omega,?_⟩
  rw[<-uM];congr 1;omega
 ·refine⟨m + 1 - a + b,by omega,?_⟩
  rw[<-uM,show a + (m + 1 - a + b)=(m + 1) + b by omega,uM,(Ca h).2]
noncomputable def lp (m:Nat):Nat->Nat->Nat->Nat × Nat
 | 0,i,p=>(i,p)
 | n + 1,i,p=>lp m n (leap m i p).1 (leap m i p).2
theorem wO (m:Nat):∀ a b i p,lp m (a + b) i p=lp m b (lp m a i p).1 (lp m a i p).2
 | 0,b,i,p=>by rw[VZ];rfl
 | a + 1,b,i,p=>by rw[Nat.succ_add];exact wO m a b _ _
theorem Cb (m:Nat):∀ n i,lp m n i 0=(lO m n i,0)
 | 0,i=>rfl
 | n + 1,i=>by
  show lp m n (leap m i 0).1 (leap m i 0).2=_
  have e:leap m i 0=(nx m i,0):=by unfold leap nx;simp
  rw[e];exact Cb m n _
theorem IM (m i p:Nat):(leap m i p).1 <= m:=Yc (Nat.mod_lt _ (Nat.succ_pos _))
theorem Cc (m:Nat):∀ n i p,(lp m n i p).2=p / 32 ^ n
 | 0,i,p=>by simp[lp]
 | n + 1,i,p=>by
  show (lp m n (leap m i p).1 (leap m i p).2).2=_
  rw[Cc m n]
  show p / 32 / 32 ^ n=_
  rw[Nat.div_div_eq_div_mul,Nat.pow_succ,Nat.mul_comm]
theorem reach {m:Nat} (h:Mk m) {i p e:Nat} (hp:p < 2 ^ 64) (he:e <= m):∃ n,n <= 13 + m/\(lp m n i p).1=e:=by
 have z:(lp m 13 i p).2=0:=by
  rw[Cc]
  exact Nat.div_eq_of_lt (Nat.lt_trans hp (by decide))
 have q:(lp m 13 i p).1 <= m:=by
  rw[wO m 12 1];exact IM _ _ _
 obtain⟨n,hn,en⟩:=IL h q he
 refine⟨13 + n,by omega,?_⟩
 rw[wO,z,Cb];exact en
theorem Cd (j:Nat):has #[] j=false:=by unfold has;simp
theorem wQ {t:SetTable} (hd:t.dummies = #[]) (j:Nat):t.slot j = .empty\/∃ i,t.slot j = .live i/\i < t.place.size/\j∈t.place.toList:=by
 unfold slot
 rw[hd,Cd]
 dsimp only
 by_cases c:(t.place[below t.place j]? == some j)=true
 ·right
  rw[UO c]
  have e:=WB c
  obtain⟨hl,ev⟩:=XI.mp e
  exact⟨_,rfl,hl,by rw[<-ev];exact YS hl⟩
 ·left
  rw[LX c];rfl
theorem IP {t:SetTable} (hd:t.dummies = #[]) {j:Nat} (hj:j∉t.place.toList):t.slot j = .empty:=by
 rcases wQ hd j with h | ⟨_,_,_,h⟩
 ·exact h
 ·exact absurd h hj
theorem Ce:∀ {l l':List Nat},l.Nodup->(∀ x∈l,x∈l')->l.length <= l'.length
 | [],_,_,_=>V6 _
 | a :: l,l',hn,hs=>by
  have ha:a∈l':=hs a (UQ ..)
  have lP:=Xw.mp hn
  have ih:=Ce (l:=l) (l':=l'.erase a) lP.2 fun x hx=>(List.mem_erase_of_ne (fun z=>lP.1 (by rw[<-z];exact hx))).mpr (hs x (Vs _ hx))
  rw[List.length_erase_of_mem ha] at ih
  have:=List.length_pos_of_mem ha
  rw[DE];omega
theorem IQ {l:List Nat} {m:Nat} (h:l.length <= m):∃ e,e <= m/\e∉l:=by
 refine WU fun no => ?_
 have all:∀ e,e∈List.range (m + 1)->e∈l:=fun e he=>WU fun z=>no ⟨e,Yc (VJ.mp he),z⟩
 have:(List.range (m + 1)).length <= l.length:=Ce Yn all
 rw[VL] at this
 omega
noncomputable def stateOf (t:SetTable) (i p:Nat):Probe:=⟨i,runEnd t.mask i - i,i,p,none⟩
theorem IS (m i:Nat):runEnd m i - i <= 9:=by unfold runEnd;split<;>omega
section
variable {t:SetTable} {f:Nat->Int} {h:Int}
theorem wR (F:Nat) (p:Probe):probe.go t f h (F + 1) p=(match t.slot p.j with
  | .empty=>some (.empty p.j p.dummy)
  | .dummy=>probe.go t f h F (t.advance { p with dummy:=some p.j })
  | .live i=>if f i == h then some (.candidate p.j i (t.advance p)) else probe.go t f h F (t.advance p)):=rfl
theorem Cf (hd:t.dummies = #[]) (hf:∀ i,i < t.place.size->f i≠h):∀ (k F:Nat) (p:Probe),p.more=k->p.dummy=none →
  (∃ j,probe.go t f h (F + k + 1) p=some (.empty j none))\/probe.go t f h (F + k + 1) p=probe.go t f h F (stateOf t (leap t.mask p.i p.perturb).1 (leap t.mask p.i p.perturb).2)
 | 0,F,p,hm,rG=>by
  show (∃ j,probe.go t f h (F + 1) p=_)\/probe.go t f h (F + 1) p=_
  rw[wR]
  rcases wQ hd p.j with e | ⟨i,e,hi,_⟩
  ·left;rw[e];exact⟨p.j,by rw[rG]⟩
  ·right
   rw[e]
   show (if (f i == h)=true then _ else _)=_
   rw[LX (by intro z;exact hf i hi (WB z))]
   unfold advance
   rw[hm,LX (by omega),rG]
   rfl
 | k + 1,F,p,hm,rG=>by
  have ih:=Cf hd hf k F { p with j:=p.j + 1,more:=p.more - 1 } (by show p.more - 1=k;omega) rG
  rw[show F + (k + 1) + 1=(F + k + 1) + 1 by omega,wR]
  rcases wQ hd p.j with e | ⟨i,e,hi,_⟩
  ·left;rw[e];exact⟨p.j,by rw[rG]⟩
  ·rw[e]
   show (∃ j,(if (f i == h)=true then _ else _)=_)\/(if (f i == h)=true then _ else _)=_
   rw[LX (by intro z;exact hf i hi (WB z))]
   have ea:t.advance p={ p with j:=p.j + 1,more:=p.more - 1 }:=by unfold advance;rw[UO (by omega)]
   rw[ea]
   exact ih
theorem Cg (hd:t.dummies = #[]) (hf:∀ i,i < t.place.size->f i≠h):∀ (n F i p:Nat),10 * (n + 1) <= F->t.slot (lp t.mask n i p).1 = .empty->∃ j,probe.go t f h F (stateOf t i p)=some (.empty j none)
 | 0,F,i,p,hF,hs=>by
  obtain⟨G,rfl⟩:∃ G,F=G + 1:=⟨F - 1,by omega⟩
  rw[wR]
  have e:t.slot (stateOf t i p).j = .empty:=hs
  rw[e]
  exact⟨i,rfl⟩
 | n + 1,F,i,p,hF,hs=>by
  have hr:=IS t.mask i
  obtain⟨G,hG⟩:∃ G,F=G + (runEnd t.mask i - i) + 1:=⟨F - (runEnd t.mask i - i) - 1,by omega⟩
  have:=Cf (f:=f) (h:=h) hd hf (runEnd t.mask i - i) G (stateOf t i p) rfl rfl
  rw[<-hG] at this
  rcases this with h1 | h1
  ·exact h1
  ·rw[h1]
   exact Cg hd hf n G _ _ (by omega) hs
theorem Ci (h:Int):bits h < 2 ^ 64:=by
 unfold bits
 have:=V8 h (show (0:Int) < 2 ^ 64 by decide)
 have:=Ws h (show (2 ^ 64:Int)≠0 by decide)
 omega
theorem IT (hd:t.dummies = #[]) (hm:Mk t.mask) (hz:t.place.size <= t.mask) (hf:∀ i,i < t.place.size->f i≠h):∃ j,t.probe f h (t.probeStart h)=some (.empty j none):=by
 obtain⟨e,he,ne⟩:=IQ (l:=t.place.toList) (m:=t.mask) (by rw[UN];exact hz)
 obtain⟨n,hn,en⟩:=reach hm (i:=bits h % (t.mask + 1)) (Ci h) he
 exact Cg hd hf n _ _ _ (by unfold turns;omega) (by rw[en];exact IP hd ne)
end
section
variable {m:Nat} {owner:Array (Option Nat)}
theorem Cj (F i p:Nat):layClean.free m owner (F + 1) i p=(match (List.range (runEnd m i + 1 - i)).find? fun k=>(owner.getD (i + k) (some 0)).isNone with
   | some k=>some (i + k)
   | none=>layClean.free m owner F (leap m i p).1 (leap m i p).2):=rfl
theorem Cm:∀ (n F i p:Nat),n + 1 <= F->(owner.getD (lp m n i p).1 (some 0)).isNone=true->∃ j,layClean.free m owner F i p=some j/\(owner.getD j (some 0)).isNone=true
 | 0,F,i,p,hF,hs=>by
  obtain⟨G,rfl⟩:∃ G,F=G + 1:=⟨F - 1,by omega⟩
  rw[Cj]
  cases hc:(List.range (runEnd m i + 1 - i)).find? fun k=>(owner.getD (i + k) (some 0)).isNone with
  | some k =>
   have:=Zi hc
   exact⟨i + k,rfl,this⟩
  | none =>
   have:=List.find?_eq_none.mp hc 0 (VJ.mpr (by unfold runEnd;split<;>omega))
   exact absurd hs this
 | n + 1,F,i,p,hF,hs=>by
  obtain⟨G,rfl⟩:∃ G,F=G + 1:=⟨F - 1,by omega⟩
  rw[Cj]
  cases hc:(List.range (runEnd m i + 1 - i)).find? fun k=>(owner.getD (i + k) (some 0)).isNone with
  | some k =>
   have:=Zi hc
   exact⟨i + k,rfl,this⟩
  | none=>exact Cm n G _ _ (by omega) hs
end
structure Ow (m:Nat) (owner:Array (Option Nat)) (k:Nat):Prop where
 size:owner.size=m + 1
 cnt:owner.toList.countP Option.isSome=k
 lt:∀ x,some x∈owner.toList->x < k
theorem Co:∀ {l:List (Option Nat)} {j k:Nat},l[j]? = some none->(l.set j (some k)).countP Option.isSome=l.countP Option.isSome + 1
 | [],j,k,h=>by simp at h
 | x :: l,0,k,h=>by
  simp at h;subst h
  rw[VT,Xn,Xn];rfl
 | x :: l,j + 1,k,h=>by
  simp at h
  rw[VU,Xn,Xn,Co h];omega
theorem getD_none {owner:Array (Option Nat)} {j:Nat} (h:(owner.getD j (some 0)).isNone=true):owner.toList[j]? = some none:=by
 rw[Wn] at h
 rw[VX]
 cases e:owner[j]? with
 | none=>rw[e] at h;cases h
 | some x =>
  rw[e] at h
  cases x with
  | none=>rfl
  | some y=>cases h
theorem IU {m:Nat} {owner:Array (Option Nat)} {k:Nat} (O:Ow m owner k) (hk:k <= m):∃ e,e <= m/\(owner.getD e (some 0)).isNone=true:=by
 refine WU fun no => ?_
 have all:∀ x∈owner.toList,x.isSome=true:=by
  intro x hx
  obtain⟨e,he⟩:=UM.mp hx
  cases x with
  | some y=>rfl
  | none =>
   have hl:=(oW.mp he).1
   rw[UN,O.size] at hl
   refine absurd ⟨e,Yc hl,?_⟩ no
   rw[Wn,<-VX,he];rfl
 have:=List.countP_eq_length.mpr all
 rw[O.cnt,UN,O.size] at this
 omega
theorem IV {m:Nat} {owner:Array (Option Nat)} {k:Nat} (hm:Mk m) (O:Ow m owner k) (hk:k <= m) (h:Int):∃ j,layClean.free m owner (turns m) (bits h % (m + 1)) (bits h)=some j/\Ow m (owner.setIfInBounds j (some k)) (k + 1):=by
 obtain⟨e,he,hn⟩:=IU O hk
 obtain⟨n,lP,en⟩:=reach hm (i:=bits h % (m + 1)) (Ci h) he
 obtain⟨j,ej,hj⟩:=Cm (m:=m) (owner:=owner) n (turns m) (bits h % (m + 1)) (bits h) (by unfold turns;omega) (by rw[en];exact hn)
 refine⟨j,ej,by rw[Array.size_setIfInBounds];exact O.size,?_,fun x hx => ?_⟩
 ·rw[YD,Co (getD_none hj),O.cnt]
 ·rw[YD] at hx
  rcases List.mem_or_eq_of_mem_set hx with h | h
  ·exact W0 (O.lt x h)
  ·cases h;exact W_ _
theorem Cp {m:Nat} (hm:Mk m):∀ (hs:List Int) (owner:Array (Option Nat)) (k:Nat),Ow m owner k->k + hs.length <= m + 1 →
  ∃ jO,(hs.foldl (init:=some (owner,k)) fun acc h=>do
   let (owner,k) <- acc
   let j <- layClean.free m owner (turns m) (bits h % (m + 1)) (bits h)
   pure (owner.setIfInBounds j (some k),k + 1))=some (jO,k + hs.length)/\Ow m jO (k + hs.length)
 | [],owner,k,O,_=>⟨owner,rfl,O⟩
 | h :: hs,owner,k,O,hl=>by
  rw[DE] at hl ⊢
  obtain⟨j,ej,O'⟩:=IV hm O (by omega) h
  obtain⟨o2,e2,O2⟩:=Cp hm hs _ (k + 1) O' (by omega)
  refine⟨o2,?_,by rw[show k + (hs.length + 1)=k + 1 + hs.length by omega];exact O2⟩
  rw[Xx,show k + (hs.length + 1)=k + 1 + hs.length by omega,<-e2]
  congr 1
  show (do let j <- layClean.free m owner (turns m) (bits h % (m + 1)) (bits h);pure (owner.setIfInBounds j (some k),k + 1))=_
  rw[ej];rfl
theorem IW (m:Nat):Ow m (Array.replicate (m + 1) none) 0:=by
 refine⟨by simp,?_,fun x hx => ?_⟩
 ·rw[Y5]
  exact List.countP_eq_zero.mpr fun x hx=>by rw[YT hx];decide
 ·rw[Y5] at hx
  cases YT hx
theorem IX {m:Nat} (hm:Mk m) (hs:Array Int) (hz:hs.size <= m + 1):∃ owner,layClean m hs=some owner/\Ow m owner hs.size:=by
 obtain⟨o,e,O⟩:=Cp hm hs.toList _ 0 (IW m) (by rw[UN];omega)
 rw[VZ,UN] at O
 refine⟨o,?_,O⟩
 unfold layClean
 rw[<-Array.foldl_toList,e];rfl
noncomputable def qm (m:Nat) (owner:Array (Option Nat)):List (Nat × Nat):=(List.range (m + 1)).filterMap fun j=>(owner.getD j none).map (j,·)
theorem Cq {m:Nat} {owner:Array (Option Nat)} {k:Nat} (O:Ow m owner k):(qm m owner).length=k:=by
 unfold qm
 rw[Yj,<-O.cnt]
 have e:owner.toList=(List.range (m + 1)).map fun j=>owner.getD j none:=by
  refine Xe fun i => ?_
  rw[VX,LR]
  by_cases hi:i < m + 1
  ·rw[Wv hi,Zj,WV (by rw[O.size];exact hi),Wn,WV (by rw[O.size];exact hi)];rfl
  ·rw[Array.getElem?_eq_none (by rw[O.size];omega),VN (by rw[VL];omega)];rfl
 rw[e,List.countP_map]
 refine List.countP_congr fun j _ => ?_
 simp
theorem IY {m:Nat} {owner:Array (Option Nat)} {k:Nat} (O:Ow m owner k) {z:Nat × Nat} (hz:z∈qm m owner):z.2 < k:=by
 unfold qm at hz
 obtain⟨j,hj,e⟩:=X0.mp hz
 obtain⟨x,ex,rfl⟩:=UP.mp e
 refine O.lt x ?_
 rw[Wn] at ex
 cases q:owner[j]? with
 | none=>rw[q] at ex;cases ex
 | some y =>
  rw[q] at ex
  cases (show y=some x from ex)
  exact UM.mpr ⟨j,by rw[VX];exact q⟩
theorem IZ {m:Nat} (hm:Mk m) (t:SetTable) (hs:Array Int) (wanted:Nat) (hw:sizeAbove wanted - 1=m) (hz:hs.size <= m + 1) :
  ∃ t' order,t.relaid hs wanted=some (t',order)/\t'.mask=m/\t'.dummies = #[]/\t'.place.size=hs.size/\t'.led=t.led/\t'.plain=t.plain/\order.size=hs.size/\∀ k∈order.toList,k < hs.size:=by
 obtain⟨owner,e,O⟩:=IX hm hs hz
 refine⟨{ mask:=m,place:=((qm m owner).map (·.1)).toArray,dummies := #[],finger:=t.finger,led:=t.led,moves:=t.movedTo m,plain:=t.plain },((qm m owner).map (·.2)).toArray,?_,rfl,rfl,?_,rfl,rfl,?_,fun k hk => ?_⟩
 ·unfold relaid laid
  rw[hw,e];rfl
 ·rw[sD,oV,Cq O]
 ·rw[sD,oV,Cq O]
 ·obtain⟨z,hz,rfl⟩:=My.mp hk
  exact IY O hz
theorem I_ {α : Type} {es:Array α} {order:Array Nat} (h:∀ k∈order.toList,k < es.size):(order.filterMap (es[·]?)).size=order.size/\∀ e∈(order.filterMap (es[·]?)).toList,e∈es.toList:=by
 constructor
 ·rw[<-UN,Y6,Yj,List.countP_eq_length.mpr fun k hk => ?_,UN]
  rw[WV (h k hk)];rfl
 ·intro e he
  rw[Y6] at he
  obtain⟨k,_,q⟩:=X0.mp he
  exact UM.mpr ⟨k,by rw[VX];exact q⟩
theorem Ja (t:SetTable) (hd:t.dummies = #[]) (j:Nat):(t.put j).1.dummies = #[]/\(t.put j).1.mask=t.mask/\(t.put j).1.place.size=t.place.size + 1/\(t.put j).1.led=t.led/\(t.put j).1.plain=t.plain/\(t.put j).1.moves=t.moves/\(t.put j).1.finger=t.finger:=by
 unfold put
 dsimp only
 rw[hd,Cd]
 refine⟨rfl,rfl,?_,rfl,rfl,rfl,rfl⟩
 unfold insertAt
 simp only[Array.size_append,Zk,Array.size_extract]
 omega
theorem Jb {α : Type} {xs:Array α} {p:Nat} {x e : α} (h:e∈(insertAt xs p x).toList):e=x\/e∈xs.toList:=by
 unfold insertAt at h
 simp only[Array.toList_append,Array.toList_push,VO,VI,Array.toList_extract] at h
 simp only[List.extract_eq_take_drop] at h
 rcases h with (h | h) | h
 ·right;exact List.mem_of_mem_drop (List.mem_of_mem_take h)
 ·exact .inl h
 ·right;exact List.mem_of_mem_drop (List.mem_of_mem_take h)
theorem Jc {α : Type} (xs:Array α) (p:Nat) (x : α):(insertAt xs p x).size=xs.size + 1:=by
 unfold insertAt
 simp only[Array.size_append,Zk,Array.size_extract]
 omega
end LJS
namespace LJS
open PySem PySem.SetTable PyProof.Rows
structure fh (t:SetTable) (es:Array (Int × Value)) (hs:List Int):Prop where
 wU:t.dummies = #[]
 rH:Mk t.mask
 rJ:t.place.size=es.size
 num:es.size=hs.length
 hV:t.tooFull=false
 ins:∀ e∈es.toList,e.1∈hs
noncomputable def eQ (h:Heap) (S:Addr) (hs:List Int):Prop:=∃ o es ep t,h.get? S=some o/\o.ExactSet/\o.data = .set es ep t/\fh t es hs
section
variable {t:SetTable} {es:Array (Int × Value)} {hs:List Int}
theorem fh.fill (T:fh t es hs):t.fill=es.size:=by
 unfold SetTable.fill
 rw[T.rJ,T.wU];rfl
theorem fh.lt (T:fh t es hs):es.size * 5 < t.mask * 3:=by
 have:=T.hV
 unfold tooFull at this
 rw[T.fill] at this
 have:=of_decide_eq_false this
 omega
theorem fh.fits (T:fh t es hs):t.fits es.size=true:=by
 have:=T.lt
 unfold SetTable.fits
 rw[T.fill,T.rJ]
 simp
 omega
theorem fh.wV (T:fh t es hs):t.gaveWay=false:=by
 unfold SetTable.gaveWay
 rcases T.rH with h | h | h<;>rw[h]<;>rfl
end
theorem Jd:sizeAbove (grown 5) - 1=31:=by decide +kernel
theorem Je:sizeAbove (grown 19) - 1=127:=by decide +kernel
section
variable {prog:Program} {w:World} {A:Around} {E:Value->Shared->Prop} {s:Shared}
theorem Jf {S:Addr} {x:Value} {h:Int} {hs:List Int} {o:Obj} {es:Array (Int × Value)} {ep:Nat} {t:SetTable} {Q:SetFound->Shared->Prop} (ho:s.heap.get? S=some o) (hd:o.data = .set es ep t) (T:fh t es hs) (hn:h∉hs)
  (k:∀ j,Q (.free j false) s):wpAny (model prog w) A (setSearch S x h true) Q E s:=by
 unfold setSearch
 show wpAny _ _ (setSearchFrom S x h true (99999 + 1) none) _ _ _
 unfold setSearchFrom
 refine mq (Yd ho hd T.fits ?_)
 dsimp only
 rw[T.wV]
 simp only[VW,↓reduceIte]
 have hz:t.place.size <= t.mask:=by have:=T.lt;rw[T.rJ];omega
 obtain⟨j,ej⟩:=IT (t:=t) (f:=fun i=>(es[i]?.map (·.1)).getD 0) (h:=h) T.wU T.rH hz (fun i hi z=>by
  rw[T.rJ] at hi
  rw[WV hi] at z
  exact hn (by rw[<-show es[i].1=h from z];exact T.ins _ (YS hi)))
 simp only[YW]
 generalize hP:t.probe _ h (t.probeStart h)=P
 have eP:P=some (.empty j none):=hP.symm.trans ej
 rw[eP]
 exact xR (k j)
theorem Jg {S:Addr} {x:Value} {h:Int} {hs:List Int} {Q:Bool->Shared->Prop} (hx:x.scannable=false) (hS:eQ s.heap S hs) (hn:h∉hs) (hl:hs.length < 60)
  (hv:∀ Q':Bool->Shared->Prop,(∀ b,Q' b s)->wpAny (model prog w) A (hashByValue 8 x) Q' E s)
  (k:∀ h',Heap.SameBut S s.heap h'->eQ h' S (hs ++ [h])->Q true { s with heap:=h' }):wpAny (model prog w) A (setAddHashed S x h) Q E s:=by
 obtain⟨o,es,ep,t,ho,hex,hd,T⟩:=hS
 unfold setAddHashed
 refine VG ?_
 show wpAny _ _ (setAddHashedIn S x h (99999 + 1)) _ _ _
 unfold setAddHashedIn
 refine mq (Yd ho hd T.fits ?_)
 have hb:byScan x es=false:=by unfold byScan;rw[hx];rfl
 dsimp only
 rw[hb]
 simp only[VW,↓reduceIte]
 refine mq (Jf ho hd T hn fun j => ?_)
 dsimp only
 refine mq (Yd ho hd T.fits ?_)
 dsimp only
 obtain⟨p1,p2,p3,p4,p5,p6,p7⟩:=Ja t T.wU j
 have fin:∀ b:Bool,wpAny (model prog w) A (do
   storeSet S (SetTable.insertAt es (t.put j).2 (h,x)) (if b=true then (t.put j).1 else { (t.put j).1 with plain:=false })
   if (!false && (if b=true then (t.put j).1 else { (t.put j).1 with plain:=false }:SetTable).tooFull)=true then do
       setRelay S (SetTable.grown (es.size + 1))
       pure true
    else pure true) Q E s:=by
  intro b
  generalize jP:(if b=true then (t.put j).1 else { (t.put j).1 with plain:=false }:SetTable)=t2
  have q1:t2.dummies = #[]:=by rw[<-jP];cases b<;>exact p1
  have q2:t2.mask=t.mask:=by rw[<-jP];cases b<;>exact p2
  have q3:t2.place.size=es.size + 1:=by rw[<-jP,<-T.rJ];cases b<;>exact p3
  have nv:=Jc es (t.put j).2 (h,x)
  have oh:∀ e∈(insertAt es (t.put j).2 (h,x)).toList,e.1∈hs ++ [h]:=fun e he=>by
   rcases Jb he with rfl | he
   ·exact LU _ (VI.mpr rfl)
   ·exact Wf _ (T.ins e he)
  generalize insertAt es (t.put j).2 (h,x)=hW at nv oh
  have UG:es.size < 60:=by rw[T.num];exact hl
  refine mq (wpAny_storeSet_of ho hd ?_ (by rw[nv,Wg];omega))
  have jy:(s.heap.update S (Obj.putSet hW t2)).get? S=some { o with data := .set hW (ep + 1) t2 }:=by
   have:=XB (Obj.putSet hW t2) ho (by rw[putSet_of hW t2 hd];rfl)
   rw[putSet_of hW t2 hd] at this;exact this
  have fl:t2.fill=es.size + 1:=by unfold SetTable.fill;rw[q1,q3];rfl
  have lt:=T.lt
  have rK:t2.fits hW.size=true:=by
   unfold SetTable.fits
   rw[fl,q3,nv,q2]
   simp
   rcases T.rH with e | e | e<;>rw[e] at lt ⊢ <;> omega
  by_cases tf:t2.tooFull=true
  ·rw[UO (by rw[tf];rfl)]
   have wW:t.mask * 3 <= (es.size + 1) * 5:=by
    unfold tooFull at tf
    rw[fl,q2] at tf
    have:=We tf
    omega
   obtain⟨m,hm,hw,hsz⟩:∃ m,Mk m/\sizeAbove (grown (es.size + 1)) - 1=m/\(es.size + 1) * 5 < m * 3:=by
    rcases T.rH with e | e | e
    ·rw[e] at lt wW
     have:es.size + 1=5:=by omega
     rw[this]
     exact⟨31,.inr (.inl rfl),Jd,by omega⟩
    ·rw[e] at lt wW
     have:es.size + 1=19:=by omega
     rw[this]
     exact⟨127,.inr (.inr rfl),Je,by omega⟩
    ·rw[e] at wW;omega
   refine mq ?_
   unfold setRelay
   refine mq (Yd jy rfl rK ?_)
   dsimp only
   have Jh:¬ SetTable.sizeAbove (SetTable.grown (es.size + 1)) > sizeLine:=by
    rw[Wg]
    rcases hm with e | e | e<;>omega
   rw[LX Jh]
   obtain⟨t3,order,er,r1,r2,r3,_,_,r4,r5⟩:=IZ hm t2 (hW.map (·.1)) (grown (es.size + 1)) hw (by rw[Zy,nv];omega)
   rw[er]
   rw[Zy,nv] at r3 r4
   rw[Zy] at r5
   obtain⟨o1,o2⟩:=I_ (es:=hW) (order:=order) r5
   refine mq ?_
   show wpAny _ _ (do
    if (order.filterMap (hW[·]?)).size != hW.size then
     unsupported "internal:set-table-lost-an-element"
    pure (order.filterMap (hW[·]?),t3)) _ _ _
   rw[LX (by rw[o1,r4,nv];simp)]
   refine xR ?_
   dsimp only
   refine wpAny_storeSet_of jy rfl ?_ (by rw[o1,r4,Wg];omega)
   have dI:((s.heap.update S (Obj.putSet hW t2)).update S (Obj.putSet (order.filterMap (hW[·]?)) t3)).get? S=some { o with data := .set (order.filterMap (hW[·]?)) (ep + 1 + 1) t3 }:=by
    have:=XB (Obj.putSet (order.filterMap (hW[·]?)) t3) jy (by rw[putSet_of _ t3 rfl];rfl)
    rw[putSet_of _ t3 rfl] at this;exact this
   refine xR (k _ ?_ ⟨_,_,_,_,dI,hex,rfl,r2,by rw[r1];exact hm,by rw[r3,o1,r4],by rw[o1,r4,T.num,DG];rfl,?_,fun e he=>oh e (o2 e he)⟩)
   ·exact (VF ..).trans (VF ..)
   ·unfold tooFull SetTable.fill
    rw[r2,r3,r1]
    simp
    omega
  ·have Cr:t2.tooFull=false:=by cases q:t2.tooFull<;>simp_all
   rw[LX (by rw[Cr];decide)]
   refine xR (k _ (VF ..) ⟨_,_,_,_,jy,hex,rfl,q1,by rw[q2];exact T.rH,by rw[q3,nv],by rw[nv,T.num,DG];rfl,Cr,oh⟩)
 by_cases hp:(t.put j).1.plain=true
 ·rw[UO hp]
  refine mq (hv _ fun b => ?_)
  exact fin b
 ·rw[LX hp]
  refine mq (xR ?_)
  exact fin true
end
end LJS
namespace LJS
open PySem PySem.SetTable
end LJS
namespace LJS
open PySem PySem.SetTable PyProof.Rows
section
variable {t:SetTable} {es:Array (Int × Value)} {led:Bool} {ks:List Int}
end
section
variable {prog:Program} {w:World} {A:Around} {E:Value->Shared->Prop} {s:Shared}
theorem Ji {ks:List Int}:∀ {vs:List Value},ItemsAre (intKind prog w) ks vs->∀ v∈vs,∃ i t,v = .int i t:=by
 induction ks with
 | nil=>intro vs h v hv;cases h;cases hv
 | cons k ks ih =>
  intro vs h v hv
  cases h with
  | cons h1 h2 =>
   rcases Vr.mp hv with rfl | hv
   ·obtain⟨t,e⟩:=Value.isInt_shape (k:=k) (v:=v) (by first | exact h1 | simpa [intKind] using h1)
    exact⟨_,_,e⟩
   ·exact ih h2 v hv
theorem Jj {ks:List Int} {a:Addr} {Q:Bool->Shared->Prop} (hk:IsTupleKey (intKind prog w) s.heap ks a) (h:∀ b,Q b s):wpAny (model prog w) A (hashByValue 8 (.ref a)) Q E s:=by
 have hT:=hk.typeIs
 obtain⟨o,aq,n,ho,_,hd,hi⟩:=hk
 show wpAny _ _ (hashByValue (7 + 1) (.ref a)) _ _ _
 unfold hashByValue
 refine mq (Zl hT F.slot_tuple_hash.lookup ?_)
 show wpAny _ _ (seqItems? (.ref a) >>= _) _ _ s
 refine mq (Xo ho hd ?_)
 refine mq ?_
 show wpAny _ _ (forIn aq _ _) _ _ s
 rw[<-YE]
 refine Yo _ (fun rest _ s'=>s'=s/\∀ v∈rest,∃ i t,v=Value.int i t) _ ?_ ?_ _ _ ⟨rfl,Ji hi⟩
 ·rintro v rest r s' ⟨rfl,gv⟩
  obtain⟨i,t,rfl⟩:=gv v UQ
  have e:hashByValue 7 (.int i t)=pure true:=by unfold hashByValue;rfl
  rw[e]
  refine mq (xR ?_)
  simp only[Bool.not_true,VW,Xf]
  exact xR ⟨rfl,fun u hu=>gv u (Vs _ hu)⟩
 ·rintro ⟨r1,r2⟩ s' ⟨rfl,_⟩
  cases r1 with
  | none=>exact xR (h _)
  | some b=>exact xR (h _)
theorem wX {h h':Heap} {ks:List Int} {a:Addr} (x:IsTupleKey (intKind prog w) h ks a) (k:∀ o,h.get? a=some o->h'.get? a=some o):IsTupleKey (intKind prog w) h' ks a:=by
 obtain⟨o,aq,n,ho,r⟩:=x
 exact⟨o,aq,n,k o ho,r⟩
noncomputable abbrev hT (prog:Program) (w:World) (ks:List Int):Int:=tupleKeyHash (intKind prog w) ks
theorem wY {h h':Heap} {S:Addr} {hs:List Int} (x:eQ h S hs) (k:∀ o,h.get? S=some o->h'.get? S=some o):eQ h' S hs:=by
 obtain⟨o,es,ep,t,ho,r⟩:=x
 exact⟨o,es,ep,t,k o ho,r⟩
end
section
variable {prog:Program} {w:World} {A:Around} {R:Result->Shared->Prop} {I S:Addr} {fp wr:List Addr} {G:Array GenState->Array GenState->Prop} {n:Nat} {P:Nat->Value->Prop} {St:Nat->Shared->Prop}
theorem Jk (W:WalksS prog w A.in1 I fp wr G n P St) (out:S∉fp) (ad:Nat->Addr) (ks:Nat->List Int) (om:∀ i v,P i v->v = .ref (ad i)) (apart:∀ i,i < n->ad i∉S :: wr) (room:A.in1.units < cLine)
  (unlike:∀ i j,i < n->j < i->hT prog w (ks j)≠hT prog w (ks i)) (fH:n <= 30) :
  ∀ (left i:Nat) (s:Shared),i + left=n->St i s->(∀ j,j < n->IsTupleKey (intKind prog w) s.heap (ks j) (ad j))->eQ s.heap S ((List.range i).map fun j=>hT prog w (ks j)) →
   (∀ s',Moved (S :: wr) G s s'->eQ s'.heap S ((List.range n).map fun j=>hT prog w (ks j))->R (.ok (.ret .none)) s') →
   codeAny (model prog w) A (.builtin "set.update.loop" ⟨[.ref S,.ref I],[]⟩) R s:=by
 have rL:S∉wr:=fun z=>out (W.sub _ z)
 have more:∀ b,b∈wr->b∈S :: wr:=fun b hb=>Vs _ hb
 intro left
 induction left with
 | zero =>
  intro i s hi st tk se fin
  obtain rfl:i=n:=by omega
  refine WN F.entry_set_update_loop ?_
  rw[Wq X9 _]
  show wpAny _ A.in1 (pyNext (.ref I) >>= _) _ _ s
  refine mq (W.done s _ _ st fun s' mv => ?_)
  show wpAny _ A.in1 (ret Value.none) _ _ s'
  exact xR (fin s' (mv.mono more) (wY se fun o e=>mv.heap S o rL e))
 | succ left ih =>
  intro i s hi st tk se fin
  have d3:i < n:=by omega
  refine WN F.entry_set_update_loop ?_
  rw[Wq X9 _]
  show wpAny _ A.in1 (pyNext (.ref I) >>= _) _ _ s
  refine mq (W.item i s _ _ d3 st fun v s1 hP k_ mv => ?_)
  obtain rfl:=om i v hP
  have iR:∀ j,j < n->IsTupleKey (intKind prog w) s1.heap (ks j) (ad j):=fun j hj=>wX (tk j hj) fun o e=>mv.heap _ o (fun z=>apart j hj (more _ z)) e
  show wpAny _ A.in1 (holding [Value.ref (ad i)] (setAdd S (.ref (ad i))) >>= _) _ _ s1
  refine mq (VG ?_)
  unfold setAdd
  refine VG (mq (wpAny_pyHash_tuple room (iR i d3) ?_))
  refine Jg (s:={ s1 with toks:=s1.toks + ((ks i).length + 1) }) (hs:=(List.range i).map fun j=>hT prog w (ks j)) rfl (wY se fun o e=>mv.heap S o rL e) (fun z => ?_) (by rw[oV,VL];omega) (fun Q' q=>Jj (iR i d3) q) fun h2 sb Jl => ?_
  ·obtain⟨j,hj,e⟩:=My.mp z
   exact unlike i j d3 (VJ.mp hj) e
  ·have nS:∀ b,b∈fp->b≠S:=fun b hb z=>out (by rw[<-z];exact hb)
   refine xR ⟨WY X9 _,ih (i + 1) _ (by omega) (W.frame _ s1 _ _ k_ (Nat.le_add_right _ _) fun b hb o e=>by rw[sb.2 b (nS b hb)];exact e) (fun j hj=>wX (iR j hj) fun o e => ?_) (by rw[List.range_succ,VC];exact Jl) fun s3 Jo Jp => ?_⟩
   ·rw[sb.2 _ (fun z=>apart j hj (by rw[z];exact UQ))];exact e
   ·refine fin s3 (Moved.trans W.gtrans ((mv.mono more).then_heap (Nat.le_add_right _ _) fun b o hb e => ?_) Jo) Jp
    rw[sb.2 b (fun z=>hb (by rw[z];exact UQ))];exact e
end
noncomputable abbrev fU (led:Bool):Obj:={ cls := .type "set",dict:=none,data := .set #[] 0 (.fresh 0 0 led) }
theorem Jq {h:Heap} {S:Addr} {led:Bool} (e:h.get? S=some (fU led)):eQ h S [] :=
 ⟨_,#[],0,_,e,⟨rfl,rfl,rfl⟩,rfl,rfl,.inl rfl,rfl,rfl,by cases led<;>decide,fun _ h=>nomatch h⟩
section
variable {prog:Program} {w:World} {A:Around} {E:Value->Shared->Prop} {s:Shared}
set_option maxHeartbeats 3200000 in
theorem Jr {l:Addr} {items:Array Value} {Q:Value->Shared->Prop} (ad:Nat->Addr) (ks:Nat->List Int) (hh:A.handled=none) (room:A.units + 8 < cLine) (Js:s.heap.IsList l items) (om:∀ (i:Nat) (v:Value),items[i]? = some v->v = .ref (ad i))
  (tk:∀ i,i < items.size->IsTupleKey (intKind prog w) s.heap (ks i) (ad i)) (unlike:∀ i j,i < items.size->j < i->hT prog w (ks j)≠hT prog w (ks i)) (fH:items.size <= 30)
  (fin:∀ (h':Heap) (tk:Nat),eQ h' s.heap.objs.size ((List.range items.size).map fun j=>hT prog w (ks j))->(∀ b o,b < s.heap.objs.size->s.heap.get? b=some o->h'.get? b=some o)->Q (.ref s.heap.objs.size) { s with heap:=h',toks:=tk }) :
  wpAny (model prog w) A (call (.type "set") [.ref l]) Q E s:=by
 obtain⟨c,tl,Jt⟩:=Xu.mro
 have m1:=Xu.made
 have m2:=Xu.sub
 have m3:=Xu.notType
 have m4:=Xu.canCreate
 have m5:=F.typeCall_set_1 (.ref l)
 refine wpAny_call (codeAny_of_tree ?_)
 show wpAny _ _ (callAny (.type "set") _) _ _ _
 refine xR ⟨Code.quiet_builtin _ (by decide +kernel),WN F.entry_type_call ?_⟩
 rw[Around.under_plain (weight_type_call_type "set" [.ref l] []) rfl]
 repeat (any_goals (first | assumption | wp_step))
 refine YB (code_set_new_1 (.ref l) (E:=E) (Q₁ := fun r s1=>∃ led:Bool,r = .ref s.heap.objs.size/\s1={ s with heap:=s.heap.push (fU led) }) fun led=>⟨led,rfl,rfl⟩) fun r s1 hr => ?_
 cases r with
 | error e=>exact hr
 | ok fl =>
  cases fl with
  | ret obj =>
   obtain⟨led,rfl,rfl⟩:=hr
   have gS:(s.heap.push (fU led)).get? s.heap.objs.size=some (fU led):=Vq _ rfl
   have tS:Shared.TypeIs { s with heap:=s.heap.push (fU led) } (.ref s.heap.objs.size) "set" := ⟨_,gS,rfl⟩
   have m6:=Xu.init.lookup
   have m7:=Xu.init.bind (.ref s.heap.objs.size)
   repeat (any_goals (first | assumption | wp_step))
   refine YB (codeAny_call_builtin (R:=wants (fun r s2=>r = .none/\∃ h' tk,s2={ s with heap:=h',toks:=tk }/\eQ h' s.heap.objs.size ((List.range items.size).map fun j=>hT prog w (ks j)) ∧
     ∀ b o,b < s.heap.objs.size->s.heap.get? b=some o->h'.get? b=some o) E) Xu.init.plain F.entry_set_init (check_set_init_1 tS ?_)) fun r2 s2 rM => ?_
   ·obtain⟨ol,gl,cl,nl,dl⟩:=Js
    obtain⟨c0,d0,UH,Ju⟩:=ol
    simp only at cl dl
    subst cl
    subst dl
    have Jv:(s.heap.push (fU led)).get? l=some { cls := .type "list",dict:=d0,data := .seq items nl,slots:=Ju }:=qt _ gl
    have x1:=F.sub_list_set
    have x2:=F.sub_list_frozenset
    have x3:(Value.type "list" == Value.type "dict")=false:=by decide
    have rN:(s.heap.push (fU led)).IsList l items:=⟨_,Jv,rfl,nl,rfl⟩
    have ll:l < s.heap.objs.size:=UL gl
    unfold Builtin.«set.__init__» noKeywords Builtin.Frozenset.updateFrom
    generalize Jw:pyIter=PI
    wp_walk
    subst Jw
    refine Xg rN (mq (wpAny_runValue ?_))
    have h3:A.in1.in1.in1.handled=none:=by simp[hh]
    have ez:(s.heap.push (fU led)).objs.size=s.heap.objs.size + 1:=XJ ..
    have nI:l≠(s.heap.push (fU led)).objs.size:=by rw[ez];exact Vx (W0 ll)
    have lt:∀ i,i < items.size->ad i < s.heap.objs.size:=fun i hi=>by
     obtain⟨o,_,_,e,_⟩:=tk i hi
     exact UL e
    refine Jk ((Yp h3 _ l nI items).toS) (S:=s.heap.objs.size) ?out ad ks (fun i v hv=>om i v hv) ?apart ?room unlike fH items.size 0 _ (VZ _)
     ⟨⟨_,Vq _ rfl,rfl,rfl⟩,rN.push _⟩ ?tk ?fresh ?fin
    case out =>
     simp only[Vr,VQ,Ye,not_or,ez]
     exact⟨Vx (W_ _),XN ll⟩
    case apart =>
     intro i hi
     have:=lt i hi
     simp only[Vr,VQ,Ye,not_or,ez]
     exact⟨Vx this,Vx (W0 this)⟩
    case room =>
     show A.units + 1 + 1 + 1 < cLine
     exact YF (Nat.add_le_add_left (by decide:3 <= 8) _) room
    case tk =>
     intro j hj
     exact wX (tk j hj) fun o e=>qt _ (qt _ e)
    case fresh =>
     exact Jq (led:=led) (qt _ gS)
    case fin =>
     intro s' mv se
     obtain⟨h',g',d',iS,wZ⟩:=s'
     obtain rfl:g'=s.gens:=mv.gens
     obtain rfl:d'=s.drawn:=mv.drawn
     obtain rfl:wZ=s.os:=mv.os
     show wpAny _ _ _ _ _ _
     refine xR ?_
     show wpAny _ _ (ret Value.none) _ _ _
     refine xR ⟨rfl,h',iS,rfl,se,fun b o hb e => ?_⟩
     refine mv.heap b o ?_ (qt _ (qt _ e))
     simp only[Vr,VQ,Ye,not_or,ez]
     exact⟨Vx hb,Vx (W0 hb)⟩
   ·cases r2 with
    | error e=>exact rM
    | ok Jx =>
     cases Jx with
     | ret r =>
      obtain⟨rfl,h',iS,rfl,se,kp⟩:=rM
      repeat (any_goals (first | assumption | wp_step))
      exact fin _ _ se kp
     | next=>exact rM
     | brk=>exact rM
     | cont=>exact rM
  | next=>exact hr
  | brk=>exact hr
  | cont=>exact hr
end
section
variable {prog:Program} {w:World} {A:Around} {I S:Addr} {o:Obj} {es:Array (Int × Value)} {ep:Nat} {t:SetTable} {ks:List Int}
end
section
variable {prog:Program} {w:World} {A:Around} {S:Addr} {o:Obj} {es:Array (Int × Value)} {ep:Nat} {t:SetTable} {ks:List Int}
end
end LJS
namespace L2
open PySem PySem.Spec PyProof.Rows
noncomputable abbrev Key:=Sum Int Str
noncomputable def qo:Key->Value->Bool
 | .inl k,v=>Value.isInt k v
 | .inr x,v=>Value.isStrOf x v
noncomputable def w4 (w:World):Key->Int
 | .inl k=>hashInt k
 | .inr x=>hashStr w x
theorem lQ:∀ {k:Key} {v:Value},qo k v=true->(∃ i t,k=Sum.inl i/\v=Value.int i t)\/(∃ x t,k=Sum.inr x/\v=Value.str x t)
 | .inl i,v,h=>by
  obtain⟨t,e⟩:=Value.isInt_shape (k:=i) (v:=v) h
  exact .inl ⟨i,t,rfl,e⟩
 | .inr x,v,h=>by
  obtain⟨t,e⟩:=Value.isStrOf_shape (x:=x) (v:=v) h
  exact .inr ⟨x,t,rfl,e⟩
theorem Jy (i:Int) (t:Tok):qo (.inl i) (.int i t)=true:=by simp[qo,Value.isInt]
theorem Jz (x:Str) (t:Tok):qo (.inr x) (.str x t)=true:=by simp[qo,Value.isStrOf]
theorem JB (a b:Int):decide ((Sum.inl a:Key)=Sum.inl b)=(a == b):=by
 by_cases e:a=b
 ·subst e;simp
 ·have h:¬ (Sum.inl a:Key)=Sum.inl b:=fun q=>e (Sum.inl.inj q)
  rw[DF h]
  exact (beq_eq_false_iff_ne.mpr e).symm
theorem JD (a b:Str):decide ((Sum.inr a:Key)=Sum.inr b)=decide (a=b):=by
 by_cases e:a=b
 ·subst e;simp
 ·have h:¬ (Sum.inr a:Key)=Sum.inr b:=fun q=>e (Sum.inr.inj q)
  rw[DF h,DF e]
theorem JH (a:Int) (b:Str):decide ((Sum.inl a:Key)=Sum.inr b)=false:=DF (fun q=>nomatch q)
theorem JJ (a:Str) (b:Int):decide ((Sum.inr a:Key)=Sum.inl b)=false:=DF (fun q=>nomatch q)
noncomputable def gw (prog:Program) (w:World):PySem.KeyKind prog w Key where
 is:=qo
 hash:=w4 w
 inj:=fun v a b ha hb=>by
  rcases lQ ha with⟨i,t,rfl,rfl⟩ | ⟨x,t,rfl,rfl⟩
  ·rcases lQ hb with⟨j,u,rfl,e⟩ | ⟨y,u,rfl,e⟩
   ·injection e with e1 _;rw[e1]
   ·exact nomatch e
  ·rcases lQ hb with⟨j,u,rfl,e⟩ | ⟨y,u,rfl,e⟩
   ·exact nomatch e
   ·injection e with e1 _;rw[e1]
 byValue:=fun k v h=>by
  rcases lQ h with⟨i,t,rfl,rfl⟩ | ⟨x,t,rfl,rfl⟩<;>rfl
 pyHash:=fun hv h=>by
  rcases lQ hv with⟨i,t,rfl,rfl⟩ | ⟨x,t,rfl,rfl⟩
  ·exact wpAny_pyHash_int h
  ·exact wpAny_pyHash_str h
 eqBool:=fun hu hv h=>by
  rcases lQ hu with⟨i,t,rfl,rfl⟩ | ⟨x,t,rfl,rfl⟩
  ·rcases lQ hv with⟨j,u,rfl,rfl⟩ | ⟨y,u,rfl,rfl⟩
   ·rw[JB] at h;exact YY h
   ·rw[JH] at h;exact SeqAt.EqAt.int_str i t y u _ _ _ _ h
  ·rcases lQ hv with⟨j,u,rfl,rfl⟩ | ⟨y,u,rfl,rfl⟩
   ·rw[JJ] at h;exact SeqAt.EqAt.str_int x t j u _ _ _ _ h
   ·rw[JD] at h;exact wpAny_eqBool_str h
 «strs» := fun k x t v h=>by
  rcases lQ h with⟨i,u,rfl,e⟩ | ⟨y,u,rfl,e⟩
  ·exact nomatch e
  ·injection e with e1 _
   subst e1
   cases v<;>rfl
theorem JK (prog:Program) (w:World) (i:Int) (t:Tok):(gw prog w).is (.inl i) (.int i t)=true:=Jy i t
theorem JL (prog:Program) (w:World) (x:Str) (t:Tok):(gw prog w).is (.inr x) (.str x t)=true:=Jz x t
inductive V where
 | non | bl (b:Bool) | int (i:Int) | str (x:Str) | byt (b:Array UInt8) | flt (b:UInt64) | ref (a:Addr) | ty (n:String)
 deriving DecidableEq
noncomputable def RelV:V->Value->Prop
 | .non,u=>u=Value.none
 | .bl b,u=>u=Value.bool b
 | .int i,u=>∃ t,u=Value.int i t
 | .str x,u=>∃ t,u=Value.str x t
 | .byt b,u=>∃ t,u=Value.bytes b t
 | .flt b,u=>∃ t,u=Value.float b t
 | .ref a,u=>u=Value.ref a
 | .ty n,u=>u=Value.type n
noncomputable abbrev Vals:List V->List Value->Prop:=Paired RelV
theorem Vals.length {xs:List V} {us:List Value} (r:Vals xs us):xs.length=us.length:=Paired.length r
theorem Vals.get:∀ {xs:List V} {us:List Value} {i:Nat} {x:V},Vals xs us->xs[i]? = some x->∃ u,us[i]? = some u/\RelV x u
 | _,_,_,_,.nil,e=>by simp at e
 | _,_,0,_,.cons r _,e=>by simp at e;subst e;exact⟨_,rfl,r⟩
 | _,_,i + 1,x,.cons _ t,e=>by
  obtain⟨u,h1,h2⟩:=Vals.get (i:=i) (x:=x) t (by simpa using e)
  exact⟨u,by simpa using h1,h2⟩
theorem Vals.set {x:V} {u:Value} (r:RelV x u):∀ {xs:List V} {us:List Value} (i:Nat),Vals xs us->Vals (xs.set i x) (us.set i u)
 | _,_,_,.nil => .nil
 | _,_,0,.cons _ t => .cons r t
 | _,_,i + 1,.cons q t => .cons q (Vals.set r i t)
theorem Vals.append:∀ {xs ys:List V} {us ws:List Value},Vals xs us->Vals ys ws->Vals (xs ++ ys) (us ++ ws)
 | _,_,_,_,.nil,s=>s
 | _,_,_,_,.cons r t,s => .cons r (Vals.append t s)
theorem Vals.take:∀ {xs:List V} {us:List Value} (n:Nat),Vals xs us->Vals (xs.take n) (us.take n)
 | _,_,0,_ => .nil
 | _,_,_ + 1,.nil => .nil
 | _,_,n + 1,.cons r t => .cons r (Vals.take n t)
theorem Vals.drop:∀ {xs:List V} {us:List Value} (n:Nat),Vals xs us->Vals (xs.drop n) (us.drop n)
 | _,_,0,r=>r
 | _,_,_ + 1,.nil => .nil
 | _,_,n + 1,.cons _ t=>Vals.drop n t
noncomputable def dJ:Option V->Option Value->Prop
 | some v,some u=>RelV v u
 | none,none=>True
 | _,_=>False
noncomputable def KV {κ : Type}:List (κ × V)->List (κ × Value)->Prop:=Paired fun (p : κ × V) (q : κ × Value)=>p.1=q.1/\RelV p.2 q.2
noncomputable def kV:Key->V
 | .inl i => .int i
 | .inr x => .str x
inductive HO where
 | lst (xs:List V)
 | tup (xs:List V)
 | dK (ah:List (Key × V)) | dT (ah:List (List Key × V))
 | set (S:Int->Bool) (n:Nat)
 | ins (C dx:Addr) (fs:List (Str × V))
 | own (x:Addr)
 | xd (fs:List (Str × V))
 | met (f x:Addr)
 | rng (lo hi:Int)
 | frz (o:Obj) (u:HO)
 | tbl (ps:Array Value)
 | ext (φ : Heap->Prop)
noncomputable abbrev Hp:=Addr->Option HO
noncomputable def upd (H:Hp) (a:Addr) (o:HO):Hp:=fun b=>if b=a then some o else H b
theorem bR {H:Hp} {a:Addr} {o:HO}:upd H a o a=some o:=by unfold upd;rw[UO rfl]
theorem aX {H:Hp} {a b:Addr} {o:HO} (h:b≠a):upd H a o b=H b:=by unfold upd;rw[LX h]
theorem JM {H:Hp} {a b:Addr} {o u:HO} (h:H a=some o) (h':H b=some u) (d:o≠u):a≠b:=by
 intro e;subst e;rw[h] at h';exact d (VE h')
theorem cY {H:Hp} {a b:Addr} {o:HO} (h:H a=some o) (h':H b=none):a≠b:=by
 intro e;subst e;rw[h] at h';cases h'
section
variable (P:Program) (w:World)
noncomputable def aQ (H:Hp) (h:Heap) (a:Addr):HO->Prop
 | .lst xs=>xs.length <= sizeLine/\∃ (aq:List Value) (n:Nat),Vals xs aq/\h.get? a=some { cls := .type "list",data := .seq aq.toArray n }
 | .tup xs=>xs.length <= sizeLine/\∃ aq:List Value,Vals xs aq/\IsTup h a aq.toArray
 | .dK ah=>ah.length <= sizeLine/\(a == sysModules)=false/\∃ vs,KV ah vs/\h.DictOf (gw P w) a vs
 | .dT ah=>ah.length <= sizeLine/\(a == sysModules)=false/\∃ xs:List (List Key × Addr × Value),
   Paired (fun (p:List Key × V) (q:List Key × Addr × Value)=>p.1=q.1/\H q.2.1=some (.tup (p.1.map kV))/\RelV p.2 q.2.2) ah xs ∧
   ∃ o es ep,h.get? a=some o/\o.ExactDict/\o.data = .dict es ep/\es.toList=xs.map (entryOfKey (tupleKind (gw P w)))/\(xs.map (·.1)).Nodup
 | .set S n=>h.SetOf (intKind P w) a S n
 | .ins C dx fs=>H dx=some (.own a)/\fs.length <= 1000/\dx≠a/\h.get? a=some (PySem.W.instObj C dx) ∧
   ∃ mA,h.Ns1 dx mA/\(∀ f,dJ (fs.lookup f) (mA f))/\PySem.Within mA (fs.map (·.1))
 | .own _=>∃ o,h.get? a=some o
 | .xd fs=>∃ mA,h.Ns1 a mA/\∀ f,dJ (fs.lookup f) (mA f)
 | .rng lo hi=>∃ t u v,h.get? a=some { cls := .type "range",data := .fields #[.int lo t,.int hi u,.int 1 v] }
 | .frz o u=>h.get? a=some o/\aQ H h a u
 | .tbl ps=>h.get? a=some { cls := .none,data := .fields ps }
 | .met f x=>h.get? a=some (PySem.W.methodObj (.ref f) (.ref x))
 | .ext φ => φ h/\(∃ o,h.get? a=some o)/\∀ h1 h2:Heap,φ h1->(∀ o,h1.get? a=some o->h2.get? a=some o) -> φ h2
noncomputable def dg (H:Hp) (h:Heap):Prop:=∀ a o,H a=some o->aQ P w H h a o
end
section
variable {P:Program} {w:World} {H H':Hp} {h h':Heap} {a:Addr} {o:HO}
theorem aQ.lt (x:aQ P w H h a o):a < h.objs.size:=by
 cases o with
 | lst xs=>obtain⟨_,_,_,_,e⟩:=x;exact UL e
 | tup xs=>obtain⟨_,_,_,p⟩:=x;exact p.lt
 | dK ah=>obtain⟨_,_,_,_,o,_,_,e,_⟩:=x;exact UL e
 | dT ah=>obtain⟨_,_,_,_,o,_,_,e,_⟩:=x;exact UL e
 | set S n=>obtain⟨o,_,_,_,e,_⟩:=x;exact UL e
 | ins C dx fs=>obtain⟨_,_,_,e,_⟩:=x;exact UL e
 | own y=>obtain⟨_,e⟩:=x;exact UL e
 | xd fs=>obtain⟨_,⟨_,_,_,e,_⟩,_⟩:=x;exact UL e
 | rng lo hi=>obtain⟨_,_,_,e⟩:=x;exact UL e
 | frz ob u=>obtain⟨e,_⟩:=x;exact UL e
 | tbl ps=>exact UL (show h.get? a=some _ from x)
 | met f y=>exact UL (show h.get? a=some _ from x)
 | ext φ => obtain⟨_,⟨_,e⟩,_⟩:=x;exact UL e
theorem Paired.oo {α β : Type} {F G : α -> β -> Prop}:∀ {l₁ : List α} {l₂ : List β},Paired F l₁ l₂ -> (∀ a b,F a b->G a b)->Paired G l₁ l₂
 | _,_,.nil,_ => .nil
 | _,_,.cons r t,f => .cons (f _ _ r) (Paired.oo t f)
theorem aQ.fq (x:aQ P w H h a o) (k:∀ b u,(b=a\/H b=some (.own a))->h.get? b=some u->h'.get? b=some u)
  (ho:∀ b,H b=some (.own a)->H' b=some (.own a)) (ht:∀ b xs,H b=some (.tup xs)->H' b=some (.tup xs)):aQ P w H' h' a o:=by
 induction o with
 | lst xs=>obtain⟨z,aq,n,r,e⟩:=x;exact⟨z,aq,n,r,k _ _ (.inl rfl) e⟩
 | tup xs=>obtain⟨z,aq,r,ob,e,c⟩:=x;exact⟨z,aq,r,ob,k _ _ (.inl rfl) e,c⟩
 | dK ah=>obtain⟨z,y,vs,r,ob,es,ep,e,c⟩:=x;exact⟨z,y,vs,r,ob,es,ep,k _ _ (.inl rfl) e,c⟩
 | dT ah =>
  obtain⟨z,y,xs,r,ob,es,ep,e,c⟩:=x
  exact⟨z,y,xs,Paired.oo r fun p q z=>⟨z.1,ht _ _ z.2.1,z.2.2⟩,ob,es,ep,k _ _ (.inl rfl) e,c⟩
 | set S n=>obtain⟨ob,es,ep,t,e,c⟩:=x;exact⟨ob,es,ep,t,k _ _ (.inl rfl) e,c⟩
 | ins C dx fs =>
  obtain⟨d,z,ne,e,mA,⟨od,es,ep,e2,c⟩,r⟩:=x
  exact⟨ho _ d,z,ne,k _ _ (.inl rfl) e,mA,⟨od,es,ep,k _ _ (.inr d) e2,c⟩,r⟩
 | own y=>obtain⟨ob,e⟩:=x;exact⟨ob,k _ _ (.inl rfl) e⟩
 | xd fs=>obtain⟨mA,⟨od,es,ep,e,c⟩,r⟩:=x;exact⟨mA,⟨od,es,ep,k _ _ (.inl rfl) e,c⟩,r⟩
 | rng lo hi=>obtain⟨t,u,v,e⟩:=x;exact⟨t,u,v,k _ _ (.inl rfl) e⟩
 | frz ob u ih=>obtain⟨e,q⟩:=x;exact⟨k _ _ (.inl rfl) e,ih q⟩
 | tbl ps =>
  have e:h.get? a=some { cls := .none,data := .fields ps }:=x
  show h'.get? a=some { cls := .none,data := .fields ps }
  exact k a _ (.inl rfl) e
 | met f y =>
  have e:h.get? a=some (PySem.W.methodObj (.ref f) (.ref y)):=x
  show h'.get? a=some (PySem.W.methodObj (.ref f) (.ref y))
  exact k a _ (.inl rfl) e
 | ext φ => obtain⟨p,⟨o,e⟩,st⟩:=x;exact⟨st _ _ p fun o q=>k _ _ (.inl rfl) q,⟨o,k _ _ (.inl rfl) e⟩,st⟩
theorem dg.lt (x:dg P w H h) (e:H a=some o):a < h.objs.size:=(x a o e).lt
theorem dg.fresh (x:dg P w H h) (e:h.objs.size <= a):H a=none:=by
 cases q:H a with
 | none=>rfl
 | some u=>exact absurd (Vw (x.lt q) e) (WC _)
theorem dg.kept (x:dg P w H h) (k:∀ b u,h.get? b=some u->h'.get? b=some u):dg P w H h':=fun a o e =>
 (x a o e).fq (fun b u _ q=>k b u q) (fun _ q=>q) fun _ _ q=>q
theorem dg.laid (x:dg P w H h) (k:∀ b u,h.get? b=some u->h'.get? b=some u) (hp:h.objs.size <= a) (new:aQ P w (upd H a o) h' a o):dg P w (upd H a o) h':=fun b u e=>by
 have hn:=x.fresh hp
 by_cases hb:b=a
 ·subst hb;rw[bR] at e;cases e;exact new
 ·rw[aX hb] at e
  exact (x b u e).fq (fun c v _ q=>k c v q) (fun c q=>by rw[aX (cY q hn)];exact q) fun c xs q=>by rw[aX (cY q hn)];exact q
end
noncomputable def Rd (H:Hp) (a:Addr) (u:HO):Prop:=H a=some u\/∃ o,H a=some (.frz o u)
theorem Rd.ok {P:Program} {w:World} {H:Hp} {h:Heap} {a:Addr} {u:HO} (r:Rd H a u) (x:dg P w H h):aQ P w H h a u:=by
 rcases r with r | ⟨o,r⟩
 ·exact x a u r
 ·obtain⟨_,q⟩:=x a _ r
  exact q
noncomputable def rO:Option HO->Prop
 | some (.lst _)=>True
 | some (.dK _)=>True
 | some (.dT _)=>True
 | some (.set _ _)=>True
 | some (.ins _ _ _)=>True
 | some (.ext _)=>True
 | _=>False
section
variable {P:Program} {w:World} {H:Hp} {h h':Heap} {x e:Addr} {o':HO}
theorem dg.write (ok:dg P w H h) (mu:rO (H x)) (he:e=x\/H e=some (.own x)) (k:∀ b u,b≠e->h.get? b=some u->h'.get? b=some u) (la:∃ u,h'.get? e=some u)
  (new:aQ P w (upd H x o') h' x o'):dg P w (upd H x o') h':=fun b u q=>by
 have rP:∀ c y,H c=some (.own y)->c≠x:=fun c y r z=>by subst z;rw[r] at mu;exact mu
 have w5:∀ c xs,H c=some (.tup xs)->c≠x:=fun c xs r z=>by subst z;rw[r] at mu;exact mu
 by_cases hb:b=x
 ·subst hb;rw[bR] at q;cases q;exact new
 ·rw[aX hb] at q
  by_cases oq:b=e
  ·have q':H b=some (.own x):=by
    rcases he with z | z
    ·exact absurd (oq.trans z) hb
    ·rw[oq];exact z
   rw[q] at q';cases q'
   obtain⟨v,hv⟩:=la
   exact⟨v,by rw[oq];exact hv⟩
  ·refine (ok b u q).fq (fun c v hc r=>k c v ?_ r) (fun c r=>by rw[aX (rP c b r)];exact r) fun c xs r=>by rw[aX (w5 c xs r)];exact r
   rcases hc with rfl | hc
   ·exact oq
   ·rintro rfl
    rcases he with z | z
    ·exact rP c b hc z
    ·rw[hc] at z;cases z;exact hb rfl
end
structure Un (fs ex:List Addr) (H H':Hp) (h h':Heap):Prop where
 keep:∀ b o,h.get? b=some o->H b=none->b∉fs->b∉ex->h'.get? b=some o
 slot:∀ b o,h.get? b=some o->H b=none->b∈fs->b∉ex->∃ sl,h'.get? b=some { o with slots:=sl }
 free:∀ b o,h.get? b=some o->H b=none->b∉ex->H' b=none
 there:∀ b o,h.get? b=some o->b∉ex->∃ o',h'.get? b=some o'
 eS:∀ b xs,H b=some (.tup xs)->H' b=some (.tup xs)
 ft:∀ b o u,H b=some (.frz o u)->H' b=some (.frz o u)
 fu:∀ b ps,H b=some (.tbl ps)->∃ more,H' b=some (.tbl (ps ++ more))
section
variable {fs JN ex UI:List Addr} {H H1 H2:Hp} {h h1 h2 h':Heap} {a x e:Addr} {o:HO}
theorem Un.any (u:Un fs ex H H1 h h1) {b:Addr} {ob:Obj} (q:h.get? b=some ob) (n:H b=none) (hx:b∉ex):∃ sl,h1.get? b=some { ob with slots:=sl }:=by
 by_cases hb:b∈fs
 ·exact u.slot b ob q n hb hx
 ·exact⟨ob.slots,u.keep b ob q n hb hx⟩
theorem Un.kept (k:∀ b u,h.get? b=some u->h'.get? b=some u):Un fs ex H H h h' :=
 ⟨fun b ob q _ _ _=>k b ob q,fun b ob q _ _ _=>⟨ob.slots,k b ob q⟩,fun _ _ _ n _=>n,fun b ob q _=>⟨ob,k b ob q⟩,fun _ _ q=>q,fun _ _ _ q=>q,fun _ ps q=>⟨#[],by rw[q];simp⟩⟩
theorem Un.refl:Un fs ex H H h h:=Un.kept fun _ _ q=>q
theorem Un.laid (k:∀ b u,h.get? b=some u->h'.get? b=some u) (hp:h.objs.size <= a) (hn:H a=none):Un fs ex H (upd H a o) h h' where
 keep:=fun b u q _ _ _=>k b u q
 slot:=fun b u q _ _ _=>⟨u.slots,k b u q⟩
 free:=fun b u q n _=>by rw[aX (Vx (Vw (UL q) hp))];exact n
 there:=fun b u q _=>⟨u,k b u q⟩
 eS:=fun b xs q=>by rw[aX (cY q hn)];exact q
 ft:=fun b u xs q=>by rw[aX (cY q hn)];exact q
 fu:=fun b ps q=>⟨#[],by rw[aX (cY q hn),q];simp⟩
theorem Un.write (mu:rO (H x)) (he:e=x\/H e=some (.own x)) (k:∀ b u,b≠e->h.get? b=some u->h'.get? b=some u) (la:∃ u,h'.get? e=some u):Un fs ex H (upd H x o) h h':=by
 have hx:∀ b,H b=none->b≠x:=fun b n z=>by subst z;rw[n] at mu;exact mu
 have hb:∀ b,H b=none->b≠e:=fun b n z=>by
  subst z
  rcases he with r | r
  ·exact hx b n r
  ·rw[n] at r;cases r
 have hm:∀ b u,H b=some u->¬ rO (some u)->b≠x:=fun b u q nm z=>by subst z;rw[q] at mu;exact nm mu
 refine⟨fun b u q n _ _=>k b u (hb b n) q,fun b u q n _ _=>⟨u.slots,k b u (hb b n) q⟩,fun b u q n _=>by rw[aX (hx b n)];exact n,fun b u q _ => ?_,
  fun b xs q=>by rw[aX (hm b _ q fun z=>z)];exact q,fun b u xs q=>by rw[aX (hm b _ q fun z=>z)];exact q,fun b ps q=>⟨#[],by rw[aX (hm b _ q fun z=>z),q];simp⟩⟩
 by_cases oq:b=e
 ·subst oq;exact la
 ·exact⟨u,k b u oq q⟩
end
noncomputable def uN (h:Heap) (H:Hp):List Addr:=(List.range h.objs.size).filter fun a=>(H a).isSome
noncomputable def fw (h:Heap) (H:Hp):Heap:=PySem.W.hideAll h (uN h H)
theorem JO (h:Heap) (H:Hp):(fw h H).objs.size=h.objs.size:=PySem.W.hideAll_size _ _
theorem JP {h:Heap} {H:Hp} {b:Addr} {o:Obj} (e:h.get? b=some o) (n:H b=none):(fw h H).get? b=some o :=
 PySem.W.hideAll_get _ e fun hm=>by
  have q:(H b).isSome=true:=(VR.mp hm).2
  rw[n] at q;simp at q
theorem JQ {h:Heap} {H:Hp} {b:Addr} {o:Obj} (e:(fw h H).get? b=some o):h.get? b=some o/\H b=none:=by
 have e':h.get? b=some o:=PySem.W.of_hideAll (uN h H) e
 refine⟨e',?_⟩
 cases q:H b with
 | none=>rfl
 | some x =>
  have hm:b∈uN h H:=VR.mpr ⟨VJ.mpr (UL e'),by simp[q]⟩
  have z:(fw h H).get? b=none:=PySem.W.hideAll_none (uN h H) hm
  rw[z] at e;cases e
structure Mod (K:PySem.W.Frag) (mg:Str->Option Value) (base:Heap):Prop where
 nA:K.In base
 glob:base.Ns mainGlobals mg
 blt:∃ mb,base.Ns builtinsNs mb/\∀ x:Str,x ≠ "__name__" -> mb x=bootBuiltins x
 nolimit:base.NoLimit
structure Cx where
 prog:Program
 w:World
 K:PySem.W.Frag
 mg:Str->Option Value
 base:Heap
 A:Around
 N:List Str
 s₀ : Shared
 H₀ : Hp
 env:Env
 outer:List Env
 stack:List Env
 ex:List Addr
 fn:Str->Bool
 calm:Bool
 pn:List (Addr × Obj)
 xe:Value->Shared->Prop
noncomputable def jz (l:List Env):List Addr:=l.filterMap (·.frame)
noncomputable abbrev Cx.fs (X:Cx):List Addr:=jz X.outer
noncomputable def ou (sc:Scope) (x:Str):Prop:=sc.names.lookup x=some .local\/sc.names.lookup x=some .cell\/sc.names.lookup x=some .free
noncomputable def Loc (sc:Scope) (x:Str):Prop:=sc.names.lookup x=some .local\/sc.names.lookup x=some .cell
noncomputable def Look (env:Env) (h:Heap) (m:Str->Option Value) (x:Str) (u:Value):Prop :=
 (env.kindOf x=some .local/\m x=some u)\/((env.kindOf x=some .cell\/env.kindOf x=some .free)/\∃ c,env.cells.lookup x=some c/\h.IsCell c (some u))
structure Cx.Ok (X:Cx):Prop where
 mod:Mod X.K X.mg X.base
 kind:X.env.scope.kind = .function
 glob:X.env.globals=mainGlobals
 blt:X.env.builtins=builtinsNs
 above:X.s₀.heap.objs.size <= X.env.locals
 inj:∀ x y c,X.env.cells.lookup x=some c->X.env.cells.lookup y=some c->x=y
 has:∀ x,(X.env.kindOf x=some .cell\/X.env.kindOf x=some .free)->∃ c,X.env.cells.lookup x=some c
 rQ:∀ x c,X.fn x=true->X.env.cells.lookup x=some c->X.s₀.heap.objs.size <= c
 hd:X.calm=true->X.A.handled=none
 frames:X.A.frames=some X.stack
 uO:X.stack=X.outer\/(X.stack=X.env :: X.outer/\X.env.frame=some X.env.locals)
 Cs:∀ b∈X.ex,b≠X.env.locals/\∀ x c,X.env.cells.lookup x=some c->c≠b
 bs:∀ b o,X.base.get? b=some o->X.s₀.heap.get? b=some o/\X.H₀ b=none
 nB:X.base.objs.size <= X.s₀.heap.objs.size
 jQ:∀ b o,X.base.get? b=some o->b∉X.ex
 lR:∀ b∈X.ex,b∉X.fs
 eg:X.s₀.heap.FunFrames X.base X.outer
 oy:∀ b∈X.fs,X.H₀ b=none
structure Inv (X:Cx) (pins:List (Addr × Obj)) (σ : List (Option V)) (H:Hp) (s:Shared):Prop where
 ok:X.Ok
 os:s.os=X.s₀.os
 bare:AllBare s.gens
 base:Un X.fs X.ex X.H₀ H X.s₀.heap s.heap
 loc:∃ m,s.heap.Ns X.env.locals m/\∀ (i:Nat) (x:Str) (v:V),X.N[i]? = some x -> σ[i]? = some (some v)->ou X.env.scope x->∃ u,RelV v u/\Look X.env s.heap m x u
 cell:∀ x c,X.env.cells.lookup x=some c->∃ v,s.heap.IsCell c v
 free:H X.env.locals=none
 cz:∀ x c,X.env.cells.lookup x=some c->H c=none
 pin:∀ p∈X.pn ++ pins,s.heap.get? p.1=some p.2/\H p.1=none/\p.1≠X.env.locals/\p.1∉X.fs/\∀ v,p.2.data ≠ .cell v
 aN:dg X.prog X.w H s.heap
 len : σ.length=X.N.length
section
variable {X:Cx} {pins:List (Addr × Obj)} {σ : List (Option V)} {H H':Hp} {s:Shared} {h':Heap}
theorem Cx.Ok.w6 (ok:X.Ok) {b:Addr} {o:Obj} (e:X.base.get? b=some o):b∉X.fs:=fun hb=>by
 have:=(ok.eg.mem hb).1
 rw[e] at this;cases this
theorem Inv.bs (I:Inv X pins σ H s):∀ b o,X.base.get? b=some o->s.heap.get? b=some o/\H b=none:=fun b o e =>
 ⟨I.base.keep b o (I.ok.bs b o e).1 (I.ok.bs b o e).2 (I.ok.w6 e) (I.ok.jQ b o e),I.base.free b o (I.ok.bs b o e).1 (I.ok.bs b o e).2 (I.ok.jQ b o e)⟩
theorem Inv.bk (I:Inv X pins σ H s):∀ b o,X.base.get? b=some o->s.heap.get? b=some o:=fun b o e=>(I.bs b o e).1
theorem Inv.mod (I:Inv X pins σ H s):Mod X.K X.mg X.base:=I.ok.mod
theorem Inv.gy (I:Inv X pins σ H s):X.K.In s.heap:=I.ok.mod.nA.keeps I.bk
theorem Inv.nolimit (I:Inv X pins σ H s):s.heap.NoLimit:=I.ok.mod.nolimit.keeps I.bk
theorem Inv.lt (I:Inv X pins σ H s):X.env.locals < s.heap.objs.size:=let ⟨_,hn,_⟩:=I.loc;hn.lt
theorem Inv.sz (I:Inv X pins σ H s):X.s₀.heap.objs.size <= s.heap.objs.size:=V_ I.ok.above (WM I.lt)
theorem Inv.w9 (I:Inv X pins σ H s) {a:Addr} (h:s.heap.objs.size <= a):a∉X.fs:=fun hb=>by
 obtain⟨_,o,ho,_⟩:=I.ok.eg.mem hb
 exact absurd (Vw (UL ho) (V_ I.sz h)) (WC _)
theorem Inv.oz (I:Inv X pins σ H s):∀ x c,X.env.cells.lookup x=some c->c≠X.env.locals:=fun x c e z=>by
 obtain⟨v,o,ho,hd⟩:=I.cell x c e
 obtain⟨m,⟨o',es,ep,iT,JR,_⟩,_⟩:=I.loc
 rw[z,iT] at ho;cases ho;rw[JR] at hd;cases hd
theorem Inv.eg (I:Inv X pins σ H s):s.heap.FunFrames X.base X.outer:=by
 have all:∀ (l:List Env),(∀ b∈jz l,b∈X.fs)->X.s₀.heap.FunFrames X.base l->s.heap.FunFrames X.base l:=by
  intro l
  induction l with
  | nil=>intro _ _;trivial
  | cons env r ih =>
   intro hs hl
   obtain⟨hk,⟨L,o,hf,hn,ho,hd⟩,hr⟩:=hl
   have hL:L∈X.fs:=hs L (by unfold jz;rw[XR,hf];exact UQ)
   obtain⟨sl,e⟩:=I.base.slot L o ho (I.ok.oy L hL) hL fun z=>I.ok.lR L z hL
   exact⟨hk,⟨L,_,hf,hn,e,hd⟩,ih (fun b hb=>hs b (by unfold jz;rw[XR,hf];exact Vs _ hb)) hr⟩
 exact all X.outer (fun _ hb=>hb) I.ok.eg
theorem Inv.stack (I:Inv X pins σ H s):s.heap.FunFrames X.base X.stack:=by
 rcases I.ok.uO with e | ⟨e,hf⟩
 ·rw[e];exact I.eg
 ·rw[e]
  obtain⟨m,hn,_⟩:=I.loc
  refine .cons (by rw[I.ok.kind];decide) hf hn ?_ I.eg
  exact Heap.get?_none_of_le (V_ I.ok.nB I.ok.above)
theorem Inv.fV (I:Inv X pins σ H s):∀ b∈jz X.stack,b∈X.env.locals :: X.fs:=fun b hb=>by
 rcases I.ok.uO with e | ⟨e,hf⟩
 ·rw[e] at hb;exact Vs _ hb
 ·rw[e] at hb
  unfold jz at hb
  rw[XR,hf] at hb
  exact hb
theorem Inv.iB (I:Inv X pins σ H s):∀ b∈jz X.stack,H b=none:=fun b hb=>by
 rcases Vr.mp (I.fV b hb) with e | hb
 ·rw[e];exact I.free
 ·obtain⟨_,o,ho,_⟩:=I.ok.eg.mem hb
  exact I.base.free b o ho (I.ok.oy b hb) fun z=>I.ok.lR b z hb
theorem Inv.step {g':Array GenState} {t':Nat} {d':Drawn} {ch:List Addr} (I:Inv X pins σ H s)
  (lb:∀ b∈ch,(b∈X.ex\/X.s₀.heap.objs.size <= b)/\b≠X.env.locals/\(∀ x c,X.env.cells.lookup x=some c->c≠b)/\∀ p∈X.pn ++ pins,p.1≠b)
  (keep:∀ b o,b≠X.env.locals->b∉X.fs->b∉ch->s.heap.get? b=some o->H b=none->h'.get? b=some o)
  (slot:∀ b o,b≠X.env.locals->b∈X.fs->b∉ch->s.heap.get? b=some o->H b=none->∃ sl,h'.get? b=some { o with slots:=sl }) (free:∀ b o,b∉ch->s.heap.get? b=some o->H b=none->H' b=none)
  (there:∀ b o,b∉ch->s.heap.get? b=some o->∃ o',h'.get? b=some o')
  (eS:∀ b xs,H b=some (.tup xs)->H' b=some (.tup xs)) (ft:∀ b o u,H b=some (.frz o u)->H' b=some (.frz o u)) (fu:∀ b ps,H b=some (.tbl ps)->∃ more,H' b=some (.tbl (ps ++ more)))
  (ns:∀ m,s.heap.Ns X.env.locals m->h'.Ns X.env.locals m) (aN:dg X.prog X.w H' h') (hg:AllBare g') :
  Inv X pins σ H' { s with heap:=h',gens:=g',drawn:=d',toks:=t' }:=by
 have Cu:∀ b o,X.s₀.heap.get? b=some o->b≠X.env.locals:=fun b o e=>Vx (Vw (UL e) I.ok.above)
 have uP:∀ b o,X.s₀.heap.get? b=some o->b∉X.ex->b∉ch:=fun b o e hx hb=>by
  rcases (lb b hb).1 with z | z
  ·exact hx z
  ·exact absurd (Vw (UL e) z) (WC _)
 have cellK:∀ x c,X.env.cells.lookup x=some c->∀ v,s.heap.IsCell c v->h'.IsCell c v:=fun x c e v ⟨o,ho,hd⟩=>by
  have nD:c∉ch:=fun z=>(lb c z).2.2.1 x c e rfl
  by_cases hc:c∈X.fs
  ·obtain⟨sl,q⟩:=slot c o (I.oz x c e) hc nD ho (I.cz x c e)
   exact⟨_,q,hd⟩
  ·exact⟨o,keep c o (I.oz x c e) hc nD ho (I.cz x c e),hd⟩
 refine⟨I.ok,I.os,hg,⟨fun b o e n hb hx => ?_,fun b o e n hb hx => ?_,fun b o e n hx => ?_,fun b o e hx => ?_,fun b xs e=>eS b xs (I.base.eS b xs e),fun b o xs e=>ft b o xs (I.base.ft b o xs e),fun b ps e => ?_⟩,?_,fun x c e => ?_,?_,fun x c e => ?_,fun p hp => ?_,aN,I.len⟩
 ·exact keep b o (Cu b o e) hb (uP b o e hx) (I.base.keep b o e n hb hx) (I.base.free b o e n hx)
 ·obtain⟨sl,e1⟩:=I.base.slot b o e n hb hx
  obtain⟨w_,e2⟩:=slot b _ (Cu b o e) hb (uP b o e hx) e1 (I.base.free b o e n hx)
  exact⟨w_,e2⟩
 ·obtain⟨o',e1⟩:=I.base.there b o e hx
  exact free b o' (uP b o e hx) e1 (I.base.free b o e n hx)
 ·obtain⟨o',e1⟩:=I.base.there b o e hx
  exact there b o' (uP b o e hx) e1
 ·obtain⟨m1,e1⟩:=I.base.fu b ps e
  obtain⟨m2,e2⟩:=fu b _ e1
  exact⟨m1 ++ m2,by rw[e2,Array.append_assoc]⟩
 ·obtain⟨m,hn,hl⟩:=I.loc
  refine⟨m,ns m hn,fun i x v e1 e2 e3 => ?_⟩
  obtain⟨u,r,l⟩:=hl i x v e1 e2 e3
  refine⟨u,r,?_⟩
  rcases l with l | ⟨k,c,e,z⟩
  ·exact .inl l
  ·exact .inr ⟨k,c,e,cellK x c e _ z⟩
 ·obtain⟨v,z⟩:=I.cell x c e
  exact⟨v,cellK x c e v z⟩
 ·obtain⟨m,⟨o,_,_,ho,_⟩,_⟩:=I.loc
  exact free _ o (fun z=>(lb _ z).2.1 rfl) ho I.free
 ·obtain⟨v,o,ho,hd⟩:=I.cell x c e
  exact free c o (fun z=>(lb c z).2.2.1 x c e rfl) ho (I.cz x c e)
 ·obtain⟨e,n,ne,nf,d⟩:=I.pin p hp
  have nD:p.1∉ch:=fun z=>(lb p.1 z).2.2.2 p hp rfl
  exact⟨keep p.1 p.2 ne nf nD e n,free p.1 p.2 nD e n,ne,nf,d⟩
theorem Inv.un {t':Nat} (I:Inv X pins σ H s) (u:Un X.fs [] H H' s.heap h') (aN:dg X.prog X.w H' h'):Inv X pins σ H' { s with heap:=h',toks:=t' }:=by
 obtain⟨m,⟨o,es,ep,ho,r⟩,_⟩:=id I.loc
 obtain⟨sl,hL⟩:=u.any ho I.free (by simp)
 exact I.step (g':=s.gens) (d':=s.drawn) (ch:=[]) (fun _ z=>nomatch z) (fun b o _ hb _ e n=>u.keep b o e n hb (by simp)) (fun b o _ hb _ e n=>u.slot b o e n hb (by simp)) (fun b o _ e n=>u.free b o e n (by simp)) (fun b o _ e=>u.there b o e (by simp)) u.eS u.ft u.fu (fun m' hm=>by
  obtain⟨o',xa,xb,iT,r'⟩:=hm
  rw[ho] at iT;cases iT
  exact⟨_,xa,xb,hL,r'⟩) aN I.bare
theorem Inv.call {g':Array GenState} {t':Nat} {d':Drawn} {ch:List Addr} (I:Inv X pins σ H s) (u:Un (jz X.stack) ch H H' s.heap h') (aN:dg X.prog X.w H' h') (hg:AllBare g')
  (lb:∀ b∈ch,(b∈X.ex\/X.s₀.heap.objs.size <= b)/\b≠X.env.locals/\(∀ x c,X.env.cells.lookup x=some c->c≠b)/\∀ p∈X.pn ++ pins,p.1≠b) :
  Inv X pins σ H' { s with heap:=h',gens:=g',drawn:=d',toks:=t' }:=by
 obtain⟨m,⟨o,es,ep,ho,r⟩,_⟩:=id I.loc
 obtain⟨sl,hL⟩:=u.any ho I.free fun z=>(lb _ z).2.1 rfl
 exact I.step (ch:=ch) lb (fun b o hL hb hc e n=>u.keep b o e n (fun z=>(Vr.mp (I.fV b z)).elim hL hb) hc) (fun b o _ _ hc e n=>u.any e n hc) (fun b o hc e n=>u.free b o e n hc) (fun b o hc e=>u.there b o e hc) u.eS u.ft u.fu (fun m' hm=>by
  obtain⟨o',xa,xb,iT,r'⟩:=hm
  rw[ho] at iT;cases iT
  exact⟨_,xa,xb,hL,r'⟩) aN hg
theorem Inv.turned {t':Nat} {it:Addr} (I:Inv X pins σ H s) (k:∀ b o,b≠it->s.heap.get? b=some o->h'.get? b=some o) (hn:H it=none) (hL:it≠X.env.locals)
  (h1:it∈X.ex\/X.s₀.heap.objs.size <= it) (h2:∀ x c,X.env.cells.lookup x=some c->c≠it) (h3:∀ p∈X.pn ++ pins,p.1≠it):Inv X pins σ H { s with heap:=h',toks:=t' }:=by
 have Cv:∀ b u,H b=some u->b≠it:=fun b u e z=>by rw[z,hn] at e;cases e
 refine I.step (g':=s.gens) (d':=s.drawn) (ch:=[it]) (fun b hb => ?_) (fun b o _ _ hc e _=>k b o (fun z=>hc (by simp[z])) e) (fun b o _ _ hc e _=>⟨o.slots,k b o (fun z=>hc (by simp[z])) e⟩) (fun _ _ _ _ n=>n)
  (fun b o hc e=>⟨o,k b o (fun z=>hc (by simp[z])) e⟩) (fun _ _ e=>e) (fun _ _ _ e=>e) (fun b ps e=>⟨#[],by rw[e];simp⟩) (fun m hm => ?_) (fun b u e => ?_) I.bare
 ·have e:b=it:=by simpa using hb
  subst e
  exact⟨h1,hL,h2,h3⟩
 ·obtain⟨o,es,ep,ho,r⟩:=hm
  exact⟨o,es,ep,k _ o (XC hL) ho,r⟩
 ·refine (I.aN b u e).fq (fun c v hc q=>k c v ?_ q) (fun _ q=>q) fun _ _ q=>q
  rcases hc with z | z
  ·rw[z];exact Cv b u e
  ·exact Cv c _ z
theorem Inv.tok (I:Inv X pins σ H s) (t:Nat):Inv X pins σ H { s with toks:=t }:=I.un (h':=s.heap) (t':=t) Un.refl I.aN
theorem Inv.kept {t':Nat} (I:Inv X pins σ H s) (k:∀ b u,s.heap.get? b=some u->h'.get? b=some u):Inv X pins σ H { s with heap:=h',toks:=t' }:=I.un (Un.kept k) (I.aN.kept k)
theorem Inv.laid {a:Addr} {o:HO} {t':Nat} (I:Inv X pins σ H s) (k:∀ b u,s.heap.get? b=some u->h'.get? b=some u) (hp:s.heap.objs.size <= a) (new:aQ X.prog X.w (upd H a o) h' a o) :
  Inv X pins σ (upd H a o) { s with heap:=h',toks:=t' }:=I.un (Un.laid k hp (I.aN.fresh hp)) (I.aN.laid k hp new)
theorem Inv.write {x e:Addr} {o:HO} {t':Nat} (I:Inv X pins σ H s) (mu:rO (H x)) (he:e=x\/H e=some (.own x)) (k:∀ b u,b≠e->s.heap.get? b=some u->h'.get? b=some u) (la:∃ u,h'.get? e=some u)
  (new:aQ X.prog X.w (upd H x o) h' x o):Inv X pins σ (upd H x o) { s with heap:=h',toks:=t' }:=I.un (Un.write mu he k la) (I.aN.write mu he k la new)
theorem Inv.eJ {bf:List (Addr × Obj)} (I:Inv X pins σ H s) (h:∀ p∈bf,s.heap.get? p.1=some p.2/\H p.1=none/\p.1≠X.env.locals/\p.1∉X.fs/\∀ v,p.2.data ≠ .cell v):Inv X bf σ H s :=
 ⟨I.ok,I.os,I.bare,I.base,I.loc,I.cell,I.free,I.cz,fun p hp=>(VO.mp hp).elim (fun z=>I.pin p (Wf _ z)) (h p),I.aN,I.len⟩
theorem Cw {N:List Str} (hN:N.Nodup) {i j:Nat} {x:Str} (a:N[i]? = some x) (b:N[j]? = some x):i=j:=by
 obtain⟨h1,e1⟩:=oW.mp a
 obtain⟨h2,e2⟩:=oW.mp b
 exact (Yq hN).mp (e1.trans e2.symm)
theorem Cy {M:Model} {A:Around} {E:Value->Shared->Prop} {i:Nat} {x:Str} {v:V} {u:Value} {Q:Unit->Shared->Prop} (I:Inv X pins σ H s) (hN:X.N.Nodup) (hi:X.N[i]? = some x) (hx:Loc X.env.scope x) (r:RelV v u)
  (h:∀ s',Inv X pins (σ.set i (some v)) H s'->(∃ a,Heap.SameBut a s.heap s'.heap/\(a=X.env.locals\/X.env.cells.lookup x=some a))->Q () s') (hf:X.fn x=true\/X.env.scope.names.lookup x=some .local:=by first | exact .inl rfl | exact .inr rfl | assumption):wpAny M A (storeName X.env x u) Q E s:=by
 obtain⟨m,hn,hl⟩:=id I.loc
 have xc:(X.env.scope.kind == .class || (X.env.scope.kind == .module && X.env.locals != X.env.globals))=false:=by rw[I.ok.kind];rfl
 have Cz:i < σ.length:=by rw[I.len];exact (oW.mp hi).1
 have oz:=I.oz
 have tracked:∀ {a:Addr} {h':Heap},(∃ o,s.heap.get? a=some o/\H a=none)->Heap.SameBut a s.heap h'->dg X.prog X.w H h':=fun {a h'} ha hs b ob e=>by
  obtain⟨_,_,nE⟩:=ha
  refine (I.aN b ob e).fq (fun c w' hc q=>(hs.2 c ?_).trans q) (fun _ q=>q) fun _ _ q=>q
  rintro rfl
  rcases hc with rfl | hc
  ·rw[nE] at e;cases e
  ·rw[nE] at hc;cases hc
 rcases hx with hk | hk
 ·refine wpAny_storeName_local hk hn (fun h' lP hs => ?_) xc
  obtain⟨oL,_,_,oA,_⟩:=id hn
  refine h _ ⟨I.ok,I.os,I.bare,⟨fun b o e n hb hx => ?_,fun b o e n hb hx => ?_,I.base.free,fun b o e hx => ?_,I.base.eS,I.base.ft,I.base.fu⟩,⟨_,lP,fun j y v' e1 e2 e3 => ?_⟩,fun y c e => ?_,I.free,I.cz,fun p hp => ?_,tracked ⟨oL,oA,I.free⟩ hs,by simpa using I.len⟩ ⟨_,hs,.inl rfl⟩
  ·exact (hs.2 b (Vx (Vw (UL e) I.ok.above))).trans (I.base.keep b o e n hb hx)
  ·obtain⟨sl,e1⟩:=I.base.slot b o e n hb hx
   exact⟨sl,(hs.2 b (Vx (Vw (UL e) I.ok.above))).trans e1⟩
  ·obtain⟨o',e1⟩:=I.base.there b o e hx
   exact⟨o',(hs.2 b (Vx (Vw (UL e) I.ok.above))).trans e1⟩
  ·by_cases hj:j=i
   ·subst hj
    rw[hi] at e1;cases e1
    rw[Wi Cz] at e2
    cases e2
    exact⟨u,r,.inl ⟨hk,by simp⟩⟩
   ·rw[Wh (XC hj)] at e2
    obtain⟨u',r',q⟩:=hl j y v' e1 e2 e3
    refine⟨u',r',?_⟩
    rcases q with⟨k,e⟩ | ⟨k,c,e,z⟩
    ·refine .inl ⟨k,?_⟩
     have:y≠x:=fun e=>hj (Cw hN e1 (e ▸ hi))
     simp[this,e]
    ·exact .inr ⟨k,c,e,z.sameBut hs (oz y c e)⟩
  ·obtain⟨w',z⟩:=I.cell y c e
   exact⟨w',z.sameBut hs (oz y c e)⟩
  ·obtain⟨e,n,ne,nf,d⟩:=I.pin p hp
   exact⟨(hs.2 p.1 ne).trans e,n,ne,nf,d⟩
 ·have lS:X.fn x=true:=by
   rcases hf with z | z
   ·exact z
   ·rw[z] at hk;cases hk
  obtain⟨c,hc⟩:=I.ok.has x (.inl hk)
  obtain⟨w',z⟩:=I.cell x c hc
  refine wpAny_storeName_cell I.ok.kind hk hc z (fun h' gz hs => ?_)
  obtain⟨oc,lg,xf⟩:=id z
  refine h { s with heap:=h' } ⟨I.ok,I.os,I.bare,⟨fun b o e n hb hx => ?_,fun b o e n hb hx => ?_,I.base.free,fun b o e hx => ?_,I.base.eS,I.base.ft,I.base.fu⟩,⟨m,hn.sameBut hs (XC (oz x c hc)),fun j y v' e1 e2 e3 => ?_⟩,fun y c' e => ?_,I.free,I.cz,fun p hp => ?_,tracked ⟨oc,lg,I.cz x c hc⟩ hs,by simpa using I.len⟩ ⟨c,hs,.inr hc⟩
  ·exact (hs.2 b (Vx (Vw (UL e) (I.ok.rQ x c lS hc)))).trans (I.base.keep b o e n hb hx)
  ·obtain⟨sl,e1⟩:=I.base.slot b o e n hb hx
   exact⟨sl,(hs.2 b (Vx (Vw (UL e) (I.ok.rQ x c lS hc)))).trans e1⟩
  ·obtain⟨o',e1⟩:=I.base.there b o e hx
   exact⟨o',(hs.2 b (Vx (Vw (UL e) (I.ok.rQ x c lS hc)))).trans e1⟩
  ·by_cases hj:j=i
   ·subst hj
    rw[hi] at e1;cases e1
    rw[Wi Cz] at e2
    cases e2
    exact⟨u,r,.inr ⟨.inl hk,c,hc,gz⟩⟩
   ·rw[Wh (XC hj)] at e2
    obtain⟨u',r',q⟩:=hl j y v' e1 e2 e3
    refine⟨u',r',?_⟩
    rcases q with q | ⟨k,c',e,z'⟩
    ·exact .inl q
    ·refine .inr ⟨k,c',e,z'.sameBut hs ?_⟩
     rintro rfl
     exact hj (Cw hN e1 (I.ok.inj _ _ _ e hc ▸ hi))
  ·by_cases hcc:c'=c
   ·subst hcc;exact⟨_,gz⟩
   ·obtain⟨w2,z2⟩:=I.cell y c' e
    exact⟨w2,z2.sameBut hs hcc⟩
  ·obtain⟨e,n,ne,nf,d⟩:=I.pin p hp
   refine⟨(hs.2 p.1 ?_).trans e,n,ne,nf,d⟩
   intro q
   rw[q,lg] at e
   have q':oc=p.2:=VE e
   exact d w' (by rw[<-q'];exact xf)
theorem CA {M:Model} {A:Around} {E:Value->Shared->Prop} {i:Nat} {x:Str} {v:V} {u:Value} {Q:Unit->Shared->Prop} (I:Inv X pins σ H s) (hN:X.N.Nodup) (hi:X.N[i]? = some x) (hx:Loc X.env.scope x) (r:RelV v u)
  (h:∀ s',Inv X pins (σ.set i (some v)) H s'->Q () s') (hf:X.fn x=true\/X.env.scope.names.lookup x=some .local:=by first | exact .inl rfl | exact .inr rfl | assumption):wpAny M A (storeName X.env x u) Q E s :=
 Cy I hN hi hx r (fun s' I' _=>h s' I') hf
theorem Inv.rR {s':Shared} {ch:List Addr} (I:Inv X pins σ H s) (ho:s'.os=s.os) (u:Un (jz X.stack) ch H H' s.heap s'.heap) (aN:dg X.prog X.w H' s'.heap) (hg:AllBare s'.gens)
  (lb:∀ b∈ch,(b∈X.ex\/X.s₀.heap.objs.size <= b)/\b≠X.env.locals/\(∀ x c,X.env.cells.lookup x=some c->c≠b)/\∀ p∈X.pn ++ pins,p.1≠b):Inv X pins σ H' s':=by
 obtain⟨h',g',d',t',o'⟩:=s'
 have e:o'=s.os:=ho
 subst e
 exact I.call (g':=g') (t':=t') (d':=d') u aN hg lb
end
noncomputable abbrev XK:=Value->Option Addr->Hp->Prop
noncomputable abbrev St:=List (Option V)
noncomputable abbrev VK:=V->Hp->Prop
noncomputable abbrev TE:=St->Hp->VK->Prop
noncomputable abbrev TT:=St->Hp->(Bool->Hp->Prop)->Prop
noncomputable abbrev TA:=St->Hp->(List V->Hp->Prop)->Prop
structure Ends where
 nx:St->Hp->Prop
 rt:VK
 bk:St->Hp->Prop:=fun _ _=>False
 ct:St->Hp->Prop:=fun _ _=>False
noncomputable abbrev TS:=Ends->St->Hp->Prop
noncomputable def EP (X:Cx) (pins:List (Addr × Obj)) (σ : St) (Q:VK) (u:Value) (s':Shared):Prop:=∃ v H',Inv X pins σ H' s'/\RelV v u/\Q v H'
noncomputable def TP (X:Cx) (pins:List (Addr × Obj)) (σ : St) (Q:Bool->Hp->Prop) (b:Bool) (s':Shared):Prop:=∃ H',Inv X pins σ H' s'/\Q b H'
noncomputable def AP (X:Cx) (pins:List (Addr × Obj)) (σ : St) (Q:List V->Hp->Prop) (us:List Value) (s':Shared):Prop:=∃ vs H',Inv X pins σ H' s'/\Vals vs us/\Q vs H'
noncomputable def SP (X:Cx) (pins:List (Addr × Obj)) (D:Ends) (f:Flow) (s':Shared):Prop :=
 match f with
 | .next=>∃ σ' H',Inv X pins σ' H' s'/\D.nx σ' H'
 | .brk=>∃ σ' H',Inv X pins σ' H' s'/\D.bk σ' H'
 | .cont=>∃ σ' H',Inv X pins σ' H' s'/\D.ct σ' H'
 | .ret u=>∃ v σ' H',Inv X pins σ' H' s'/\RelV v u/\D.rt v H'
noncomputable def PE (X:Cx) (e:Expr) (t:TE):Prop :=
 ∀ (pins:List (Addr × Obj)) (s:Shared) (σ : St) (H:Hp) (Q:VK),Inv X pins σ H s->t σ H Q->wpAny (model X.prog X.w) X.A (eval e X.env) (EP X pins σ Q) X.xe s
noncomputable def PT (X:Cx) (e:Expr) (t:TT):Prop :=
 ∀ (pins:List (Addr × Obj)) (s:Shared) (σ : St) (H:Hp) (Q:Bool->Hp->Prop),Inv X pins σ H s->t σ H Q->wpAny (model X.prog X.w) X.A (isTrue e X.env (eval e X.env)) (TP X pins σ Q) X.xe s
noncomputable def PW (X:Cx) (e:Expr) (t:TT):Prop :=
 ∀ (whole:Sem Value) (pins:List (Addr × Obj)) (s:Shared) (σ : St) (H:Hp) (Q:Bool->Hp->Prop),Inv X pins σ H s->t σ H Q->wpAny (model X.prog X.w) X.A (isTrue e X.env whole) (TP X pins σ Q) X.xe s
theorem PW.pt {X:Cx} {e:Expr} {t:TT} (h:PW X e t):PT X e t:=h _
noncomputable def PA (X:Cx) (es:List Expr) (t:TA):Prop :=
 ∀ (pos:Pos) (pins:List (Addr × Obj)) (s:Shared) (σ : St) (H:Hp) (Q:List V->Hp->Prop),Inv X pins σ H s->t σ H Q->wpAny (model X.prog X.w) X.A (spliced (backTo pos (starEach es X.env))) (AP X pins σ Q) X.xe s
noncomputable def PS (X:Cx) (st:Stmt) (t:TS):Prop :=
 ∀ (pins:List (Addr × Obj)) (s:Shared) (σ : St) (H:Hp) (D:Ends),Inv X pins σ H s->t D σ H->wpAny (model X.prog X.w) X.A (exec st X.env) (SP X pins D) X.xe s
noncomputable def fW (X:Cx) (st:List Stmt) (t:TS):Prop :=
 ∀ (pins:List (Addr × Obj)) (s:Shared) (σ : St) (H:Hp) (D:Ends),Inv X pins σ H s->t D σ H->wpAny (model X.prog X.w) X.A (execs st X.env) (SP X pins D) X.xe s
theorem aZ {α : Type} {t:Sem α} {Q Q' : α -> Shared->Prop} {M:Model} {A:Around} {E:Value->Shared->Prop} {s:Shared} (h:wpAny M A t Q E s) (hQ:∀ a s,Q a s->Q' a s):wpAny M A t Q' E s:=Ww h hQ fun _ _ x=>x
section
variable {X:Cx}
noncomputable def lT (i:Nat):TE:=fun σ H Q=>∃ v,σ[i]? = some (some v)/\Q v H
noncomputable def tC (v:V):TE:=fun _ H Q=>Q v H
theorem CB {i:Nat} {x:Str} {pos:Pos} (hN:X.N[i]? = some x) (hv:ou X.env.scope x) (hd:(x == ("__debug__" : Str))=false:=by decide) (eT:(x == ("__classdict__" : Str))=false:=by decide):PE X (.Name x pos) (lT i):=by
 intro pins s σ H Q I h
 obtain⟨v,e,h⟩:=h
 obtain⟨m,hn,hl⟩:=I.loc
 obtain⟨u,r,l⟩:=hl i x v hN e hv
 have fin:EP X pins σ Q u s:=⟨v,H,I,r,h⟩
 rcases l with⟨hk,hm⟩ | ⟨hk,c,hc,nG⟩
 ·exact wpAny_Name (wpAny_loadName_local I.ok.kind hk hn hm fin) hd
 ·rcases hk with hk | hk
  ·exact wpAny_Name (wpAny_loadName_cell I.ok.kind hk hc nG fin) hd
  ·exact wpAny_Name (wpAny_loadName_free I.ok.kind hk hc nG fin eT) hd
theorem CC {i j pos}:PE X (.Constant (.int i) j pos) (tC (.int i)):=fun _ _ _ H _ I h=>wpAny_Constant_int ⟨.int i,H,I.tok _,⟨_,rfl⟩,h⟩
theorem JU {b j pos}:PE X (.Constant (.bool b) j pos) (tC (.bl b)):=fun _ _ _ H _ I h=>Constant_bool ⟨.bl b,H,I,rfl,h⟩
theorem JV {j pos}:PE X (.Constant .none j pos) (tC .non):=fun _ _ _ H _ I h=>Constant_none ⟨.non,H,I,rfl,h⟩
noncomputable def Gl (X:Cx) (x:Str):Prop:=X.env.kindOf x=some .globalImplicit
theorem CD {E:Value->Shared->Prop} {pins:List (Addr × Obj)} {s:Shared} {σ : St} {H:Hp} {x:Str} {u:Value} {pos:Pos} {Q:Value->Shared->Prop} (I:Inv X pins σ H s) (hg:Gl X x) (hm:X.mg x=some u) (h:Q u s)
  (hd:(x == ("__debug__" : Str))=false:=by decide):wpAny (model X.prog X.w) X.A (eval (.Name x pos) X.env) Q E s :=
 Calls.Name_function_global I.ok.kind hg (Calls.loadGlobal_global (by rw[I.ok.glob];exact I.mod.glob.keeps I.bk) hm h) hd
theorem lU {E:Value->Shared->Prop} {pins:List (Addr × Obj)} {s:Shared} {σ : St} {H:Hp} {x:Str} {u:Value} {pos:Pos} {Q:Value->Shared->Prop} (I:Inv X pins σ H s) (hg:Gl X x) (hm:X.mg x=none) (hv:bootBuiltins x=some u) (h:Q u s)
  (hn:x ≠ "__name__" := by decide) (hd:(x == ("__debug__" : Str))=false:=by decide):wpAny (model X.prog X.w) X.A (eval (.Name x pos) X.env) Q E s:=by
 obtain⟨mb,h1,h2⟩:=I.mod.blt
 exact Calls.Name_function_global I.ok.kind hg (Calls.loadGlobal_builtin (by rw[I.ok.glob];exact I.mod.glob.keeps I.bk) hm (by rw[I.ok.blt];exact h1.keeps I.bk) ((h2 x hn).trans hv) h) hd
theorem JX {x:Str} {v:V} {u:Value} {pos:Pos} (hg:Gl X x) (hm:X.mg x=some u) (r:RelV v u) (hd:(x == ("__debug__" : Str))=false:=by decide):PE X (.Name x pos) (tC v) :=
 fun _ _ _ H _ I h=>CD I hg hm ⟨v,H,I,r,h⟩ hd
theorem JY {x:Str} {v:V} {u:Value} {pos:Pos} (hg:Gl X x) (hm:X.mg x=none) (hv:bootBuiltins x=some u) (r:RelV v u) (hn:x ≠ "__name__" := by decide) (hd:(x == ("__debug__" : Str))=false:=by decide):PE X (.Name x pos) (tC v) :=
 fun _ _ _ H _ I h=>lU I hg hm hv ⟨v,H,I,r,h⟩ hn hd
variable {a b:Expr} {ta tb:TE} {pos:Pos}
noncomputable def PC (X:Cx) (op:CmpOp) (a b:Expr) (t:TE):Prop :=
 ∀ (pins:List (Addr × Obj)) (s:Shared) (σ : St) (H:Hp) (Q:VK),Inv X pins σ H s->t σ H Q →
  wpAny (model X.prog X.w) X.A (eval a X.env) (fun v s₁ => wpAny (model X.prog X.w) X.A (eval b X.env) (fun u s₂ => wpAny (model X.prog X.w) X.A (compareOp op v u) (EP X pins σ Q) X.xe s₂) X.xe s₁) X.xe s
noncomputable def tB (t:TE):TT:=fun σ H Q=>t σ H fun x H1=>∃ c,x = .bl c/\Q c H1
theorem JZ {op:CmpOp} {t:TE} (h:PC X op a b t) (h1:behindInMarks op b=false:=by first | exact J0 _ (by decide) (by decide) | rfl):PT X (.Compare a [op] [b] pos) (tB t):=by
 intro pins s σ H Q I hw
 refine wpAny_isTrue_Compare1 (aZ (h pins s σ H _ I hw) fun v s1 h1=>aZ h1 fun u s2 h2=>aZ h2 fun c s3 h0_ => el5 h0_ fun x H1 I1 r1 q1 => ?_) h1
 obtain⟨d,rfl,q⟩:=q1
 cases r1
 exact Wx ⟨H1,I1,q⟩
theorem J6 {e:Expr} {t:TE} (h:PE X e t) (he:∀ whole,isTrue e X.env whole=(do let v <- whole;standAt e.pos;holding [v] (truthy v)):=by intro _;rfl):PT X e (tB t):=by
 intro pins s σ H Q I hw
 refine isTrue_plain (aZ (h pins s σ H _ I hw) fun v s1 h0_ => el5 h0_ fun x H1 I1 r1 q1 => ?_) (he _)
 obtain⟨d,rfl,q⟩:=q1
 cases r1
 exact Wx ⟨H1,I1,q⟩
variable {tA lh:TT} {rest:List Expr}
noncomputable def oB (t u:TT):TT:=fun σ H Q=>t σ H fun c H1=>if c=true then u σ H1 Q else Q false H1
noncomputable def xg (t u:TT):TT:=fun σ H Q=>t σ H fun c H1=>if c=true then Q true H1 else u σ H1 Q
noncomputable def rS (t:TT):TT:=fun σ H Q=>t σ H fun c H1=>Q (!c) H1
theorem J7 (ha:PT X a tA):PW X (.BoolOp .And [a] pos) tA:=by
 intro wh pins s σ H Q I h
 refine isTrue_and (aZ (ha pins s σ H Q I h) fun c s1 e => ?_)
 cases c with
 | true=>exact isTrue_and_nil e
 | false=>exact e
theorem J8 (ha:PT X a tA):PW X (.BoolOp .Or [a] pos) tA:=by
 intro wh pins s σ H Q I h
 refine isTrue_or (aZ (ha pins s σ H Q I h) fun c s1 e => ?_)
 cases c with
 | false=>exact isTrue_or_nil e
 | true=>exact e
theorem J9 (ha:PT X a tA) (hb:PW X (.BoolOp .And (b :: rest) pos) lh):PW X (.BoolOp .And (a :: b :: rest) pos) (oB tA lh):=by
 intro wh pins s σ H Q I h
 refine isTrue_and (aZ (ha pins s σ H _ I h) fun c s1 h0_ => el3 h0_ fun H1 I1 q1 => ?_)
 cases c with
 | true=>exact hb wh pins s1 σ H1 Q I1 q1
 | false=>exact⟨H1,I1,q1⟩
theorem J_ (ha:PT X a tA) (hb:PW X (.BoolOp .Or (b :: rest) pos) lh):PW X (.BoolOp .Or (a :: b :: rest) pos) (xg tA lh):=by
 intro wh pins s σ H Q I h
 refine isTrue_or (aZ (ha pins s σ H _ I h) fun c s1 h0_ => el3 h0_ fun H1 I1 q1 => ?_)
 cases c with
 | true=>exact⟨H1,I1,q1⟩
 | false=>exact hb wh pins s1 σ H1 Q I1 q1
theorem Ka (ha:PT X a tA):PT X (.UnaryOp .Not a pos) (rS tA):=by
 intro pins s σ H Q I h
 exact isTrue_not (ha pins s σ H (fun c H1=>Q (!c) H1) I h)
noncomputable def CF (ta tb:TE):TE:=fun σ H Q=>ta σ H fun x H1=>∃ c,x = .bl c/\if c=true then tb σ H1 Q else Q (.bl false) H1
noncomputable def CG (ta:TE):TE:=fun σ H Q=>ta σ H fun x H1=>∃ c,x = .bl c/\Q (.bl (!c)) H1
theorem Kb {op} {t:TE} (h:PE X a t):PE X (.BoolOp op [a] pos) t:=fun pins s σ H Q I hw=>BoolOp_one (h pins s σ H Q I hw)
theorem Kc (ha:PE X a ta) (hb:PE X (.BoolOp .And (b :: rest) pos) tb):PE X (.BoolOp .And (a :: b :: rest) pos) (CF ta tb):=by
 intro pins s σ H Q I h
 refine BoolOp_and (aZ (ha pins s σ H _ I h) fun v s1 h0_ => el5 h0_ fun x H1 I1 r1 q1 => ?_)
 obtain⟨c,rfl,q1⟩:=q1
 cases r1
 refine Wx ?_
 cases c with
 | true=>exact hb pins s1 σ H1 Q I1 q1
 | false=>exact⟨.bl false,H1,I1,rfl,q1⟩
theorem Kd (ha:PE X a ta):PE X (.UnaryOp .Not a pos) (CG ta):=by
 intro pins s σ H Q I h
 refine UnaryOp_ (aZ (ha pins s σ H _ I h) fun v s1 h0_ => el5 h0_ fun x H1 I1 r1 q1 => ?_)
 obtain⟨c,rfl,q1⟩:=q1
 cases r1
 exact not_of (Wx ⟨.bl (!c),H1,I1,rfl,q1⟩)
noncomputable def CH (t:TT) (ta tb:TE):TE:=fun σ H Q=>t σ H fun c H1=>if c=true then ta σ H1 Q else tb σ H1 Q
theorem Ke {c:Expr} (hc:PT X c tA) (ha:PE X a ta) (hb:PE X b tb):PE X (.IfExp c a b pos) (CH tA ta tb):=by
 intro pins s σ H Q I h
 refine wpAny_IfExp (aZ (hc pins s σ H _ I h) fun d s1 h0_ => el3 h0_ fun H1 I1 q1 => ?_)
 cases d with
 | true=>exact ha pins s1 σ H1 Q I1 q1
 | false=>exact hb pins s1 σ H1 Q I1 q1
end
noncomputable def bq (K:PySem.W.Frag) (H:Hp) (a:Addr) (xs:List V):Prop :=
 Rd H a (.lst xs) ∨
  ∃ (o:Obj) (aq:Array Value) (n:Nat),K.lookup a=some o/\o.cls = .type "list" /\ o.dict=none/\o.data = .seq aq n/\aq.size <= sizeLine/\Vals xs aq.toList
noncomputable def bB (K:PySem.W.Frag) (H:Hp) (a:Addr) (xs:List V):Prop :=
 Rd H a (.tup xs) ∨
  ∃ (o:Obj) (aq:Array Value) (n:Nat),K.lookup a=some o/\o.cls = .type "tuple" /\ o.data = .seq aq n/\aq.size <= sizeLine/\Vals xs aq.toList
noncomputable def xh:Value->Option V
 | .none=>some .non
 | .bool b=>some (.bl b)
 | .int i _=>some (.int i)
 | .str x _=>some (.str x)
 | .bytes b _=>some (.byt b)
 | .float b _=>some (.flt b)
 | .ref a=>some (.ref a)
 | .type n=>some (.ty n)
 | _=>none
theorem RelV.abs {x:V} {u:Value} (r:RelV x u):xh u=some x:=by
 cases x with
 | non=>cases r;rfl
 | bl _=>cases r;rfl
 | int _=>obtain⟨t,rfl⟩:=r;rfl
 | str _=>obtain⟨t,rfl⟩:=r;rfl
 | byt _=>obtain⟨t,rfl⟩:=r;rfl
 | flt _=>obtain⟨t,rfl⟩:=r;rfl
 | ref _=>cases r;rfl
 | ty _=>cases r;rfl
theorem RelV.inj {x y:V} {u:Value} (r:RelV x u) (q:RelV y u):x=y:=VE (r.abs.symm.trans q.abs)
theorem Vals.inj:∀ {xs ys:List V} {us:List Value},Vals xs us->Vals ys us->xs=ys
 | _,_,_,.nil,.nil=>rfl
 | _,_,_,.cons r t,.cons r' t'=>by rw[r.inj r',Vals.inj t t']
section
variable {X:Cx} {pins:List (Addr × Obj)} {σ : St} {H:Hp} {s:Shared} {a:Addr} {xs ys:List V}
theorem bq.of {K:PySem.W.Frag} (h:H a=some (.lst xs)):bq K H a xs := .inl (.inl h)
theorem bB.of {K:PySem.W.Frag} (h:H a=some (.tup xs)):bB K H a xs := .inl (.inl h)
theorem Inv.list (I:Inv X pins σ H s) (h:bq X.K H a xs):∃ aq:List Value,Vals xs aq/\PlainL s.heap a aq.toArray/\xs.length <= sizeLine:=by
 rcases h with h | ⟨o,aq,n,hk,hc,hd,hs,hz,r⟩
 ·obtain⟨z,aq,n,r,e⟩:=h.ok I.aN
  exact⟨aq,r,⟨_,n,e,rfl,rfl,rfl⟩,z⟩
 ·refine⟨aq.toList,r,⟨o,n,I.gy a o hk,hc,hd,by simpa using hs⟩,?_⟩
  have e:=r.length
  simp only[UN] at e
  omega
theorem Inv.tuple (I:Inv X pins σ H s) (h:bB X.K H a xs):∃ aq:List Value,Vals xs aq/\IsTup s.heap a aq.toArray/\xs.length <= sizeLine:=by
 rcases h with h | ⟨o,aq,n,hk,hc,hs,hz,r⟩
 ·obtain⟨z,aq,r,p⟩:=h.ok I.aN
  exact⟨aq,r,p,z⟩
 ·refine⟨aq.toList,r,⟨o,I.gy a o hk,hc,n,by simpa using hs⟩,?_⟩
  have e:=r.length
  simp only[UN] at e
  omega
theorem Inv.gA (I:Inv X pins σ H s) (h:bq X.K H a xs) (h':bq X.K H a ys):xs=ys:=by
 obtain⟨aq,r,⟨o,n,e,_,_,d⟩,_⟩:=I.list h
 obtain⟨its',r',⟨o',n',e',_,_,d'⟩,_⟩:=I.list h'
 rw[e] at e';cases e'
 rw[d] at d'
 injection d' with d1 _
 have:aq=its':=by simpa using congrArg Array.toList d1
 subst this
 exact r.inj r'
theorem Inv.fJ (I:Inv X pins σ H s) (h:bB X.K H a xs) (h':bB X.K H a ys):xs=ys:=by
 obtain⟨aq,r,⟨o,e,_,n,d⟩,_⟩:=I.tuple h
 obtain⟨its',r',⟨o',e',_,n',d'⟩,_⟩:=I.tuple h'
 rw[e] at e';cases e'
 rw[d] at d'
 injection d' with d1 _
 have:aq=its':=by simpa using congrArg Array.toList d1
 subst this
 exact r.inj r'
end
noncomputable abbrev Cx.fx (X:Cx) (E:Value->Shared->Prop):Cx:={ X with xe:=E }
noncomputable abbrev Cx.jR (X:Cx):Cx:=X.fx fun _ _=>False
theorem Cx.Ok.fx {X:Cx} (ok:X.Ok) (E:Value->Shared->Prop):(X.fx E).Ok :=
 ⟨ok.mod,ok.kind,ok.glob,ok.blt,ok.above,ok.inj,ok.has,ok.rQ,ok.hd,ok.frames,ok.uO,ok.Cs,ok.bs,ok.nB,ok.jQ,ok.lR,ok.eg,ok.oy⟩
theorem Cx.Ok.cJ {X:Cx} {E:Value->Shared->Prop} (ok:(X.fx E).Ok):X.Ok :=
 ⟨ok.mod,ok.kind,ok.glob,ok.blt,ok.above,ok.inj,ok.has,ok.rQ,ok.hd,ok.frames,ok.uO,ok.Cs,ok.bs,ok.nB,ok.jQ,ok.lR,ok.eg,ok.oy⟩
section
variable {X:Cx} {pins:List (Addr × Obj)} {σ : St} {H:Hp} {s:Shared} {E:Value->Shared->Prop}
theorem Inv.fx (I:Inv X pins σ H s) (E:Value->Shared->Prop):Inv (X.fx E) pins σ H s:=⟨I.ok.fx E,I.os,I.bare,I.base,I.loc,I.cell,I.free,I.cz,I.pin,I.aN,I.len⟩
theorem Inv.cJ (I:Inv (X.fx E) pins σ H s):Inv X pins σ H s:=⟨I.ok.cJ,I.os,I.bare,I.base,I.loc,I.cell,I.free,I.cz,I.pin,I.aN,I.len⟩
theorem SP.cJ {D:Ends} {f:Flow} {s':Shared} (h:SP (X.fx E) pins D f s'):SP X pins D f s':=by
 cases f with
 | next=>obtain⟨σ',H',I,q⟩:=h;exact⟨σ',H',I.cJ,q⟩
 | brk=>obtain⟨σ',H',I,q⟩:=h;exact⟨σ',H',I.cJ,q⟩
 | cont=>obtain⟨σ',H',I,q⟩:=h;exact⟨σ',H',I.cJ,q⟩
 | ret u=>obtain⟨v,σ',H',I,r,q⟩:=h;exact⟨v,σ',H',I.cJ,r,q⟩
theorem fW.jR {st:List Stmt} {t:TS} (h:fW X.jR st t):fW X st t:=fun pins s σ H D I hw =>
 Ww (h pins s σ H D (I.fx _) hw) (fun _ _ q=>q.cJ) fun _ _ z=>False.elim z
end
section
variable {X:Cx} {st:Stmt} {rest:List Stmt} {t u:TS} {e:Expr} {te:TE} {pos:Pos}
noncomputable def CI:TS:=fun D σ H=>D.nx σ H
noncomputable def rT (t u:TS):TS:=fun D σ H=>t { D with nx:=u D } σ H
theorem Kf:fW X [] CI:=fun _ _ σ H _ I h=>Yv ⟨σ,H,I,h⟩
theorem Kg (h1:PS X st t) (h2:fW X rest u):fW X (st :: rest) (rT t u):=by
 intro pins s σ H D I h
 refine wpAny_execs_cons (aZ (h1 pins s σ H { D with nx:=u D } I h) fun f s1 q => ?_)
 cases f with
 | next =>
  obtain⟨σ',H',I',q⟩:=q
  exact h2 pins s1 σ' H' D I' q
 | ret v=>exact q
 | brk=>exact q
 | cont=>exact q
theorem Kh (h1:PS X st t):fW X [st] t:=by
 intro pins s σ H D I h
 refine wpAny_execs_cons (aZ (h1 pins s σ H D I h) fun f s1 q => ?_)
 cases f with
 | next=>exact Yv q
 | ret v=>exact q
 | brk=>exact q
 | cont=>exact q
theorem Inv.quiet {pins:List (Addr × Obj)} {σ : St} {H:Hp} {s:Shared} (I:Inv X pins σ H s):interactive X.env=false:=by simp[interactive,I.ok.kind]
noncomputable def CJ (te:TE):TS:=fun D σ H=>te σ H fun _ H1=>D.nx σ H1
theorem Ki (he:PE X e te) (hs:swapsWith e none pos.line X.env=pure false:=by rfl):PS X (.Expr e pos) (CJ te):=by
 intro pins s σ H D I h
 exact wpAny_Expr_any (aZ (he pins s σ H _ I h) fun v s1 h0_ => el5 h0_ fun x H1 I1 r1 q1 =>⟨σ,H1,I1,q1⟩) I.quiet hs
noncomputable def rV (te:TE):TS:=fun D σ H=>te σ H D.rt
theorem Kj (he:PE X e te):PS X (.Return (some e) pos) (rV te):=by
 intro pins s σ H D I h
 exact wpAny_Return_some (aZ (he pins s σ H _ I h) fun v s1 h0_ => el5 h0_ fun x H1 I1 r1 q1 =>⟨x,σ,H1,I1,r1,q1⟩)
noncomputable def rW (c:TT) (t u:TS):TS:=fun D σ H=>c σ H fun b H1=>if b=true then t D σ H1 else u D σ H1
theorem Kk {c:Expr} {a b:List Stmt} {tc:TT} (hc:PT X c tc) (ha:fW X a t) (hb:fW X b u):PS X (.If c a b pos) (rW tc t u):=by
 intro pins s σ H D I h
 refine wpAny_If (aZ (hc pins s σ H _ I h) fun d s1 h0_ => el3 h0_ fun H1 I1 q1 => ?_)
 cases d with
 | true=>exact ha pins s1 σ H1 D I1 q1
 | false=>exact hb pins s1 σ H1 D I1 q1
noncomputable def CK:TS:=fun _ _ _=>False
theorem Kl {xi:List Stmt}:fW X xi CK:=fun _ _ _ _ _ _ h=>h.elim
end
noncomputable abbrev TG:=V->St->Hp->(St->Hp->Prop)->Prop
noncomputable abbrev iC:=List V->St->Hp->(St->Hp->Prop)->Prop
noncomputable def PG (X:Cx) (target:Expr) (t:TG):Prop :=
 ∀ (pins:List (Addr × Obj)) (s:Shared) (σ : St) (H:Hp) (v:V) (u:Value) (Q:St->Hp->Prop),Inv X pins σ H s->RelV v u->t v σ H Q →
  wpAny (model X.prog X.w) X.A (assign target X.env u) (fun _ s'=>∃ σ' H',Inv X pins σ' H' s'/\Q σ' H') X.xe s
noncomputable def rX (X:Cx) (ts:List Expr) (t:iC):Prop :=
 ∀ (pins:List (Addr × Obj)) (s:Shared) (σ : St) (H:Hp) (vs:List V) (us:List Value) (Q:St->Hp->Prop),Inv X pins σ H s->Vals vs us->t vs σ H Q →
  wpAny (model X.prog X.w) X.A (assignInOrder ((assignEach ts X.env).map (·.2)) us) (fun _ s'=>∃ σ' H',Inv X pins σ' H' s'/\Q σ' H') X.xe s
noncomputable abbrev lV:=V->V->V->Hp->(Hp->Prop)->Prop
noncomputable def oC (X:Cx) (t:lV):Prop :=
 ∀ (pins:List (Addr × Obj)) (s:Shared) (σ : St) (H:Hp) (o i v:V) (ov iv u:Value) (Q:Hp->Prop),Inv X pins σ H s->RelV o ov->RelV i iv->RelV v u->t o i v H Q →
  wpAny (model X.prog X.w) X.A (setItem ov iv u) (fun _ s'=>∃ H',Inv X pins σ H' s'/\Q H') X.xe s
section
variable {X:Cx} {pos:Pos}
noncomputable def oD (i:Nat):TG:=fun v σ H Q=>Q (σ.set i (some v)) H
theorem Km {i:Nat} {x:Str} (hN:X.N.Nodup) (hi:X.N[i]? = some x) (hx:Loc X.env.scope x) (hf:X.fn x=true\/X.env.scope.names.lookup x=some .local:=by first | exact .inl rfl | exact .inr rfl | assumption):PG X (.Name x pos) (oD i):=by
 intro pins s σ H v u Q I r h
 exact wpAny_assign_Name (CA I hN hi hx r (fun s' I'=>⟨_,H,I',h⟩) hf)
noncomputable def rY:iC:=fun vs σ H Q=>vs=[]/\Q σ H
noncomputable def CL (t:TG) (u:iC):iC:=fun vs σ H Q=>∃ v r,vs=v :: r/\t v σ H fun σ' H'=>u r σ' H' Q
theorem Kn:rX X [] rY:=by
 intro pins s σ H vs us Q I r h
 obtain⟨e,h⟩:=h
 subst e
 cases r
 exact assignInOrder_nil ⟨σ,H,I,h⟩
theorem Ko {e:Expr} {es:List Expr} {t:TG} {u:iC} (h1:PG X e t) (h2:rX X es u)
  (hs:(assignEach (e :: es) X.env).map (·.2)=assign e X.env :: (assignEach es X.env).map (·.2):=by rfl):rX X (e :: es) (CL t u):=by
 intro pins s σ H vs us Q I r h
 obtain⟨v,vr,e1,h⟩:=h
 subst e1
 cases r with
 | cons r rr =>
  rw[hs]
  refine assignInOrder_cons (aZ (h1 pins s σ H _ _ _ I r h) fun _ s1 ⟨σ1,H1,I1,q1⟩ => ?_)
  exact h2 pins s1 σ1 H1 _ _ Q I1 rr q1
noncomputable def rZ (K:PySem.W.Frag) (n:Nat) (t:iC):TG:=fun v σ H Q=>∃ a xs,v = .ref a/\bB K H a xs/\xs.length=n/\t xs σ H Q
theorem Kp {es:List Expr} {k:Nat} {t:iC} {n:Nat} (hc:X.calm=true) (h:rX X es t)
  (hn:(assignEach es X.env).length=n:=by rfl) (jS:(assignEach es X.env).findIdx? (·.1)=none:=by rfl):PG X (.Tuple es k pos) (rZ X.K n t):=by
 intro pins s σ H v u Q I r hw
 obtain⟨a,xs,e1,hq,hl,hw⟩:=hw
 subst e1
 cases r
 obtain⟨aq,rv,ht,hz⟩:=I.tuple hq
 refine assign_Tuple_tuple (I.ok.hd hc) ht (by simp[hn,<-hl,rv.length]) jS fun h' hx => ?_
 have I1:Inv X pins σ H { s with heap:=h' }:=I.kept (t':=s.toks) fun b o e=>hx b o (Vx (UL e)) e
 exact h pins _ σ H xs _ Q I1 (by simpa using rv) hw
noncomputable def oE (to ti:TE) (t:lV):TG:=fun v σ H Q=>to σ H fun o H1=>ti σ H1 fun i H2=>t o i v H2 fun H3=>Q σ H3
theorem Kq {o i:Expr} {to ti:TE} {t:lV} (ho:PE X o to) (hi:PE X i ti) (hs:oC X t)
  (ha:∀ v,assign (.Subscript o i pos) X.env v=(do
   let ov <- holding [v] (eval o X.env)
   let iv <- holding [v,ov] (eval i X.env)
   standAt pos
   holding [v,ov,iv] (setItem ov iv v)
   release [v,ov,iv] []):=by intro _;rfl):PG X (.Subscript o i pos) (oE to ti t):=by
 intro pins s σ H v u Q I r h
 rw[ha]
 refine mq (VG (aZ (ho pins s σ H _ I h) fun ov s1 h0_ => el5 h0_ fun x H1 I1 r1 q1 => ?_))
 refine mq (VG (aZ (hi pins s1 σ H1 _ I1 q1) fun iv s2 h0_ => el5 h0_ fun y H2 I2 r2 q2 => ?_))
 refine mq (XA (mq (VG (aZ (hs pins s2 σ H2 x y v ov iv u _ I2 r1 r2 r q2) fun _ s3 h0_ => el3 h0_ fun H3 I3 q3 => ?_))))
 exact wpAny_release ⟨σ,H3,I3,q3⟩
noncomputable def gB (te:TE) (g:TG):TS:=fun D σ H=>te σ H fun x H1=>g x σ H1 D.nx
theorem Kr {tg e:Expr} {te:TE} {g:TG} (he:PE X e te) (hg:PG X tg g) (hs:swapsWithSole [tg] e pos.line X.env=pure false:=by rfl) (hw:swappedStores [tg] e X.env=pure none:=by rfl)
  (h1:(assignEach [tg] X.env).map (·.2)=[assign tg X.env]:=by rfl):PS X (.Assign [tg] e pos) (gB te g):=by
 intro pins s σ H D I h
 refine wpAny_Assign_stores (aZ (he pins s σ H _ I h) fun v s1 h0_ => el5 h0_ fun x H1 I1 r1 q1 => ?_) hs hw
 rw[h1]
 exact aZ (hg pins s1 σ H1 x v _ I1 r1 q1) fun _ s2 q=>q
theorem Ks {i:Nat} {x:Str} {e:Expr} {te:TE} {pos':Pos} (hN:X.N.Nodup) (hi:X.N[i]? = some x) (hx:Loc X.env.scope x) (he:PE X e te) (hs:swapsWith e (some (.Name x pos')) pos.line X.env=pure false:=by rfl) (hf:X.fn x=true\/X.env.scope.names.lookup x=some .local:=by first | exact .inl rfl | exact .inr rfl | assumption) :
  PS X (.Assign [.Name x pos'] e pos) (gB te (oD i)):=by
 intro pins s σ H D I h
 refine wpAny_Assign_Name (aZ (he pins s σ H _ I h) fun v s1 h0_ => el5 h0_ fun y H1 I1 r1 q1 => ?_) hs
 exact CA I1 hN hi hx r1 (fun s2 I2=>⟨_,H1,I2,q1⟩) hf
noncomputable def CM (c:TT) (tb:TS):TS:=fun D σ H=>∃ W:Nat->St->Hp->Prop,(∃ m,W m σ H)/\∀ m σ H,W m σ H →
 c σ H fun b H1=>if b=true then ∃ N:St->Hp->Prop,(∀ σ' H',N σ' H'->∃ m',m' < m/\W m' σ' H')/\tb { D with nx:=N,ct:=N,bk:=D.nx } σ H1 else D.nx σ H1
theorem Kt {c:Expr} {body:List Stmt} {tc:TT} {tb:TS} (hp:PassesOwn (model X.prog X.w) X.A X.env X.xe) (hc:PT X c tc) (hb:fW X body tb):PS X (.While c body [] pos) (CM tc tb):=by
 intro pins s σ H D I h
 obtain⟨W,⟨m0,w0⟩,turn⟩:=h
 refine wpAny_While (codeAny_whileLoop (fun n s'=>∃ σ' H',Inv X pins σ' H' s'/\W n σ' H') ?_ m0 ⟨σ,H,I,w0⟩)
 rintro n s1 ⟨σ1,H1,I1,w1⟩
 refine Xc hp (aZ (hc pins s1 σ1 H1 _ I1 (turn n σ1 H1 w1)) fun b s2 h0_ => el3 h0_ fun H2 I2 q2 => ?_)
 cases b with
 | true =>
  obtain⟨N,hN,q2⟩:=q2
  rw[UO rfl]
  refine Xc hp (aZ (hb pins s2 σ1 H2 _ I2 q2) fun f s3 q3 => ?_)
  cases f with
  | next =>
   obtain⟨σ3,H3,I3,n3⟩:=q3
   obtain⟨m',hm,w3⟩:=hN σ3 H3 n3
   exact⟨m',hm,σ3,H3,I3,w3⟩
  | cont =>
   obtain⟨σ3,H3,I3,n3⟩:=q3
   obtain⟨m',hm,w3⟩:=hN σ3 H3 n3
   exact⟨m',hm,σ3,H3,I3,w3⟩
  | brk=>exact q3
  | ret v=>exact q3
 | false =>
  rw[LX Vv]
  exact Yv ⟨σ1,H2,I2,q2⟩
end
structure It where
 go:Nat->Hp->Prop
 qp:Nat->Hp->V->Hp->Prop
 stop:Nat->Hp->Prop
noncomputable def a9 (X:Cx) (pins:List (Addr × Obj)) (H:Hp) (b:Addr):Prop :=
 H b=none/\b≠X.env.locals/\b∉X.fs/\(b∈X.ex\/X.s₀.heap.objs.size <= b)/\(∀ x c,X.env.cells.lookup x=some c->c≠b)/\∀ p∈X.pn ++ pins,p.1≠b
theorem Inv.eu {X:Cx} {pins:List (Addr × Obj)} {σ : St} {H H':Hp} {s:Shared} {b:Addr} (I:Inv X pins σ H s) (hb:s.heap.objs.size <= b) (hn:H' b=none):a9 X pins H' b:=by
 refine⟨hn,XN (Vw I.lt hb),I.w9 hb,.inr (V_ I.sz hb),fun x c e z => ?_,fun p hp z => ?_⟩
 ·obtain⟨v,q⟩:=I.cell x c e
  exact absurd (Vw q.lt (by rw[z];exact hb)) (WC _)
 ·exact absurd (Vw (UL (I.pin p hp).1) (by rw[z];exact hb)) (WC _)
structure Turn (P:Program) (w:World) (K:PySem.W.Frag) (tg:Expr) (J:It) (fp:List Addr) (it:Addr) (tn:Nat->Heap->Prop):Prop where
 mem:it∈fp
 obj:∀ i h,tn i h->∀ b∈fp,∃ o,h.get? b=some o/\∀ v,o.data ≠ .cell v
 keep:∀ i h h',tn i h->(∀ b∈fp,∀ o,h.get? b=some o->h'.get? b=some o)->tn i h'
 item:∀ (X:Cx),X.prog=P->X.w=w->X.K=K->X.calm=true->∀ (i:Nat) (pins:List (Addr × Obj)) (s:Shared) (σ : St) (H:Hp) (E:Value->Shared->Prop),Inv X pins σ H s->(∀ b∈fp,a9 X pins H b)->tn i s.heap->J.go i H →
  wpAny (model P w) X.A (pyNext (.ref it)) (fun r s1=>∃ u,r=some u ∧
   wpAny (model P w) X.A (letOwnedTupleGo tg (.ref it) u) (fun _ s2=>∃ x H',Inv X pins σ H' s2/\RelV x u/\J.qp i H x H'/\tn (i + 1) s2.heap/\∀ b∈fp,H' b=none) E s1) E s
 done:∀ (X:Cx),X.prog=P->X.w=w->X.K=K->X.calm=true->∀ (i:Nat) (pins:List (Addr × Obj)) (s:Shared) (σ : St) (H:Hp) (E:Value->Shared->Prop),Inv X pins σ H s->(∀ b∈fp,a9 X pins H b)->tn i s.heap->J.stop i H →
  wpAny (model P w) X.A (pyNext (.ref it)) (fun r s1=>r=none/\Inv X pins σ H s1) E s
 self:∀ (A:Around) (i:Nat) (s:Shared) (Q:Value->Shared->Prop) (E:Value->Shared->Prop),tn i s.heap->Q (.ref it) s->wpAny (model P w) A (pyIter (.ref it)) Q E s
noncomputable abbrev TI:=St->Hp->(It->Hp->Prop)->Prop
noncomputable def CN (X:Cx) (pins:List (Addr × Obj)) (σ : St) (tg:Expr) (R:It->Hp->Prop) (xj:Value) (s2:Shared):Prop :=
 ∃ (it:Addr) (fp:List Addr) (tn:Nat->Heap->Prop) (J:It) (H':Hp),xj = .ref it/\Inv X pins σ H' s2/\Turn X.prog X.w X.K tg J fp it tn/\tn 0 s2.heap/\(∀ b∈fp,a9 X pins H' b)/\R J H'
noncomputable def PI (X:Cx) (tg iter:Expr) (wi:TI):Prop :=
 ∀ (pins:List (Addr × Obj)) (s:Shared) (σ : St) (H:Hp) (R:It->Hp->Prop),Inv X pins σ H s->wi σ H R →
  wpAny (model X.prog X.w) X.A (eval iter X.env) (fun v s1=>wpAny (model X.prog X.w) X.A (pyIter v) (CN X pins σ tg R) X.xe s1) X.xe s
theorem xk {M:Model} {A:Around} {E:Value->Shared->Prop} {s:Shared} {tg:Expr} {it:Addr} {u:Value} {o:Obj} {n:String} {vs:Array Value} {Q:Unit->Shared->Prop} (ho:s.heap.get? it=some o) (hc:o.cls = .type n) (hd:o.data = .fields vs)
  (hn:["enumerate", "zip", "dict_itemiterator", "dict_reverseitemiterator", "odict_iterator", "itertools.zip_longest", "itertools.pairwise"].contains n=false) (hQ:Q () s):wpAny M A (letOwnedTupleGo tg (.ref it) u) Q E s:=by
 unfold letOwnedTupleGo
 cases tg<;>first
  | exact xR hQ
  | (cases u<;>first
    | exact xR hQ
    | (refine mq (wpAny_load ho ?_)
       rw[hc,hd]
       show wpAny M A (if (["enumerate", "zip", "dict_itemiterator", "dict_reverseitemiterator", "odict_iterator", "itertools.zip_longest", "itertools.pairwise"].contains n && vs[0]? == some (rawInt _))=true then _ else _) Q E s
       rw[LX (by intro h;rw[hn,Zz] at h;cases h)]
       exact xR hQ))
noncomputable def CO (K:PySem.W.Frag) (a:Addr):It :=
 ⟨fun i H=>∃ xs x,bq K H a xs/\xs[i]? = some x,fun i H x H'=>H'=H/\∀ xs,bq K H a xs->xs[i]? = some x,fun i H=>∃ xs,bq K H a xs/\xs.length <= i⟩
noncomputable def CP (K:PySem.W.Frag) (a:Addr):It :=
 ⟨fun i H=>∃ xs x,bB K H a xs/\xs[i]? = some x,fun i H x H'=>H'=H/\∀ xs,bB K H a xs->xs[i]? = some x,fun i H=>∃ xs,bB K H a xs/\xs.length <= i⟩
noncomputable def r6 (lo:Int) (n:Nat):It:=⟨fun i _=>i < n,fun i H x H'=>H'=H/\x = .int (lo + i),fun i _=>n <= i⟩
theorem Ku {P:Program} {w:World} {K:PySem.W.Frag} {tg:Expr} (a it:Addr):Turn P w K tg (CO K a) [it] it (fun i h=>h.IsListIter it a i) where
 mem:=by simp
 obj:=fun i h st b hb=>by
  have e:b=it:=by simpa using hb
  subst e
  obtain⟨o,e,c,d⟩:=st
  exact⟨o,e,fun v z=>by rw[d] at z;cases z⟩
 keep:=fun i h h' st k=>st.at fun o e=>k it (by simp) o e
 item:=by
  intro X hP hw hK hc i pins s σ H E I hf st hg
  subst hP hw hK
  obtain⟨xs,x,hq,hx⟩:=hg
  obtain⟨aq,rv,p,hz⟩:=I.list hq
  obtain⟨u,hu,ru⟩:=rv.get hx
  obtain⟨f0,f1,f2,f3,f4,f5⟩:=hf it (by simp)
  refine wpAny_pyNext_list_item st p.isList (x:=u) (by simpa using hu) fun h' fK sb => ?_
  have I1:Inv X pins σ H { s with heap:=h' }:=I.turned (t':=s.toks) (fun b o hb e=>(sb.2 b hb).trans e) f0 f1 f3 f4 f5
  obtain⟨o,e,c,d⟩:=id fK
  exact⟨u,rfl,xk (s:={ s with heap:=h' }) e c d (by decide) ⟨x,H,I1,ru,⟨rfl,fun ys hy=>by rw[I.gA hy hq];exact hx⟩,fK,fun b hb=>(hf b hb).1⟩⟩
 done:=by
  intro X hP hw hK hc i pins s σ H E I hf st hg
  subst hP hw hK
  obtain⟨xs,hq,hx⟩:=hg
  obtain⟨aq,rv,p,hz⟩:=I.list hq
  obtain⟨f0,f1,f2,f3,f4,f5⟩:=hf it (by simp)
  have hl:=rv.length
  exact wpAny_pyNext_list_end (I.ok.hd hc) st p.isList (by simp;omega) fun h' eb=>⟨rfl,I.turned (t':=s.toks) (fun b o hb e=>eb b o hb e) f0 f1 f3 f4 f5⟩
 self:=fun _ _ _ _ _ st h=>wpAny_pyIter_listiter st h
theorem Kv {P:Program} {w:World} {K:PySem.W.Frag} {tg:Expr} (a it:Addr):Turn P w K tg (CP K a) [it] it (fun i h=>h.IsTupleIter it a i) where
 mem:=by simp
 obj:=fun i h st b hb=>by
  have e:b=it:=by simpa using hb
  subst e
  obtain⟨o,e,c,d⟩:=st
  exact⟨o,e,fun v z=>by rw[d] at z;cases z⟩
 keep:=fun i h h' st k=>st.at fun o e=>k it (by simp) o e
 item:=by
  intro X hP hw hK hc i pins s σ H E I hf st hg
  subst hP hw hK
  obtain⟨xs,x,hq,hx⟩:=hg
  obtain⟨aq,rv,p,hz⟩:=I.tuple hq
  obtain⟨u,hu,ru⟩:=rv.get hx
  obtain⟨f0,f1,f2,f3,f4,f5⟩:=hf it (by simp)
  refine wpAny_pyNext_tuple_item st (show s.heap.IsTuple a aq.toArray from p) (x:=u) (by simpa using hu) fun h' fK sb => ?_
  have I1:Inv X pins σ H { s with heap:=h' }:=I.turned (t':=s.toks) (fun b o hb e=>(sb.2 b hb).trans e) f0 f1 f3 f4 f5
  obtain⟨o,e,c,d⟩:=id fK
  exact⟨u,rfl,xk (s:={ s with heap:=h' }) e c d (by decide) ⟨x,H,I1,ru,⟨rfl,fun ys hy=>by rw[I.fJ hy hq];exact hx⟩,fK,fun b hb=>(hf b hb).1⟩⟩
 done:=by
  intro X hP hw hK hc i pins s σ H E I hf st hg
  subst hP hw hK
  obtain⟨xs,hq,hx⟩:=hg
  obtain⟨aq,rv,p,hz⟩:=I.tuple hq
  obtain⟨f0,f1,f2,f3,f4,f5⟩:=hf it (by simp)
  have hl:=rv.length
  exact wpAny_pyNext_tuple_end (I.ok.hd hc) st (show s.heap.IsTuple a aq.toArray from p) (by simp;omega) fun h' eb=>⟨rfl,I.turned (t':=s.toks) (fun b o hb e=>eb b o hb e) f0 f1 f3 f4 f5⟩
 self:=fun _ _ _ _ _ st h=>wpAny_pyIter_tupleiter st h
theorem Kw {P:Program} {w:World} {K:PySem.W.Frag} {tg:Expr} (it:Addr) (lo:Int) (n:Nat):Turn P w K tg (r6 lo n) [it] it (fun i h=>IsRangeIter h it (lo + (i:Nat) * 1) ((n:Int) - (i:Nat)) 1) where
 mem:=by simp
 obj:=fun i h st b hb=>by
  have e:b=it:=by simpa using hb
  subst e
  exact⟨_,st,fun v z=>by
   have z':Data.fields _=Data.cell v:=z
   cases z'⟩
 keep:=fun i h h' st k=>k it (by simp) _ st
 item:=by
  intro X hP hw hK hc i pins s σ H E I hf st hg
  subst hP hw hK
  obtain⟨f0,f1,f2,f3,f4,f5⟩:=hf it (by simp)
  have W:=Walks.range (prog:=X.prog) (w:=X.w) (I.ok.hd hc) it lo 1 n
  refine W.item i s _ _ hg st fun v h' tk hv fK kk => ?_
  obtain⟨t,rfl⟩:=hv
  have I1:Inv X pins σ H { s with heap:=h',toks:=tk }:=I.turned (fun b o hb e=>kk b o (by simpa using hb) e) f0 f1 f3 f4 f5
  refine⟨_,rfl,xk (s:={ s with heap:=h',toks:=tk }) (n := "range_iterator") fK rfl rfl (by decide) ⟨.int (lo + i),H,I1,⟨t,?_⟩,⟨rfl,rfl⟩,fK,fun b hb=>(hf b hb).1⟩⟩
  rw[Int.mul_one]
 done:=by
  intro X hP hw hK hc i pins s σ H E I hf st hg
  subst hP hw hK
  obtain⟨f0,f1,f2,f3,f4,f5⟩:=hf it (by simp)
  exact wpAny_pyNext_range_end (I.ok.hd hc) st (by have:n <= i:=hg;omega) fun h' eb=>⟨rfl,I.turned (t':=s.toks) (fun b o hb e=>eb b o hb e) f0 f1 f3 f4 f5⟩
 self:=fun _ _ _ _ _ st h=>wpAny_pyIter_rangeiter st h
section
variable {X:Cx} {tg:Expr}
theorem CQ {pins:List (Addr × Obj)} {σ : St} {H:Hp} {s:Shared} {R:It->Hp->Prop} {E:Value->Shared->Prop} {lo hi:Int} {t u v:Tok} {tk:Nat} (I:Inv X pins σ H s) (h1 : -(2 ^ 62) <= lo) (h2:lo < 2 ^ 62) (h3 : -(2 ^ 62) <= hi) (h4:hi < 2 ^ 62)
  (q:R (r6 lo (hi - lo).toNat) H):wpAny (model X.prog X.w) X.A (pyIter (.ref s.heap.objs.size)) (CN X pins σ tg R) E { s with heap:=s.heap.push { cls := .type "range",data := .fields #[.int lo t,.int hi u,.int 1 v] },toks:=tk }:=by
 refine wpAny_pyIter_range (IsRange.new ..) (small_one h1 h2 h3 h4) ?_
 have I1:Inv X pins σ H { s with heap:=s.heap.push { cls := .type "range",data := .fields #[.int lo t,.int hi u,.int 1 v] },toks:=tk }:=I.kept fun b o e=>qt _ e
 refine⟨(s.heap.push { cls := .type "range",data := .fields #[.int lo t,.int hi u,.int 1 v] }).objs.size,[(s.heap.push { cls := .type "range",data := .fields #[.int lo t,.int hi u,.int 1 v] }).objs.size],_,_,H,rfl,
  I1.kept (t':=tk) fun b o e=>qt _ e,Kw _ lo (hi - lo).toNat,?_,fun b hb => ?_,q⟩
 ·have e1:lo + ((0:Nat):Int) * 1=lo:=by simp
  have e2:(((hi - lo).toNat:Nat):Int) - ((0:Nat):Int)=Builtin.Range.rangeSize lo hi 1:=by rw[rangeSize_one];split<;>omega
  show IsRangeIter _ _ (lo + ((0:Nat):Int) * 1) ((((hi - lo).toNat:Nat):Int) - ((0:Nat):Int)) 1
  rw[e1,e2]
  exact Vq _ rfl
 ·have e:b=(s.heap.push { cls := .type "range",data := .fields #[.int lo t,.int hi u,.int 1 v] }).objs.size:=by simpa using hb
  subst e
  exact I1.eu (uX _) (I1.aN.fresh (uX _))
noncomputable def CS (ta:TA):TI:=fun σ H R=>ta σ H fun vs H1=>∃ j:Int,vs=[.int j] /\ -(2 ^ 62) <= j/\j < 2 ^ 62/\R (r6 0 j.toNat) H1
noncomputable def CT (ta:TA):TI:=fun σ H R=>ta σ H fun vs H1=>∃ i j:Int,vs=[.int i,.int j]/\(-(2 ^ 62) <= i/\i < 2 ^ 62 /\ -(2 ^ 62) <= j/\j < 2 ^ 62)/\R (r6 i (j - i).toNat) H1
theorem Kx {a:Expr} {ta:TA} {p pos:Pos} (hg:Gl X "range") (hm:X.mg "range" = none) (ha:PA X [a] ta) (hs:starEach [a] X.env=[(false,eval a X.env)]:=by rfl):PI X tg (.Call (.Name "range" p) [a] [] pos) (CS ta):=by
 intro pins s σ H R I h
 refine Call_ (lU I hg hm boot_range (WL (aZ (ha pos pins s σ H _ I h) fun us s1 h0_ => el5 h0_ fun vs H1 I1 r1 q1 => ?_) hs rfl))
 obtain⟨j,e,q1,q2,q⟩:=q1
 subst e
 cases r1 with
 | cons r rr =>
  cases rr
  obtain⟨t,rfl⟩:=r
  exact call_range_1 (CQ I1 (by omega) (by omega) q1 q2 (by simpa using q))
theorem Ky {a b:Expr} {ta:TA} {p pos:Pos} (hg:Gl X "range") (hm:X.mg "range" = none) (ha:PA X [a,b] ta) (hs:starEach [a,b] X.env=[(false,eval a X.env),(false,eval b X.env)]:=by rfl) (iD:starEach [b] X.env=[(false,eval b X.env)]:=by rfl) :
  PI X tg (.Call (.Name "range" p) [a,b] [] pos) (CT ta):=by
 intro pins s σ H R I h
 refine Call_ (lU I hg hm boot_range (WL (aZ (ha pos pins s σ H _ I h) fun us s1 h0_ => el5 h0_ fun vs H1 I1 r1 q1 => ?_) (by rw[hs,iD]) (by rw[iD];rfl)))
 obtain⟨i,j,e,⟨q1,q2,q3,q4⟩,q⟩:=q1
 subst e
 cases r1 with
 | cons r rr =>
  cases rr with
  | cons r' rr =>
   cases rr
   obtain⟨t,rfl⟩:=r
   obtain⟨t',rfl⟩:=r'
   exact call_range_2 (CQ I1 q1 q2 q3 q4 q)
noncomputable def r9 (wi:TI) (g:TG) (tb:TS):TS:=fun D σ H=>wi σ H fun J H1=>∃ W:Nat->Nat->St->Hp->Prop,(∃ m,W 0 m σ H1)/\∀ i m σ H,W i m σ H →
 (J.stop i H/\D.nx σ H)\/(J.go i H/\∃ N:St->Hp->Prop,(∀ σ' H',N σ' H'->∃ m',m' < m/\W (i + 1) m' σ' H')/\∀ x H',J.qp i H x H'->g x σ H' fun σ2 H2=>tb { D with nx:=N,ct:=N,bk:=D.nx } σ2 H2)
noncomputable def r_ (fp:List Addr) (h:Heap):List (Addr × Obj):=fp.filterMap fun b=>(h.get? b).map fun o=>(b,o)
theorem uQ {fp:List Addr} {h:Heap} {b:Addr} {o:Obj} (hb:b∈fp) (e:h.get? b=some o):(b,o)∈r_ fp h:=X0.mpr ⟨b,hb,by rw[e];rfl⟩
theorem Kz {fp:List Addr} {h:Heap} {p:Addr × Obj} (hp:p∈r_ fp h):p.1∈fp/\h.get? p.1=some p.2:=by
 obtain⟨b,hb,e⟩:=X0.mp hp
 cases q:h.get? b with
 | none=>rw[q] at e;cases e
 | some o =>
  rw[q] at e
  have e':(b,o)=p:=VE e
  subst e'
  exact⟨hb,q⟩
theorem Inv.pinned {pins:List (Addr × Obj)} {σ : St} {H:Hp} {s:Shared} {fp:List Addr} (I:Inv X pins σ H s) (hf:∀ b∈fp,a9 X pins H b) (ho:∀ b∈fp,∃ o,s.heap.get? b=some o/\∀ v,o.data ≠ .cell v):Inv X (pins ++ r_ fp s.heap) σ H s :=
 I.eJ fun p hp=>(VO.mp hp).elim (fun z=>I.pin p (LU _ z)) fun z=>by
  obtain⟨hb,e⟩:=Kz z
  obtain⟨f0,f1,f2,_⟩:=hf p.1 hb
  obtain⟨o,e',d⟩:=ho p.1 hb
  rw[e] at e';cases e'
  exact⟨e,f0,f1,f2,d⟩
theorem Inv.dh {pins pl:List (Addr × Obj)} {σ : St} {H:Hp} {s:Shared} (I:Inv X (pins ++ pl) σ H s):Inv X pins σ H s:=I.eJ fun p hp=>I.pin p (LU _ (Wf _ hp))
theorem KC {iter:Expr} {body:List Stmt} {wi:TI} {g:TG} {tb:TS} {pos:Pos} (hp:PassesOwn (model X.prog X.w) X.A X.env X.xe) (hc:X.calm=true) (hi:PI X tg iter wi) (hg:PG X tg g) (hb:fW X body tb)
  (hs:∀ x,foldedSetIterable iter X.env x=pure x:=by intro _;rfl):PS X (.For tg iter body [] pos) (r9 wi g tb):=by
 intro pins s σ H D I h
 refine wpAny_For (aZ (hi pins s σ H _ I h) fun v s1 h1=>aZ h1 fun xj s2 h2 => ?_) hs
 obtain⟨it,fp,tn,J,H2,e,I2,T,jT,f2,W,⟨m0,w0⟩,turn⟩:=h2
 subst e
 have hX:∀ {H':Hp},(∀ b∈fp,H' b=none)->∀ b∈fp,a9 X pins H' b:=fun hn b hb=>⟨hn b hb,(f2 b hb).2⟩
 refine codeAny_forLoop_any (fun n s'=>∃ i σ' H',Inv X pins σ' H' s'/\tn i s'.heap/\(∀ b∈fp,H' b=none)/\W i n σ' H') ?_ m0 ⟨0,σ,H2,I2,jT,fun b hb=>(f2 b hb).1,w0⟩
 rintro n s3 ⟨i,σ3,H3,I3,lW,sd,w3⟩
 rcases turn i n σ3 H3 w3 with⟨stop,qn⟩ | ⟨go,N,hN,step⟩
 ·refine Xc hp (aZ (T.done X rfl rfl rfl hc i pins s3 σ3 H3 X.xe I3 (hX sd) lW stop) fun r s4 ⟨hr,I4⟩ => ?_)
  subst hr
  exact Yv ⟨σ3,H3,I4,qn⟩
 ·refine Xc hp (aZ (T.item X rfl rfl rfl hc i pins s3 σ3 H3 X.xe I3 (hX sd) lW go) fun r s4 ⟨u,hr,h4⟩ => ?_)
  subst hr
  refine Xc hp (aZ h4 fun _ s5 ⟨x,H5,I5,r5,y5,oF,xm⟩ => ?_)
  have xn:=I5.pinned (hX xm) (T.obj _ _ oF)
  refine Xc hp (aZ (hg _ s5 σ3 H5 x u _ xn r5 (step x H5 y5)) fun _ s6 ⟨σ6,H6,I6,q6⟩ => ?_)
  refine Xc hp (aZ (hb _ s6 σ6 H6 _ I6 q6) fun f s7 q7 => ?_)
  have again:∀ {σ7:St} {H7:Hp},Inv X (pins ++ r_ fp s5.heap) σ7 H7 s7->N σ7 H7->∃ m,m < n/\∃ i σ' H',Inv X pins σ' H' s7/\tn i s7.heap/\(∀ b∈fp,H' b=none)/\W i m σ' H':=fun {σ7 H7} I7 n7=>by
   obtain⟨m',hm,w7⟩:=hN σ7 H7 n7
   refine⟨m',hm,i + 1,σ7,H7,I7.dh,T.keep _ _ _ oF fun b hb o e=>(I7.pin (b,o) (LU _ (LU _ (uQ hb e)))).1,fun b hb => ?_,w7⟩
   obtain⟨o,e,d⟩:=T.obj _ _ oF b hb
   exact (I7.pin (b,o) (LU _ (LU _ (uQ hb e)))).2.1
  cases f with
  | next=>obtain⟨σ7,H7,I7,n7⟩:=q7;exact again I7 n7
  | cont=>obtain⟨σ7,H7,I7,n7⟩:=q7;exact again I7 n7
  | brk=>obtain⟨σ7,H7,I7,q7⟩:=q7;exact⟨σ7,H7,I7.dh,q7⟩
  | ret v=>obtain⟨x7,σ7,H7,I7,r7,q7⟩:=q7;exact⟨x7,σ7,H7,I7.dh,r7,q7⟩
end
noncomputable abbrev R2:=V->V->Hp->VK->Prop
noncomputable def cG (X:Cx) (f:Value->Value->Sem Value) (r:R2):Prop :=
 ∀ (pins:List (Addr × Obj)) (s:Shared) (σ : St) (H:Hp) (x y:V) (v u:Value) (Q:VK),Inv X pins σ H s->RelV x v->RelV y u->r x y H Q →
  wpAny (model X.prog X.w) X.A (f v u) (EP X pins σ Q) X.xe s
noncomputable def uR (X:Cx) (f:Value->Sem Value) (r:V->Hp->VK->Prop):Prop :=
 ∀ (pins:List (Addr × Obj)) (s:Shared) (σ : St) (H:Hp) (x:V) (v:Value) (Q:VK),Inv X pins σ H s->RelV x v->r x H Q →
  wpAny (model X.prog X.w) X.A (f v) (EP X pins σ Q) X.xe s
noncomputable def fX (X:Cx) (f:Value) (r:List V->Hp->VK->Prop):Prop :=
 ∀ (pins:List (Addr × Obj)) (s:Shared) (σ : St) (H:Hp) (xs:List V) (us:List Value) (Q:VK),Inv X pins σ H s->Vals xs us->r xs H Q →
  wpAny (model X.prog X.w) X.A (call f us) (EP X pins σ Q) X.xe s
noncomputable def lX (r:R2) (ta tb:TE):TE:=fun σ H Q=>ta σ H fun x H1=>tb σ H1 fun y H2=>r x y H2 Q
noncomputable def CU (r:V->Hp->VK->Prop) (ta:TE):TE:=fun σ H Q=>ta σ H fun x H1=>r x H1 Q
noncomputable def rI (C:Int->Int->Prop) (g:Int->Int->V):R2:=fun x y H Q=>∃ i j,x = .int i/\y = .int j/\C i j/\Q (g i j) H
noncomputable def lY (g:Int->Int->V):R2:=fun x y H Q=>∃ i j,x = .int i/\y = .int j/\Q (g i j) H
noncomputable def rU (g:Int->V):V->Hp->VK->Prop:=fun x H Q=>∃ i,x = .int i/\Q (g i) H
section
variable {X:Cx} {a b c:Expr} {ta tb tc:TE} {pos:Pos}
theorem oG (ha:PE X a ta) (hb:PE X b tb) {pins:List (Addr × Obj)} {s:Shared} {σ : St} {H:Hp} {R:V->V->Hp->Prop} (I:Inv X pins σ H s)
  (h:ta σ H fun x H1=>tb σ H1 fun y H2=>R x y H2) {Q:Value->Shared->Prop} {f:Value->Value->Sem Value}
  (hf:∀ v u s2 x y H2,Inv X pins σ H2 s2->RelV x v->RelV y u->R x y H2->wpAny (model X.prog X.w) X.A (f v u) Q X.xe s2) :
  wpAny (model X.prog X.w) X.A (eval a X.env) (fun v s₁ => wpAny (model X.prog X.w) X.A (eval b X.env) (fun u s₂ => wpAny (model X.prog X.w) X.A (f v u) Q X.xe s₂) X.xe s₁) X.xe s:=by
 refine aZ (ha pins s σ H _ I h) fun v s1 h0_ => el5 h0_ fun x H1 I1 r1 q1 => ?_
 refine aZ (hb pins s1 σ H1 _ I1 q1) fun u s2 h0_ => el5 h0_ fun y H2 I2 r2 q2 => ?_
 exact hf v u s2 x y H2 I2 r1 r2 q2
theorem KD {op:Operator} {r:R2} (ho:cG X (binaryOp op) r) (ha:PE X a ta) (hb:PE X b tb):PE X (.BinOp a op b pos) (lX r ta tb):=by
 intro pins s σ H Q I h
 exact wpAny_BinOp (oG ha hb I h fun v u s2 x y H2 I2 rx ry q=>ho pins s2 σ H2 x y v u Q I2 rx ry q)
theorem CV {op:UnaryOp} {r:V->Hp->VK->Prop} (ho:uR X (unaryOp op) r) (ha:PE X a ta):PE X (.UnaryOp op a pos) (CU r ta):=by
 intro pins s σ H Q I h
 exact UnaryOp_ (aZ (ha pins s σ H _ I h) fun v s1 h0_ => el5 h0_ fun x H1 I1 r1 q1 =>ho pins s1 σ H1 x v Q I1 r1 q1)
theorem uS {f:Value->Value->Sem Value} {C:Int->Int->Prop} {g:Int->Int->Int}
  (rule:∀ (i j:Int) (t u:Tok) (s:Shared) (Q:Value->Shared->Prop) (E:Value->Shared->Prop),C i j->Q (.int (g i j) s.toks) { s with toks:=s.toks + 1 }->wpAny (model X.prog X.w) X.A (f (.int i t) (.int j u)) Q E s) :
  cG X f (rI C fun i j => .int (g i j)):=by
 intro pins s σ H x y v u Q I rx ry h
 obtain⟨i,j,rfl,rfl,hc,q⟩:=h
 obtain⟨t,rfl⟩:=rx
 obtain⟨t',rfl⟩:=ry
 exact rule i j t t' s _ _ hc ⟨.int (g i j),H,I.tok _,⟨_,rfl⟩,q⟩
theorem sf {f:Value->Value->Sem Value} {g:Int->Int->Int}
  (rule:∀ (i j:Int) (t u:Tok) (s:Shared) (Q:Value->Shared->Prop) (E:Value->Shared->Prop),Q (.int (g i j) s.toks) { s with toks:=s.toks + 1 }->wpAny (model X.prog X.w) X.A (f (.int i t) (.int j u)) Q E s) :
  cG X f (lY fun i j => .int (g i j)):=by
 intro pins s σ H x y v u Q I rx ry h
 obtain⟨i,j,rfl,rfl,q⟩:=h
 obtain⟨t,rfl⟩:=rx
 obtain⟨t',rfl⟩:=ry
 exact rule i j t t' s _ _ ⟨.int (g i j),H,I.tok _,⟨_,rfl⟩,q⟩
theorem lZ {f:Value->Value->Sem Value} {g:Int->Int->Bool}
  (rule:∀ (i j:Int) (t u:Tok) (s:Shared) (Q:Value->Shared->Prop) (E:Value->Shared->Prop),Q (.bool (g i j)) s->wpAny (model X.prog X.w) X.A (f (.int i t) (.int j u)) Q E s) :
  cG X f (lY fun i j => .bl (g i j)):=by
 intro pins s σ H x y v u Q I rx ry h
 obtain⟨i,j,rfl,rfl,q⟩:=h
 obtain⟨t,rfl⟩:=rx
 obtain⟨t',rfl⟩:=ry
 exact rule i j t t' s _ _ ⟨.bl (g i j),H,I,rfl,q⟩
noncomputable def sg (i j:Int):Prop:=j≠0/\j.natAbs < 1073741824
noncomputable def eU (i j:Int):Prop:=0 <= j/\j <= 1000000/\i.natAbs < 2 ^ 64
noncomputable def jU (i j:Int):Prop:=(-(2 ^ 64) < i/\i < 2 ^ 64)\/(-(2 ^ 64) < j/\j < 2 ^ 64)
theorem jU.ok {i j:Int} (h:jU i j):IntMulOk i j:=by
 rcases h with⟨h1,h2⟩ | ⟨h1,h2⟩
 ·exact .of_left (intBits_le_64 h1 h2)
 ·exact .of_right (intBits_le_64 h1 h2)
theorem CW:cG X (binaryOp .Add) (lY fun i j => .int (i + j)):=sf fun _ _ _ _ _ _ _ q=>add_int q
theorem KG:cG X (binaryOp .Sub) (lY fun i j => .int (i - j)):=sf fun _ _ _ _ _ _ _ q=>sub_int q
theorem KH:cG X (binaryOp .Mult) (rI jU fun i j => .int (i * j)):=uS fun _ _ _ _ _ _ _ hc q=>mul_int q hc.ok
theorem KI:cG X (binaryOp .FloorDiv) (rI sg fun i j => .int (i.fdiv j)):=uS fun _ _ _ _ _ _ _ hc q=>floordiv_int hc.1 q (.inl (PyProof.noPylong_small hc.2))
theorem xp:cG X (binaryOp .Mod) (rI (fun _ j=>0 < j) fun i j => .int (i % j)):=uS fun i j _ _ _ _ _ hc q=>by
 have h1:(0:Int) < j:=hc
 exact mod_int' (by omega) (by rw[Int.fmod_eq_emod_of_nonneg i (by omega)];exact q)
theorem KJ:cG X (binaryOp .Pow) (rI eU fun i j => .int (i ^ j.toNat)):=uS fun _ _ _ _ _ _ _ hc q=>pow_int_small hc.1 hc.2.1 hc.2.2 q
theorem KN {f:Value->Sem Value} {g:Int->Int}
  (rule:∀ (i:Int) (t:Tok) (s:Shared) (Q:Value->Shared->Prop) (E:Value->Shared->Prop),Q (.int (g i) s.toks) { s with toks:=s.toks + 1 }->wpAny (model X.prog X.w) X.A (f (.int i t)) Q E s) :
  uR X f (rU fun i => .int (g i)):=by
 intro pins s σ H x v Q I rx h
 obtain⟨i,rfl,q⟩:=h
 obtain⟨t,rfl⟩:=rx
 exact rule i t s _ _ ⟨.int (g i),H,I.tok _,⟨_,rfl⟩,q⟩
theorem CY:uR X (unaryOp .USub) (rU fun i => .int (-i)):=KN fun _ _ _ _ _ q=>neg_int q
theorem CZ {pins:List (Addr × Obj)} {σ : St} {H:Hp} {s:Shared} {Q:VK} {k k':Bool} (I:Inv X pins σ H s) (q:Q (.bl k) H) (e:k=k'):EP X pins σ Q (.bool k') s:=by
 subst e
 exact⟨.bl k,H,I,rfl,q⟩
theorem KO:cG X (compareOp .Lt) (lY fun i j => .bl (decide (i < j))):=lZ fun _ _ _ _ _ _ _ q=>lt_int q
theorem KP:cG X (compareOp .LtE) (lY fun i j => .bl (decide (i <= j))):=lZ fun _ _ _ _ _ _ _ q=>le_int q
theorem KQ:cG X (compareOp .Gt) (lY fun i j => .bl (decide (j < i))):=lZ fun _ _ _ _ _ _ _ q=>gt_int q
theorem KR:cG X (compareOp .GtE) (lY fun i j => .bl (decide (j <= i))):=lZ fun _ _ _ _ _ _ _ q=>ge_int q
theorem KU:cG X (compareOp .Is) (fun x y H Q=>y = .non/\Q (.bl (decide (x = .non))) H):=by
 intro pins s σ H x y v u Q I rx ry h
 obtain⟨rfl,q⟩:=h
 cases ry
 refine is_none_gen (CZ I q ?_)
 cases x<;>first
  | (cases rx;rfl)
  | (obtain⟨t,rfl⟩:=rx;rfl)
theorem KW:cG X (compareOp .IsNot) (fun x y H Q=>y = .non/\Q (.bl (!decide (x = .non))) H):=by
 intro pins s σ H x y v u Q I rx ry h
 obtain⟨rfl,q⟩:=h
 cases ry
 refine isnot_none_gen (CZ I q ?_)
 cases x<;>first
  | (cases rx;rfl)
  | (obtain⟨t,rfl⟩:=rx;rfl)
theorem xq (b:Expr) {op:CmpOp} (h:op ≠ .In:=by decide) (h2:op ≠ .NotIn:=by decide):behindInMarks op b=false:=by
 have e1:(op == CmpOp.In)=false:=by cases op<;>first | rfl | exact absurd rfl h
 have e2:(op == CmpOp.NotIn)=false:=by cases op<;>first | rfl | exact absurd rfl h2
 cases b<;>simp[behindInMarks,e1,e2]
theorem KY {op:CmpOp} {r:R2} (ho:cG X (compareOp op) r) (ha:PE X a ta) (hb:PE X b tb) (hm:behindInMarks op b=false):PE X (.Compare a [op] [b] pos) (lX r ta tb):=by
 intro pins s σ H Q I h
 exact wpAny_Compare1 (oG ha hb I h fun v u s2 x y H2 I2 rx ry q=>ho pins s2 σ H2 x y v u Q I2 rx ry q) hm
noncomputable def C0 (t:TE):TT:=fun σ H Q=>t σ H fun x H'=>∃ k,x = .bl k/\Q k H'
theorem KZ {op:CmpOp} {r:R2} (ho:cG X (compareOp op) r) (ha:PE X a ta) (hb:PE X b tb) (hm:behindInMarks op b=false):PT X (.Compare a [op] [b] pos) (C0 (lX r ta tb)):=by
 intro pins s σ H Q I h
 refine wpAny_isTrue_Compare1 (aZ (ha pins s σ H _ I h) fun v s1 h0_ => el5 h0_ fun x H1 I1 r1 q1 =>aZ (hb pins s1 σ H1 _ I1 q1) fun u s2 h0_ => el5 h0_ fun y H2 I2 r2 q2 =>
  aZ (ho pins s2 σ H2 x y v u _ I2 r1 r2 q2) fun c s3 ⟨z,H3,I3,r3,k,e,q3⟩ => ?_) hm
 subst e
 cases r3
 exact Wx ⟨H3,I3,q3⟩
noncomputable def C1 (r r':R2) (ta tb tc:TE):TE:=fun σ H Q=>ta σ H fun x H1=>tb σ H1 fun y H2=>r x y H2 fun z H3=>∃ k,z = .bl k ∧
 (if k=true then tc σ H3 fun w' H4=>r' y w' H4 Q else Q (.bl false) H3)
theorem K1 {op jV:CmpOp} {r r':R2} (ho:cG X (compareOp op) r) (iT:cG X (compareOp jV) r') (ha:PE X a ta) (hb:PE X b tb) (hc:PE X c tc)
  (hm:lastMarks [op,jV] [b,c]=false:=by with_unfolding_all rfl):PE X (.Compare a [op,jV] [b,c] pos) (C1 r r' ta tb tc):=by
 intro pins s σ H Q I h
 refine Compare_chain (aZ (ha pins s σ H _ I h) fun v s1 h0_ => el5 h0_ fun x H1 I1 r1 q1 =>chain_link (aZ (hb pins s1 σ H1 _ I1 q1) fun u s2 h0_ => el5 h0_ fun y H2 I2 r2 q2 =>
  aZ (ho pins s2 σ H2 x y v u _ I2 r1 r2 q2) fun d s3 ⟨z,H3,I3,r3,k,e,q3⟩ => ?_)) hm
 subst e
 cases r3
 refine Wx ?_
 cases k with
 | false=>exact ite_ff ⟨.bl false,H3,I3,rfl,q3⟩
 | true=>exact ite_tt (chain_last (aZ (hc pins s3 σ H3 _ I3 q3) fun w' s4 ⟨z',H4,I4,r4,q4⟩=>iT pins s4 σ H4 y z' u w' Q I4 r2 r4 q4))
theorem K4 {xs:List V} {aq:List Value} (r:Vals xs aq):(!aq.toArray.isEmpty) = !xs.isEmpty:=by
 cases r<;>simp
theorem oH:(sizeLine:Nat) < 2 ^ 63:=by rw[Wg];decide
theorem K5:cG X (binaryOp .Add) (fun x y H Q=>∃ i j,x = .str i/\y = .str j/\i.length + j.length <= sizeLine/\Q (.str (i ++ j)) H):=by
 intro pins s σ H x y v u Q I rx ry h
 obtain⟨i,j,rfl,rfl,hz,q⟩:=h
 obtain⟨t,rfl⟩:=rx
 obtain⟨t',rfl⟩:=ry
 exact add_str (fun t' tk=>⟨.str (i ++ j),H,I.tok _,⟨_,rfl⟩,q⟩) hz
theorem vals1 {x:V} {us:List Value} (r:Vals [x] us):∃ u,us=[u]/\RelV x u:=by
 cases r with
 | cons r1 r2=>cases r2;exact⟨_,rfl,r1⟩
theorem vals2 {x y:V} {us:List Value} (r:Vals [x,y] us):∃ u w',us=[u,w']/\RelV x u/\RelV y w':=by
 cases r with
 | cons r1 r2 =>
  cases r2 with
  | cons r3 r4=>cases r4;exact⟨_,_,rfl,r1,r3⟩
theorem K6 (hc:X.calm=true):fX X (.builtin "max") (fun xs H Q=>∃ i j,xs=[.int i,.int j]/\Q (.int (if j > i then j else i)) H):=by
 intro pins s σ H xs us Q I r h
 obtain⟨i,j,rfl,q⟩:=h
 obtain⟨u,w',rfl,⟨t,rfl⟩,⟨t',rfl⟩⟩:=vals2 r
 refine max_two_ints (I.ok.hd hc) fun h' tk k=>⟨_,H,I.kept k,?_,q⟩
 by_cases hj:j > i
 ·rw[UO hj,UO hj];exact⟨_,rfl⟩
 ·rw[LX hj,LX hj];exact⟨_,rfl⟩
theorem K7 (hc:X.calm=true):fX X (.builtin "min") (fun xs H Q=>∃ i j,xs=[.int i,.int j]/\Q (.int (if j < i then j else i)) H):=by
 intro pins s σ H xs us Q I r h
 obtain⟨i,j,rfl,q⟩:=h
 obtain⟨u,w',rfl,⟨t,rfl⟩,⟨t',rfl⟩⟩:=vals2 r
 refine min_two_ints (I.ok.hd hc) fun h' tk k=>⟨_,H,I.kept k,?_,q⟩
 by_cases hj:j < i
 ·rw[UO hj,UO hj];exact⟨_,rfl⟩
 ·rw[LX hj,LX hj];exact⟨_,rfl⟩
end
structure oJ (h:Heap) (x dx C:Addr) (mA:Str->Option Value):Prop where
 obj:h.get? x=some (PySem.W.instObj C dx)
 ns:h.Ns1 dx mA
 ne:dx≠x
theorem K8 {h:Heap} {dx:Addr} {mA:Str->Option Value} (n:h.Ns1 dx mA):∃ od,h.get? dx=some od/\∀ name,PySem.W.lookIn name od=some (mA name):=by
 obtain⟨o,es,ep,ho,hd,hk,_,hm⟩:=n
 refine⟨o,ho,fun name => ?_⟩
 have e:=hm name
 unfold nsFind findBy at e
 rw[<-Array.find?_toList] at e
 unfold PySem.W.lookIn
 rw[hd]
 dsimp only
 split
 ·rename_i y q
  rw[q] at e
  exact congrArg some e
 ·rename_i q
  rw[q] at e
  have a:es.toList.any (·.refKey)=false:=by
   rw[Xh]
   intro y hy
   obtain⟨z,t,xr⟩:=hk y (Array.mem_toList_iff.mp hy)
   simp[DictEntry.refKey,xr]
  have a':¬ es.toList.any (·.refKey)=true:=by rw[a];exact Vv
  rw[LX a']
  exact congrArg some e
theorem oJ.look {h:Heap} {x dx C:Addr} {mA:Str->Option Value} (I:oJ h x dx C mA):∃ od,PySem.W.InstAt h x (PySem.W.instObj C dx) C (some od)/\∀ name,PySem.W.lookIn name od=some (mA name) :=
 let ⟨od,ho,hl⟩:=K8 I.ns
 ⟨od,⟨I.obj,rfl,rfl,ho⟩,hl⟩
section
variable {prog:Program} {w:World} {A:Around} {E:Value->Shared->Prop} {s:Shared} {K:PySem.W.Frag} {x dx C f:Addr} {mA:Str->Option Value} {name:Str} {v:Value}
end
theorem dJ.some_of {v:V} {o:Option Value} (r:dJ (some v) o):∃ u,o=some u/\RelV v u:=by
 cases o with
 | none=>exact (show False from r).elim
 | some u=>exact⟨u,rfl,r⟩
section
variable {P:Program} {w:World} {H H':Hp} {h h':Heap} {a C dx:Addr} {fs JN:List (Str × V)}
theorem K9 (aN:dg P w H h) (e:H a=some (.ins C dx fs)):∃ mA,oJ h a dx C mA/\(∀ f,dJ (fs.lookup f) (mA f))/\PySem.Within mA (fs.map (·.1))/\fs.length <= 1000/\H dx=some (.own a):=by
 obtain⟨d,z,ne,ob,mA,n,r,q⟩:=(show aQ P w H h a (.ins C dx fs) from aN a _ e)
 exact⟨mA,⟨ob,n,ne⟩,r,q,z,d⟩
end
structure xt (K:PySem.W.Frag) (C:Addr):Prop where
 pg:PySem.W.plainGet K C Str.empty=true
 hd:PySem.W.hasDictIn K C=true
 po:PySem.W.plainOver K C=true
 sa:PySem.W.findIn K (.ref C) "__setattr__" = some (some (.builtin "object.__setattr__"))
theorem xt.get {K:PySem.W.Frag} {C:Addr} (c:xt K C) (f:Str):PySem.W.plainGet K C f=true:=c.pg
section
variable {X:Cx} {pins:List (Addr × Obj)} {σ : St} {H:Hp} {s:Shared} {a C dx:Addr} {fs:List (Str × V)} {f:Str} {v:V} {A:Around} {E:Value->Shared->Prop}
end
section
variable {X:Cx} {o e value:Expr} {f:Str} {pos pos' xu:Pos} {ta tv:TE}
end
section
variable {X:Cx} {pins:List (Addr × Obj)} {σ : St} {H:Hp} {s:Shared} {A:Around} {E:Value->Shared->Prop} {Q:Value->Shared->Prop} {c:Value} {b:Bool}
inductive di (K:PySem.W.Frag) (H:Hp):V->Value->Prop where
 | non:di K H .non (.type "NoneType")
 | bl (x:Bool):di K H (.bl x) (.type "bool")
 | int (i:Int):di K H (.int i) (.type "int")
 | str (x:Str):di K H (.str x) (.type "str")
 | flt (x:UInt64):di K H (.flt x) (.type "float")
 | lst {a:Addr} {xs:List V} (e:H a=some (.lst xs)):di K H (.ref a) (.type "list")
 | frz {a:Addr} {o:Obj} {xs:List V} (e:H a=some (.frz o (.lst xs))):di K H (.ref a) (.type "list")
 | tup {a:Addr} {xs:List V} (e:H a=some (.tup xs)):di K H (.ref a) (.type "tuple")
 | dK {a:Addr} {ah:List (Key × V)} (e:H a=some (.dK ah)):di K H (.ref a) (.type "dict")
 | dT {a:Addr} {ah:List (List Key × V)} (e:H a=some (.dT ah)):di K H (.ref a) (.type "dict")
 | ins {a C dx:Addr} {fs:List (Str × V)} (e:H a=some (.ins C dx fs)) (cl:xt K C) (ha:PySem.W.findIn K (.ref C) "__class__" = some (some (.builtin "object.__class__")))
   (hn:PySem.W.specialIn K (.builtin "object.__class__") "__get__" = some (some (.builtin "getset_descriptor.__get__"))) (C2:PySem.W.takesIn K (.builtin "object.__class__")=some true)
   (hm:PySem.W.mroIn K C (.type "object")=some true):di K H (.ref a) (.ref C)
theorem K_ {x:V} {u t:Value} (I:Inv X pins σ H s) (rx:RelV x u) (ty:di X.K H x t) (e:PySem.W.kitOne X.K t c=some b) (h:∀ tk,Q (.bool b) { s with toks:=tk }) :
  wpAny (model X.prog X.w) A (call (.builtin "isinstance") [u,c]) Q E s:=by
 cases ty with
 | non=>cases (show u=Value.none from rx);exact Wt PySem.W.kitx_none I.gy True.intro e (fun z=>nomatch z) h
 | bl y=>cases (show u=Value.bool y from rx);exact Wt PySem.W.kitx_bool I.gy True.intro e (fun z=>nomatch z) h
 | int i=>obtain⟨t,q⟩:=(show ∃ t,u=Value.int i t from rx);cases q;exact Wt PySem.W.kitx_int I.gy True.intro e (fun z=>nomatch z) h
 | str y=>obtain⟨t,q⟩:=(show ∃ t,u=Value.str y t from rx);cases q;exact Wt PySem.W.kitx_str I.gy True.intro e (fun z=>nomatch z) h
 | flt y=>obtain⟨t,q⟩:=(show ∃ t,u=Value.float y t from rx);cases q;exact Wt PySem.W.kitx_float I.gy True.intro e (fun z=>nomatch z) h
 | @lst a xs ea =>
  cases (show u=Value.ref a from rx)
  obtain⟨_,_,n,_,h1⟩:=(show aQ X.prog X.w H s.heap a (.lst xs) from I.aN a _ ea)
  exact Wt PySem.W.kitx_list I.gy ⟨_,h1,rfl⟩ e (fun z=>nomatch z) h
 | @frz a ob xs ea =>
  cases (show u=Value.ref a from rx)
  obtain⟨_,_,_,n,_,h1⟩:=(show aQ X.prog X.w H s.heap a (.frz ob (.lst xs)) from I.aN a _ ea)
  exact Wt PySem.W.kitx_list I.gy ⟨_,h1,rfl⟩ e (fun z=>nomatch z) h
 | @tup a xs ea =>
  cases (show u=Value.ref a from rx)
  obtain⟨_,_,_,p⟩:=(show aQ X.prog X.w H s.heap a (.tup xs) from I.aN a _ ea)
  obtain⟨o,h1,h2,_⟩:=p
  exact Wt PySem.W.kitx_tuple I.gy ⟨o,h1,h2⟩ e (fun z=>nomatch z) h
 | @dK a ah ea =>
  cases (show u=Value.ref a from rx)
  obtain⟨_,_,vs,_,p⟩:=(show aQ X.prog X.w H s.heap a (.dK ah) from I.aN a _ ea)
  obtain⟨o,es,ep,h1,h2,_⟩:=p
  exact Wt PySem.W.kitx_dict I.gy ⟨o,h1,h2.1⟩ e (fun z=>nomatch z) h
 | @dT a ah ea =>
  cases (show u=Value.ref a from rx)
  obtain⟨_,_,xs,_,o,es,ep,h1,h2,_⟩:=(show aQ X.prog X.w H s.heap a (.dT ah) from I.aN a _ ea)
  exact Wt PySem.W.kitx_dict I.gy ⟨o,h1,h2.1⟩ e (fun z=>nomatch z) h
 | @ins a C dx fs ea cl ha hn C2 hm =>
  cases (show u=Value.ref a from rx)
  obtain⟨mA,O,_⟩:=K9 I.aN ea
  obtain⟨od,J,_⟩:=O.look
  exact Wt (PySem.W.kitx_own (cl.get _) cl.hd ha hn C2 hm) I.gy J e (fun z=>nomatch z) h
end
structure bg (k:Nat) (A:Around):Prop where
 hd:A.handled=none
 dp:A.depth + 3 * k + 5 < recursionLimit
 un:A.units + 16 * k + 200 < cLine
theorem bg.mono {j k:Nat} {A:Around} (r:bg k A) (h:j <= k):bg j A:=⟨r.hd,by have:=r.dp;omega,by have:=r.un;omega⟩
theorem bg.deeper {k:Nat} {A:Around} (r:bg (k + 1) A) (env:Env):bg k (A.deeper env) :=
 ⟨r.hd,by have:=r.dp;show A.depth + 1 + 3 * k + 5 < _;omega,by have:=r.un;show A.units + 3 + 16 * k + 200 < _;omega⟩
theorem bg.in1 {k:Nat} {A:Around} (r:bg (k + 1) A):bg k A.in1 :=
 ⟨r.hd,by have:=r.dp;show A.depth + 3 * k + 5 < _;omega,by have:=r.un;show A.units + 1 + 16 * k + 200 < _;omega⟩
theorem bg.depth {k:Nat} {A:Around} (r:bg k A):A.depth < recursionLimit:=by have:=r.dp;omega
theorem bg.units {k:Nat} {A:Around} (r:bg k A):A.units + 64 < cLine:=by have:=r.un;omega
noncomputable def si:TA:=fun _ H Q=>Q [] H
noncomputable def hZ (ta:TE) (tr:TA):TA:=fun σ H Q=>ta σ H fun x H1=>tr σ H1 fun xs H2=>Q (x :: xs) H2
section
variable {X:Cx} {e:Expr} {es:List Expr} {te:TE} {t:TA} {pos:Pos}
theorem La:PA X [] si:=fun _ _ _ _ H Q I h=>Calls.spliced_nil ⟨[],H,I,.nil,h⟩
theorem oK (ha:PE X e te) (hr:PA X es t) (hs:starEach (e :: es) X.env=(false,eval e X.env) :: starEach es X.env:=by rfl):PA X (e :: es) (hZ te t):=by
 intro pos pins s σ H Q I h
 rw[hs]
 show wpAny _ _ (spliced ((false,eval e X.env) :: backTo pos (starEach es X.env))) _ _ s
 refine YH (aZ (ha pins s σ H _ I h) fun u s1 h0_ => el5 h0_ fun x H1 I1 r1 q1 => ?_)
 exact aZ (hr pos pins s1 σ H1 _ I1 q1) fun us s2 h0_ => el5 h0_ fun xs H2 I2 r2 q2 =>⟨x :: xs,H2,I2,.cons r1 r2,q2⟩
noncomputable def sj (t:TA):TE:=fun σ H Q=>t σ H fun xs H1=>xs.length <= sizeLine/\∀ p,H1 p=none->Q (.ref p) (upd H1 p (.tup xs))
noncomputable def sk (t:TA):TE:=fun σ H Q=>t σ H fun xs H1=>xs.length <= sizeLine/\∀ p,H1 p=none->Q (.ref p) (upd H1 p (.lst xs))
theorem Lb {x1} (h:PA X es t):PE X (.Tuple es x1 pos) (sj t):=by
 intro pins s σ H Q I hq
 refine wpAny_Tuple_spliced (aZ (h pos pins s σ H _ I hq) fun us s1 ⟨xs,H1,I1,r,z,q⟩=>⟨by rw[<-r.length];exact z,?_⟩)
 have hf:H1 s1.heap.objs.size=none:=I1.aN.fresh (uX _)
 refine⟨.ref s1.heap.objs.size,upd H1 s1.heap.objs.size (.tup xs),I1.laid (t':=s1.toks) (fun b u e=>qt _ e) (uX _) ?_,rfl,q _ hf⟩
 exact⟨z,us,r,⟨_,Vq _ rfl,rfl,_,rfl⟩⟩
theorem Lc (h:PA X es t):PE X (.List es pos) (sk t):=by
 intro pins s σ H Q I hq
 refine wpAny_List_spliced (aZ (h pos pins s σ H _ I hq) fun us s1 ⟨xs,H1,I1,r,z,q⟩=>⟨by rw[<-r.length];exact z,?_⟩)
 have hf:H1 s1.heap.objs.size=none:=I1.aN.fresh (uX _)
 refine⟨.ref s1.heap.objs.size,upd H1 s1.heap.objs.size (.lst xs),I1.laid (t':=s1.toks) (fun b u e=>qt _ e) (uX _) ?_,rfl,q _ hf⟩
 exact⟨z,us,0,r,Vq _ rfl⟩
end
noncomputable abbrev Sp:=List V->Hp->VK->XK->Prop
noncomputable abbrev iU:=List Env->Hp->Shared->XK->Value->Shared->Prop
structure l5 (P:Program) (w:World) (K:PySem.W.Frag) (mg:Str->Option Value) (base:Heap) (A:Around) (outer:List Env) (s:Shared) (H:Hp):Prop where
 frames:A.frames=some outer
 mod:Mod K mg base
 bs:∀ b o,base.get? b=some o->s.heap.get? b=some o/\H b=none
 nB:base.objs.size <= s.heap.objs.size
 eg:s.heap.FunFrames base outer
 oy:∀ b∈jz outer,H b=none
 aN:dg P w H s.heap
 bare:AllBare s.gens
noncomputable def CE (outer:List Env) (P:Program) (w:World) (H:Hp) (s:Shared) (Q:VK) (u:Value) (s':Shared):Prop :=
 ∃ v H',s'.os=s.os/\AllBare s'.gens/\Un (jz outer) [] H H' s.heap s'.heap/\dg P w H' s'.heap/\RelV v u/\Q v H'
noncomputable def CR (CX:iU) (outer:List Env) (P:Program) (w:World) (H:Hp) (s:Shared) (Q:VK) (E:XK) (r:Result) (s':Shared):Prop :=
 match r with
 | .ok (.ret u)=>CE outer P w H s Q u s'
 | .ok _=>False
 | .error e=>CX outer H s E e s'
structure cK (P:Program) (w:World) (K:PySem.W.Frag) (mg:Str->Option Value) (base:Heap) (CX:iU) (k:Nat) (f:Addr) (fd:FuncData) (ps:List Str) (sp:Sp):Prop where
 len:∀ vs H Q E,sp vs H Q E->vs.length=ps.length
 run:∀ (A:Around) (outer:List Env) (s:Shared) (H:Hp) (args:Args) (us:List Value) (vs:List V) (Q:VK) (E:XK),bg k A->l5 P w K mg base A outer s H->BindsTo s fd args (ps.zip us)->Vals vs us->sp vs H Q E →
  codeAny (model P w) A (.call (.ref f) args) (CR CX outer P w H s Q E) s
section
variable {X:Cx} {pins:List (Addr × Obj)} {σ : St} {H:Hp} {s s':Shared}
theorem Inv.so (I:Inv X pins σ H s):l5 X.prog X.w X.K X.mg X.base X.A X.stack s H :=
 ⟨I.ok.frames,I.ok.mod,I.bs,V_ I.ok.nB I.sz,I.stack,I.iB,I.aN,I.bare⟩
theorem Inv.after {Q:VK} {u:Value} (I:Inv X pins σ H s) (h:CE X.stack X.prog X.w H s Q u s'):EP X pins σ Q u s':=by
 obtain⟨v,H',os,bare,un,aN,r,q⟩:=h
 obtain⟨hh,g,d,t,wZ⟩:=s'
 obtain rfl:wZ=s.os:=os
 exact⟨v,H',I.call (h':=hh) (g':=g) (d':=d) (t':=t) (ch:=[]) un aN bare (fun b z=>absurd z (by simp)),r,q⟩
end
noncomputable def uT (sp:Sp) (jW:List V) (E:XK) (t:TA):TE:=fun σ H Q=>t σ H fun vs H1=>sp (vs ++ jW) H1 Q E
noncomputable def Binds (K:PySem.W.Frag) (fd:FuncData) (ps:List Str) (ds:List Value):Prop :=
 ∀ (s:Shared) (us:List Value),K.In s.heap->(us ++ ds).length=ps.length->BindsTo s fd ⟨us,[]⟩ (ps.zip (us ++ ds))
theorem Binds.all {K:PySem.W.Frag} {fd:FuncData} {ps:List Str} (h:∀ us:List Value,us.length=ps.length->bindArgs fd ⟨us,[]⟩=pure (ps.zip us)):Binds K fd ps []:=fun s us _ hl=>by
 rw[Yw] at hl ⊢
 exact .of_eq (h us hl)
noncomputable def uU (CX:iU) (X:Cx) (E:XK):Prop:=∀ (pins:List (Addr × Obj)) (σ : St) (H:Hp) (s:Shared) (e:Value) (s':Shared),Inv X pins σ H s->CX X.stack H s E e s'->X.xe e s'
section
variable {X:Cx} {CX:iU} {k:Nat} {f C:Addr} {fd:FuncData} {ps:List Str} {sp:Sp} {jW:List V} {ds:List Value} {E:XK} {x m:Str} {p pos apos:Pos} {e o:Expr} {es:List Expr} {ta:TE} {t:TA}
theorem Ld {pins:List (Addr × Obj)} {σ : St} {H:Hp} {s:Shared} {Q:VK} {us:List Value} {vs:List V} (F:cK X.prog X.w X.K X.mg X.base CX k f fd ps sp) (hr:bg k X.A) (hb:Binds X.K fd ps ds) (hd:Vals jW ds) (hx:uU CX X E)
  (I:Inv X pins σ H s) (r:Vals vs us) (h:sp (vs ++ jW) H Q E):wpAny (model X.prog X.w) X.A (call (.ref f) us) (EP X pins σ Q) X.xe s:=by
 have r2:Vals (vs ++ jW) (us ++ ds):=r.append hd
 have hl:(us ++ ds).length=ps.length:=by rw[<-r2.length];exact F.len _ _ _ _ h
 refine wpAny_call (YB (F.run X.A X.stack s H ⟨us,[]⟩ (us ++ ds) (vs ++ jW) Q E hr I.so (hb s us I.gy hl) r2 h) fun r s' hq => ?_)
 cases r with
 | error e=>exact hx pins σ H s e s' I hq
 | ok fl =>
  cases fl with
  | ret u=>exact I.after hq
  | next=>exact False.elim hq
  | brk=>exact False.elim hq
  | cont=>exact False.elim hq
theorem Le (F:cK X.prog X.w X.K X.mg X.base CX k f fd ps sp) (hr:bg k X.A) (hg:Gl X x) (hm:X.mg x=some (.ref f)) (hk:PySem.W.keepIn X.K (.ref f)=true) (hb:Binds X.K fd ps ds) (hd:Vals jW ds) (hx:uU CX X E)
  (ha:PA X (e :: es) t) (eA:(x == ("__debug__" : Str))=false:=by decide) (he:starEach (e :: es) X.env=(false,eval e X.env) :: starEach es X.env:=by rfl) (d4:(backTo pos (starEach es X.env)).any (·.1)=false:=by rfl) :
  PE X (.Call (.Name x p) (e :: es) [] pos) (uT sp jW E t):=by
 intro pins s σ H Q I h
 refine Xv (CD I hg hm ?_ eA)
 refine PySem.W.callWith_K (h₀ := X.base) I.ok.mod.nA hk (aZ (ha pos pins s σ H _ I h) fun us s1 h0_ => el5 h0_ fun vs H1 I1 r q =>⟨I1.gy,?_⟩) he d4
 exact Ld F hr hb hd hx I1 r q
end
section
variable {X:Cx} {CX:iU} {k:Nat} {f C:Addr} {fd:FuncData} {ps ks:List Str} {sp:Sp} {E:XK} {x m:Str} {p pos apos eV:Pos} {e o:Expr} {es:List Expr} {UJ:List Keyword} {te ta:TE} {t tk:TA} {nm:Option Str}
variable {g:List Value->List Value->List Value} {gV:List V->List V->List V}
end
structure l6 (N P:List Str) (sc:Scope):Prop where
 kind:sc.kind = .function
 co:sc.isCoroutine=false
 gen:sc.isGenerator=false
 nd:N.Nodup
 pre:N.take P.length=P
 par:∀ x∈P,sc.names.lookup x=some .local\/sc.names.lookup x=some .cell
 oM:∀ y∈sc.names,y.2 ≠ .free
theorem C3 {kindOf:Str->Option NameKind} {x:Str}:∀ {binds:List (Str × Value)} {m:Str->Option Value},(∀ v,(x,v)∉binds)->bindL kindOf binds m x=m x
 | [],_,_=>rfl
 | (n,v) :: r,m,h=>by
  unfold bindL
  rw[C3 fun w hw=>h w (Vs _ hw)]
  split
  ·have:x≠n:=by rintro rfl;exact h v UQ
   simp[this]
  ·rfl
theorem C4 {kindOf:Str->Option NameKind} {x:Str}:∀ {binds:List (Str × Value)} {m:Str->Option Value},(∀ v,(x,v)∉binds)->bindC kindOf binds m x=m x
 | [],_,_=>rfl
 | (n,v) :: r,m,h=>by
  unfold bindC
  rw[C4 fun w hw=>h w (Vs _ hw)]
  split
  ·rfl
  ·have:x≠n:=by rintro rfl;exact h v UQ
   simp[this]
theorem C5 {kindOf:Str->Option NameKind} {x:Str} {v:Value}:∀ {P:List Str} {vs:List Value} {i:Nat} {m:Str->Option Value},P.Nodup->P[i]? = some x->vs[i]? = some v->kindOf x=some .local →
  bindL kindOf (P.zip vs) m x=some v
 | [],_,_,_,_,h,_,_=>by simp at h
 | _ :: _,[],_,_,_,_,h,_=>by simp at h
 | p :: P,w :: vs,0,m,nd,h1,h2,hk=>by
  simp at h1 h2;subst h1;subst h2
  show bindL kindOf ((p,w) :: P.zip vs) m p=_
  unfold bindL
  rw[C3 fun v hv=>(Xw.mp nd).1 (Zm hv).1,UO hk]
  simp
 | p :: P,w :: vs,i + 1,m,nd,h1,h2,hk=>by
  show bindL kindOf ((p,w) :: P.zip vs) m x=_
  unfold bindL
  exact C5 (i:=i) (Xw.mp nd).2 (by simpa using h1) (by simpa using h2) hk
theorem C6 {kindOf:Str->Option NameKind} {x:Str} {v:Value}:∀ {P:List Str} {vs:List Value} {i:Nat} {m:Str->Option Value},P.Nodup->P[i]? = some x->vs[i]? = some v->kindOf x≠some .local →
  bindC kindOf (P.zip vs) m x=some v
 | [],_,_,_,_,h,_,_=>by simp at h
 | _ :: _,[],_,_,_,_,h,_=>by simp at h
 | p :: P,w :: vs,0,m,nd,h1,h2,hk=>by
  simp at h1 h2;subst h1;subst h2
  show bindC kindOf ((p,w) :: P.zip vs) m p=_
  unfold bindC
  rw[C4 fun v hv=>(Xw.mp nd).1 (Zm hv).1,LX hk]
  simp
 | p :: P,w :: vs,i + 1,m,nd,h1,h2,hk=>by
  show bindC kindOf ((p,w) :: P.zip vs) m x=_
  unfold bindC
  exact C6 (i:=i) (Xw.mp nd).2 (by simpa using h1) (by simpa using h2) hk
noncomputable def start (N:List Str) (vs:List V):St:=vs.map some ++ List.replicate (N.length - vs.length) none
noncomputable def eB (CX:iU) (P:Program) (w:World) (K:PySem.W.Frag) (mg:Str->Option Value) (base:Heap) (N:List Str) (qual:Str) (scope:Scope) (f:Addr) (cd:Value) (A:Around) (outer:List Env) (s:Shared) (H:Hp) (E:XK):Cx where
 prog:=P
 w:=w
 K:=K
 mg:=mg
 base:=base
 A:=A.deeper (envOfC qual scope s.heap.objs.size f cd)
 N:=N
 s₀ := s
 H₀ := H
 env:=envOfC qual scope s.heap.objs.size f cd
 outer:=outer
 stack:=envOfC qual scope s.heap.objs.size f cd :: outer
 ex:=[]
 calm:=true
 fn:=fun _=>true
 pn:=[]
 xe:=fun e s'=>wpAny (model P w) (A.deeper (envOfC qual scope s.heap.objs.size f cd)) (leaving (envOfC qual scope s.heap.objs.size f cd) e) (fun _ h8=>CX outer H s E e h8) (fun e' h8=>CX outer H s E e' h8) s'
theorem C7 {sc:Scope} {n:Nat} {x:Str} (h:sc.names.lookup x=some .cell):∃ c,(cellsFrom n sc.names []).lookup x=some c:=by
 have q:=Yf sc.names n [] (.inl h)
 exact WZ.mp q
theorem Lf {CX:iU} {P:Program} {w:World} {K:PySem.W.Frag} {mg:Str->Option Value} {base:Heap} {N ps:List Str} {qual:Str} {scope:Scope} {f:Addr} {cd:Value} {A:Around} {outer:List Env} {s s1:Shared} {H:Hp} {E:XK} {us:List Value} {vs:List V}
  (S:l6 N ps scope) (hd:A.handled=none) (e0:l5 P w K mg base A outer s H) (hl:vs.length=ps.length) (r:Vals vs us)
  (x:InCallC s s.heap.objs.size (bindL (envOfC qual scope s.heap.objs.size f cd).kindOf (ps.zip us) fun _=>none) (cellsFrom (s.heap.objs.size + 1) scope.names []) (bindC (envOfC qual scope s.heap.objs.size f cd).kindOf (ps.zip us) fun _=>none) s1) :
  Inv (eB CX P w K mg base N qual scope f cd A outer s H E) [] (start N vs) H s1:=by
 have d4:ps.length <= N.length:=by have:=congrArg List.length S.pre;rw[VM] at this;omega
 obtain⟨h1,tk,rfl,hk⟩:=x.done
 have l7:∀ b:Addr,b∉(eB CX P w K mg base N qual scope f cd A outer s H E).ex:=fun b z=>absurd (show b∈([]:List Addr) from z) (by simp)
 refine⟨⟨e0.mod,S.kind,rfl,rfl,uX _,fun y z c h1 h2 => ?_,fun y hy => ?_,fun y c _ h => ?_,fun _=>hd,Around.frames_deeper e0.frames,.inr ⟨rfl,rfl⟩,fun b z=>absurd z (l7 b),e0.bs,e0.nB,fun b _ _=>l7 b,fun b z=>absurd z (l7 b),e0.eg,e0.oy⟩,
  rfl,e0.bare,Un.kept hk,⟨_,x.toInCall.ns,fun i y v h1 h2 h3 => ?_⟩,fun y c h=>⟨_,x.cell y c h⟩,e0.aN.fresh (uX _),fun y c h => ?_,fun p hp=>absurd (show p∈([]:List (Addr × Obj)) from hp) (by simp),e0.aN.kept hk,?_⟩
 ·exact name_of_addr x.apart (Wk h1) (Wk h2)
 ·have hy:scope.names.lookup y=some .cell\/scope.names.lookup y=some .free:=hy
  rcases hy with hy | hy
  ·exact C7 hy
  ·exact absurd rfl (S.oM _ (Wk hy))
 ·exact WM (x.above y c (Wk h))
 ·have hi:i < vs.length:=by
   unfold start at h2
   by_cases hi:i < vs.length
   ·exact hi
   ·rw[Vu (by simpa using hi)] at h2
    rw[X_] at h2
    split at h2<;>cases h2
  have ha:vs[i]? = some v:=by
   unfold start at h2
   rw[Vt (by simpa using hi),LR] at h2
   cases e:vs[i]? with
   | none=>rw[e] at h2;cases h2
   | some a=>rw[e] at h2;cases h2;rfl
  obtain⟨u,hu,rv⟩:=r.get ha
  have hp:ps[i]? = some y:=by
   rw[<-S.pre,V9 (by omega)];exact h1
  have C8:ps.Nodup:=by rw[<-S.pre];exact S.nd.sublist (List.take_sublist _ _)
  refine⟨u,rv,?_⟩
  rcases S.par y (VA hp) with k | k
  ·exact .inl ⟨k,C5 C8 hp hu k⟩
  ·obtain⟨c,e⟩:=C7 (n:=s.heap.objs.size + 1) k
   refine .inr ⟨.inl k,c,e,?_⟩
   have q:=x.cell y c e
   rw[C6 C8 hp hu (by show scope.names.lookup y≠_;rw[k];decide)] at q
   exact q
 ·exact e0.aN.fresh (WM (x.above y c (Wk h)))
 ·unfold start
  show _=N.length
  rw[DG,oV,Yk]
  omega
theorem C9 {CX:iU} {P:Program} {w:World} {K:PySem.W.Frag} {mg:Str->Option Value} {base:Heap} {k:Nat} {f:Addr} {name qual:Str} {params:Arguments} {body:List Stmt} {scope:Scope} {dV kV doc pm a_ ct oc:Value} {an od:Option Addr}
  {l8:Array (Option Value)} {N ps:List Str} {sp:Sp} (lk:K.lookup f=some ⟨oc,od,.func (PySem.W.fnOf name qual params body scope dV kV doc pm an a_ ct),l8⟩) (eT:PySem.W.codeIn K a_ qual=true) (S:l6 N ps scope)
  (len:∀ vs H Q E,sp vs H Q E->vs.length=ps.length)
  (dj:∀ (A:Around) (outer:List Env) (s:Shared) (H:Hp) (vs:List V) (Q:VK) (E:XK),bg k (A.deeper (envOfC qual scope s.heap.objs.size f a_))->sp vs H Q E →
   ∃ t,fW (eB CX P w K mg base N qual scope f a_ A outer s H E) body t/\t { nx:=fun _ H'=>Q .non H',rt:=Q } (start N vs) H) :
  cK P w K mg base CX (k + 1) f (PySem.W.fnOf name qual params body scope dV kV doc pm an a_ ct) ps sp:=by
 refine⟨len,fun A outer s H args us vs Q E hr e0 hb r nH => ?_⟩
 have hl:=len _ _ _ _ nH
 have KX:K.In s.heap:=e0.mod.nA.keeps fun b o e=>(e0.bs b o e).1
 have lim:s.heap.NoLimit:=e0.mod.nolimit.keeps fun b o e=>(e0.bs b o e).1
 have sq:∀ y∈ps.zip us,scope.names.lookup y.1=some .local\/(scope.names.lookup y.1=some .cell/\((cellsFrom (s.heap.objs.size + 1) scope.names []).lookup y.1).isSome=true):=fun ⟨n,v⟩ hy=>by
  rcases S.par n (Zm hy).1 with q | q
  ·exact .inl q
  ·exact .inr ⟨q,Yf _ _ _ (.inl q)⟩
 refine codeAny_call_function hr.depth (KX _ _ lk) rfl S.co S.gen rfl (PySem.W.codeRec_of KX eT) (hb _ _ _ _ ?_)
 refine wpAny_newFunctionEnv_cells S.kind sq fun env he s1 x => ?_
 subst he
 refine⟨lim.keeps x.toInCall.keep,codeAny_func ?_⟩
 obtain⟨t,ht,hq⟩:=dj A outer s H vs Q E (hr.deeper _) nH
 have I:Inv (eB CX P w K mg base N qual scope f a_ A outer s H E) [] (start N vs) H s1:=Lf S hr.hd e0 hl r x
 refine Ww (ht [] s1 (start N vs) H _ I hq) (fun fl s' hs => ?_) fun e s' hs=>hs
 have fin:∀ {σ':St} {H':Hp} {v:V} {u:Value},Inv (eB CX P w K mg base N qual scope f a_ A outer s H E) [] σ' H' s'->RelV v u->Q v H'->CE outer P w H s Q u s' :=
  fun {σ' H' v u} J rv q=>⟨v,H',J.os,J.bare,J.base,J.aN,rv,q⟩
 cases fl with
 | ret u =>
  obtain⟨v,σ',H',J,rv,q⟩:=hs
  exact fin J rv q
 | next =>
  obtain⟨σ',H',J,q⟩:=hs
  exact fin (v:=V.non) (u:=Value.none) J rfl q
 | brk =>
  obtain⟨_,_,_,q⟩:=hs
  exact False.elim q
 | cont =>
  obtain⟨_,_,_,q⟩:=hs
  exact False.elim q
section
variable {X:Cx} {x:Str} {p pos:Pos} {e:Expr} {es:List Expr} {t:TA} {id T:String} {r:List V->Hp->VK->Prop}
noncomputable def qq (r:List V->Hp->VK->Prop) (t:TA):TE:=fun σ H Q=>t σ H fun vs H1=>r vs H1 Q
theorem Lg (hc:fX X (.builtin id) r) (hg:Gl X x) (hm:X.mg x=none) (hv:bootBuiltins x=some (.builtin id)) (ha:PA X (e :: es) t) (hn:x ≠ "__name__" := by decide) (eA:(x == ("__debug__" : Str))=false:=by decide)
  (he:starEach (e :: es) X.env=(false,eval e X.env) :: starEach es X.env:=by rfl) (d4:(backTo pos (starEach es X.env)).any (·.1)=false:=by rfl):PE X (.Call (.Name x p) (e :: es) [] pos) (qq r t):=by
 intro pins s σ H Q I h
 refine Xv (lU I hg hm hv ?_ hn eA)
 exact PyProof.Rows.callWith_builtin1 (aZ (ha pos pins s σ H _ I h) fun us s1 h0_ => el5 h0_ fun vs H1 I1 r1 q1 =>hc pins s1 σ H1 vs us Q I1 r1 q1) he d4
theorem Lh (hc:fX X (.type T) r) (hg:Gl X x) (hm:X.mg x=none) (hv:bootBuiltins x=some (.type T)) (ha:PA X (e :: es) t) (hn:x ≠ "__name__" := by decide) (eA:(x == ("__debug__" : Str))=false:=by decide)
  (he:starEach (e :: es) X.env=(false,eval e X.env) :: starEach es X.env:=by rfl) (d4:(backTo pos (starEach es X.env)).any (·.1)=false:=by rfl):PE X (.Call (.Name x p) (e :: es) [] pos) (qq r t):=by
 intro pins s σ H Q I h
 refine Xv (lU I hg hm hv ?_ hn eA)
 exact WL (aZ (ha pos pins s σ H _ I h) fun us s1 h0_ => el5 h0_ fun vs H1 I1 r1 q1 =>hc pins s1 σ H1 vs us Q I1 r1 q1) he d4
end
end L2
namespace HT
open PySem PyProof.Rows
noncomputable def lexLt:List Int->List Int->Bool
 | [],[]=>false
 | [],_ :: _=>true
 | _ :: _,[]=>false
 | x :: xs,y :: ys=>if x=y then lexLt xs ys else decide (x < y)
theorem l9 (x y:Int) (xs ys:List Int):lexLt (x :: xs) (y :: ys)=if x=y then lexLt xs ys else decide (x < y):=rfl
theorem C_:lexLt [] []=false:=rfl
theorem Dc (y:Int) (ys:List Int):lexLt [] (y :: ys)=true:=rfl
theorem Dd (x:Int) (xs:List Int):lexLt (x :: xs) []=false:=rfl
theorem xv (A:Around) (s:Shared) (a:Int) (t:Tok) (c:Int) (u:Tok):∃ e,SeqAt.EqAt A s (.int a t) (.int c u) e/\(e=true↔a=c) :=
 ⟨(a == c),SeqAt.EqAt.int_int a t c u,by simp⟩
theorem Li (A:Around) (s:Shared) (a:Int) (t:Tok) (c:Int) (u:Tok) (prog:Program) (w:World) (E:Value->Shared->Prop) (Q:Value->Shared->Prop) (h:Q (.bool (decide (a < c))) s) :
  wpAny (model prog w) A (richCompare .Lt (.int a t) (.int c u)) Q E s :=
 (Yy h:wpAny (model prog w) A (compareOp .Lt (.int a t) (.int c u)) Q E s)
section
open PySem.SeqAt
open PySem.AutoSeq1 (wpAny_loadPart')
open PySem.MeetsSeq PySem.MeetsSeq2 PySem.MeetsSeq3
theorem Lj (l b:Addr) (items aI:Array Value) (n n2:Nat) (dd gR:Option Addr) (sl gT:Array (Option Value)) (ns ms:List Int) (hi:IntsAre items.toList ns) (hj:IntsAre aI.toList ms) :
  Meets (Builtin.«tuple.__lt__» ⟨[.ref l,.ref b],[]⟩)
   (fun _ R s=>s.heap.get? l=some { cls := .type "tuple",dict:=dd,data := .seq items n,slots:=sl }/\s.heap.get? b=some { cls := .type "tuple",dict:=gR,data := .seq aI n2,slots:=gT } ∧
    R (.ok (.ret (.bool (lexLt ns ms)))) s) :=
 .of_wp fun prog w A R s h=>by
  obtain⟨hp,g,d,tk,os⟩:=s;obtain⟨hl,hb,h⟩:=h
  have f2:=XU
  have z1:items.size=ns.length:=by rw[<-hi.length];simp
  have z2:aI.size=ms.length:=by rw[<-hj.length];simp
  wp_walk using VS hl,VS hb,Yo _ (fun rest b s'=>b.1=none/\s'=⟨hp,g,d,tk,os⟩/\∃ (vs ws:List Value) (e8 iV:List Int),rest=vs.zip ws ∧
   IntsAre vs e8/\IntsAre ws iV/\e8.length + aI.size=iV.length + items.size/\R (.ok (.ret (.bool (lexLt e8 iV)))) ⟨hp,g,d,tk,os⟩) _
  case turn =>
   rintro ⟨y,x⟩ rest b s' ⟨hb',rfl,vs,ws,e8,iV,hz,oN,l_,hlen,hR⟩
   cases oN with
   | nil=>rw[XD] at hz;cases hz
   | cons a t oO =>
    cases l_ with
    | nil=>rw[YI] at hz;cases hz
    | cons c u oP =>
     rw[Wr] at hz
     injection hz with sv gC
     injection sv with hy hx
     subst hy hx
     rw[l9] at hR
     simp only[DE] at hlen
     obtain⟨e,he,h9⟩:=xv A.in1 ⟨hp,g,d,tk,os⟩ a t c u
     refine mq (he prog w _ _ ?_)
     cases e with
     | true =>
      rw[UO (h9.mp rfl)] at hR
      wp_walk
      exact⟨rfl,rfl,_,_,_,_,gC,oO,oP,by omega,hR⟩
     | false =>
      rw[LX (fun q=>absurd (h9.mpr q) Vv)] at hR
      have sx:=Li A.in1 ⟨hp,g,d,tk,os⟩ a t c u prog w
      wp_walk using sx
      exact⟨_,rfl,by simpa using hR⟩
  case fin =>
   rintro ⟨b1,b2⟩ s' ⟨hb',rfl,vs,ws,e8,iV,hz,oN,l_,hlen,hR⟩
   simp only at hb'
   subst hb'
   have hv:lexLt e8 iV=decide (items.size < aI.size):=by
    cases oN with
    | nil =>
     cases l_ with
     | nil =>
      simp only[WD] at hlen
      rw[C_]
      exact (DF (by omega)).symm
     | cons c u hw =>
      simp only[WD,DE] at hlen
      rw[Dc]
      exact (LV (by omega)).symm
    | cons a t hv =>
     cases l_ with
     | nil =>
      simp only[WD,DE] at hlen
      rw[Dd]
      exact (DF (by omega)).symm
     | cons c u hw =>
      rw[Wr] at hz
      cases hz
   rw[hv] at hR
   wp_walk
   exact⟨_,rfl,by simpa [Builtin.Tuple.tupleCompareSizes] using hR⟩
  case h =>
   exact⟨rfl,rfl,items.toList,aI.toList,ns,ms,rfl,hi,hj,by omega,h⟩
end
section
variable {prog:Program} {w:World} {A:Around} {E:Value->Shared->Prop} {s:Shared}
theorem xw {l b:Addr} {items aI:Array Value} {ns ms:List Int} {Q:Value->Shared->Prop} (hl:IsTup s.heap l items) (hb:IsTup s.heap b aI) (hi:IntsAre items.toList ns) (hj:IntsAre aI.toList ms)
  (hu:A.units < cLine) (h:Q (.bool (lexLt ns ms)) s):wpAny (model prog w) A (compareOp .Lt (.ref l) (.ref b)) Q E s:=by
 obtain⟨⟨cls,dd,data,sl⟩,ho,hc,n,hd⟩:=id hl
 obtain⟨⟨ma,gR,data2,gT⟩,dI,eK,n2,hd2⟩:=id hb
 simp only at hc hd eK hd2
 subst hc hd eK hd2
 exact Yg (op := .Lt) ⟨_,ho,rfl⟩ ⟨_,dI,rfl⟩ PySem.F.slot_tuple_lt PySem.F.entry_tuple_lt (PySem.F.args_tuple_lt_2 _ _) (Lj l b items aI n n2 dd gR sl gT ns ms hi hj)
  ⟨ho,dI,show Value.bool (lexLt ns ms)≠Value.notImplemented/\Q (.bool (lexLt ns ms)) s from ⟨(fun x=>nomatch x),h⟩⟩ hu
theorem Lk {t b:Addr} {vs ws:List Value} {Q:Value->Shared->Prop} (ht:IsTup s.heap t vs.toArray) (hb:IsTup s.heap b ws.toArray) (hv:vs≠[])
  (h1:ws=[]->Q (.ref t) s) (h2:ws≠[]->Q (.ref s.heap.objs.size) { s with heap:=s.heap.push { cls := .type "tuple",data := .seq (vs ++ ws).toArray } })
  (hsz:vs.length + ws.length <= sizeLine):wpAny (model prog w) A (binaryOp .Add (.ref t) (.ref b)) Q E s:=by
 obtain⟨⟨cls,dd,data,sl⟩,ho,hc,n,hd⟩:=id ht
 obtain⟨⟨ma,gR,data2,gT⟩,dI,eK,n2,hd2⟩:=id hb
 simp only at hc hd eK hd2
 subst hc hd eK hd2
 have e:vs.toArray ++ ws.toArray=(vs ++ ws).toArray:=by simp
 by_cases hw:ws=[]
 ·exact concat_meets ⟨_,ho,rfl⟩ ⟨_,dI,rfl⟩ YZ seq_tuple_add Yh Ya (XW _ _)
   (tuple_addW1 t b vs.toArray ws.toArray n n2 dd gR sl gT (by simpa using hv) (by simp[hw])) ⟨ho,dI,h1 hw⟩
 ·refine concat_meets ⟨_,ho,rfl⟩ ⟨_,dI,rfl⟩ YZ seq_tuple_add Yh Ya (XW _ _)
   (tuple_addW2 t b vs.toArray ws.toArray n n2 dd gR sl gT (by simpa using hv) (by simpa using hw) (by rw[sD,sD];exact hsz)) ⟨ho,dI,?_⟩
  rw[e]
  exact h2 hw
noncomputable def a8 (n d:Nat):Option Int->Nat
 | none=>d
 | some v=>if v < 0 then (v + (n:Int)).toNat else min v.toNat n
theorem De (n d:Nat):a8 n d none=d:=rfl
theorem uV (n d k:Nat):a8 n d (some (k:Int))=min k n:=by
 show (if (k:Int) < 0 then ((k:Int) + (n:Int)).toNat else min (k:Int).toNat n)=min k n
 rw[LX (by omega),LW]
theorem Ll (n d:Nat) (hd:d <= n) (o:Option Int):a8 n d o <= n:=by
 cases o with
 | none=>exact hd
 | some v =>
  show (if v < 0 then (v + (n:Int)).toNat else min v.toNat n) <= n
  by_cases hv:v < 0
  ·rw[UO hv];omega
  ·rw[LX hv];exact Nat.min_le_right _ _
theorem Df (v:Int) (n d:Nat):(if v < 0 then max (v + (n:Int)) 0 else min v (n:Int))=((a8 n d (some v):Nat):Int):=by
 show (if v < 0 then max (v + (n:Int)) 0 else min v (n:Int))=(((if v < 0 then (v + (n:Int)).toNat else min v.toNat n):Nat):Int)
 by_cases hv:v < 0
 ·simp only[UO hv];omega
 ·simp only[LX hv];omega
theorem Lm (lo hi:Option Int) (n:Nat):Builtin.Slice.sliceAdjust lo hi 1 (n:Int)=(((a8 n 0 lo:Nat):Int),((a8 n n hi:Nat):Int)):=by
 have h1:¬ ((1:Int) < 0):=by omega
 unfold Builtin.Slice.sliceAdjust
 simp only[h1,Xf]
 refine Prod.ext ?_ ?_
 ·cases lo with
  | none=>rfl
  | some v=>exact Df v n 0
 ·cases hi with
  | none=>rfl
  | some v=>exact Df v n n
theorem Ln (i j:Nat):Builtin.Slice.slicePlaces (i:Int) (j:Int) 1=j - i:=by
 unfold Builtin.Slice.slicePlaces
 have h1:(1:Int) > 0:=by omega
 simp only[h1,Yi,ZN]
 split<;>omega
theorem sy {v:Value} {o:Option Int} {Q:Option Int->Shared->Prop} (p:IsPart v o) (h:Q o s):wpAny (model prog w) A (Builtin.Slice.slicePartIndex v) Q E s:=by
 cases p with
 | none=>exact slicePart_none h
 | int i t=>exact slicePart_int h
theorem Dg {sl:Addr} {vl vu:Value} {lo hi:Option Int} {n:Nat} {Q:Int × Int × Nat->Shared->Prop} (hs:s.heap.IsSliceOf sl vl vu .none) (pl:IsPart vl lo) (pu:IsPart vu hi)
  (h:Q (((a8 n 0 lo:Nat):Int),1,a8 n n hi - a8 n 0 lo) s):wpAny (model prog w) A (Builtin.Slice.sliceApplied (.ref sl) (pure (n:Int))) Q E s:=by
 obtain⟨os,iW,me,lj⟩:=id hs
 unfold Builtin.Slice.sliceApplied Builtin.Slice.sliceFields
 refine mq (mq (Xi iW lj (x:=vl) rfl (mq (Xi iW lj (x:=vu) rfl (mq (Xi iW lj (x := .none) rfl (xR ?_)))))))
 refine mq (slicePart_none ?_)
 show wpAny _ _ (if ((1:Int) == 0)=true then _ else _) _ _ s
 rw[LX (by decide)]
 refine mq (sy pl (mq (sy pu (mq (xR ?_)))))
 show wpAny _ _ (match Builtin.Slice.sliceAdjust lo hi 1 (n:Int) with | (lo,hi)=>pure (lo,(1:Int),Builtin.Slice.slicePlaces lo hi 1)) _ _ s
 rw[Lm lo hi n]
 show wpAny _ _ (pure (((a8 n 0 lo:Nat):Int),(1:Int),Builtin.Slice.slicePlaces ((a8 n 0 lo:Nat):Int) ((a8 n n hi:Nat):Int) 1)) _ _ s
 rw[Ln]
 exact xR h
theorem Lo (xs:Array Value) (i k:Nat):((List.range k).filterMap fun (m:Nat)=>xs[((i:Int) + (m:Int) * 1).toNat]?).toArray=((xs.toList.drop i).take k).toArray:=by
 have e:(fun (m:Nat)=>xs[((i:Int) + (m:Int) * 1).toNat]?)=fun m=>xs[i + m]? := by
  funext m
  have:((i:Int) + (m:Int) * 1).toNat=i + m:=by omega
  rw[this]
 rw[e]
 have:=pick_run xs i k
 rw[List.filterMap_map] at this
 have e2:((fun x=>xs[x]?) ∘ fun x=>i + x)=fun m=>xs[i + m]? := rfl
 rw[e2] at this
 rw[this]
theorem Lp {t sl:Addr} {items:Array Value} {vl vu:Value} {lo hi:Option Int} {Q:Value->Shared->Prop} (ht:IsTup s.heap t items) (hs:s.heap.IsSliceOf sl vl vu .none) (pl:IsPart vl lo) (pu:IsPart vu hi)
  (hw:¬ (a8 items.size 0 lo=0/\a8 items.size items.size hi=items.size))
  (h:Q (.ref s.heap.objs.size) { s with heap:=s.heap.push { cls := .type "tuple",data := .seq ((items.toList.drop (a8 items.size 0 lo)).take (a8 items.size items.size hi - a8 items.size 0 lo)).toArray } })
  (hsz:items.size <= sizeLine):wpAny (model prog w) A (getItem (.ref t) (.ref sl)) Q E s:=by
 have dm:sizeOk (.seq ((items.toList.drop (a8 items.size 0 lo)).take (a8 items.size items.size hi - a8 items.size 0 lo)).toArray):=by
  show ((items.toList.drop (a8 items.size 0 lo)).take (a8 items.size items.size hi - a8 items.size 0 lo)).toArray.size <= sizeLine
  rw[sD,VM,XO,UN]
  omega
 have hj:a8 items.size items.size hi <= items.size:=Ll _ _ (uX _) hi
 obtain⟨os,iW,me,lj⟩:=id hs
 have sA:s.TypeIs (.ref sl) "slice" := ⟨os,iW,me⟩
 unfold getItem
 try with_reducible refine VG ?_
 first | refine mq (xR ?_) | skip
 refine mq (YN ht.typeIs (by decide) ?_)
 refine mq (W5 (name:=Str.ofString "__getitem__") ht.typeIs VD
  (Xp VD ht.typeIs Yz ?_ (args_tuple_getitem _ _)))
 show wpAny _ _ (Builtin.Tuple.tupleItemsOf (.ref t) >>= _) _ _ s
 refine mq (tupleItemsOf_ ht ?_)
 refine mq (Y7 sA ?_)
 rw[UO (by decide)]
 refine mq (Dg hs pl pu ?_)
 have Lq:¬ ((((a8 items.size 0 lo:Nat):Int) == 0 && (1:Int) == 1 && (a8 items.size items.size hi - a8 items.size 0 lo) == items.size)=true):=by
  intro q
  rw[VY,VY] at q
  have q1:((a8 items.size 0 lo:Nat):Int)=0:=WB q.1.1
  have q2:a8 items.size items.size hi - a8 items.size 0 lo=items.size:=WB q.2
  exact hw ⟨by omega,by omega⟩
 show wpAny _ _ (if (((a8 items.size 0 lo:Nat):Int) == 0 && (1:Int) == 1 && (a8 items.size items.size hi - a8 items.size 0 lo) == items.size)=true then _ else _) _ _ s
 rw[LX Lq,Lo]
 first
  | exact mq (m:=Builtin.Tuple.tupleExact _) (V7 (xR ⟨_,rfl,xR h⟩) dm)
  | exact mq (m:=Builtin.Tuple.tupleExact _) (V7 (mq (xR (xR ⟨_,rfl,xR h⟩))) dm)
  | exact mq (mq (m:=Builtin.Tuple.tupleExact _) (V7 (xR (xR ⟨_,rfl,xR h⟩)) dm))
  | exact mq (mq (m:=Builtin.Tuple.tupleExact _) (V7 (xR ⟨_,rfl,xR h⟩) dm))
end
end HT
namespace L2
open PySem PySem.Spec PyProof.Rows
noncomputable abbrev TO:=St->Hp->(Option Int->Hp->Prop)->Prop
noncomputable def PO (X:Cx) (e:Option Expr) (t:TO):Prop :=
 ∀ (pins:List (Addr × Obj)) (s:Shared) (σ : St) (H:Hp) (Q:Option Int->Hp->Prop),Inv X pins σ H s->t σ H Q →
  wpAny (model X.prog X.w) X.A (evalPart e X.env) (fun u s'=>∃ o H',Inv X pins σ H' s'/\IsPart u o/\Q o H') X.xe s
noncomputable def Lr:TO:=fun _ H Q=>Q none H
noncomputable def Ls (t:TE):TO:=fun σ H Q=>t σ H fun x H1=>∃ i,x = .int i/\Q (some i) H1
theorem intsAre_of {ns:List Int}:∀ {us:List Value},Vals (ns.map V.int) us->IntsAre us ns:=by
 induction ns with
 | nil=>intro us r;rw[W8] at r;cases r;exact .nil
 | cons n ns ih =>
  intro us r
  rw[Vy] at r
  cases r with
  | cons r1 r2 =>
   obtain⟨t,e⟩:=r1
   subst e
   exact .cons n t (ih r2)
section
variable {X:Cx} {e:Expr} {te:TE} {lo hi:Option Expr} {tl th:TO} {pos p2:Pos}
theorem Dh:PO X none Lr:=by
 intro pins s σ H Q I h
 rw[evalPart_none]
 exact xR ⟨none,H,I,.none,h⟩
theorem uW (h:PE X e te):PO X (some e) (Ls te):=by
 intro pins s σ H Q I hw
 rw[evalPart_some]
 refine aZ (h pins s σ H _ I hw) fun u s1 h0_ => el5 h0_ fun x H1 I1 r1 q1 => ?_
 obtain⟨i,rfl,q⟩:=q1
 obtain⟨t,rfl⟩:=r1
 exact⟨some i,H1,I1,.int i t,q⟩
noncomputable def mf (X:Cx) (r:V->Option Int->Option Int->Hp->VK->Prop):Prop :=
 ∀ (pins:List (Addr × Obj)) (s:Shared) (σ : St) (H:Hp) (x:V) (v vl vu:Value) (lo hi:Option Int) (sl:Addr) (Q:VK),Inv X pins σ H s->RelV x v->s.heap.IsSliceOf sl vl vu .none->IsPart vl lo->IsPart vu hi->r x lo hi H Q →
  ∃ T id,typeLookup (.type T) "__getitem__" = pure (some (.builtin id))/\s.TypeIs v T/\wpAny (model X.prog X.w) X.A (getItem v (.ref sl)) (EP X pins σ Q) X.xe s
theorem mf.or {r r':V->Option Int->Option Int->Hp->VK->Prop} (h:mf X r) (h':mf X r'):mf X (fun x lo hi H Q=>r x lo hi H Q\/r' x lo hi H Q):=by
 intro pins s σ H x v vl vu lo hi sl Q I rx hs pl pu q
 rcases q with q | q
 ·exact h pins s σ H x v vl vu lo hi sl Q I rx hs pl pu q
 ·exact h' pins s σ H x v vl vu lo hi sl Q I rx hs pl pu q
noncomputable def Di (r:V->Option Int->Option Int->Hp->VK->Prop) (te:TE) (tl th:TO):TE:=fun σ H Q=>te σ H fun x H1=>tl σ H1 fun l H2=>th σ H2 fun u H3=>r x l u H3 Q
theorem Lu {r:V->Option Int->Option Int->Hp->VK->Prop} (hr:mf X r) (he:PE X e te) (hl:PO X lo tl) (hu:PO X hi th):PE X (.Subscript e (.Slice lo hi none p2) pos) (Di r te tl th):=by
 intro pins s σ H Q I h
 refine Subscript_ (aZ (he pins s σ H _ I h) fun v s1 h0_ => el5 h0_ fun x H1 I1 r1 q1 => ?_)
 refine wpAny_Slice (aZ (hl pins s1 σ H1 _ I1 q1) fun vl s2 h0_ => el5 h0_ fun l H2 I2 pl q2 =>aZ (hu pins s2 σ H2 _ I2 q2) fun vu s3 h0_ => el5 h0_ fun u H3 I3 pu q3 => ?_)
 rw[evalPart_none]
 refine xR ?_
 have I4:Inv X pins σ H3 { s3 with heap:=s3.heap.push { cls := .type "slice",data := .fields #[vl,vu,.none] } }:=I3.kept (t':=s3.toks) fun b ob q=>qt _ q
 obtain⟨T,id,hT,ht,hg⟩:=hr pins { s3 with heap:=s3.heap.push { cls := .type "slice",data := .fields #[vl,vu,.none] } } σ H3 x v vl vu l u s3.heap.objs.size Q I4 r1 (YK ..) pl pu q3
 show wpAny (model X.prog X.w) X.A (subscriptTail e (.Slice lo hi none p2) v (.ref s3.heap.objs.size)) (EP X pins σ Q) X.xe { s3 with heap:=s3.heap.push { cls := .type "slice",data := .fields #[vl,vu,.none] } }
 exact tail_any (ops:=[.ref s3.heap.objs.size,v]) ht hT hg (by with_unfolding_all rfl)
noncomputable def cL (xs:List V) (lo hi:Option Int):List V:=(xs.drop (HT.a8 xs.length 0 lo)).take (HT.a8 xs.length xs.length hi - HT.a8 xs.length 0 lo)
theorem Dj (xs:List V) (lo hi:Option Int):(cL xs lo hi).length <= xs.length:=by
 unfold cL
 rw[VM,XO]
 omega
noncomputable def xx (K:PySem.W.Frag):V->Option Int->Option Int->Hp->VK->Prop:=fun x lo hi H Q=>∃ a xs,x = .ref a/\bB K H a xs ∧
 ¬ (HT.a8 xs.length 0 lo=0/\HT.a8 xs.length xs.length hi=xs.length)/\∀ p,H p=none->Q (.ref p) (upd H p (.tup (cL xs lo hi)))
theorem Lw:mf X (xx X.K):=by
 intro pins s σ H x v vl vu lo hi sl Q I rx hs pl pu h
 obtain⟨a,xs,rfl,hx,hw,q⟩:=h
 cases rx
 obtain⟨aq,r,ht,hz⟩:=I.tuple hx
 have hlen:aq.toArray.size=xs.length:=by rw[sD];exact r.length.symm
 refine⟨"tuple",_,VD.lookup,ht.typeIs,?_⟩
 refine HT.Lp ht hs pl pu (by rw[hlen];exact hw) ?_ (by rw[hlen];exact hz)
 rw[hlen]
 refine⟨.ref s.heap.objs.size,_,I.laid (t':=s.toks) (o := .tup (cL xs lo hi)) (fun b ob q=>qt _ q) (uX _) ?_,rfl,q _ (I.aN.fresh (uX _))⟩
 exact⟨V_ (Dj xs lo hi) hz,_,(r.drop (HT.a8 xs.length 0 lo)).take (HT.a8 xs.length xs.length hi - HT.a8 xs.length 0 lo),IsTup.new _ _⟩
noncomputable def xy (K:PySem.W.Frag):R2:=fun x y H Q=>∃ a b ns ms,x = .ref a/\y = .ref b/\bB K H a (ns.map V.int)/\bB K H b (ms.map V.int)/\Q (.bl (HT.lexLt ns ms)) H
theorem Lx (hu:X.A.units < cLine):cG X (compareOp .Lt) (xy X.K):=by
 intro pins s σ H x y v u Q I rx ry h
 obtain⟨a,b,ns,ms,rfl,rfl,ha,hb,q⟩:=h
 cases rx
 cases ry
 obtain⟨aq,r1,p1,_⟩:=I.tuple ha
 obtain⟨br,r2,p2,_⟩:=I.tuple hb
 have i1:IntsAre aq.toArray.toList ns:=intsAre_of r1
 have i2:IntsAre br.toArray.toList ms:=intsAre_of r2
 exact HT.xw p1 p2 i1 i2 hu ⟨.bl (HT.lexLt ns ms),H,I,rfl,q⟩
noncomputable def Ly (K:PySem.W.Frag):R2:=fun x y H Q=>∃ a b xs ys,x = .ref a/\y = .ref b/\bB K H a xs/\bB K H b ys/\xs≠[]/\xs.length + ys.length <= sizeLine ∧
 (ys=[]->Q (.ref a) H)/\(ys≠[]->∀ p,H p=none->Q (.ref p) (upd H p (.tup (xs ++ ys))))
theorem Vals.eM {xs:List V} {us:List Value} (r:Vals xs us):us=[]↔xs=[]:=by
 cases r with
 | nil=>simp
 | cons _ _=>simp
theorem Lz:cG X (binaryOp .Add) (Ly X.K):=by
 intro pins s σ H x y v u Q I rx ry h
 obtain⟨a,b,xs,ys,rfl,rfl,ha,hb,hx,hz,q1,q2⟩:=h
 cases rx
 cases ry
 obtain⟨aq,r1,p1,_⟩:=I.tuple ha
 obtain⟨br,r2,p2,_⟩:=I.tuple hb
 refine HT.Lk p1 p2 (fun z=>hx (r1.eM.mp z)) (fun z=>⟨.ref a,H,I,rfl,q1 (r2.eM.mp z)⟩) (fun z => ?_) (by rw[<-r1.length,<-r2.length];exact hz)
 refine⟨.ref s.heap.objs.size,_,I.laid (t':=s.toks) (o := .tup (xs ++ ys)) (fun b ob q=>qt _ q) (uX _) ?_,rfl,q2 (fun w=>z (r2.eM.mpr w)) _ (I.aN.fresh (uX _))⟩
 exact⟨by rw[DG];exact hz,_,r1.append r2,IsTup.new _ _⟩
end
noncomputable def iX (n:Nat) (i:Int):Option Nat:=if 0 <= i then (if i < n then some i.toNat else none) else if -(n:Int) <= i then some (i + n).toNat else none
noncomputable def eC {α : Type} (xs:List α) (i:Int):Option α := (iX xs.length i).bind fun j=>xs[j]?
theorem Dl {n:Nat} {i:Int} {j:Nat} (h:iX n i=some j):seqIndex? i n=some j/\j < n /\ -(n:Int) <= i/\i < n:=by
 unfold iX at h
 by_cases h0:0 <= i
 ·rw[UO h0] at h
  by_cases h1:i < n
  ·rw[UO h1] at h
   have e:i.toNat=j:=VE h
   exact⟨by rw[seqIndex_of h0 h1,e],by omega,by omega,h1⟩
  ·rw[LX h1] at h;cases h
 ·rw[LX h0] at h
  by_cases h1 : -(n:Int) <= i
  ·rw[UO h1] at h
   have e:(i + n).toNat=j:=VE h
   exact⟨by rw[seqIndex_neg (by omega) h1,e],by omega,h1,by omega⟩
  ·rw[LX h1] at h;cases h
theorem xA {α : Type} {xs:List α} {i:Int} {v : α} (h:eC xs i=some v):∃ j,seqIndex? i xs.length=some j/\xs[j]? = some v/\j < xs.length /\ -(xs.length:Int) <= i/\i < xs.length:=by
 unfold eC at h
 cases e:iX xs.length i with
 | none=>rw[e] at h;cases h
 | some j =>
  rw[e] at h
  obtain⟨h1,h2,h3,h4⟩:=Dl e
  exact⟨j,h1,h,h2,h3,h4⟩
theorem mi {α : Type} {xs:List α} {j:Nat} {v : α} (h:xs[j]? = some v):eC xs (j:Int)=some v:=by
 have hj:j < xs.length:=(oW.mp h).1
 have e:iX xs.length (j:Int)=some j:=by
  unfold iX
  rw[UO (by omega),UO (by omega)];simp
 unfold eC;rw[e];exact h
noncomputable def xB (b:Expr):Prop:=∀ o i,subscripted b false o i=operate [o,i] (getItem o i)
noncomputable def qr (X:Cx) (r:R2):Prop :=
 ∀ (value slice:Expr) (pins:List (Addr × Obj)) (s:Shared) (σ : St) (H:Hp) (x y:V) (v u:Value) (Q:VK),Inv X pins σ H s->RelV x v->RelV y u->r x y H Q →
  subscripted slice false v u=operate [v,u] (getItem v u)->wpAny (model X.prog X.w) X.A (subscriptTail value slice v u) (EP X pins σ Q) X.xe s
noncomputable def xC (X:Cx) (id:String) (r:V->List V->Hp->VK->Prop):Prop :=
 ∀ (pins:List (Addr × Obj)) (s:Shared) (σ : St) (H:Hp) (x:V) (xs:List V) (v:Value) (us:List Value) (Q:VK),Inv X pins σ H s->RelV x v->Vals xs us->r x xs H Q →
  wpAny (model X.prog X.w) X.A (call (.builtin id) (v :: us)) (EP X pins σ Q) X.xe s
section
variable {X:Cx} {a b:Expr} {ta tb:TE} {pos:Pos}
theorem LA {r:R2} (hr:qr X r) (ha:PE X a ta) (hb:PE X b tb) (hs:xB b):PE X (.Subscript a b pos) (lX r ta tb):=by
 intro pins s σ H Q I h
 exact Subscript_ (oG ha hb I h fun v u s2 x y H2 I2 rx ry q=>hr a b pins s2 σ H2 x y v u Q I2 rx ry q (hs _ _))
noncomputable def xD (K:PySem.W.Frag):R2:=fun x y H Q=>∃ p xs i v,x = .ref p/\y = .int i/\bq K H p xs/\eC xs i=some v/\Q v H
noncomputable def xE (K:PySem.W.Frag):R2:=fun x y H Q=>∃ p xs i v,x = .ref p/\y = .int i/\bB K H p xs/\eC xs i=some v/\Q v H
noncomputable def xF:R2:=fun x y H Q=>∃ z i c,x = .str z/\y = .int i/\z.length <= sizeLine/\eC z.cps.toList i=some c/\Q (.str ⟨#[c]⟩) H
theorem Dm:qr X (xD X.K):=by
 intro value slice pins s σ H x y v u Q I rx ry h hs
 obtain⟨p,xs,i,z,rfl,rfl,hq,he,q⟩:=h
 cases rx
 obtain⟨t,rfl⟩:=ry
 obtain⟨aq,r,pl,hz⟩:=I.list hq
 obtain⟨j,h1,h2,h3,h4,h5⟩:=xA he
 obtain⟨w,ew,iY⟩:=r.get h2
 have hl:=r.length
 have hn:=oH
 have fin:EP X pins σ Q w s:=⟨z,H,I,iY,q⟩
 by_cases h0:0 <= i
 ·have hj:i.toNat=j:=by
   rw[seqIndex_of h0 h5] at h1
   exact VE h1
  exact item_listR pl.isList h0 (by omega) (by rw[hj];simpa using ew) fin hs
 ·have hj:(i + (aq.toArray.size:Int)).toNat=j:=by
   rw[seqIndex_neg (by omega) h4] at h1
   rw[sD,<-hl]
   exact VE h1
  exact subscriptTail_builtinR (x:=w) pl.isList.typeIs YO.lookup
   (wpAny_getItem_list_neg (Q:=fun r s'=>r=w/\EP X pins σ Q r s') pl.isList (by omega) (by rw[sD]<;>omega) (by omega) (by rw[hj];simpa using ew) ⟨rfl,fin⟩) hs
theorem LB:qr X (xE X.K):=by
 intro value slice pins s σ H x y v u Q I rx ry h hs
 obtain⟨p,xs,i,z,rfl,rfl,hq,he,q⟩:=h
 cases rx
 obtain⟨t,rfl⟩:=ry
 obtain⟨aq,r,pl,hz⟩:=I.tuple hq
 obtain⟨j,h1,h2,h3,h4,h5⟩:=xA he
 obtain⟨w,ew,iY⟩:=r.get h2
 have hl:=r.length
 have hn:=oH
 have fin:EP X pins σ Q w s:=⟨z,H,I,iY,q⟩
 exact subscriptTail_builtinR (x:=w) pl.typeIs slot_tuple_getitem.lookup
  (getItem_tuple (j:=j) (Q:=fun r s'=>r=w/\EP X pins σ Q r s') pl (by omega) (by omega) (by rw[sD,<-hl];exact h1) (by simpa using ew) ⟨rfl,fin⟩) hs
theorem LC:qr X xF:=by
 intro value slice pins s σ H x y v u Q I rx ry h hs
 obtain⟨z,i,c,rfl,rfl,hz,he,q⟩:=h
 obtain⟨t,rfl⟩:=rx
 obtain⟨t',rfl⟩:=ry
 obtain⟨j,h1,h2,h3,h4,h5⟩:=xA he
 have hl:z.cps.toList.length=z.length:=by simp[Str.length]
 rw[hl] at h1 h4 h5
 have hn:=oH
 exact tail_any (typeIs_str s z t) slot_str_getitem.lookup (getItem_str (c:=c) (by
  have e1:decide (i < -(2 ^ 63:Int))=false:=DF (by omega)
  have e2:decide (i ≥ 2 ^ 63)=false:=DF (by omega)
  rw[e1,e2,ZI]) (by rw[h1];simpa using h2) ⟨.str ⟨#[c]⟩,H,I.tok _,⟨_,rfl⟩,q⟩) hs
theorem LF (aq:List Value) (n j:Nat) (u:Value):Obj.mapSeq (·.setIfInBounds j u) { cls := .type "list",data := .seq aq.toArray n }={ cls := .type "list",data := .seq (aq.set j u).toArray n }:=by
 simp[Obj.mapSeq]
theorem Inv.lst {pins:List (Addr × Obj)} {σ : St} {H:Hp} {s:Shared} {p:Addr} {xs:List V} (I:Inv X pins σ H s) (h:H p=some (.lst xs)) :
  ∃ (aq:List Value) (n:Nat),Vals xs aq/\s.heap.get? p=some { cls := .type "list",data := .seq aq.toArray n }/\xs.length <= sizeLine:=by
 obtain⟨z,aq,n,r,e⟩:=I.aN p _ h
 exact⟨aq,n,r,e,z⟩
theorem Inv.oQ {pins:List (Addr × Obj)} {σ : St} {H:Hp} {s:Shared} {p:Addr} {xs ys:List V} {aq its':List Value} {n n':Nat} {f:Obj->Obj} (I:Inv X pins σ H s) (h:H p=some (.lst xs))
  (ho:s.heap.get? p=some { cls := .type "list",data := .seq aq.toArray n }) (hf:f { cls := .type "list",data := .seq aq.toArray n }={ cls := .type "list",data := .seq its'.toArray n' }) (r:Vals ys its') (hz:ys.length <= sizeLine) (t:Nat) :
  Inv X pins σ (upd H p (.lst ys)) { s with heap:=s.heap.update p f,toks:=t }:=by
 have e:(s.heap.update p f).get? p=some { cls := .type "list",data := .seq its'.toArray n' }:=by
  rw[XB f ho (by rw[hf]<;>rfl),hf]
 refine I.write (x:=p) (e:=p) (by rw[h];trivial) (.inl rfl) (fun b u hb q=>(Heap.get?_update_other _ _ (XC hb)).trans q) ⟨_,e⟩ ?_
 exact⟨hz,its',n',r,e⟩
noncomputable def Dp:V->V->V->Hp->(Hp->Prop)->Prop:=fun o i v H Q=>∃ p xs k j,o = .ref p/\i = .int k/\H p=some (.lst xs)/\iX xs.length k=some j/\Q (upd H p (.lst (xs.set j v)))
theorem set_list:oC X Dp:=by
 intro pins s σ H o i v ov iv u Q I ro ri rv h
 obtain⟨p,xs,k,j,rfl,rfl,hp,hj,q⟩:=h
 cases ro
 obtain⟨t,rfl⟩:=ri
 obtain⟨aq,n,r,ho,hz⟩:=I.lst hp
 obtain⟨h1,h2,h3,h4⟩:=Dl hj
 have hl:=r.length
 have hn:=oH
 have I':Inv X pins σ (upd H p (.lst (xs.set j v))) { s with heap:=s.heap.update p (Obj.mapSeq (·.setIfInBounds j u)) } :=
  I.oQ hp ho (LF aq n j u) (r.set rv j) (by rw[WQ];exact hz) s.toks
 by_cases h0:0 <= k
 ·have hk:k.toNat=j:=by
   rw[seqIndex_of h0 h4] at h1
   exact VE h1
  exact PySem.W.ki_setAt ho h0 (by omega) (by rw[sD,<-hl];exact h4) (by rw[hk];exact⟨_,I',q⟩)
 ·have hk:(k + (aq.toArray.size:Int)).toNat=j:=by
   rw[seqIndex_neg (by omega) h3] at h1
   rw[sD,<-hl]
   exact VE h1
  exact PySem.W.ki_setBack ho (by omega) (by rw[sD,<-hl];exact h3) (by omega) (by rw[hk];exact⟨_,I',q⟩)
theorem LG (lo hi:Option Int) (n:Nat):(sliceBounds lo hi none n).1=((HT.a8 n 0 lo:Nat):Int)/\(sliceBounds lo hi none n).2.1=((HT.a8 n n hi:Nat):Int)/\(sliceBounds lo hi none n).2.2=1:=by
 refine⟨?_,?_,rfl⟩
 ·cases lo with
  | none=>simp[sliceBounds,HT.a8]
  | some i =>
   simp only[sliceBounds,HT.a8,YW,show (1:Int) > 0 by decide,Yi]
   by_cases h:i < 0
   ·simp only[h,Yi]<;>omega
   ·simp only[h,Xf]<;>omega
 ·cases hi with
  | none=>simp[sliceBounds,HT.a8]
  | some i =>
   simp only[sliceBounds,HT.a8,YW,show (1:Int) > 0 by decide,Yi]
   by_cases h:i < 0
   ·simp only[h,Yi]<;>omega
   ·simp only[h,Xf]<;>omega
theorem LH (aq:List Value) (lo hi:Option Int):slicePick aq.toArray lo hi none=((aq.drop (HT.a8 aq.length 0 lo)).take (HT.a8 aq.length aq.length hi - HT.a8 aq.length 0 lo)).toArray:=by
 obtain⟨h1,h2,h3⟩:=LG lo hi aq.toArray.size
 unfold slicePick
 rw[h1,h2,h3]
 simp only[sliceRange_one,pick_run,sD]<;>rfl
noncomputable def xG (K:PySem.W.Frag):V->Option Int->Option Int->Hp->VK->Prop:=fun x lo hi H Q=>∃ a xs,x = .ref a/\bq K H a xs/\∀ p,H p=none->Q (.ref p) (upd H p (.lst (cL xs lo hi)))
theorem fY:mf X (xG X.K):=by
 intro pins s σ H x v vl vu lo hi sl Q I rx hs pl pu h
 obtain⟨a,xs,rfl,hx,q⟩:=h
 cases rx
 obtain⟨aq,r,ht,hz⟩:=I.list hx
 have hlen:=r.length
 refine⟨"list",_,YO.lookup,ht.isList.typeIs,?_⟩
 refine wpAny_getItem_list_slice ht.isList hs pl pu .none (by simp) ?_ (by rw[sD]<;>omega)
 rw[LH,<-hlen]
 refine⟨.ref s.heap.objs.size,_,I.laid (t':=s.toks) (o := .lst (cL xs lo hi)) (fun b ob q=>qt _ q) (uX _) ?_,rfl,q _ (I.aN.fresh (uX _))⟩
 exact⟨V_ (Dj xs lo hi) hz,_,0,(r.drop (HT.a8 xs.length 0 lo)).take (HT.a8 xs.length xs.length hi - HT.a8 xs.length 0 lo),Vq _ rfl⟩
theorem Dq:fX X (.builtin "len") (fun xs H Q=>∃ p ys,xs=[.ref p]/\(bq X.K H p ys\/bB X.K H p ys)/\Q (.int ys.length) H):=by
 intro pins s σ H xs us Q I r h
 obtain⟨p,ys,rfl,hq,q⟩:=h
 obtain⟨u,rfl,rx⟩:=vals1 r
 cases rx
 have hn:=oH
 rcases hq with hq | hq
 ·obtain⟨aq,r',pl,hz⟩:=I.list hq
  have hlen:=r'.length
  exact Calls.call_len_list pl.isList (by simp only[sD]<;>omega) ⟨.int ys.length,H,I.tok _,⟨s.toks + 1,by rw[sD,hlen]⟩,q⟩
 ·obtain⟨aq,r',pl,hz⟩:=I.tuple hq
  have hlen:=r'.length
  exact len_tuple pl (by simp only[sD]<;>omega) ⟨.int ys.length,H,I.tok _,⟨s.toks + 1,by rw[sD,hlen]⟩,q⟩
theorem LI:fX X (.builtin "len") (fun xs H Q=>∃ z,xs=[.str z]/\z.length <= sizeLine/\Q (.int z.length) H):=by
 intro pins s σ H xs us Q I r h
 obtain⟨z,rfl,hz,q⟩:=h
 obtain⟨u,rfl,t,rfl⟩:=vals1 r
 have hn:=oH
 exact len_str (by omega) ⟨.int z.length,H,I.tok _,⟨_,rfl⟩,q⟩
theorem xH:fX X (.type "list") (fun xs H Q=>∃ p ys,xs=[.ref p]/\(bq X.K H p ys\/bB X.K H p ys)/\∀ l,H l=none->Q (.ref l) (upd H l (.lst ys))):=by
 intro pins s σ H xs us Q I r h
 obtain⟨p,ys,rfl,hq,q⟩:=h
 obtain⟨u,rfl,rx⟩:=vals1 r
 cases rx
 have fin:∀ (aq:List Value),Vals ys aq->ys.length <= sizeLine->∀ (h':Heap) (c':Nat),(∀ b o',s.heap.get? b=some o'->h'.get? b=some o') →
   h'.get? s.heap.objs.size=some { cls := .type "list",dict:=none,data := .seq aq.toArray c',slots := #[] }->EP X pins σ Q (.ref s.heap.objs.size) { s with heap:=h' }:=fun aq r' hz h' c' kp e =>
  ⟨.ref s.heap.objs.size,_,I.laid (t':=s.toks) kp (uX _) (show aQ X.prog X.w _ h' _ (.lst ys) from ⟨hz,aq,c',r',e⟩),rfl,q _ (I.aN.fresh (uX _))⟩
 rcases hq with hq | hq
 ·obtain⟨aq,r',pl,hz⟩:=I.list hq
  have hlen:=r'.length
  obtain⟨o,ho,hc,n,hd⟩:=pl.isList
  exact call_list_seq p (.inl rfl) ho hc hd (fun h' c' kp e=>fin aq r' hz h' c' kp e) (by simp only[sD]<;>omega)
 ·obtain⟨aq,r',pl,hz⟩:=I.tuple hq
  have hlen:=r'.length
  obtain⟨o,ho,hc,n,hd⟩:=pl
  exact call_list_seq p (.inr rfl) ho hc hd (fun h' c' kp e=>fin aq r' hz h' c' kp e) (by simp only[sD]<;>omega)
theorem Dr:fX X (.type "tuple") (fun xs H Q=>∃ p ys,xs=[.ref p]/\((bq X.K H p ys/\∀ l,H l=none->Q (.ref l) (upd H l (.tup ys)))\/(bB X.K H p ys/\Q (.ref p) H))):=by
 intro pins s σ H xs us Q I r h
 obtain⟨p,ys,rfl,h⟩:=h
 obtain⟨u,rfl,rx⟩:=vals1 r
 cases rx
 rcases h with⟨hq,q⟩ | ⟨hq,q⟩
 ·obtain⟨aq,r',pl,hz⟩:=I.list hq
  have hlen:=r'.length
  refine call_tuple_list pl.isList (fun h' kp => ?_) (by simp only[sD]<;>omega)
  have I1:Inv X pins σ H { s with heap:=h' }:=I.kept (t':=s.toks) kp
  have I2:Inv X pins σ (upd H h'.objs.size (.tup ys)) { s with heap:=h'.push { cls := .type "tuple",data := .seq aq.toArray } } :=
   I1.laid (t':=s.toks) (fun b o e=>qt _ e) (uX _) (show aQ X.prog X.w _ _ _ (.tup ys) from ⟨hz,aq,r',IsTup.new _ _⟩)
  exact⟨.ref h'.objs.size,_,I2,rfl,q _ (I1.aN.fresh (uX _))⟩
 ·obtain⟨aq,r',pl,hz⟩:=I.tuple hq
  exact call_tuple_same pl ⟨.ref p,H,I,rfl,q⟩
noncomputable def Ds (K:PySem.W.Frag) (T:String) (x:V) (H:Hp):Prop:=match x with
 | .str _=>T = "str"
 | .int _=>T = "int"
 | .ref p=>(T = "list" /\ ∃ xs,bq K H p xs)\/(T = "tuple" /\ ∃ o,K.lookup p=some o/\o.cls = .type "tuple" /\ o.dict=none) ∨
   (T = "dict" /\ ((∃ ah,H p=some (.dK ah))\/∃ ah,H p=some (.dT ah)))\/(T = "set" /\ ∃ S n,H p=some (.set S n))
 | _=>False
theorem LL {pins:List (Addr × Obj)} {σ : St} {H:Hp} {s:Shared} {T:String} {x:V} {v:Value} (I:Inv X pins σ H s) (r:RelV x v) (ty:Ds X.K T x H) :
  s.TypeIs v T/\∀ a,v = .ref a->∃ ob,s.heap.get? a=some ob/\ob.dict=none:=by
 cases x with
 | str z =>
  obtain⟨t,rfl⟩:=r
  cases (show T = "str" from ty)
  exact⟨typeIs_str s z t,fun _ e=>nomatch e⟩
 | int i =>
  obtain⟨t,rfl⟩:=r
  cases (show T = "int" from ty)
  exact⟨typeIs_int s i t,fun _ e=>nomatch e⟩
 | ref p =>
  cases r
  rcases ty with⟨rfl,xs,hq⟩ | ⟨rfl,o,hk,hc,hd⟩ | ⟨rfl,hk⟩ | ⟨rfl,S,n,hk⟩
  ·obtain⟨aq,_,pl,_⟩:=I.list hq
   refine⟨pl.isList.typeIs,fun a e => ?_⟩
   cases e
   obtain⟨o,n,e,c,hd,_⟩:=pl
   exact⟨o,e,hd⟩
  ·refine⟨⟨o,I.gy p o hk,hc⟩,fun a e => ?_⟩
   cases e
   exact⟨o,I.gy _ o hk,hd⟩
  ·have z:∃ o,s.heap.get? p=some o/\o.ExactDict:=by
    rcases hk with⟨ah,hk⟩ | ⟨ah,hk⟩
    ·obtain⟨_,_,_,_,o,_,_,e,ex,_⟩:=I.aN p _ hk
     exact⟨o,e,ex⟩
    ·obtain⟨_,_,_,_,o,_,_,e,ex,_⟩:=I.aN p _ hk
     exact⟨o,e,ex⟩
   obtain⟨o,e,ex⟩:=z
   refine⟨⟨o,e,ex.1⟩,fun a e2 => ?_⟩
   cases e2
   exact⟨o,e,ex.2.1⟩
  ·obtain⟨o,_,_,_,e,ex,_⟩:=I.aN p _ hk
   refine⟨⟨o,e,ex.1⟩,fun a e2 => ?_⟩
   cases e2
   exact⟨o,e,ex.2.1⟩
 | _=>exact False.elim ty
noncomputable def sC (K:PySem.W.Frag) (T:String) (r:V->List V->Hp->VK->Prop) (to:TE) (t:TA):TE:=fun σ H Q=>to σ H fun x H1=>Ds K T x H1/\t σ H1 fun xs H2=>r x xs H2 Q
variable {o e:Expr} {es:List Expr} {to:TE} {t:TA} {name:Str} {apos bL:Pos} {T id:String} {r:V->List V->Hp->VK->Prop}
theorem LM (pa:PlainAttrs T) (slot:Slot T name id) (xI:typeOf (.builtin id)=pure (.type "method_descriptor")) (hm:xC X id r) (ho:PE X o to) (ha:PA X (e :: es) t)
  (jX:attributeBase o name X.env (eval o X.env)=eval o X.env:=by rfl)
  (oR:((backTo bL (starEach (e :: es) X.env)).all (fun x => !x.1) && (backToKw bL (keywordEach [] X.env)).all (fun x=>x.1.isSome)
   && decide ((e :: es).length + ([]:List Keyword).length + (if ([]:List Keyword).isEmpty then 0 else 1) < 30))=true:=by rfl)
  (jY:(apos.endLine == bL.line)=true:=by rfl) (hs:starEach (e :: es) X.env=(false,eval e X.env) :: starEach es X.env:=by rfl) (hplain:(backTo bL (starEach es X.env)).any (·.1)=false:=by rfl) :
  PE X (.Call (.Attribute o name apos) (e :: es) [] bL) (sC X.K T r to t):=by
 intro pins s σ H Q I h
 refine wpAny_Call_method_late jX oR jY rfl (aZ (ho pins s σ H _ I h) fun v s1 ⟨x,H1,I1,r1,ty,q1⟩ => ?_)
 obtain⟨h1,h2⟩:=LL I1 r1 ty
 refine⟨T,id,pa,slot,xI,h1,h2,?_⟩
 have hA:=ha bL pins s1 σ H1 _ I1 q1
 rw[hs] at hA ⊢
 refine Calls.callWith_builtin (by show (false || (backTo bL (starEach es X.env)).any (·.1))=false;rw[hplain]<;>rfl) (Calls.evalArgs_plain ?_)
 exact aZ hA fun us s2 h0_ => el5 h0_ fun vs H2 I2 r2 q2 =>hm pins s2 σ H2 x vs v us Q I2 r1 r2 q2
end
noncomputable def xJ (X:Cx) (id:String) (r:V->List V->Hp->VK->Prop):Prop :=
 ∀ (pins:List (Addr × Obj)) (s:Shared) (σ : St) (H:Hp) (x:V) (xs:List V) (v:Value) (us:List Value) (Q:VK),Inv X pins σ H s->RelV x v->Vals xs us->r x xs H Q →
  wpAny (model X.prog X.w) X.A (call (.builtin id) (v :: us)) (EP X pins σ Q) X.xe s
theorem Vals.one:∀ {x:V} {us:List Value},Vals [x] us->∃ u,us=[u]/\RelV x u:=by
 intro x us h
 cases h with
 | cons r h=>cases h;exact⟨_,rfl,r⟩
theorem Vals.two:∀ {x y:V} {us:List Value},Vals [x,y] us->∃ u v,us=[u,v]/\RelV x u/\RelV y v:=by
 intro x y us h
 cases h with
 | cons r h =>
  obtain⟨v,rfl,q⟩:=Vals.one h
  exact⟨_,_,rfl,r,q⟩
theorem Vals.eraseIdx:∀ {xs:List V} {us:List Value} (i:Nat),Vals xs us->Vals (xs.eraseIdx i) (us.eraseIdx i)
 | _,_,_,.nil => .nil
 | _,_,0,.cons _ t=>t
 | _,_,i + 1,.cons r t => .cons r (Vals.eraseIdx i t)
theorem Vals.rep {xs:List V} {us:List Value} (h:Vals xs us):∀ k:Nat,Vals (List.replicate k xs).flatten (List.replicate k us).flatten
 | 0 => .nil
 | k + 1=>by
  rw[Wl,Wl,Xj,Xj]
  exact Vals.append h (Vals.rep h k)
theorem Dt {α : Type}:∀ (l:List α) (i:Nat),(l.eraseIdx i).length <= l.length
 | [],_=>uX _
 | _ :: _,0=>YQ _
 | _ :: r,i + 1=>Nat.succ_le_succ (Dt r i)
theorem foldl_rep (aq:List Value):∀ (k:Nat) (acc:List Value),
  List.foldl (fun x1 x2=>x1 ++ x2) acc.toArray (List.replicate k aq.toArray)=(acc ++ (List.replicate k aq).flatten).toArray
 | 0,acc=>by simp
 | k + 1,acc=>by
  have e:acc.toArray ++ aq.toArray=(acc ++ aq).toArray:=by simp
  have e2:(acc ++ aq) ++ (List.replicate k aq).flatten=acc ++ (List.replicate (k + 1) aq).flatten:=by
   rw[Wl,Xj,XE]
  rw[<-e2,<-foldl_rep aq k (acc ++ aq),<-e,Wl,Xx]
section
variable {X:Cx} {pins:List (Addr × Obj)} {σ : St} {H:Hp} {s:Shared} {l b:Addr} {xs ys zs:List V}
theorem Inv.oS {aq its':List Value} {n:Nat} {f:Array Value->Array Value} {t':Nat} (I:Inv X pins σ H s) (hH:H l=some (.lst xs))
  (e:s.heap.get? l=some { cls := .type "list",data := .seq aq.toArray n }) (hf:f aq.toArray=its'.toArray) (hv:Vals ys its') (hz:ys.length <= sizeLine) :
  Inv X pins σ (upd H l (.lst ys)) { s with heap:=s.heap.update l (Obj.mapSeq f),toks:=t' }:=by
 have q:=PySem.IsL.update e f
 rw[hf] at q
 refine I.write (x:=l) (e:=l) (by rw[hH];exact trivial) (.inl rfl) (fun b' u hb hu=>(Heap.get?_update_other s.heap (Obj.mapSeq f) (XC hb)).trans hu) ⟨_,q⟩ ?_
 exact⟨hz,its',_,hv,q⟩
theorem Inv.b7 {aq:List Value} {t':Nat} (I:Inv X pins σ H s) (hv:Vals ys aq) (hz:ys.length <= sizeLine) :
  Inv X pins σ (upd H s.heap.objs.size (.lst ys)) { s with heap:=s.heap.push { cls := .type "list",data := .seq aq.toArray },toks:=t' } :=
 I.laid (fun _ _ q=>qt _ q) (uX _) ⟨hz,aq,0,hv,Vq _ rfl⟩
theorem Inv.fresh (I:Inv X pins σ H s):H s.heap.objs.size=none:=I.aN.fresh (uX _)
theorem Inv.h_ (I:Inv X pins σ H s) (hH:H l=some (.lst xs)):xs.length <= sizeLine/\∃ (aq:List Value) (n:Nat),Vals xs aq/\xs.length=aq.length/\s.heap.get? l=some { cls := .type "list",data := .seq aq.toArray n }:=by
 obtain⟨z,aq,n,r,e⟩:=I.aN l _ hH
 exact⟨z,aq,n,r,r.length,e⟩
theorem Du {n:Nat} (h:n <= sizeLine):Builtin.List.listTooLong n=false:=by
 unfold Builtin.List.listTooLong
 exact DF (by omega)
end
section
variable {X:Cx}
noncomputable def Dv:V->List V->Hp->VK->Prop:=fun x vs H Q=>∃ l xs y,x = .ref l/\vs=[y]/\H l=some (.lst xs)/\xs.length < sizeLine/\Q .non (upd H l (.lst (xs ++ [y])))
theorem sE:xJ X "list.append" Dv:=by
 intro pins s σ H x vs v us Q I rx rv h
 obtain⟨l,xs,y,rfl,rfl,hH,hz,q⟩:=h
 cases rx
 obtain⟨u,rfl,ru⟩:=rv.one
 obtain⟨z,aq,n,r,hl,e⟩:=I.h_ hH
 refine Za F.slot_list_append ⟨_,e,rfl⟩ F.entry_list_append (F.args_list_append_2 _ _) (PySem.list_append l aq.toArray n u (by rw[sD];omega)) ⟨e,?_⟩
 refine⟨.non,_,I.oS (its':=aq ++ [u]) hH e (by simp) (r.append (.cons ru .nil)) ?_,rfl,q⟩
 rw[DG,VH]
 omega
noncomputable def Dw:V->List V->Hp->VK->Prop:=fun x vs H Q=>∃ l b xs zs,x = .ref l/\vs=[.ref b]/\H l=some (.lst xs)/\H b=some (.lst zs)/\xs.length + zs.length <= sizeLine/\Q .non (upd H l (.lst (xs ++ zs)))
theorem LN:xJ X "list.extend" Dw:=by
 intro pins s σ H x vs v us Q I rx rv h
 obtain⟨l,b,xs,zs,rfl,rfl,hH,hB,hz,q⟩:=h
 cases rx
 obtain⟨u,rfl,ru⟩:=rv.one
 cases ru
 obtain⟨z,aq,n,r,hl,e⟩:=I.h_ hH
 obtain⟨z2,br,n2,r2,sF,e2⟩:=I.h_ hB
 have hsz:aq.toArray.size + br.toArray.size <= sizeLine:=by rw[sD,sD];omega
 have jZ:¬ (!aq.toArray.isEmpty && Builtin.List.listTooLong (aq.toArray.size + br.toArray.size))=true:=by
  rw[Du hsz,Bool.and_false]
  exact Vv
 refine Za F.slot_list_extend ⟨_,e,rfl⟩ F.entry_list_extend (F.args_list_extend_2 _ _)
  (AutoSeq1.list_extend_list_list_0 l aq.toArray n b br.toArray n2 jZ (by rw[sD];omega) (by omega)) ⟨e,e2,?_⟩
 refine⟨.non,_,I.oS (its':=aq ++ br) hH e (by simp) (r.append r2) ?_,rfl,q⟩
 rw[DG]
 omega
noncomputable def Dy:V->List V->Hp->VK->Prop:=fun x vs H Q=>∃ l xs i k y,x = .ref l/\vs=[.int i]/\H l=some (.lst xs) /\ -(2 ^ 63) <= i/\i < 2 ^ 63/\seqIndex? i xs.length=some k/\xs[k]? = some y/\Q y (upd H l (.lst (xs.eraseIdx k)))
theorem Dz:xJ X "list.pop" Dy:=by
 intro pins s σ H x vs v us Q I rx rv h
 obtain⟨l,xs,i,k,y,rfl,rfl,hH,h1,h2,hk,hy,q⟩:=h
 cases rx
 obtain⟨u,rfl,ru⟩:=rv.one
 obtain⟨t,rfl⟩:=ru
 obtain⟨z,aq,n,r,hl,e⟩:=I.h_ hH
 obtain⟨w,hw,iY⟩:=r.get hy
 refine Za F.slot_list_pop ⟨_,e,rfl⟩ F.entry_list_pop (F.args_list_pop_2 _ _)
  (MeetsSeq.list_pop_at l aq.toArray n i t k w (fitsIndex_both h1 h2) (by rw[sD,<-hl];exact hk) (by rw[<-VX];exact hw) (by rw[sD];omega)) ⟨e,?_⟩
 refine⟨y,_,I.oS (its':=aq.eraseIdx k) hH e ?_ (r.eraseIdx k) ?_,iY,q⟩
 ·show aq.toArray.eraseIdxIfInBounds k=(aq.eraseIdx k).toArray
  rw[List.eraseIdxIfInBounds_toArray]
 ·have:=Dt xs k
  omega
noncomputable def xK:R2:=fun x y H Q=>∃ l b xs zs,x = .ref l/\y = .ref b/\H l=some (.lst xs)/\H b=some (.lst zs)/\xs.length + zs.length <= sizeLine/\∀ p,H p=none->Q (.ref p) (upd H p (.lst (xs ++ zs)))
theorem DA:cG X (binaryOp .Add) xK:=by
 intro pins s σ H x y v u Q I rx ry h
 obtain⟨l,b,xs,zs,rfl,rfl,hH,hB,hz,q⟩:=h
 cases rx
 cases ry
 obtain⟨z,aq,n,r,hl,e⟩:=I.h_ hH
 obtain⟨z2,br,n2,r2,sF,e2⟩:=I.h_ hB
 refine PySem.P.add_list e e2 ?_ (by rw[sD,sD];omega)
 have ea:aq.toArray ++ br.toArray=(aq ++ br).toArray:=by simp
 rw[ea]
 exact⟨.ref _,_,I.b7 (t':=s.toks) (r.append r2) (by rw[DG];omega),rfl,q _ I.fresh⟩
noncomputable def xM:R2:=fun x y H Q=>∃ l k xs,x = .ref l/\y = .int k/\H l=some (.lst xs) /\ -(2 ^ 63) <= k/\k < 2 ^ 63/\xs.length * k.toNat <= sizeLine ∧
 ∀ p,H p=none->Q (.ref p) (upd H p (.lst (List.replicate k.toNat xs).flatten))
theorem len_rep {α : Type} (xs:List α) (k:Nat):(List.replicate k xs).flatten.length=k * xs.length:=by
 induction k with
 | zero=>simp
 | succ k ih=>rw[Wl,Xj,DG,ih,Nat.succ_mul,Nat.add_comm]
theorem LO:cG X (binaryOp .Mult) xM:=by
 intro pins s σ H x y v u Q I rx ry h
 obtain⟨l,k,xs,rfl,rfl,hH,h1,h2,hz,q⟩:=h
 cases rx
 obtain⟨t,rfl⟩:=ry
 obtain⟨z,aq,n,r,hl,e⟩:=I.h_ hH
 have hlen:aq.toArray.size * k.toNat <= sizeLine:=by rw[sD,<-hl];exact hz
 have xN:¬ aq.toArray.size * k.toNat > (2 ^ 63 - 1) / 8:=by
  have:(sizeLine:Nat) <= (2 ^ 63 - 1) / 8:=by decide
  omega
 have xO:¬ (!Builtin.List.listFitsIndex k)=true:=by
  rw[fitsIndex_both h1 h2]
  exact Vv
 have jZ:¬ Builtin.List.listTooLong (aq.toArray.size * k.toNat)=true:=by
  rw[Du hlen]
  exact Vv
 have xP:List.foldl (fun x1 x2=>x1 ++ x2) #[] (List.replicate (if aq.toArray.isEmpty=true then 0 else k.toNat) aq.toArray)=(List.replicate k.toNat aq).flatten.toArray:=by
  have f0:∀ m:Nat,List.foldl (fun x1 x2=>x1 ++ x2) #[] (List.replicate m aq.toArray)=(List.replicate m aq).flatten.toArray:=fun m=>by
   have:=foldl_rep aq m []
   rw[List.nil_append] at this
   exact this
  rw[f0]
  cases aq with
  | nil=>simp
  | cons a r'=>rw[LX (by simp)]
 refine wpAny_binaryOp_repeat_ref (T := "list") (U := "int") (by decide) ⟨_,e,rfl⟩ (fun s'=>typeIs_int s' k t) noFill_list_mul F.fills_int_mul F.slot_int_rmul repeat_list F.slot_int_index.lookup
  (Za F.slot_int_rmul (typeIs_int s k t) F.entry_int_rmul (F.args_int_rmul_2 _ _) (int___rmul___int_list k t l aq.toArray n)
   ⟨e,rfl,⟨_,e,rfl⟩,Za F.slot_list_mul ⟨_,e,rfl⟩ F.entry_list_mul (F.args_list_mul_2 _ _) (AutoListH.list___mul___list_int_3 l aq.toArray n k t xO xN jZ) ⟨e,?_⟩⟩)
 rw[xP]
 exact⟨.ref _,_,I.b7 (t':=s.toks) (r.rep k.toNat) (by rw[len_rep,Nat.mul_comm];exact hz),rfl,q _ I.fresh⟩
end
section
variable {prog:Program} {w:World} {A:Around} {E:Value->Shared->Prop} {s:Shared}
end
section
variable {X:Cx}
end
end L2
namespace Att
open PySem PySem.W PySem.Calls PyProof.Rows
theorem eD {P:Params} {h:Heap}:∀ (ns:List Int) (vs:List Value),WellAll P h vs (ns.map WData.int)->IntsAre vs ns:=by
 intro ns
 induction ns with
 | nil =>
  intro vs w
  rw[W8] at w
  cases w
  exact .nil
 | cons n ns ih =>
  intro vs w
  rw[Vy] at w
  cases w with
  | cons a b =>
   cases a
   exact .cons _ _ (ih _ b)
theorem iZ {l:OpenLaw} {n:Nat} (hn:l.most=some n) {P:Params} {h:Heap} {args:List WData} {vals:List Value}
  (mj:l.row.toRowW.claim.pre args=true) (xQ:WellAll P h vals args) :
  ∃ a vs ns,vals=[Value.ref a]/\args=[WData.list (ns.map WData.int)]/\h.get? a=some { cls := .type "list",data := .seq vs.toArray }/\IntsAre vs ns/\ns.length <= n:=by
 have LP:WShape.hasAll [] args [.list .int]=true:=(pre_splitW mj).1
 have hc:l.pre.holds [] { args:=args }=true:=(pre_splitW mj).2
 obtain⟨d,r,rfl,h1,h2⟩:=hasAllW_cons LP
 obtain rfl:=hasAllW_nil h2
 obtain⟨xs,rfl,h3⟩:=hasW_list h1
 obtain⟨ns,rfl⟩:=items_int h3
 have hlen:ns.length <= n:=by
  unfold OpenLaw.pre at hc
  have h4:(WTm.not (.lt (.lit (.int (n:Int))) (.len (.arg 0)))).holds [] { args:=[.list (ns.map .int)] }=true:=by
   have h4:=(holds_andW hc).1
   rw[hn] at h4
   exact h4
  have h5:=condW_of h4 (w_not (w_lt w_lit (w_len_list (w_arg rfl))))
  rw[oV] at h5
  refine Nat.le_of_not_lt fun q => ?_
  have q':(n:Int) < ((ns.length:Nat):Int):=by omega
  first
   | (rw[LV q'] at h5;exact absurd h5 (by decide))
   | (simp at h5;omega)
 cases xQ with
 | cons w1 w2 =>
  cases w2
  cases w1 with
  | list ho gv=>exact⟨_,_,ns,rfl,rfl,ho,eD ns _ gv,hlen⟩
theorem i0 (l:OpenLaw) (args:List WData):l.row.toRowW.claim.post args (.bool true) args=true :=
 postW_of (r:=l.row.toRowW) (X:=(true == true))
  (show WShape.has [] (.bool true) .bool=true by first | rfl | decide | simp[WShape.has,WShape.arms,WShape.armsAll])
  (show (WTm.eq .res (.lit (.bool true))).value [] { args:=args,res:=some (.bool true),after:=args }=some (.bool (true == true)) from w_eq_bool (w_res rfl) w_lit) rfl
theorem gD {l:OpenLaw} {n:Nat} {q:Program} {loose:List Str} {XP:(Str->Option Value)->Heap->Prop} {YP:World->Heap->Prop} {d:DefRec}
  (hn:l.most=some n) (sG:d.params.defaults=[])
  (call:∀ (w:World) (s₀ s₁ : Shared) (mg mb:Str->Option Value) (fa:Addr) (o:Obj) (pm cd doc:Value) (a:Addr) (vs:List Value) (ns:List Int),
   Ground q loose [] XP w s₀ mg mb s₁.heap->YP w s₁.heap →
   s₁.heap.get? fa=some o->o.data = .func (docDef d.name d.params d.body d.scope pm cd doc)->s₁.heap.CodeRec cd d.name->mg d.name=some (.ref fa) →
   s₁.heap.get? a=some { cls := .type "list",data := .seq vs.toArray }->IntsAre vs ns->ns.length <= n->s₁.gens = #[] →
   codeAny (model l.prog w) callerA (.call (.ref fa) ⟨[.ref a],[]⟩) (fun r s'=>r = .ok (.ret (.bool true))/\OldK s₁.heap s'.heap/\s'.os=s₁.os/\AllBare s'.gens) s₁) :
  WalkO q loose XP YP l.row.toRowW d [] (fun f vs=>PySem.call f vs):=by
 intro w s₀ s₁ mg mb G Y fa o pm cd doc dV kV ho hd eT hD ml hg args vals as mj LQ DB xQ UK
 obtain rfl:dV = .none:=Dflts.none hD sG
 obtain rfl:kV = .none:=Dflts.noKw hD
 obtain⟨a,vs,ns,rfl,rfl,oT,hints,hlen⟩:=iZ hn mj xQ
 refine enter_call (YB (call w s₀ s₁ mg mb fa o pm cd doc a vs ns G Y ho (fd_plain hd) eT ml oT hints hlen hg) fun r s' hq => ?_)
 obtain⟨rfl,h2,h3,h4⟩:=hq
 exact⟨.inl ⟨.bool true,.bool true,[],rfl,fun _=>rfl,.bool true,i0 l _,fun _=>⟨List.Pairwise.nil,fun _ hm=>(nomatch hm)⟩⟩,h2,h3,h4⟩
section
variable {prog:Program} {w:World} {A:Around} {E:Value->Shared->Prop} {s:Shared} {K:Frag}
end
end Att
namespace L2
open PySem PySem.Spec PyProof.Rows
theorem DC:∀ {vs:List Value} {ns:List Int},IntsAre vs ns->Vals (ns.map V.int) vs
 | _,_,.nil => .nil
 | _,_,.cons n t h => .cons ⟨t,rfl⟩ (DC h)
noncomputable def jA (s:Stmt):Arguments:=match s with
 | .FunctionDef _ a _ _ _ _ _ _ _ _=>a
 | _=>{ posonlyargs:=[],args:=[],vararg:=none,kwonlyargs:=[],kw_defaults:=[],kwarg:=none,defaults:=[] }
noncomputable def fZ (s:Stmt):List Stmt:=match s with
 | .FunctionDef _ _ b _ _ _ _ _ _ _=>b
 | _=>[]
noncomputable def cM (s:Stmt):Scope:=match s with
 | .FunctionDef _ _ _ _ _ _ sc _ _ _=>sc
 | _=>{ kind := .function,names:=[],isGenerator:=false,isCoroutine:=false }
noncomputable abbrev fL:iU:=fun _ _ _ _ _ _=>False
noncomputable abbrev E0:XK:=fun _ _ _=>False
theorem xS {X:Cx}:uU fL X E0:=fun _ _ _ _ _ _ _ h=>h.elim
structure gE (K:PySem.W.Frag) (x qual:Str) (st:Stmt) (f:Addr) (fd:FuncData):Prop where
 ex:∃ (oc:Value) (od:Option Addr) (kV doc pm:Value) (an:Option Addr) (a_ ct:Value) (l8:Array (Option Value)),
  fd=PySem.W.fnOf x qual (jA st) (fZ st) (cM st) .none kV doc pm an a_ ct/\K.lookup f=some ⟨oc,od,.func fd,l8⟩/\PySem.W.codeIn K a_ qual=true
 kp:PySem.W.keepIn K (.ref f)=true
section
variable {P:Program} {w:World} {K:PySem.W.Frag} {mg:Str->Option Value} {base:Heap}
theorem gE.ok {x qual:Str} {st:Stmt} {f:Addr} {fd:FuncData} {N ps:List Str} {k:Nat} {sp:Sp} (F:gE K x qual st f fd) (S:l6 N ps (cM st)) (len:∀ vs H Q E,sp vs H Q E->vs.length=ps.length)
  (dj:∀ (a_:Value) (A:Around) (outer:List Env) (s:Shared) (H:Hp) (vs:List V) (Q:VK) (E:XK),bg k (A.deeper (envOfC qual (cM st) s.heap.objs.size f a_))->sp vs H Q E →
   ∃ t,fW (eB fL P w K mg base N qual (cM st) f a_ A outer s H E).jR (fZ st) t/\t { nx:=fun _ H'=>Q .non H',rt:=Q } (start N vs) H):cK P w K mg base fL (k + 1) f fd ps sp:=by
 obtain⟨oc,od,kV,doc,pm,an,a_,ct,l8,rfl,lk,eT⟩:=F.ex
 refine C9 lk eT S len fun A outer s H vs Q E hr nH => ?_
 obtain⟨t,h,q⟩:=dj a_ A outer s H vs Q E hr nH
 exact⟨t,h.jR,q⟩
theorem gE.binds {x qual:Str} {st:Stmt} {f:Addr} {fd:FuncData} {ps:List Str} (F:gE K x qual st f fd)
  (h:∀ (kV doc pm:Value) (an:Option Addr) (a_ ct:Value) (us:List Value),us.length=ps.length->bindArgs (PySem.W.fnOf x qual (jA st) (fZ st) (cM st) .none kV doc pm an a_ ct) ⟨us,[]⟩=pure (ps.zip us)):Binds K fd ps []:=by
 obtain⟨oc,od,kV,doc,pm,an,a_,ct,l8,rfl,lk,eT⟩:=F.ex
 exact .all (h kV doc pm an a_ ct)
theorem DH {x qual:Str} {st:Stmt} {f:Addr} {oc:Value} {od an:Option Addr} {l8:Array (Option Value)} {kV doc pm a_ ct:Value} (l:K.lookup f=some ⟨oc,od,.func (PySem.W.fnOf x qual (jA st) (fZ st) (cM st) .none kV doc pm an a_ ct),l8⟩)
  (c:PySem.W.codeIn K a_ qual=true) (k:PySem.W.keepIn K (.ref f)=true):gE K x qual st f (PySem.W.fnOf x qual (jA st) (fZ st) (cM st) .none kV doc pm an a_ ct):=⟨⟨oc,od,kV,doc,pm,an,a_,ct,l8,rfl,l,c⟩,k⟩
end
theorem qu {n:Nat} (h:n <= 1000):n < sizeLine:=YF h (by decide)
section
variable {X:Cx}
theorem pv (i:Nat) {x:Str} {pos:Pos} (hN:X.N[i]? = some x:=by rfl) (hv:ou X.env.scope x:=by first | exact Or.inl rfl | exact Or.inr (Or.inl rfl) | exact Or.inr (Or.inr rfl)) (hd:(x == ("__debug__" : Str))=false:=by decide)
  (eT:(x == ("__classdict__" : Str))=false:=by decide):PE X (.Name x pos) (lT i):=CB hN hv hd eT
end
noncomputable def aJ (H H':Hp):Prop:=∀ b o,H b=some o->H' b=some o
theorem aJ.trans {H H1 H2:Hp} (a:aJ H H1) (b:aJ H1 H2):aJ H H2:=fun c o h=>b c o (a c o h)
theorem aJ.free {H H':Hp} (e:aJ H H') {l:Addr} (h:H' l=Option.none):H l=Option.none:=by
 cases q:H l with
 | none=>rfl
 | some o =>
  rw[e l o q] at h
  cases h
theorem aJ.seq {K:PySem.W.Frag} {H H':Hp} {a:Addr} {xs:List V} (e:aJ H H') (h:bq K H a xs):bq K H' a xs:=by
 rcases h with (h | ⟨o,h⟩) | h
 ·exact .inl (.inl (e _ _ h))
 ·exact .inl (.inr ⟨o,e _ _ h⟩)
 ·exact .inr h
theorem LY {prog:Program} {w:World} {A:Around} {R:Result->Shared->Prop} {s:Shared} {elt target iter:Expr} {ifs:List Expr} {scope:Scope} {pos:Pos} {it acc:Value} {env:Env} (I:Nat->Shared->Prop)
  (turn:∀ n s,I n s->wpAny (model prog w) A (pyNext it) (fun r s₁ => match r with
   | none=>R (.ok .next) s₁
   | some v=>wpAny (model prog w) A (letOwnedTupleGo target it v) (fun _ s₂ => wpAny (model prog w) A (assign target env v) (fun _ s₃ =>
     wpAny (model prog w) A (forIn ifs true fun c r=>if r=true then do let ok <- isTrue c env (eval c env);pure (ForInStep.yield ok) else pure (ForInStep.yield r)) (fun ok s₄ =>
      if ok=true then wpAny (model prog w) A (eval elt env) (fun x s₅ =>
       wpAny (model prog w) A (call (.builtin "list.append") [acc,x]) (fun _ s₆ => ∃ m,m < n/\I m s₆) (fun _ _=>False) s₅) (fun _ _=>False) s₄
      else ∃ m,m < n/\I m s₄) (fun _ _=>False) s₃) (fun _ _=>False) s₂) (fun _ _=>False) s₁) (fun _ _=>False) s)
  (n:Nat) (h:I n s) :
  codeAny (model prog w) A (.compLoop (.ListComp elt [⟨target,iter,ifs,0⟩] scope pos) 0 it acc env) R s:=by
 refine codeAny_loop rfl I (fun n s hI => ?_) n h
 show wpAny _ A ((compTurn (.ListComp elt [⟨target,iter,ifs,0⟩] scope pos) 0 it acc env).onRaise (fun x=>do noteFrame x env;theTreesLotGoes x)) _ _ s
 refine wpAny_noted ?_
 rw[compTurn_list]
 refine mq (XA (mq (Ww (turn n s hI) (fun r s₁ h₁ => ?_) fun _ _ h'=>False.elim h')))
 cases r with
 | none=>exact xR h₁
 | some v =>
  refine mq (Ww h₁ (fun _ s₂ h₂ => ?_) fun _ _ h'=>False.elim h')
  refine mq (Ww h₂ (fun _ s₃ h₃ => mq (Ww h₃ (fun ok s₄ h₄ => ?_) fun _ _ h'=>False.elim h')) fun _ _ h'=>False.elim h')
  cases ok with
  | false=>exact xR ⟨rfl,h₄⟩
  | true =>
   exact mq (mq (Ww h₄ (fun x s₄ h₄ => mq (Ww h₄ (fun _ s₅ h₅ => xR (xR ⟨rfl,h₅⟩)) fun _ _ h'=>False.elim h')) fun _ _ h'=>False.elim h'))
theorem xT {env:Env}:∀ (names:List (Str × NameKind)) (acc:List (Str × Addr)),(∀ y∈names,y.2 = .free->∃ c,env.cells.lookup y.1=some c)->(∀ x c,acc.lookup x=some c->env.cells.lookup x=some c) →
  ∃ cl,(forIn names acc (fun (x:Str × NameKind) (cs:List (Str × Addr))=>if x.2 == NameKind.free then cellOf env x.1 >>= fun a=>pure (ForInStep.yield ((x.1,a) :: cs)) else pure (ForInStep.yield cs)):Sem (List (Str × Addr)))=pure cl ∧
   (∀ x c,cl.lookup x=some c->env.cells.lookup x=some c)/\(∀ y∈names,y.2 = .free->∃ c,cl.lookup y.1=some c)/\(∀ x c,acc.lookup x=some c->∃ c,cl.lookup x=some c)
 | [],acc,_,h2=>⟨acc,rfl,h2,fun _ hy=>absurd hy (by simp),fun x c e=>⟨c,e⟩⟩
 | (n,k) :: r,acc,h1,h2=>by
  rw[List.forIn_cons]
  by_cases hk:k = .free
  ·subst hk
   obtain⟨c,hc⟩:=h1 (n,.free) UQ rfl
   have gz:env.cells.lookup n=some c:=hc
   have ec:cellOf env n=pure c:=by unfold cellOf;rw[gz]
   have f6:∀ x d,((n,c) :: acc).lookup x=some d->env.cells.lookup x=some d:=fun x d e=>by
    rw[VB] at e
    cases q:x == n with
    | true =>
     rw[q] at e
     cases e
     rw[WB q];exact gz
    | false =>
     rw[q] at e
     exact h2 x d e
   obtain⟨cl,e,p1,p2,p3⟩:=xT r ((n,c) :: acc) (fun y hy=>h1 y (Vs _ hy)) f6
   refine⟨cl,?_,p1,fun y hy hf => ?_,fun x d e => ?_⟩
   ·dsimp only
    rw[UO (by decide),ec]
    exact e
   ·rcases Vr.mp hy with rfl | hy
    ·exact p3 n c (by simp)
    ·exact p2 y hy hf
   ·cases q:x == n with
    | true=>exact p3 x c (by rw[VB,q])
    | false=>exact p3 x d (by rw[VB,q];exact e)
  ·obtain⟨cl,e,p1,p2,p3⟩:=xT r acc (fun y hy=>h1 y (Vs _ hy)) h2
   refine⟨cl,?_,p1,fun y hy hf => ?_,p3⟩
   ·dsimp only
    rw[LX (by simpa using hk)]
    exact e
   ·rcases Vr.mp hy with rfl | hy
    ·exact absurd hf hk
    ·exact p2 y hy hf
theorem xU {scope:Scope} {env:Env} (h:∀ y∈scope.names,y.2 = .free->∃ c,env.cells.lookup y.1=some c) :
  ∃ cl,closureFor scope env=pure cl/\(∀ x c,cl.lookup x=some c->env.cells.lookup x=some c)/\∀ y∈scope.names,y.2 = .free->∃ c,cl.lookup y.1=some c:=by
 obtain⟨cl,e,p1,p2,_⟩:=xT scope.names [] h (fun x c e=>by simp at e)
 refine⟨cl,?_,p1,p2⟩
 have e':closureFor scope env=(forIn scope.names ([]:List (Str × Addr)) (fun (x:Str × NameKind) (cs:List (Str × Addr))=>if x.2 == NameKind.free then cellOf env x.1 >>= fun a=>pure (ForInStep.yield ((x.1,a) :: cs)) else pure (ForInStep.yield cs)):Sem (List (Str × Addr))) >>= pure:=rfl
 rw[e',e]
 rfl
structure BD where
 cl:List (Str × Addr)
 C:Addr
 s:Shared
 H:Hp
 fp:List Addr
@[reducible] noncomputable def cg (X:Cx) (scope:Scope) (Nb:List Str) (d:BD):Cx where
 prog:=X.prog
 w:=X.w
 K:=X.K
 mg:=X.mg
 base:=X.base
 A:=X.A
 N:=Nb
 s₀ := d.s
 H₀ := d.H
 env:=compEnvC scope d.cl d.C X.env
 outer:=X.stack
 stack:=X.stack
 ex:=d.fp
 fn:=fun x=>decide (scope.names.lookup x=some .cell)
 calm:=X.calm
 pn:=[]
 xe:=fun _ _=>False
noncomputable def gU (cp:List (Option Nat)) (σ : St):St:=cp.map fun o=>match o with
 | some i=>(σ[i]?).join
 | none=>none
noncomputable def lr (N:List Str) (uY scope:Scope) (Nb:List Str) (cp:List (Option Nat)):Bool :=
 (scope.names.all fun y=>(decide (y.2 ≠ .cell) || decide (scope.names.lookup y.1=some .cell)) && (decide (y.2 ≠ .local) || decide (scope.names.lookup y.1=some .local)) && (decide (y.2 ≠ .free) || decide (uY.names.lookup y.1=some .cell) || decide (uY.names.lookup y.1=some .free))) &&
 decide (cp.length=Nb.length) && (cp.zip Nb).all fun z=>match z.1 with
  | none=>true
  | some i=>decide (N[i]? = some z.2) && decide (scope.names.lookup z.2=some .free)
structure uZ (X:Cx) (scope:Scope) (Nb:List Str) (cp:List (Option Nat)):Prop where
 kind:scope.kind = .function
 cell:∀ y∈scope.names,y.2 = .cell->scope.names.lookup y.1=some .cell
 names:∀ y∈scope.names,y.2 = .local->scope.names.lookup y.1=some .local
 free:∀ y∈scope.names,y.2 = .free->(X.env.kindOf y.1=some .cell\/X.env.kindOf y.1=some .free)
 len:cp.length=Nb.length
 sH:∀ (j i:Nat) (x:Str),cp[j]? = some (some i)->Nb[j]? = some x->X.N[i]? = some x/\scope.names.lookup x=some .free
theorem x0v {X:Cx} {scope:Scope} {Nb:List Str} {cp:List (Option Nat)} (hk:scope.kind = .function) (h:lr X.N X.env.scope scope Nb cp=true):uZ X scope Nb cp:=by
 unfold lr at h
 simp only[VY,Wu,Bool.or_eq_true,Wz] at h
 obtain⟨⟨h1,h2⟩,h3⟩:=h
 refine⟨hk,fun y hy e=>(h1 y hy).1.1.resolve_left (fun z=>z e),fun y hy e => ?_,fun y hy e => ?_,h2,fun j i x e1 e2 => ?_⟩
 ·rcases (h1 y hy).1.2 with z | z
  ·exact absurd e z
  ·exact z
 ·rcases (h1 y hy).2 with (z | z) | z
  ·exact absurd e z
  ·exact .inl z
  ·exact .inr z
 ·have hm:(some i,x)∈cp.zip Nb:=by
   have:(cp.zip Nb)[j]? = some (some i,x):=by
    rw[List.getElem?_zip_eq_some];exact⟨e1,e2⟩
   exact VA this
  have:=h3 _ hm
  simpa using this
theorem xV {env:Env} {x:Str}:∀ {names:List (Str × NameKind)} {k:NameKind},names.lookup x=some k →
  (names.map fun (n,k)=>if (k == NameKind.free && env.scope.kind == .function && env.kindOf n == some .cell) then (n,NameKind.cell) else (n,k)).lookup x =
   some (if (k == NameKind.free && env.scope.kind == .function && env.kindOf x == some .cell) then NameKind.cell else k)
 | [],k,h=>by simp at h
 | (n,k') :: r,k,h=>by
  have ih:=@xV env x r k
  show List.lookup x ((if (k' == NameKind.free && env.scope.kind == .function && env.kindOf n == some .cell)=true then (n,NameKind.cell) else (n,k')) :: _)=_
  cases hx:x == n with
  | true =>
   simp only[VB,hx] at h
   cases h
   have e:x=n:=WB hx
   subst e
   by_cases hc:(k' == NameKind.free && env.scope.kind == .function && env.kindOf x == some .cell)=true
   ·rw[UO hc,UO hc];simp[VB]
   ·rw[LX hc,LX hc];simp[VB]
  | false =>
   simp only[VB,hx] at h
   by_cases hc:(k' == NameKind.free && env.scope.kind == .function && env.kindOf n == some .cell)=true
   ·rw[UO hc];simp only[VB,hx];exact ih h
   ·rw[LX hc];simp only[VB,hx];exact ih h
theorem DI {env:Env} {x:Str}:∀ {names:List (Str × NameKind)},names.lookup x=none →
  (names.map fun (n,k)=>if (k == NameKind.free && env.scope.kind == .function && env.kindOf n == some .cell) then (n,NameKind.cell) else (n,k)).lookup x=none
 | [],h=>by simp
 | (n,k') :: r,h=>by
  have ih:=@DI env x r
  show List.lookup x ((if (k' == NameKind.free && env.scope.kind == .function && env.kindOf n == some .cell)=true then (n,NameKind.cell) else (n,k')) :: _)=_
  cases hx:x == n with
  | true=>simp only[VB,hx] at h;cases h
  | false =>
   simp only[VB,hx] at h
   by_cases hc:(k' == NameKind.free && env.scope.kind == .function && env.kindOf n == some .cell)=true
   ·rw[UO hc];simp only[VB,hx];exact ih h
   ·rw[LX hc];simp only[VB,hx];exact ih h
noncomputable def PF (X:Cx) (ifs:List Expr) (t:TT):Prop :=
 ∀ (pins:List (Addr × Obj)) (s:Shared) (σ : St) (H:Hp) (Q:Bool->Hp->Prop),Inv X pins σ H s->t σ H Q →
  wpAny (model X.prog X.w) X.A (forIn ifs true fun c r=>if r=true then do let ok <- isTrue c X.env (eval c X.env);pure (ForInStep.yield ok) else pure (ForInStep.yield r)) (TP X pins σ Q) X.xe s
noncomputable def sI:TT:=fun _ H Q=>Q true H
theorem LZ {X:Cx}:PF X [] sI:=fun _ _ _ H _ I h=>wpAny_tests_nil ⟨H,I,h⟩
theorem L0 {X:Cx} {c:Expr} {t:TT} (h:PT X c t):PF X [c] t:=fun pins s σ H Q I hw=>wpAny_tests_one (h pins s σ H Q I hw)
noncomputable def L1 (g:TG) (tf:TT) (te:TE) (l:Addr) (x:V) (τ : St) (H:Hp) (N:St->Hp->Prop):Prop :=
 g x τ H fun τ2 H2=>tf τ2 H2 fun b H3=>if b=true then te τ2 H3 fun y H4=>∃ ys,H4 l=some (.lst ys)/\ys.length < sizeLine/\N τ2 (upd H4 l (.lst (ys ++ [y]))) else N τ2 H3
noncomputable def DJ (J:It) (g:TG) (tf:TT) (te:TE) (l:Addr) (τ0:St) (H0:Hp) (Q:VK):Prop :=
 ∃ W:Nat->Nat->St->Hp->Prop,(∃ m,W 0 m τ0 H0)/\∀ i m τ H,W i m τ H →
  (J.stop i H/\Q (.ref l) H)\/(J.go i H/\∃ N:St->Hp->Prop,(∀ τ' H',N τ' H'->∃ m',m' < m/\W (i + 1) m' τ' H')/\∀ x H',J.qp i H x H'->L1 g tf te l x τ H' N)
noncomputable def oX (wi:TI) (cp:List (Option Nat)) (g:BD->TG) (tf:BD->TT) (te:BD->TE):TE:=fun σ H Q=>wi σ H fun J H1=>∀ (d:BD) (l:Addr),H1 l=none->DJ J (g d) (tf d) (te d) l (gU cp σ) (upd H1 l (.lst [])) Q
theorem qv:∀ {names:List (Str × NameKind)} {n:Nat} {acc:List (Str × Addr)} {x:Str} {c:Addr},(cellsFrom n names acc).lookup x=some c->acc.lookup x=some c\/(n <= c/\(x,NameKind.cell)∈names)
 | [],n,acc,x,c,h => .inl h
 | (y,k) :: r,n,acc,x,c,h=>by
  unfold cellsFrom at h
  split at h
  ·rename_i hk
   have ek:k = .cell:=WB hk
   subst ek
   rcases qv h with h | ⟨h,m⟩
   ·rw[VB] at h
    cases q:x == y with
    | true=>rw[q] at h;cases h;rw[WB q];exact .inr ⟨uX _,UQ ..⟩
    | false=>rw[q] at h;exact .inl h
   ·exact .inr ⟨by omega,Vs _ m⟩
  ·rcases qv h with h | ⟨h,m⟩
   ·exact .inl h
   ·exact .inr ⟨h,Vs _ m⟩
theorem xW:∀ {names:List (Str × NameKind)} {n:Nat} {acc:List (Str × Addr)} {x:Str} {c:Addr},(x,NameKind.cell)∈names->(cellsFrom n names acc).lookup x=some c->n <= c
 | [],n,acc,x,c,m,h=>by cases m
 | (y,k) :: r,n,acc,x,c,m,h=>by
  unfold cellsFrom at h
  by_cases mr:(x,NameKind.cell)∈r
  ·split at h
   ·have:=xW mr h;omega
   ·exact xW mr h
  ·have e:(x,NameKind.cell)=(y,k):=by
    rcases Vr.mp m with e | e
    ·exact e
    ·exact absurd e mr
   cases e
   rw[UO (by decide)] at h
   rcases qv h with h | ⟨h,_⟩
   ·rw[VB,beq_self_eq_true] at h
    cases h;exact uX _
   ·omega
theorem xX:∀ {names:List (Str × NameKind)} {n:Nat} {acc:List (Str × Addr)} {x y:Str} {c:Addr},(∀ u v c,acc.lookup u=some c->acc.lookup v=some c->u=v)->(∀ u c,acc.lookup u=some c->c < n)->(cellsFrom n names acc).lookup x=some c->(cellsFrom n names acc).lookup y=some c->x=y
 | [],n,acc,x,y,c,hi,_,h1,h2=>hi x y c h1 h2
 | (z,k) :: r,n,acc,x,y,c,hi,hb,h1,h2=>by
  unfold cellsFrom at h1 h2
  split at h1
  ·rename_i hk
   rw[UO hk] at h2
   refine xX (fun u v c q1 q2 => ?_) (fun u c q => ?_) h1 h2
   ·rw[VB] at q1 q2
    cases e1:u == z with
    | true =>
     rw[e1] at q1;cases q1
     cases e2:v == z with
     | true=>rw[WB e1,WB e2]
     | false=>rw[e2] at q2;exact absurd (hb v _ q2) (WC _)
    | false =>
     rw[e1] at q1
     cases e2:v == z with
     | true=>rw[e2] at q2;cases q2;exact absurd (hb u _ q1) (WC _)
     | false=>rw[e2] at q2;exact hi u v c q1 q2
   ·rw[VB] at q
    cases e1:u == z with
    | true=>rw[e1] at q;cases q;exact W_ _
    | false=>rw[e1] at q;exact W0 (hb u c q)
  ·rename_i hk
   rw[LX hk] at h2
   exact xX hi hb h1 h2
theorem xY:∀ {names:List (Str × NameKind)} {n:Nat} {acc:List (Str × Addr)} {x:Str},(x,NameKind.cell)∉names->(cellsFrom n names acc).lookup x=acc.lookup x
 | [],n,acc,x,_=>rfl
 | (y,k) :: r,n,acc,x,m=>by
  unfold cellsFrom
  split
  ·rename_i hk
   have ek:k = .cell:=WB hk
   subst ek
   rw[xY fun z=>m (Vs _ z),VB]
   cases q:x == y with
   | true=>exact absurd (by rw[WB q];exact UQ ..) m
   | false=>rfl
  ·exact xY fun z=>m (Vs _ z)
theorem xZ:∀ {names:List (Str × NameKind)} {h:Heap} {acc:List (Str × Addr)} {x:Str} {c:Addr},(∀ u c,acc.lookup u=some c->∃ v,h.IsCell c v)->(cellsFrom h.objs.size names acc).lookup x=some c->∃ v,(pushCells h names).IsCell c v
 | [],h,acc,x,c,hc,e=>hc x c e
 | (y,k) :: r,h,acc,x,c,hc,e=>by
  unfold cellsFrom at e
  unfold pushCells
  split at e
  ·rename_i hk
   rw[UO hk]
   have hz:(h.push { cls := .type "cell",data := .cell none }).objs.size=h.objs.size + 1:=XJ ..
   rw[<-hz] at e
   refine xZ (fun u c q => ?_) e
   rw[VB] at q
   cases e1:u == y with
   | true=>rw[e1] at q;cases q;exact⟨none,_,Vq _ rfl,rfl⟩
   | false =>
    rw[e1] at q
    obtain⟨v,o,g1,g2⟩:=hc u c q
    exact⟨v,o,qt _ g1,g2⟩
  ·rename_i hk
   rw[LX hk]
   exact xZ hc e
theorem L4 {M:Model} {A:Around} {E:Value->Shared->Prop} {s:Shared} {scope:Scope} {g:Addr} {cl:List (Str × Addr)} {qual:Str} {env:Env} {Q:Env->Shared->Prop}
  (h:Q (newEnv scope s.heap.objs.size g (cellsFrom (s.heap.objs.size + 1) scope.names cl) qual none .none (some env) builtinsNs) { s with heap:=pushCells (s.heap.push { cls := .type "dict",data := .dict #[] }) scope.names }) :
  wpAny M A (newFunctionEnv scope g cl [] qual none .none (some env)) Q E s:=by
 simp only[newFunctionEnv,Option.isSome_some,Yi]
 refine mq (wpAny_alloc ?_)
 refine mq (wpAny_layCells _ (fun name kind cells=>by cases L5:kind == NameKind.cell<;>simp[L5]) _ _ _ _ ?_)
 rw[show ({ s with heap:=s.heap.push { cls := .type "dict",data := .dict #[] } }:Shared).heap.objs.size=s.heap.objs.size + 1 from XJ ..]
 refine mq ?_
 rw[List.forIn_nil]
 exact xR (xR h)
section
variable {X:Cx} {elt tg iter:Expr} {ifs:List Expr} {scope:Scope} {pos:Pos} {Nb:List Str} {cp:List (Option Nat)} {wi:TI} {g:BD->TG} {tf:BD->TT} {te:BD->TE}
variable {pins:List (Addr × Obj)} {σ : St} {H:Hp} {s:Shared}
noncomputable abbrev sJ (scope:Scope) (s:Shared) (cl:List (Str × Addr)):List (Str × Addr):=cellsFrom (s.heap.objs.size + 1) scope.names cl
theorem L6 {fp:List Addr} {cl:List (Str × Addr)} (S:uZ X scope Nb cp) (I:Inv X pins σ H s) (hf:∀ b∈fp,a9 X pins H b) (ho:∀ b∈fp,∃ o,s.heap.get? b=some o)
  (c1:∀ x c,cl.lookup x=some c->X.env.cells.lookup x=some c) (c2:∀ y∈scope.names,y.2 = .free->∃ c,cl.lookup y.1=some c):(cg X scope Nb ⟨sJ scope s cl,s.heap.objs.size,s,H,fp⟩).Ok:=by
 have L7:∀ b∈fp,b∉jz X.stack:=fun b hb z=>by
  obtain⟨_,f1,f2,_⟩:=hf b hb
  rcases Vr.mp (I.fV b z) with e | e
  ·exact f1 e
  ·exact f2 e
 have lt:∀ u c,cl.lookup u=some c->c < s.heap.objs.size:=fun u c e=>by
  obtain⟨v,q⟩:=I.cell u c (c1 _ _ e)
  exact q.lt
 refine⟨I.ok.mod,?_,I.ok.glob,I.ok.blt,uX _,fun x y c h1 h2 => ?_,fun x hx => ?_,fun x c h hc => ?_,I.ok.hd,I.ok.frames,.inl rfl,fun b hb=>⟨?_,fun x c e => ?_⟩,I.bs,V_ I.ok.nB I.sz,fun b o e hb => ?_,L7,I.stack,I.iB⟩
 ·exact S.kind
 ·exact xX (fun u v c q1 q2=>I.ok.inj u v c (c1 _ _ q1) (c1 _ _ q2)) (fun u c e=>W0 (lt u c e)) h1 h2
 ·cases q:scope.names.lookup x with
  | none =>
   have z:(relabel scope X.env).names.lookup x=none:=DI q
   have gW:(relabel scope X.env).names.lookup x=some .cell\/(relabel scope X.env).names.lookup x=some .free:=hx
   rw[z] at gW
   rcases gW with h | h<;>cases h
  | some k =>
   have hm:=Wk q
   have z:(relabel scope X.env).names.lookup x=_:=xV (env:=X.env) q
   have gW:(relabel scope X.env).names.lookup x=some .cell\/(relabel scope X.env).names.lookup x=some .free:=hx
   rw[z] at gW
   have kf:k = .free\/k = .cell:=by
    by_cases hk:k = .free
    ·exact .inl hk
    ·have:(k == NameKind.free)=false:=by simpa using hk
     simp only[this,Zz,VW,Xf] at gW
     rcases gW with h | h
     ·exact .inr (VE h)
     ·exact absurd (VE h) hk
   refine WZ.mp (Yf scope.names _ cl ?_)
   rcases kf with rfl | rfl
   ·obtain⟨c,e⟩:=c2 (x,.free) hm rfl
    exact .inr (by rw[show cl.lookup x=some c from e];rfl)
   ·exact .inl q
 ·have hl:scope.names.lookup x=some .cell:=We h
  have:=xW (Wk hl) hc
  exact Nat.le_of_succ_le this
 ·obtain⟨o,e⟩:=ho b hb
  exact Vx (UL e)
 ·rcases qv e with e | ⟨e,_⟩
  ·exact (hf b hb).2.2.2.2.1 x c (c1 _ _ e)
  ·obtain⟨o,eo⟩:=ho b hb
   have x5:=UL eo
   intro z
   subst z
   exact absurd (Nat.lt_of_succ_le e) (Nat.not_lt.mpr (WM x5))
 ·rcases (hf b hb).2.2.2.1 with z | z
  ·exact I.ok.jQ b o e z
  ·exact absurd (Vw (UL (I.ok.bs b o e).1) z) (WC _)
theorem L8 {cp:List (Option Nat)} {σ : St} {j:Nat} {v:V} (h:(gU cp σ)[j]? = some (some v)):∃ i,cp[j]? = some (some i) /\ σ[i]? = some (some v):=by
 unfold gU at h
 rw[LR] at h
 cases e:cp[j]? with
 | none=>rw[e] at h;cases h
 | some o =>
  rw[e] at h
  cases o with
  | none=>cases h
  | some i =>
   refine⟨i,rfl,?_⟩
   have h':(σ[i]?).join=some v:=VE h
   cases q : σ[i]? with
   | none=>rw[q] at h';cases h'
   | some z =>
    rw[q] at h'
    have:z=some v:=h'
    rw[this]
theorem L9 {fp:List Addr} {cl:List (Str × Addr)} {h1:Heap} {tk:Nat} (S:uZ X scope Nb cp) (I:Inv X pins σ H s) (hf:∀ b∈fp,a9 X pins H b) (ho:∀ b∈fp,∃ o,s.heap.get? b=some o)
  (c1:∀ x c,cl.lookup x=some c->X.env.cells.lookup x=some c) (c2:∀ y∈scope.names,y.2 = .free->∃ c,cl.lookup y.1=some c)
  (hn:h1.Ns s.heap.objs.size (fun x=>([]:List (Str × Value)).reverse.lookup x)) (hk:∀ b o,s.heap.get? b=some o->h1.get? b=some o) (me:∀ x c,(sJ scope s cl).lookup x=some c->∃ v,h1.IsCell c v) :
  Inv (cg X scope Nb ⟨sJ scope s cl,s.heap.objs.size,s,H,fp⟩) [] (gU cp σ) H { s with heap:=h1,toks:=tk }:=by
 refine⟨L6 S I hf ho c1 c2,rfl,I.bare,Un.kept hk,⟨_,hn,fun j x v e1 e2 e3 => ?_⟩,me,I.aN.fresh (uX _),fun x c e => ?_,fun p hp=>absurd (show p∈([]:List (Addr × Obj)) from hp) (by simp),I.aN.kept hk,?_⟩
 ·obtain⟨i,q1,q2⟩:=L8 e2
  obtain⟨q3,q4⟩:=S.sH j i x q1 e1
  have hm:=Wk q4
  have nJ:=S.free _ hm rfl
  obtain⟨m,_,hl⟩:=I.loc
  have L_:ou X.env.scope x:=by
   rcases nJ with h | h
   ·exact .inr (.inl h)
   ·exact .inr (.inr h)
  obtain⟨u,ru,lk⟩:=hl i x v q3 q2 L_
  refine⟨u,ru,?_⟩
  have nl:X.env.kindOf x≠some .local:=by
   rcases nJ with h | h
   ·intro z;rw[h] at z;cases z
   ·intro z;rw[h] at z;cases z
  rcases lk with⟨k,_⟩ | ⟨_,c,ec,hc⟩
  ·exact absurd k nl
  ·obtain⟨c',DK⟩:=c2 (x,.free) hm rfl
   have DL:=c1 _ _ DK
   rw[ec] at DL;cases DL
   have nc:(x,NameKind.cell)∉scope.names:=fun z=>by have:=S.cell _ z rfl;rw[show scope.names.lookup x=some .free from q4] at this;cases this
   refine .inr ⟨?_,c,(xY nc).trans DK,?_⟩
   ·have z:(relabel scope X.env).names.lookup x=_:=xV (env:=X.env) q4
    show (relabel scope X.env).names.lookup x=some .cell\/(relabel scope X.env).names.lookup x=some .free
    rw[z]
    split
    ·exact .inl rfl
    ·exact .inr rfl
   ·obtain⟨o,e,d⟩:=hc
    exact⟨o,hk _ _ e,d⟩
 ·rcases qv e with e | ⟨e,_⟩
  ·exact I.cz x c (c1 _ _ e)
  ·exact I.aN.fresh (Nat.le_of_succ_le e)
 ·unfold gU
  rw[oV]
  exact S.len
theorem Ma {fp:List Addr} {d:BD} {it l:Addr} {tn:Nat->Heap->Prop} {J:It} {R:Result->Shared->Prop} {Q:VK} {H1:Hp} {s1:Shared} {τ : St} (hc:X.calm=true)
  (hg:PG (cg X scope Nb d) tg (g d)) (hf:PF (cg X scope Nb d) ifs (tf d)) (he:PE (cg X scope Nb d) elt (te d)) (T:Turn X.prog X.w X.K tg J fp it tn)
  (UR:d.fp=fp) (I1:Inv (cg X scope Nb d) [] τ H1 s1) (jS:tn 0 s1.heap) (DM:∀ b∈fp,a9 (cg X scope Nb d) [] H1 b)
  (W:Nat->Nat->St->Hp->Prop) (w0:∃ m,W 0 m τ H1)
  (turn:∀ i m τ H,W i m τ H->(J.stop i H/\Q (.ref l) H)\/(J.go i H/\∃ N:St->Hp->Prop,(∀ τ' H',N τ' H'->∃ m',m' < m/\W (i + 1) m' τ' H')/\∀ x H',J.qp i H x H'->g d x τ H' fun τ2 H2=>tf d τ2 H2 fun b H3 =>
   if b=true then te d τ2 H3 fun y H4=>∃ ys,H4 l=some (.lst ys)/\ys.length < sizeLine/\N τ2 (upd H4 l (.lst (ys ++ [y]))) else N τ2 H3))
  (fin:∀ τ' H' s',Inv (cg X scope Nb d) [] τ' H' s'->Q (.ref l) H'->R (.ok .next) s') :
  codeAny (model X.prog X.w) X.A (.compStart (.ListComp elt [⟨tg,iter,ifs,0⟩] scope pos) 0 (.ref it) (.ref l) (compEnvC scope d.cl d.C X.env)) R s1:=by
 have hX:∀ {H':Hp},(∀ b∈fp,H' b=none)->∀ b∈fp,a9 (cg X scope Nb d) [] H' b:=fun hn b hb=>⟨hn b hb,(DM b hb).2⟩
 have loop:codeAny (model X.prog X.w) X.A (.compLoop (.ListComp elt [⟨tg,iter,ifs,0⟩] scope pos) 0 (.ref it) (.ref l) (compEnvC scope d.cl d.C X.env)) R s1:=by
  obtain⟨m0,w0⟩:=w0
  refine LY (fun n s'=>∃ i τ' H',Inv (cg X scope Nb d) [] τ' H' s'/\tn i s'.heap/\(∀ b∈fp,H' b=none)/\W i n τ' H') ?_ m0 ⟨0,τ,H1,I1,jS,fun b hb=>(DM b hb).1,w0⟩
  rintro n s3 ⟨i,σ3,H3,I3,lW,sd,w3⟩
  rcases turn i n σ3 H3 w3 with⟨stop,qn⟩ | ⟨go,N,hN,step⟩
  ·refine aZ (T.done (cg X scope Nb d) rfl rfl rfl hc i [] s3 σ3 H3 (fun _ _=>False) I3 (hX sd) lW stop) fun r s4 ⟨hr,I4⟩ => ?_
   subst hr
   exact fin σ3 H3 s4 I4 qn
  ·refine aZ (T.item (cg X scope Nb d) rfl rfl rfl hc i [] s3 σ3 H3 (fun _ _=>False) I3 (hX sd) lW go) fun r s4 ⟨u,hr,h4⟩ => ?_
   subst hr
   refine aZ h4 fun _ s5 ⟨x,H5,I5,r5,y5,oF,xm⟩ => ?_
   have xn:=I5.pinned (hX xm) (T.obj _ _ oF)
   refine aZ (hg _ s5 σ3 H5 x u _ xn r5 (step x H5 y5)) fun _ s6 ⟨σ6,H6,I6,q6⟩ => ?_
   have again:∀ {σ7:St} {H7:Hp} {s7:Shared} {m':Nat},Inv (cg X scope Nb d) ([] ++ r_ fp s5.heap) σ7 H7 s7->m' < n->W (i + 1) m' σ7 H7->∃ m,m < n/\∃ i σ' H',Inv (cg X scope Nb d) [] σ' H' s7/\tn i s7.heap/\(∀ b∈fp,H' b=none)/\W i m σ' H':=fun {σ7 H7 s7 m'} I7 hm w7=>by
    refine⟨m',hm,i + 1,σ7,H7,I7.dh,T.keep _ _ _ oF fun b hb o e=>(I7.pin (b,o) (LU _ (LU _ (uQ hb e)))).1,fun b hb => ?_,w7⟩
    obtain⟨o,e,d⟩:=T.obj _ _ oF b hb
    exact (I7.pin (b,o) (LU _ (LU _ (uQ hb e)))).2.1
   refine aZ (hf _ s6 σ6 H6 _ I6 q6) fun ok s7 h0_ => el3 h0_ fun H7 I7 q7 => ?_
   cases ok with
   | false =>
    rw[LX Vv] at q7 ⊢
    obtain⟨m',hm,w7⟩:=hN _ _ q7
    exact again I7 hm w7
   | true =>
    rw[UO rfl] at q7 ⊢
    refine aZ (he _ s7 σ6 H7 _ I7 q7) fun y s8 ⟨yv,H8,I8,r8,ys,hy,hz,q8⟩ => ?_
    obtain⟨m',hm,w8⟩:=hN _ _ q8
    refine aZ (sE _ s8 σ6 H8 (.ref l) [yv] (.ref l) [y] (fun _ H9=>H9=upd H8 l (.lst (ys ++ [yv]))) I8 rfl (.cons r8 .nil) ⟨l,ys,yv,rfl,rfl,hy,hz,rfl⟩) fun _ s9 h0_ => el5 h0_ fun _ H9 I9 _ e9 => ?_
    subst e9
    exact again I9 hm w8
 exact codeAny_compStart_list loop (T.self _ 0 s1 _ _ jS loop)
theorem Mb {fp:List Addr} {d:BD} {τ : St} {H1 H':Hp} {s1 s':Shared} (I1:Inv X pins σ H1 s1) (hs:d.s=s1) (hH:d.H=H1) (hd:d.fp=fp) (hf:∀ b∈fp,a9 X pins H1 b) (J:Inv (cg X scope Nb d) [] τ H' s'):Inv X pins σ H' s':=by
 subst hs hH hd
 exact I1.rR (ch:=d.fp) J.os J.base J.aN J.bare fun b hb=>⟨(hf b hb).2.2.2.1,(hf b hb).2.1,(hf b hb).2.2.2.2.1,(hf b hb).2.2.2.2.2⟩
theorem DN {use:Option (Value->Sem Unit)} {P:Value->Shared->Prop} {Q:VK} (hc:X.calm=true) (S:uZ X scope Nb cp) (hi:PI X tg iter wi) (hg:∀ d,PG (cg X scope Nb d) tg (g d)) (hf:∀ d,PF (cg X scope Nb d) ifs (tf d)) (he:∀ d,PE (cg X scope Nb d) elt (te d))
  (hs:∀ x,foldedSetIterable iter X.env x=pure x) (I:Inv X pins σ H s) (h:oX wi cp g tf te σ H Q)
  (fin:∀ (l C:Addr) (H':Hp) (s':Shared) (m:Str->Option Value),Inv X pins σ H' s'->a9 X pins H' C->(∀ p c,X.env.cells.lookup p=some c->c≠C)->s'.heap.Ns C m->Q (.ref l) H'->compPost (model X.prog X.w) X.A X.xe use P (.ref l) C (.ok .next) s') :
  wpAny (model X.prog X.w) X.A (comprehension (.ListComp elt [⟨tg,iter,ifs,0⟩] scope pos) scope X.env (firstIterPos [⟨tg,iter,ifs,0⟩] pos) (newList []) false (eval iter X.env) use) P X.xe s:=by
 obtain⟨cl,Mc,c1,c2⟩:=xU (scope:=scope) (env:=X.env) fun y hy Md=>by
  rcases S.free y hy Md with z | z
  ·exact I.ok.has _ (.inl z)
  ·exact I.ok.has _ (.inr z)
 refine wpAny_comprehension_free (cl:=cl) rfl hs Mc S.kind S.names (aZ (hi pins s σ H _ I h) fun v s1 h1=>aZ h1 fun xj s2 h2 => ?_)
 obtain⟨it,fp,tn,J,H2,e,I2,T,jT,f2,q2⟩:=h2
 subst e
 refine V7 ?_
 have hl:H2 s2.heap.objs.size=none:=I2.fresh
 have I3:Inv X pins σ (upd H2 s2.heap.objs.size (.lst [])) { s2 with heap:=s2.heap.push { cls := .type "list",data := .seq ([]:List Value).toArray } }:=I2.b7 (t':=s2.toks) (ys:=[]) .nil (V6 _)
 have k3:∀ b o,s2.heap.get? b=some o->(s2.heap.push { cls := .type "list",data := .seq ([]:List Value).toArray }).get? b=some o:=fun b o e=>qt _ e
 have f3:∀ b∈fp,a9 X pins (upd H2 s2.heap.objs.size (.lst [])) b:=fun b hb=>by
  obtain⟨o,e,_⟩:=T.obj _ _ jT b hb
  refine⟨?_,(f2 b hb).2⟩
  rw[aX (Vx (UL e))]
  exact (f2 b hb).1
 generalize Me:upd H2 s2.heap.objs.size (.lst [])=H3 at I3 f3
 generalize Mf:({ s2 with heap:=s2.heap.push { cls := .type "list",data := .seq ([]:List Value).toArray } }:Shared)=s3 at I3
 have DO:∀ b o,s2.heap.get? b=some o->s3.heap.get? b=some o:=by rw[<-Mf];exact k3
 have o3:∀ b∈fp,∃ o,s3.heap.get? b=some o:=fun b hb=>let ⟨o,e,_⟩:=T.obj _ _ jT b hb; ⟨o,DO b o e⟩
 refine L4 ?_
 have k4:∀ b o,s3.heap.get? b=some o->(pushCells (s3.heap.push { cls := .type "dict",data := .dict #[] }) scope.names).get? b=some o:=fun b o e=>pushCells_keeps _ _ _ _ (qt _ e)
 have sL:(pushCells (s3.heap.push { cls := .type "dict",data := .dict #[] }) scope.names).Ns s3.heap.objs.size (fun x=>([]:List (Str × Value)).reverse.lookup x):=(Heap.Ns.new s3.heap (.type "dict")).keeps (pushCells_keeps _ _)
 have I4:=L9 (Nb:=Nb) (tk:=s3.toks) S I3 f3 o3 c1 c2 sL k4 fun x c e=>by
  have hz:(s3.heap.push { cls := .type "dict",data := .dict #[] }).objs.size=s3.heap.objs.size + 1:=XJ ..
  have e':(cellsFrom (s3.heap.push { cls := .type "dict",data := .dict #[] }).objs.size scope.names cl).lookup x=some c:=by rw[hz];exact e
  refine xZ (fun u c q => ?_) e'
  obtain⟨v,o,g1,g2⟩:=I3.cell u c (c1 _ _ q)
  exact⟨v,o,qt _ g1,g2⟩
 generalize US:pushCells (s3.heap.push { cls := .type "dict",data := .dict #[] }) scope.names=h₁ at k4 sL I4 ⊢
 obtain⟨W,w0,turn⟩:=q2 ⟨sJ scope s3 cl,s3.heap.objs.size,s3,H3,fp⟩ s2.heap.objs.size hl
 rw[Me] at w0
 refine Ma (d:=⟨sJ scope s3 cl,s3.heap.objs.size,s3,H3,fp⟩) (fp:=fp) (tn:=tn) (J:=J) (Q:=Q) hc (hg _) (hf _) (he _) T rfl I4 (T.keep _ _ _ jT fun b hb o e=>k4 b o (DO b o e)) (fun b hb => ?_) W w0 turn fun τ' H' s' I5 q5 => ?_
 ·obtain⟨o,e⟩:=o3 b hb
  refine⟨(f3 b hb).1,Vx (UL e),fun z => ?_,.inl hb,fun x c ec => ?_,fun p hp=>absurd (show p∈([]:List (Addr × Obj)) from hp) (by simp)⟩
  ·rcases Vr.mp (I3.fV b z) with r | r
   ·exact (f3 b hb).2.1 r
   ·exact (f3 b hb).2.2.1 r
  ·rcases qv ec with q | ⟨q,_⟩
   ·exact (f3 b hb).2.2.2.2.1 x c (c1 _ _ q)
   ·have x5:=UL e
    intro z
    subst z
    exact absurd (Nat.lt_of_succ_le q) (Nat.not_lt.mpr (WM x5))
 ·have I6:Inv X pins σ H' s':=Mb I3 rfl rfl rfl f3 I5
  obtain⟨m,hn,_⟩:=I5.loc
  have fC:a9 X pins H' s3.heap.objs.size:=I3.eu (uX _) I5.free
  exact fin _ _ _ _ m I6 fC (fun p c e=>fC.2.2.2.2.1 p c e) hn q5
theorem Mg (cp:List (Option Nat)) (Nb:List Str) (hc:X.calm=true) (hi:PI X tg iter wi) (hg:∀ d,PG (cg X scope Nb d) tg (g d)) (hf:∀ d,PF (cg X scope Nb d) ifs (tf d)) (he:∀ d,PE (cg X scope Nb d) elt (te d))
  (hk:scope.kind = .function:=by rfl) (ho:lr X.N X.env.scope scope Nb cp=true:=by first | rfl | kernel_rfl) (hs:∀ x,foldedSetIterable iter X.env x=pure x:=by intro _;rfl) :
  PE X (.ListComp elt [⟨tg,iter,ifs,0⟩] scope pos) (oX wi cp g tf te):=by
 intro pins s σ H Q I h
 rw[eval_ListComp]
 refine DN (use:=none) hc (x0v hk ho) hi hg hf he hs I h fun l C H' s' m I' fC hcc hn q=>⟨m,hn,fun h' sM=>⟨.ref l,H',?_,rfl,q⟩⟩
 exact I'.turned (t':=s'.toks) (fun b o hb e=>(sM.2 b hb).trans e) fC.1 fC.2.1 fC.2.2.2.1 fC.2.2.2.2.1 fC.2.2.2.2.2
theorem Mh (cp:List (Option Nat)) (Nb:List Str) {i:Nat} {x:Str} {pos' gF:Pos} (hN:X.N.Nodup) (hi:X.N[i]? = some x) (hx:Loc X.env.scope x) (hc:X.calm=true) (hit:PI X tg iter wi) (hg:∀ d,PG (cg X scope Nb d) tg (g d)) (hf:∀ d,PF (cg X scope Nb d) ifs (tf d)) (he:∀ d,PE (cg X scope Nb d) elt (te d))
  (hk:scope.kind = .function:=by rfl) (ho:lr X.N X.env.scope scope Nb cp=true:=by first | rfl | kernel_rfl) (hs:∀ x,foldedSetIterable iter X.env x=pure x:=by intro _;rfl)
  (sN:swapsWith (.ListComp elt [⟨tg,iter,ifs,0⟩] scope pos) (some (.Name x pos')) gF.line X.env=pure true:=by rfl)
  (lS:X.fn x=true\/X.env.scope.names.lookup x=some .local:=by first | exact .inl rfl | exact .inr rfl | assumption) :
  PS X (.Assign [.Name x pos'] (.ListComp elt [⟨tg,iter,ifs,0⟩] scope pos) gF) (gB (oX wi cp g tf te) (oD i)):=by
 intro pins s σ H D I h
 rw[exec_Assign_Name_used _ _ _ _ sN]
 refine mq (XA (mq ?_))
 show wpAny _ X.A (do let _ <- comprehension (.ListComp elt [⟨tg,iter,ifs,0⟩] scope pos) scope X.env _ (newList []) false (eval iter X.env) (some (assign (.Name x pos') X.env))) _ _ s
 refine mq (aZ (DN (use:=some (assign (.Name x pos') X.env)) (P:=fun _ s'=>SP X pins D .next s') hc (x0v hk ho) hit hg hf he hs I h fun l C H' s' m I' fC hcc hn q => ?_) fun _ s' hq=>xR (xR hq))
 show wpAny _ X.A (assign (.Name x pos') X.env (.ref l)) _ _ s'
 refine wpAny_assign_Name (Cy I' hN hi hx (v := .ref l) rfl (fun h8 Mi ⟨a,sb,ha⟩ => ?_) lS)
 have nC:C≠a:=by
  rcases ha with e | e
  ·rw[e];exact fC.2.1
  ·exact XC (hcc _ _ e)
 refine⟨m,hn.sameBut sb nC,fun h' sM=>⟨_,H',?_,q⟩⟩
 exact Mi.turned (t':=h8.toks) (fun b o hb e=>(sM.2 b hb).trans e) fC.1 fC.2.1 fC.2.2.2.1 fC.2.2.2.2.1 fC.2.2.2.2.2
end
section
variable {g:TG} {tf:TT} {te:TE}
end
section
variable {X:Cx} {pins:List (Addr × Obj)} {σ : St} {H:Hp} {s:Shared} {h':Heap} {T:Addr} {o:HO} {ch:List Addr} {t':Nat}
theorem Inv.gG (I:Inv X pins σ H s) (hf:∀ b∈ch,a9 X pins H b) (k:∀ b u,b∉ch->s.heap.get? b=some u->h'.get? b=some u) (hT:s.heap.objs.size <= T) (new:aQ X.prog X.w (upd H T o) h' T o) :
  Inv X pins σ (upd H T o) { s with heap:=h',toks:=t' }:=by
 have hn:H T=none:=I.aN.fresh hT
 have nD:∀ b u,H b=some u->b∉ch:=fun b u e hb=>by rw[(hf b hb).1] at e;cases e
 refine I.step (g':=s.gens) (d':=s.drawn) (ch:=ch) (fun b hb=>⟨(hf b hb).2.2.2.1,(hf b hb).2.1,(hf b hb).2.2.2.2.1,(hf b hb).2.2.2.2.2⟩) (fun b u _ _ hc e _=>k b u hc e) (fun b u _ _ hc e _=>⟨u.slots,k b u hc e⟩)
  (fun b u _ e n=>by rw[aX (Vx (Vw (UL e) hT))];exact n) (fun b u hc e=>⟨u,k b u hc e⟩) (fun b xs e=>by rw[aX (cY e hn)];exact e)
  (fun b u xs e=>by rw[aX (cY e hn)];exact e) (fun b ps e=>⟨#[],by rw[aX (cY e hn),e];simp⟩) (fun m hm => ?_) (fun b u e => ?_) I.bare
 ·obtain⟨u,es,ep,ho,r⟩:=hm
  exact⟨u,es,ep,k _ u (fun hb=>(hf _ hb).2.1 rfl) ho,r⟩
 ·by_cases hb:b=T
  ·subst hb;rw[bR] at e;cases e;exact new
  ·rw[aX hb] at e
   refine (I.aN b u e).fq (fun c v hc q=>k c v ?_ q) (fun c q=>by rw[aX (cY q hn)];exact q) fun c xs q=>by rw[aX (cY q hn)];exact q
   rcases hc with z | z
   ·rw[z];exact nD b u e
   ·exact nD c _ z
end
noncomputable def qw (K:PySem.W.Frag) (a:Addr):It :=
 ⟨fun i H=>∃ xs x,bq K H a xs/\xs[i]? = some x,fun i H x H'=>∃ T v,x = .ref T/\H T=none/\H'=upd H T (.tup [.int (i:Nat),v])/\∀ xs,bq K H a xs->xs[i]? = some v,fun i H=>∃ xs,bq K H a xs/\xs.length <= i⟩
theorem DP {P:Program} {w:World} {K:PySem.W.Frag} {elts:List Expr} {x1} {tp:Pos} (a e it:Addr) (ib:e≠it) :
  Turn P w K (.Tuple elts x1 tp) (qw K a) [e,it] e (fun i h=>(∃ old,IsEnum h e it (i:Nat) old)/\h.IsListIter it a i) where
 mem:=by simp
 obj:=fun i h st b hb=>by
  obtain⟨⟨old,he⟩,o,hi,hc,hd⟩:=st
  rcases Vr.mp hb with rfl | hb
  ·exact⟨_,he,fun v z=>by cases z⟩
  ·have z:b=it:=by simpa using hb
   subst z
   exact⟨o,hi,fun v z=>by rw[hd] at z;cases z⟩
 keep:=fun i h h' st k=>by
  obtain⟨⟨old,he⟩,hi⟩:=st
  exact⟨⟨old,k e (by simp) _ he⟩,hi.at fun o q=>k it (by simp) o q⟩
 item:=by
  intro X hP hw hK hc i pins s σ H E I hf st hg
  subst hP hw hK
  obtain⟨⟨old,he⟩,hi⟩:=st
  obtain⟨xs,x,hq,hx⟩:=hg
  obtain⟨aq,rv,p,hz⟩:=I.list hq
  obtain⟨u,hu,ru⟩:=rv.get hx
  refine wpAny_pyNext_enum_item he hi p.isList (x:=u) (by simpa using hu) ib fun h1 la x6 sO hsz hk=>⟨_,rfl,?_⟩
  refine wpAny_letOwnedTupleGo_enum la fun h2 sP iD => ?_
  have hT:s.heap.objs.size≠e:=XN (UL he)
  have jP:h2.get? s.heap.objs.size=some { cls := .type "tuple",data := .seq #[.int i s.toks,u] }:=(iD.2 _ hT).trans sO
  have k2:∀ b o,b∉[e,it]->s.heap.get? b=some o->h2.get? b=some o:=fun b o hb q=>by
   have mw:b≠e:=fun z=>hb (by simp[z])
   have f6:b≠it:=fun z=>hb (by simp[z])
   exact (iD.2 _ mw).trans (hk b o mw f6 q)
  have hn:H s.heap.objs.size=none:=I.aN.fresh (uX _)
  refine⟨.ref s.heap.objs.size,upd H s.heap.objs.size (.tup [.int i,x]),I.gG (ch:=[e,it]) (t':=s.toks + 1) hf k2 (uX _) ?_,rfl,⟨_,x,rfl,hn,rfl,fun ys hy=>by rw[I.gA hy hq];exact hx⟩,⟨⟨u,?_⟩,?_⟩,fun b hb => ?_⟩
  ·exact⟨by show 2 <= sizeLine;decide,[.int i s.toks,u],.cons ⟨_,rfl⟩ (.cons ru .nil),_,jP,rfl,_,rfl⟩
  ·have e3:((i:Int) + 1)=(((i + 1:Nat)):Int):=by omega
   rw[e3] at sP
   exact sP
  ·exact x6.at fun o q=>(iD.2 _ (XC ib)).trans q
  ·have:b < s.heap.objs.size:=by
    obtain⟨o,q,_⟩:=hi
    rcases Vr.mp hb with rfl | hb
    ·exact UL he
    ·have z:b=it:=by simpa using hb
     subst z;exact UL q
   rw[aX (Vx this)]
   exact (hf b hb).1
 done:=by
  intro X hP hw hK hc i pins s σ H E I hf st hg
  subst hP hw hK
  obtain⟨⟨old,he⟩,hi⟩:=st
  obtain⟨xs,hq,hx⟩:=hg
  obtain⟨aq,rv,p,hz⟩:=I.list hq
  have hl:=rv.length
  refine wpAny_pyNext_enum_end (I.ok.hd hc) he hi p.isList (by simp;omega) fun h1 eb=>⟨rfl,?_⟩
  obtain⟨f0,f1,f2,f3,f4,f5⟩:=hf it (by simp)
  exact I.turned (t':=s.toks) (fun b o hb q=>eb b o hb q) f0 f1 f3 f4 f5
 self:=fun A i s Q E st h=>by
  obtain⟨⟨old,he⟩,hi⟩:=st
  have hT:s.TypeIs (.ref e) "enumerate" := ⟨_,he,rfl⟩
  exact W6 he h
section
variable {X:Cx} {elts:List Expr} {x1:Nat} {tp:Pos}
noncomputable def DQ (K:PySem.W.Frag) (ta:TA):TI:=fun σ H R=>ta σ H fun vs H1=>∃ a,vs=[.ref a]/\(∃ xs,bq K H1 a xs)/\R (qw K a) H1
theorem DR:bootBuiltins "enumerate" = some (.type "enumerate"):=by decide +kernel
theorem Mj {a:Expr} {ta:TA} {p pos:Pos} (hg:Gl X "enumerate") (hm:X.mg "enumerate" = none) (ha:PA X [a] ta) (hs:starEach [a] X.env=[(false,eval a X.env)]:=by rfl) :
  PI X (.Tuple elts x1 tp) (.Call (.Name "enumerate" p) [a] [] pos) (DQ X.K ta):=by
 intro pins s σ H R I h
 refine Call_ (lU I hg hm DR (WL (aZ (ha pos pins s σ H _ I h) fun us s1 h0_ => el5 h0_ fun vs H1 I1 r1 q1 => ?_) hs rfl))
 obtain⟨l,e,⟨xs,hq⟩,q⟩:=q1
 subst e
 cases r1 with
 | cons r rr =>
  cases rr
  cases r
  obtain⟨aq,rv,p,hz⟩:=I1.list hq
  refine call_enumerate_list p.isList fun h' he hi hsz hk => ?_
  have I2:Inv X pins σ H1 { s1 with heap:=h' }:=I1.kept (t':=s1.toks) hk
  refine W6 he ?_
  refine⟨_,_,_,_,H1,rfl,I2,DP l (s1.heap.objs.size + 1) s1.heap.objs.size (Y0 _),⟨⟨_,he⟩,hi⟩,fun b hb => ?_,q⟩
  have hb':s1.heap.objs.size <= b:=by
   rcases Vr.mp hb with rfl | hb
   ·exact YQ _
   ·have z:b=s1.heap.objs.size:=by simpa using hb
    rw[z];exact uX _
  exact I1.eu hb' (I1.aN.fresh hb')
end
section
variable {X:Cx} {nm:Str} {tp:Pos}
end
end L2
namespace L2
open PySem PySem.Spec PyProof.Rows PySem.W
open Builtin Builtin.ObjectAttr
section
variable {prog:Program} {w:World} {A:Around} {E:Value->Shared->Prop} {s:Shared} {K:Frag} {x D:Addr} {ox:Obj} {UT:Option Obj} {name:Str}
variable {h:Heap} {g:Array GenState} {d:Drawn} {t:Nat} {os:OsState} {nm q:Str} {C N:Addr} {bs bm UU:List Value} {Ml:Bool} {sn:List Str} {sub:List Value} {ab:Bool} {col:Option Bool} {dd:Option Addr} {k0 k1 k2 k3 k5:Option Value} {B newId x8:String}
end
end L2
namespace L2
open PySem PySem.Spec PyProof.Rows
section
variable {X:Cx} {pins:List (Addr × Obj)} {σ : St} {H:Hp} {s:Shared} {C f:Addr} {CX:iU} {k:Nat} {fd:FuncData} {ps:List Str} {sp:Sp} {E:XK} {x:Str} {p pos pos':Pos} {e o value:Expr} {es:List Expr} {ta tv:TE} {t:TA}
end
section
variable {X:Cx}
noncomputable def sQ:V->Option Value
 | .ty n=>some (.type n)
 | .ref a=>some (.ref a)
 | _=>none
theorem Mm {y:V} {u c:Value} (r:RelV y u) (e:sQ y=some c):u=c:=by
 cases y with
 | ty n=>cases e;exact r
 | ref a=>cases e;exact r
 | _=>cases e
theorem Mn:fX X (.builtin "isinstance") (fun xs H Q=>∃ x y c t b,xs=[x,y]/\sQ y=some c/\di X.K H x t/\PySem.W.kitOne X.K t c=some b/\Q (.bl b) H):=by
 intro pins s σ H xs us Q I rv h
 obtain⟨x,y,c,t,b,rfl,hc,ty,e,q⟩:=h
 obtain⟨u,w',rfl,rx,ry⟩:=rv.two
 rw[Mm ry hc]
 exact K_ I rx ty e fun tk=>⟨.bl b,H,I.tok tk,rfl,q⟩
end
theorem Mo {K:PySem.W.Frag} {a:Addr} {xs:List V} {g:TG} {tb:TS} {D:Ends} {σ : St} {H:Hp} (Pv:Nat->St->Hp->Prop) (h0:Pv 0 σ H) (hl:∀ i σ H,i <= xs.length->Pv i σ H->bq K H a xs)
  (hs:∀ i x T σ H,xs[i]? = some x->Pv i σ H->H T=none->g (.ref T) σ (upd H T (.tup [.int (i:Nat),x])) fun σ2 H2=>tb { D with nx:=Pv (i + 1),ct:=Pv (i + 1),bk:=D.nx } σ2 H2) (hd:∀ σ H,Pv xs.length σ H->D.nx σ H) :
  ∃ W:Nat->Nat->St->Hp->Prop,(∃ m,W 0 m σ H)/\∀ i m σ H,W i m σ H →
   ((qw K a).stop i H/\D.nx σ H)\/((qw K a).go i H/\∃ N:St->Hp->Prop,(∀ σ' H',N σ' H'->∃ m',m' < m/\W (i + 1) m' σ' H')/\∀ x H',(qw K a).qp i H x H'->g x σ H' fun σ2 H2=>tb { D with nx:=N,ct:=N,bk:=D.nx } σ2 H2):=by
 refine⟨fun i m σ H=>m=xs.length - i/\i <= xs.length/\Pv i σ H,⟨xs.length,by simp,V6 _,h0⟩,?_⟩
 rintro i m σ H ⟨rfl,hi,p⟩
 have q:=hl i σ H hi p
 by_cases d3:i < xs.length
 ·refine .inr ⟨⟨xs,xs[i],q,by simp[d3]⟩,Pv (i + 1),fun σ' H' p'=>⟨xs.length - (i + 1),by omega,rfl,d3,p'⟩,fun x H' y => ?_⟩
  obtain⟨T,v,rfl,hT,rfl,y⟩:=y
  exact hs i v T σ H (y xs q) p hT
 ·have e:i=xs.length:=by omega
  subst e
  exact .inl ⟨⟨xs,q,uX _⟩,hd σ H p⟩
section
variable {g:TG} {tf:TT} {te:TE} {l:Addr} {τ0:St} {H0:Hp} {Q:VK}
end
section
variable {X:Cx} {es:List Expr} {te:TE} {t:TA}
theorem x9 {c j p} (ha:PE X (.Constant c j p) te) (hr:PA X es t):PA X (.Constant c j p :: es) (hZ te t):=oK ha hr rfl
theorem x_ {x p} (ha:PE X (.Name x p) te) (hr:PA X es t):PA X (.Name x p :: es) (hZ te t):=oK ha hr rfl
theorem ya {f a k p} (ha:PE X (.Call f a k p) te) (hr:PA X es t):PA X (.Call f a k p :: es) (hZ te t):=oK ha hr rfl
theorem yb {a p} (ha:PE X (.List a p) te) (hr:PA X es t):PA X (.List a p :: es) (hZ te t):=oK ha hr rfl
theorem yc {a k p} (ha:PE X (.Tuple a k p) te) (hr:PA X es t):PA X (.Tuple a k p :: es) (hZ te t):=oK ha hr rfl
theorem yd {a k p} (ha:PE X (.Subscript a k p) te) (hr:PA X es t):PA X (.Subscript a k p :: es) (hZ te t):=oK ha hr rfl
end
inductive D where
 | non | bl (b:Bool) | int (i:Int) | str (x:Str) | tup (xs:List D) | lst (xs:List D)
mutual
noncomputable def Is (H:Hp):D->V->Prop
 | .non,v=>v = .non
 | .bl b,v=>v = .bl b
 | .int i,v=>v = .int i
 | .str x,v=>v = .str x
 | .tup ds,v=>∃ a vs,v = .ref a/\H a=some (.tup vs)/\ae H ds vs
 | .lst ds,v=>∃ a vs,v = .ref a/\H a=some (.lst vs)/\ae H ds vs
noncomputable def ae (H:Hp):List D->List V->Prop
 | [],vs=>vs=[]
 | d :: ds,vs=>∃ v r,vs=v :: r/\Is H d v/\ae H ds r
end
mutual
theorem Is.same {H H':Hp} (s:aJ H H'):∀ {d:D} {v:V},Is H d v->Is H' d v
 | .non,_,h=>h
 | .bl _,_,h=>h
 | .int _,_,h=>h
 | .str _,_,h=>h
 | .tup _,_,h=>by
  simp only[Is] at h ⊢
  obtain⟨a,vs,e,h1,h2⟩:=h
  exact⟨a,vs,e,s _ _ h1,ae.same s h2⟩
 | .lst _,_,h=>by
  simp only[Is] at h ⊢
  obtain⟨a,vs,e,h1,h2⟩:=h
  exact⟨a,vs,e,s _ _ h1,ae.same s h2⟩
theorem ae.same {H H':Hp} (s:aJ H H'):∀ {d:List D} {v:List V},ae H d v->ae H' d v
 | [],_,h=>h
 | _ :: _,_,h=>by
  simp only[ae] at h ⊢
  obtain⟨v,r,e,h1,h2⟩:=h
  exact⟨v,r,e,Is.same s h1,ae.same s h2⟩
end
theorem ae.length {H:Hp}:∀ {ds:List D} {vs:List V},ae H ds vs->vs.length=ds.length
 | [],_,h=>by simp only[ae] at h;rw[h];rfl
 | _ :: _,_,h=>by
  simp only[ae] at h
  obtain⟨v,r,rfl,_,h2⟩:=h
  rw[DE,DE,ae.length h2]
theorem ae.get {H:Hp}:∀ {ds:List D} {vs:List V} {i:Nat} {v:V},ae H ds vs->vs[i]? = some v->∃ d,ds[i]? = some d/\Is H d v
 | [],_,i,v,h,e=>by simp only[ae] at h;rw[h] at e;simp at e
 | d :: ds,_,i,v,h,e=>by
  simp only[ae] at h
  obtain⟨v',r,rfl,h1,h2⟩:=h
  cases i with
  | zero=>simp at e;subst e;exact⟨d,rfl,h1⟩
  | succ i=>simp at e;simpa using ae.get h2 e
theorem ae.nil {H:Hp}:ae H [] []:=by simp only[ae]
theorem ae.cons {H:Hp} {d:D} {ds:List D} {v:V} {vs:List V} (h:Is H d v) (r:ae H ds vs):ae H (d :: ds) (v :: vs):=by
 simp only[ae]
 exact⟨v,vs,rfl,h,r⟩
theorem ae.snoc {H:Hp} {d:D} {v:V}:∀ {ds:List D} {vs:List V},ae H ds vs->Is H d v->ae H (ds ++ [d]) (vs ++ [v])
 | [],_,h,q=>by simp only[ae] at h;subst h;exact .cons q .nil
 | _ :: _,_,h,q=>by
  simp only[ae] at h
  obtain⟨v',r,rfl,h1,h2⟩:=h
  exact .cons h1 (ae.snoc h2 q)
mutual
noncomputable def dep:D->Nat
 | .tup ds=>bH ds + 1
 | .lst ds=>bH ds + 1
 | _=>0
noncomputable def bH:List D->Nat
 | []=>0
 | d :: ds=>max (dep d) (bH ds)
end
theorem ye:∀ {ds:List D} {i:Nat} {d:D},ds[i]? = some d->dep d <= bH ds
 | [],i,d,e=>by simp at e
 | d' :: ds,0,d,e=>by simp at e;subst e;simp only[bH];exact Nat.le_max_left _ _
 | d' :: ds,i + 1,d,e=>by simp at e;simp only[bH];exact V_ (ye e) (Nat.le_max_right _ _)
noncomputable def fM:D->String
 | .non => "NoneType" | .bl _ => "bool" | .int _ => "int" | .str _ => "str" | .tup _ => "tuple" | .lst _ => "list"
theorem Is.ty {K:PySem.W.Frag} {H:Hp}:∀ {d:D} {v:V},Is H d v->di K H v (.type (fM d))
 | .non,_,h=>by cases (show _=_ from h);exact .non
 | .bl b,_,h=>by cases (show _=_ from h);exact .bl b
 | .int i,_,h=>by cases (show _=_ from h);exact .int i
 | .str x,_,h=>by cases (show _=_ from h);exact .str x
 | .tup _,_,h=>by
  simp only[Is] at h
  obtain⟨a,vs,rfl,h1,_⟩:=h
  exact .tup h1
 | .lst _,_,h=>by
  simp only[Is] at h
  obtain⟨a,vs,rfl,h1,_⟩:=h
  exact .lst h1
noncomputable def c5 (T c:String):Bool:=T == c || (T == "bool" && c == "int")
section
variable {K:PySem.W.Frag}
theorem Mp:∀ T∈["NoneType", "bool", "int", "str", "tuple", "list"],PySem.W.kitOne K (.type T) (.type "bool")=some (c5 T "bool"):=by
 intro T hT
 simp only[Vr,VQ,Ye] at hT
 rcases hT with rfl | rfl | rfl | rfl | rfl | rfl<;>kernel_rfl
theorem Mq:∀ T∈["NoneType", "bool", "int", "str", "tuple", "list"],PySem.W.kitOne K (.type T) (.type "int")=some (c5 T "int"):=by
 intro T hT
 simp only[Vr,VQ,Ye] at hT
 rcases hT with rfl | rfl | rfl | rfl | rfl | rfl<;>kernel_rfl
theorem kit_tuple:∀ T∈["NoneType", "bool", "int", "str", "tuple", "list"],PySem.W.kitOne K (.type T) (.type "tuple")=some (c5 T "tuple"):=by
 intro T hT
 simp only[Vr,VQ,Ye] at hT
 rcases hT with rfl | rfl | rfl | rfl | rfl | rfl<;>kernel_rfl
theorem Mr:∀ T∈["NoneType", "bool", "int", "str", "tuple", "list"],PySem.W.kitOne K (.type T) (.type "list")=some (c5 T "list"):=by
 intro T hT
 simp only[Vr,VQ,Ye] at hT
 rcases hT with rfl | rfl | rfl | rfl | rfl | rfl<;>kernel_rfl
theorem u4 (d:D):fM d∈["NoneType", "bool", "int", "str", "tuple", "list"]:=by cases d<;>simp[fM]
end
section
variable {X:Cx}
theorem PE.weak {e:Expr} {t t':TE} (h:PE X e t) (k:∀ σ H Q,t' σ H Q->t σ H Q):PE X e t':=fun pins s σ H Q I q=>h pins s σ H Q I (k σ H Q q)
theorem PT.weak {e:Expr} {t t':TT} (h:PT X e t) (k:∀ σ H Q,t' σ H Q->t σ H Q):PT X e t':=fun pins s σ H Q I q=>h pins s σ H Q I (k σ H Q q)
theorem PA.weak {es:List Expr} {t t':TA} (h:PA X es t) (k:∀ σ H Q,t' σ H Q->t σ H Q):PA X es t':=fun pos pins s σ H Q I q=>h pos pins s σ H Q I (k σ H Q q)
theorem PS.weak {st:Stmt} {t t':TS} (h:PS X st t) (k:∀ D σ H,t' D σ H->t D σ H):PS X st t':=fun pins s σ H D I q=>h pins s σ H D I (k D σ H q)
theorem fW.weak {st:List Stmt} {t t':TS} (h:fW X st t) (k:∀ D σ H,t' D σ H->t D σ H):fW X st t':=fun pins s σ H D I q=>h pins s σ H D I (k D σ H q)
end
section
variable {κ : Type} [DecidableEq κ]
noncomputable def dq (ah:List (κ × V)) (k : κ):Option V:=(ah.find? fun kv=>decide (kv.1=k)).map (·.2)
noncomputable def putK (ah:List (κ × V)) (k : κ) (v:V):List (κ × V) :=
 if (ah.any fun kv=>decide (kv.1=k))=true then ah.map (fun kv=>if kv.1=k then (kv.1,v) else kv) else ah ++ [(k,v)]
theorem u5 {p : κ × V} {r:List (κ × V)} {k : κ} (e:p.1=k):dq (p :: r) k=some p.2:=by simp[dq,Xy,e]
theorem u6 {p : κ × V} {r:List (κ × V)} {k : κ} (e:¬ p.1=k):dq (p :: r) k=dq r k:=by simp[dq,Xy,e]
theorem DT (k : κ):∀ ah:List (κ × V),(ah.any fun kv=>decide (kv.1=k))=(dq ah k).isSome
 | []=>rfl
 | p :: r=>by
  rw[W9]
  by_cases e:p.1=k
  ·simp only[u5 e,LV e,Bool.true_or,Option.isSome_some]
  ·rw[u6 e,DF e,Bool.false_or];exact DT k r
theorem yf (ah:List (κ × V)) (k : κ) (v:V):(putK ah k v).length <= ah.length + 1:=by
 unfold putK
 split
 ·rw[oV];omega
 ·rw[DG,DE,WD];omega
theorem dJ.dM {o:Option V} {u:Option Value} (r:dJ o u):o.isSome=u.isSome:=by
 cases o with
 | none=>cases u with
  | none=>rfl
  | some _=>exact (show False from r).elim
 | some _=>cases u with
  | none=>exact (show False from r).elim
  | some _=>rfl
theorem dJ.getD {o:Option V} {u:Option Value} {d:V} {d':Value} (r:dJ o u) (rd:RelV d d'):RelV (o.getD d) (u.getD d'):=by
 cases o with
 | none=>cases u with
  | none=>exact rd
  | some _=>exact (show False from r).elim
 | some _=>cases u with
  | none=>exact (show False from r).elim
  | some _=>exact r
theorem KV.val {ah:List (κ × V)} {vs:List (κ × Value)} (r:KV ah vs) (k : κ):dJ (dq ah k) (valueAt vs k):=by
 unfold KV at r
 induction r with
 | nil=>exact True.intro
 | @cons p q ps qs h t ih =>
  obtain⟨h1,h2⟩:=h
  by_cases e:p.1=k
  ·have e':q.1=k:=h1.symm.trans e
   have b:valueAt (q :: qs) k=some q.2:=by simp[valueAt,Xy,e']
   rw[u5 e,b];exact h2
  ·have e':¬ q.1=k:=fun z=>e (h1.trans z)
   have b:valueAt (q :: qs) k=valueAt qs k:=by simp[valueAt,Xy,e']
   rw[u6 e,b];exact ih
theorem KV.any {ah:List (κ × V)} {vs:List (κ × Value)} (r:KV ah vs) (k : κ):(ah.any fun kv=>decide (kv.1=k))=vs.any fun kv=>decide (kv.1=k):=by
 unfold KV at r
 induction r with
 | nil=>rfl
 | cons h t ih=>rw[W9,W9,ih,h.1]
theorem KV.ic {ah:List (κ × V)} {vs:List (κ × Value)} (r:KV ah vs) (k : κ) {y:V} {u:Value} (ry:RelV y u) :
  KV (ah.map fun kv=>if kv.1=k then (kv.1,y) else kv) (vs.map fun kv=>if kv.1=k then (kv.1,u) else kv):=by
 unfold KV at r ⊢
 induction r with
 | nil=>exact .nil
 | @cons p q ps qs h t ih =>
  rw[Vy,Vy]
  refine .cons ?_ ih
  obtain⟨h1,h2⟩:=h
  by_cases e:p.1=k
  ·rw[UO e,UO (h1.symm.trans e)];exact⟨h1,ry⟩
  ·rw[LX e,LX (fun z=>e (h1.trans z))];exact⟨h1,h2⟩
theorem KV.put {ah:List (κ × V)} {vs:List (κ × Value)} (r:KV ah vs) (k : κ) {y:V} {u:Value} (ry:RelV y u):KV (putK ah k y) (stored vs k u):=by
 unfold putK stored
 rw[r.any k]
 by_cases e:(vs.any fun kv=>decide (kv.1=k))=true
 ·rw[UO e,UO e];exact r.ic k ry
 ·rw[LX e,LX e];exact Paired.snoc r ⟨rfl,ry⟩
theorem KV.length {ah:List (κ × V)} {vs:List (κ × Value)} (r:KV ah vs):ah.length=vs.length:=Paired.length r
end
theorem qx {P:Program} {w:World} {k:Key} {u:Value} (r:RelV (kV k) u):(gw P w).is k u=true:=by
 cases k with
 | inl i=>obtain⟨t,e⟩:=(show ∃ t,u=Value.int i t from r);subst e;exact JK P w i t
 | inr x=>obtain⟨t,e⟩:=(show ∃ t,u=Value.str x t from r);subst e;exact JL P w x t
theorem DU {P:Program} {w:World}:∀ {ks:List Key} {us:List Value},Vals (ks.map kV) us->ItemsAre (gw P w) ks us
 | [],_,r=>by rw[W8] at r;cases r;exact .nil
 | k :: ks,_,r=>by
  rw[Vy] at r
  cases r with
  | cons h t=>exact .cons (qx h) (DU t)
noncomputable abbrev KT (H:Hp):List (List Key × V)->List (List Key × Addr × Value)->Prop:=Paired fun p q=>p.1=q.1/\H q.2.1=some (.tup (p.1.map kV))/\RelV p.2 q.2.2
theorem KT.val {H:Hp} {ah:List (List Key × V)} {xs:List (List Key × Addr × Value)} (r:KT H ah xs) (k:List Key):dJ (dq ah k) ((atKey xs k).map (·.2)):=by
 induction r with
 | nil=>exact True.intro
 | @cons p q ps qs h t ih =>
  obtain⟨h1,_,h2⟩:=h
  by_cases e:p.1=k
  ·have e':q.1=k:=h1.symm.trans e
   have b:atKey (q :: qs) k=some q.2:=by simp[atKey,Xy,e']
   rw[u5 e,b];exact h2
  ·have e':¬ q.1=k:=fun z=>e (h1.trans z)
   have b:atKey (q :: qs) k=atKey qs k:=by simp[atKey,Xy,e']
   rw[u6 e,b];exact ih
theorem KT.ic {H:Hp} {ah:List (List Key × V)} {xs:List (List Key × Addr × Value)} (r:KT H ah xs) (k:List Key) {y:V} {u:Value} (ry:RelV y u) :
  KT H (ah.map fun kv=>if kv.1=k then (kv.1,y) else kv) (xs.map (putAt k u)):=by
 induction r with
 | nil=>exact .nil
 | @cons p q ps qs h t ih =>
  rw[Vy,Vy]
  refine .cons ?_ ih
  obtain⟨h1,h2,h3⟩:=h
  unfold putAt
  by_cases e:p.1=k
  ·rw[UO e,UO (h1.symm.trans e)];exact⟨h1,h2,ry⟩
  ·rw[LX e,LX (fun z=>e (h1.trans z))];exact⟨h1,h2,h3⟩
theorem KT.put {H:Hp} {ah:List (List Key × V)} {xs:List (List Key × Addr × Value)} (r:KT H ah xs) (k:List Key) {b:Addr} {y:V} {u:Value} (hb:H b=some (.tup (k.map kV))) (ry:RelV y u) :
  KT H (putK ah k y) (storedH xs k b u):=by
 have e:(ah.any fun kv=>decide (kv.1=k))=(atKey xs k).isSome:=by
  rw[DT,(r.val k).dM,YR]
 unfold putK storedH
 rw[e]
 by_cases q:(atKey xs k).isSome=true
 ·rw[UO q,UO q];exact r.ic k ry
 ·rw[LX q,LX q];exact Paired.snoc r ⟨rfl,hb,ry⟩
theorem KT.keeps {H H':Hp} {ah:List (List Key × V)} {xs:List (List Key × Addr × Value)} (r:KT H ah xs) (ht:∀ b ys,H b=some (.tup ys)->H' b=some (.tup ys)):KT H' ah xs :=
 Paired.oo r fun _ _ z=>⟨z.1,ht _ _ z.2.1,z.2.2⟩
section
variable {P:Program} {w:World} {H:Hp} {h:Heap} {a:Addr}
theorem DW {u:HO} (ok:dg P w H h) (e:Rd H a u):aQ P w H h a u:=e.ok ok
theorem qy {ah:List (Key × V)} (ok:dg P w H h) (e:Rd H a (.dK ah)):ah.length <= sizeLine/\(a == sysModules)=false/\∃ vs,KV ah vs/\h.DictOf (gw P w) a vs :=
 show aQ P w H h a (.dK ah) from DW ok e
theorem DX {ah:List (Key × V)} (ok:dg P w H h) (e:H a=some (.dK ah)):ah.length <= sizeLine/\(a == sysModules)=false/\∃ vs,KV ah vs/\h.DictOf (gw P w) a vs:=qy ok (.inl e)
theorem sR {ks:List Key} (ok:dg P w H h) (e:H a=some (.tup (ks.map kV))):(tupleKind (gw P w)).is h ks a:=by
 obtain⟨_,aq,r,o,h1,h2,n,h3⟩:=(show aQ P w H h a (.tup (ks.map kV)) from ok a _ e)
 exact⟨o,aq.toArray,n,h1,h2,h3,by simpa using DU r⟩
theorem qA {ah:List (List Key × V)} (ok:dg P w H h) (e:Rd H a (.dT ah)):ah.length <= sizeLine/\(a == sysModules)=false ∧
  ∃ xs,KT H ah xs/\h.DictOfH (tupleKind (gw P w)) a xs:=by
 obtain⟨z,y,xs,r,o,es,ep,h1,h2,h3,h4,h5⟩:=(show aQ P w H h a (.dT ah) from DW ok e)
 refine⟨z,y,xs,r,o,es,ep,h1,h2,h3,h4,fun x hx => ?_,h5⟩
 have all:∀ {l:List (List Key × V)} {m:List (List Key × Addr × Value)},KT H l m->∀ x∈m,(tupleKind (gw P w)).is h x.1 x.2.1:=by
  intro l m q
  induction q with
  | nil=>intro x hx;exact nomatch hx
  | @cons p q ps qs hq t ih =>
   intro x hx
   rcases Vr.mp hx with e | hx
   ·subst e
    exact sR ok (by rw[<-hq.1];exact hq.2.1)
   ·exact ih x hx
 exact all r x hx
theorem Ms {ah:List (List Key × V)} (ok:dg P w H h) (e:H a=some (.dT ah)):ah.length <= sizeLine/\(a == sysModules)=false ∧
  ∃ xs,KT H ah xs/\h.DictOfH (tupleKind (gw P w)) a xs:=qA ok (.inl e)
end
noncomputable def dO (H:Hp) (a:Addr) (y:V) (r:Option V):Prop :=
 (∃ ah k,Rd H a (.dK ah)/\y=kV k/\r=dq ah k)\/∃ ah k b,Rd H a (.dT ah)/\y = .ref b/\H b=some (.tup (k.map kV))/\r=dq ah k
noncomputable def j4 (H:Hp) (a:Addr) (y v:V) (H':Hp):Prop :=
 (∃ ah k,H a=some (.dK ah)/\y=kV k/\ah.length < sizeLine/\H'=upd H a (.dK (putK ah k v))) ∨
 ∃ ah k b,H a=some (.dT ah)/\y = .ref b/\H b=some (.tup (k.map kV))/\ah.length < sizeLine/\H'=upd H a (.dT (putK ah k v))
theorem dO.k {H:Hp} {a:Addr} {ah:List (Key × V)} {k:Key} (e:H a=some (.dK ah)):dO H a (kV k) (dq ah k) := .inl ⟨ah,k,.inl e,rfl,rfl⟩
theorem j4.k {H:Hp} {a:Addr} {ah:List (Key × V)} {k:Key} {v:V} (e:H a=some (.dK ah)) (hl:ah.length < sizeLine):j4 H a (kV k) v (upd H a (.dK (putK ah k v))) := .inl ⟨ah,k,e,rfl,hl,rfl⟩
section
variable {X:Cx} {pins:List (Addr × Obj)} {σ : St} {H:Hp} {s:Shared} {a:Addr} {y v:V} {u r:Value} {o:Option V} {A:Around} {E:Value->Shared->Prop}
theorem Inv.big (I:Inv X pins σ H s):sysModules < s.heap.objs.size:=by
 have h:mainGlobals < s.heap.objs.size:=(I.mod.glob.keeps I.bk).lt
 exact Nat.lt_trans (by decide) h
theorem Mt {Q:Value->Shared->Prop} (hu:A.units + 1 < cLine) (I:Inv X pins σ H s) (g:dO H a y (some v)) (ry:RelV y u) (h:∀ w' s',Inv X pins σ H s'->RelV v w'->Q w' s') :
  wpAny (model X.prog X.w) A (getItem (.ref a) u) Q E s:=by
 rcases g with⟨ah,k,e,ey,l⟩ | ⟨ah,k,b,e,ey,eb,l⟩
 ·subst ey
  obtain⟨z,hd,vs,rel,dd⟩:=qy I.aN e
  obtain⟨w',hw,iY⟩:=dJ.some_of (v:=v) (o:=valueAt vs k) (by rw[l];exact rel.val k)
  exact wpAny_getItem_of (qx ry) dd.mapOf hw (h w' _ (I.tok _) iY)
 ·subst ey
  cases (show u=Value.ref b from ry)
  obtain⟨z,hd,xs,rel,dd⟩:=qA I.aN e
  obtain⟨w',hw,iY⟩:=dJ.some_of (v:=v) (o:=(atKey xs k).map (·.2)) (by rw[l];exact rel.val k)
  obtain⟨p,hp,Mu⟩:=UP.mp hw
  refine wpAny_getItem_heap (X1 hu) (sR I.aN eb) dd hp ?_
  rw[Mu]
  exact h w' _ (I.tok _) iY
theorem Mv {Q:Value->Shared->Prop} (hu:A.units + 1 < cLine) (I:Inv X pins σ H s) (g:dO H a y o) (ry:RelV y u) (h:∀ s',Inv X pins σ H s'->Q (.bool (!o.isSome)) s') :
  wpAny (model X.prog X.w) A (compareOp .NotIn u (.ref a)) Q E s:=by
 rcases g with⟨ah,k,e,ey,l⟩ | ⟨ah,k,b,e,ey,eb,l⟩
 ·subst ey
  obtain⟨z,hd,vs,rel,dd⟩:=qy I.aN e
  refine wpAny_notIn_of (qx ry) hd dd.mapOf ?_
  rw[<-(rel.val k).dM,<-l]
  exact h _ (I.tok _)
 ·subst ey
  cases (show u=Value.ref b from ry)
  obtain⟨z,hd,xs,rel,dd⟩:=qA I.aN e
  refine wpAny_notIn_heap (X1 hu) (sR I.aN eb) hd dd ?_
  have q:=(rel.val k).dM
  rw[YR] at q
  rw[<-q,<-l]
  exact h _ (I.tok _)
theorem yg {h':Heap} {t':Nat} {ob:HO} (I:Inv X pins σ H s) (mu:rO (H a)) (hs:Heap.SameBut a s.heap h') (he:∃ q,h'.get? a=some q) (new:aQ X.prog X.w (upd H a ob) h' a ob) :
  Inv X pins σ (upd H a ob) { s with heap:=h',toks:=t' } :=
 I.write (x:=a) (e:=a) mu (.inl rfl) (fun b q hb z=>(hs.2 b hb).trans z) he new
theorem DY {P:Program} {w:World} {H':Hp} {h':Heap} {ah:List (Key × V)} {vs:List (Key × Value)} (z:ah.length <= sizeLine) (hd:(a == sysModules)=false) (rel:KV ah vs) (dd:h'.DictOf (gw P w) a vs) :
  aQ P w H' h' a (.dK ah):=⟨z,hd,vs,rel,dd⟩
theorem Mw {H':Hp} {Q:Unit->Shared->Prop} (hu:A.units + 1 < cLine) (I:Inv X pins σ H s) (g:j4 H a y v H') (ry:RelV y u) (rv:RelV v r) (h:∀ s',Inv X pins σ H' s'->Q () s') :
  wpAny (model X.prog X.w) A (setItem (.ref a) u r) Q E s:=by
 rcases g with⟨ah,k,e,ey,l,eH⟩ | ⟨ah,k,b,e,ey,eb,l,eH⟩
 ·subst ey eH
  obtain⟨z,hd,vs,rel,dd⟩:=DX I.aN e
  have hz:vs.length <= sizeLine:=by rw[<-rel.length];exact z
  have hl:(putK ah k v).length <= sizeLine:=by have:=yf ah k v;omega
  refine wpAny_setItem_pairs (hsz:=hz) (qx ry) dd fun h' oY hs=>h _ ?_
  have he:∃ q,h'.get? a=some q:=let ⟨q,_,_,hq,_⟩:=oY; ⟨q,hq⟩
  exact yg I (by rw[e];exact True.intro) hs he (DY hl hd (rel.put k rv) oY)
 ·subst ey eH
  cases (show u=Value.ref b from ry)
  obtain⟨z,hd,xs,rel,dd⟩:=Ms I.aN e
  have hz:xs.length <= sizeLine:=by rw[<-Paired.length rel];exact z
  have hl:(putK ah k v).length <= sizeLine:=by have:=yf ah k v;omega
  refine wpAny_setItem_heap (hsz:=hz) (X1 hu) (sR I.aN eb) dd fun h' oY hs=>h _ ?_
  obtain⟨q,es,ep,hq,h2,h3,h4,_,h5⟩:=oY
  refine yg I (by rw[e];exact True.intro) hs ⟨q,hq⟩ ⟨hl,hd,_,(rel.put k eb rv).keeps fun c ys ec => ?_,q,es,ep,hq,h2,h3,h4,h5⟩
  rw[aX (JM ec e (fun z=>nomatch z))]
  exact ec
end
section
variable {X:Cx} {pins:List (Addr × Obj)} {σ : St} {H:Hp} {s:Shared} {a:Addr} {ah:List (Key × V)} {k:Key} {u:Value} {A:Around} {E:Value->Shared->Prop}
end
noncomputable def my (i:Expr):Prop:=∀ ov iv,subscripted i false ov iv=operate [ov,iv] (getItem ov iv)
theorem Mx {prog:Program} {w:World} {A:Around} {E:Value->Shared->Prop} {s:Shared} {env:Env} {value slice:Expr} {pos:Pos} {T id:String} {Q:Value->Shared->Prop}
  (hl:typeLookup (.type T) "__getitem__" = pure (some (.builtin id))) (hs:my slice)
  (h:wpAny (model prog w) A (eval value env) (fun o s₁ => wpAny (model prog w) A (eval slice env) (fun i s₂ => s₂.TypeIs o T/\wpAny (model prog w) A (getItem o i) Q E s₂) E s₁) E s) :
  wpAny (model prog w) A (eval (.Subscript value slice pos) env) Q E s:=by
 refine Subscript_ (Ww h (fun o s₁ h₁ => Ww h₁ (fun i s₂ h₂ => ?_) fun _ _ x=>x) fun _ _ x=>x)
 obtain⟨hT,h₂⟩:=h₂
 unfold subscriptTail
 refine mq ?_
 rw[getitemInPython_of_ne hT.not_modules]
 refine mq (Zl hT hl ?_)
 have fin:wpAny (model prog w) A (subscripted slice false o i) (fun r s₃ => wpAny (model prog w) A (letTemporaryGo value o r >>= fun _=>pure r) Q E s₃) E s₂ := by
  rw[hs o i]
  exact wpAny_operating (Ww h₂ (fun r s₃ h₃ => mq (wpAny_letTemporaryGo (xR h₃))) fun _ _ x=>x)
 first
  | exact xR (mq fin)
  | exact mq (xR (mq fin))
  | exact mq fin
theorem Mz {X:Cx} {pins:List (Addr × Obj)} {σ : St} {H:Hp} {s:Shared} {a:Addr} {y:V} {o:Option V} (I:Inv X pins σ H s) (g:dO H a y o):s.TypeIs (.ref a) "dict" := by
 rcases g with⟨ah,k,e,_,_⟩ | ⟨ah,k,b,e,_,_,_⟩
 ·obtain⟨_,_,vs,_,dd⟩:=qy I.aN e
  exact dd.typeIs
 ·obtain⟨_,_,xs,_,dd⟩:=qA I.aN e
  exact dd.typeIs
noncomputable def DZ (td ty:TE):TE:=fun σ H Q=>td σ H fun x H1=>ty σ H1 fun y H2=>∃ a v,x = .ref a/\dO H2 a y (some v)/\Q v H2
noncomputable def yh (ty td:TE):TE:=fun σ H Q=>ty σ H fun y H1=>td σ H1 fun x H2=>∃ a o,x = .ref a/\dO H2 a y o/\Q (.bl (!o.isSome)) H2
noncomputable def D0 (td ty tv:TE):TS:=fun D σ H=>tv σ H fun v H1=>td σ H1 fun x H2=>ty σ H2 fun y H3=>∃ a H4,x = .ref a/\j4 H3 a y v H4/\D.nx σ H4
section
variable {X:Cx} {o i e value:Expr} {pos pos' xu:Pos} {td ty tv:TE}
theorem MA (hu:X.A.units + 1 < cLine) (ho:PE X o td) (hi:PE X i ty) (hs:my i):PE X (.Subscript o i pos) (DZ td ty):=by
 intro pins s σ H Q I h
 refine Mx PySem.F.slot_dict_getitem.lookup hs (aZ (ho pins s σ H _ I h) fun u s1 h0_ => el5 h0_ fun x H1 I1 rx q1 =>aZ (hi pins s1 σ H1 _ I1 q1) fun iv s2 ⟨y,H2,I2,ry,a,v,ex,g,q2⟩ => ?_)
 subst ex
 obtain rfl:u=Value.ref a:=rx
 exact⟨Mz I2 g,Mt hu I2 g ry fun w' s3 I3 iY=>⟨v,H2,I3,iY,q2⟩⟩
theorem MB (hu:X.A.units + 1 < cLine) (hi:PE X i ty) (ho:PE X o td):PC X .NotIn i o (yh ty td):=by
 intro pins s σ H Q I h
 refine aZ (hi pins s σ H _ I h) fun iv s1 h0_ => el5 h0_ fun y H1 I1 ry q1 =>aZ (ho pins s1 σ H1 _ I1 q1) fun u s2 ⟨x,H2,I2,rx,a,ov,ex,g,q2⟩ => ?_
 subst ex
 obtain rfl:u=Value.ref a:=rx
 exact Mv hu I2 g ry fun s3 I3=>⟨.bl (!ov.isSome),H2,I3,rfl,q2⟩
theorem MC (hu:X.A.units + 1 < cLine) (ho:PE X o td) (hi:PE X i ty) (hv:PE X value tv) (hs:swapsWith value (some (.Subscript o i pos')) pos.line X.env=pure false) :
  PS X (.Assign [.Subscript o i pos'] value pos) (D0 td ty tv):=by
 intro pins s σ H D I h
 refine wpAny_Assign_Subscript (aZ (hv pins s σ H _ I h) fun r s1 h0_ => el5 h0_ fun v H1 I1 rv q1 =>aZ (ho pins s1 σ H1 _ I1 q1) fun u s2 h0_ => el5 h0_ fun x H2 I2 rx q2 =>aZ (hi pins s2 σ H2 _ I2 q2) fun iv s3 ⟨y,H3,I3,ry,a,H4,ex,g,q3⟩ => ?_) hs
 subst ex
 obtain rfl:u=Value.ref a:=rx
 exact Mw hu I3 g ry rv fun s4 I4=>⟨σ,H4,I4,q3⟩
end
theorem MD {P:Program} {w:World} {H:Hp} (h:Heap) (hb:sysModules < h.objs.size):aQ P w H (h.push { cls := .type "dict",data := .dict #[] }) h.objs.size (.dK []) :=
 ⟨V6 _,beq_eq_false_iff_ne.mpr (XC (Vx hb)),[],.nil,Heap.DictOf.new h⟩
section
variable {X:Cx} {pos:Pos}
end
noncomputable def yi:List (TE × TE)->St->Hp->(List (V × V)->Hp->Prop)->Prop
 | [],_,H,Q=>Q [] H
 | (tk,tv) :: r,σ,H,Q=>tk σ H fun x H1=>tv σ H1 fun y H2=>yi r σ H2 fun ps H3=>Q ((x,y) :: ps) H3
noncomputable abbrev VV:List (V × V)->List (Value × Value)->Prop:=Paired fun p q=>RelV p.1 q.1/\RelV p.2 q.2
noncomputable def sS (X:Cx) (pos:Pos) (keys:List (Option Expr)) (values:List Expr) (jB:List (TE × TE)):Prop :=
 ∀ (pins:List (Addr × Obj)) (s:Shared) (σ : St) (H:Hp) (Q:List (V × V)->Hp->Prop),Inv X pins σ H s->yi jB σ H Q →
  wpAny (model X.prog X.w) X.A (evalPairs (pairTrees keys values X.env pos)) (fun vs s'=>∃ ps H',Inv X pins σ H' s'/\VV ps vs/\Q ps H') X.xe s
theorem ME {X:Cx} {pos:Pos}:sS X pos [] [] []:=fun pins s σ H Q I h=>pairTrees_nil_walk ⟨[],H,I,.nil,h⟩
theorem MF {X:Cx} {pos:Pos} {k v:Expr} {ks:List (Option Expr)} {vs:List Expr} {tk tv:TE} {jB:List (TE × TE)} (hk:PE X k tk) (hv:PE X v tv) (hr:sS X pos ks vs jB) :
  sS X pos (some k :: ks) (v :: vs) ((tk,tv) :: jB):=fun pins s σ H Q I h =>
 pairTrees_cons_walk (aZ (hk pins s σ H _ I h) fun u s1 h0_ => el5 h0_ fun x H1 I1 rx q1 =>aZ (hv pins s1 σ H1 _ I1 q1) fun w2 s2 h0_ => el5 h0_ fun y H2 I2 ry q2 =>
  aZ (hr pins s2 σ H2 _ I2 q2) fun ws s3 h0_ => el5 h0_ fun ps H3 I3 rel q3 =>⟨(x,y) :: ps,H3,I3,.cons ⟨rx,ry⟩ rel,q3⟩)
noncomputable def sT (ah more:List (Key × V)):List (Key × V):=more.foldl (fun acc kv=>putK acc kv.1 kv.2) ah
theorem KV.merge:∀ {more:List (Key × V)} {rs:List (Key × Value)} {ah:List (Key × V)} {vs:List (Key × Value)},KV more rs->KV ah vs->KV (sT ah more) (merged vs rs):=by
 intro more rs ah vs r
 unfold KV at r
 induction r generalizing ah vs with
 | nil=>intro q;exact q
 | @cons p q ps qs h t ih =>
  intro r0
  have e:KV (putK ah p.1 p.2) (stored vs q.1 q.2):=by
   have:=r0.put p.1 h.2
   rw[<-h.1];exact this
  exact ih e
theorem D1:∀ (more ah:List (Key × V)),(sT ah more).length <= ah.length + more.length
 | [],ah=>by show ah.length <= ah.length + 0;omega
 | p :: r,ah=>by
  have h1:=D1 r (putK ah p.1 p.2)
  have h2:=yf ah p.1 p.2
  show (sT (putK ah p.1 p.2) r).length <= _
  rw[DE];omega
theorem D2 {P:Program} {w:World}:∀ {ah:List (Key × V)} {ws:List (Value × Value)},VV (ah.map fun kv=>(kV kv.1,kv.2)) ws->∃ rs,Carries (gw P w) ws rs/\KV ah rs
 | [],_,r=>by rw[W8] at r;cases r;exact⟨[],True.intro,.nil⟩
 | p :: ah,_,r=>by
  rw[Vy] at r
  cases r with
  | @cons a b as bs h t =>
   obtain⟨rs,c,q⟩:=D2 (P:=P) (w:=w) t
   obtain⟨b1,b2⟩:=b
   exact⟨(p.1,b2) :: rs,⟨qx h.1,rfl,c⟩,.cons ⟨rfl,h.2⟩ q⟩
noncomputable def D3 (jB:List (TE × TE)):TE:=fun σ H Q=>∀ p,H p=none->yi jB σ (upd H p (.dK [])) fun ps H2=>H2 p=some (.dK [])/\∃ ah:List (Key × V),ps=ah.map (fun kv=>(kV kv.1,kv.2))/\ah.length <= 15/\Q (.ref p) (upd H2 p (.dK (sT [] ah)))
theorem MG {X:Cx} {pos:Pos} {keys:List (Option Expr)} {values:List Expr} {jB:List (TE × TE)} (h:sS X pos keys values jB) (gv:keys.all (·.isSome)=true) (hl:keys.length=values.length) (h0:keys≠[])
  (yj:keys.length <= 15):PE X (.Dict keys values pos) (D3 jB):=by
 intro pins s σ H Q I q
 have hn:=I.aN.fresh (uX s.heap.objs.size)
 have I1:=I.laid (a:=s.heap.objs.size) (o := .dK []) (h':=s.heap.push { cls := .type "dict",data := .dict #[] }) (t':=s.toks) (fun _ _ q=>qt _ q) (uX _) (MD s.heap I.big)
 refine wpAny_Dict_walk (knd:=gw X.prog X.w) gv hl h0 yj (aZ (h pins _ σ _ _ I1 (q _ hn)) fun ws s2 ⟨ps,H2,I2,rel,e,ah,ep,lk,q2⟩ => ?_)
 subst ep
 obtain⟨rs,c,rk⟩:=D2 (P:=X.prog) (w:=X.w) rel
 obtain⟨z,hd,UW,r0,dd⟩:=DX I2.aN e
 cases r0
 refine⟨rs,c,dd,fun h' oY hs=>⟨.ref s.heap.objs.size,_,?_,rfl,q2⟩⟩
 have hz:(sT [] ah).length <= sizeLine:=by
  have h1:=D1 ah []
  rw[WD] at h1
  rw[Wg];omega
 have he:∃ q,h'.get? s.heap.objs.size=some q:=let ⟨q,_,_,hq,_⟩:=oY; ⟨q,hq⟩
 exact yg I2 (by rw[e];exact True.intro) hs he (DY hz hd (rk.merge .nil) oY)
structure M2 (X:Cx) (o:Expr) (m:Str) (apos:Pos) (e f:Expr) (bL:Pos):Prop where
 base:attributeBase o m X.env (eval o X.env)=eval o X.env
 hV:((backTo bL (starEach [e,f] X.env)).all (fun x => !x.1) && (backToKw bL (keywordEach [] X.env)).all (fun x=>x.1.isSome)
  && decide (([e,f]:List Expr).length + ([]:List Keyword).length + (if ([]:List Keyword).isEmpty then 0 else 1) < 30))=true
 line:(apos.endLine == bL.line)=true
 trees:backTo bL (starEach [e,f] X.env)=[(false,eval e X.env),(false,eval f X.env)]
noncomputable def D4 (H:Hp) (a:Addr):Prop:=(∃ ah,Rd H a (.dK ah))\/∃ ah,Rd H a (.dT ah)
theorem MH {X:Cx} {pins:List (Addr × Obj)} {σ : St} {H:Hp} {s:Shared} {a:Addr} (I:Inv X pins σ H s) (d:D4 H a) :
  s.TypeIs (.ref a) "dict" /\ (∀ b,Value.ref a = .ref b->∃ ob,s.heap.get? b=some ob/\ob.dict=none)/\(a == sysModules)=false:=by
 rcases d with⟨ah,e⟩ | ⟨ah,e⟩
 ·obtain⟨_,hd,vs,_,dd⟩:=qy I.aN e
  refine⟨dd.typeIs,fun b q => ?_,hd⟩
  cases q
  obtain⟨ob,_,_,h1,h2,_⟩:=dd
  exact⟨ob,h1,h2.2.1⟩
 ·obtain⟨_,hd,xs,_,dd⟩:=qA I.aN e
  refine⟨dd.typeIs,fun b q => ?_,hd⟩
  cases q
  obtain⟨ob,_,_,h1,h2,_⟩:=dd
  exact⟨ob,h1,h2.2.1⟩
section
variable {X:Cx} {pins:List (Addr × Obj)} {σ : St} {H:Hp} {s:Shared} {a:Addr} {y d:V} {u r:Value} {o:Option V} {A:Around} {E:Value->Shared->Prop}
theorem MI {Q:Value->Shared->Prop} (hu:A.units + 1 < cLine) (I:Inv X pins σ H s) (g:dO H a y o) (ry:RelV y u) (rd:RelV d r) (h:∀ w' s',Inv X pins σ H s'->RelV (o.getD d) w'->Q w' s') :
  wpAny (model X.prog X.w) A (call (.builtin "dict.get") [.ref a,u,r]) Q E s:=by
 rcases g with⟨ah,k,e,ey,l⟩ | ⟨ah,k,b,e,ey,eb,l⟩
 ·subst ey
  obtain⟨z,hd,vs,rel,dd⟩:=qy I.aN e
  refine call_meetsIn Yl dd.typeIs Zb (Y1 _ _ _) (meets_dict_get_default (gw X.prog X.w) a (qx ry) hd r) ⟨_,dd.mapOf,h _ _ (I.tok _) ?_⟩
  rw[l]
  exact (rel.val k).getD rd
 ·subst ey
  cases (show u=Value.ref b from ry)
  obtain⟨z,hd,xs,rel,dd⟩:=qA I.aN e
  refine call_meetsIn Yl dd.typeIs Zb (Y1 _ _ _) (meetsH_dict_get_default (tupleKind (gw X.prog X.w)) a b hd r) ⟨X1 hu,k,xs,sR I.aN eb,dd,h _ _ (I.tok _) ?_⟩
  rw[l]
  exact (rel.val k).getD rd
end
noncomputable def D5 (td ty tx:TE):TE:=fun σ H Q=>td σ H fun x H1=>∃ a,x = .ref a/\D4 H1 a/\ty σ H1 fun y H2=>tx σ H2 fun z H3=>∃ o,dO H3 a y o/\Q (o.getD z) H3
section
variable {X:Cx} {o e f:Expr} {apos bL:Pos} {td ty tx:TE}
theorem MJ (hu:X.A.units + 1 < cLine) (ho:PE X o td) (he:PE X e ty) (hf:PE X f tx) (m:M2 X o "get" apos e f bL):PE X (.Call (.Attribute o "get" apos) [e,f] [] bL) (D5 td ty tx):=by
 intro pins s σ H Q I h
 refine wpAny_Call_method m.base m.hV m.line PySem.F.plainAttrs_dict Yl PySem.F.type_dict_get (aZ (ho pins s σ H _ I h) fun u s1 ⟨x,H1,I1,rx,a,ex,d,q1⟩ => ?_)
 subst ex
 obtain rfl:u=Value.ref a:=rx
 obtain⟨t1,t2,_⟩:=MH I1 d
 refine⟨t1,t2,?_⟩
 rw[m.trees]
 refine Calls.callWith_builtin rfl (Calls.evalArgs_plain (YH (aZ (he pins s1 σ H1 _ I1 q1) fun iv s2 h0_ => el5 h0_ fun y H2 I2 ry q2 =>
  YH (aZ (hf pins s2 σ H2 _ I2 q2) fun fv s3 ⟨z,H3,I3,rz,ov,g,q3⟩=>Calls.spliced_nil ?_))))
 exact MI hu I3 g ry rz fun w' s4 I4 iY=>⟨_,H3,I4,iY,q3⟩
end
section
variable {X:Cx} {pins:List (Addr × Obj)} {σ : St} {H:Hp} {s:Shared} {a:Addr} {ah:List (Key × V)} {A:Around} {E:Value->Shared->Prop}
end
section
variable {X:Cx} {pins:List (Addr × Obj)} {σ : St} {H:Hp} {s:Shared} {a:Addr} {y:V} {u:Value} {A:Around} {E:Value->Shared->Prop}
end
end L2
namespace L2
section
variable {κ : Type} [DecidableEq κ]
end
end L2
namespace L2
open PySem PySem.Spec PyProof.Rows
structure JE (X:Cx) (e:Expr) (t:TE):Prop where
 out:PE X e t
structure JT (X:Cx) (e:Expr) (t:TT):Prop where
 out:PT X e t
structure JW (X:Cx) (e:Expr) (t:TT):Prop where
 out:PW X e t
structure JA (X:Cx) (es:List Expr) (t:TA):Prop where
 out:PA X es t
structure JS (X:Cx) (st:Stmt) (t:TS):Prop where
 out:PS X st t
structure dP (X:Cx) (st:List Stmt) (t:TS):Prop where
 out:fW X st t
structure JF (X:Cx) (ifs:List Expr) (t:TT):Prop where
 out:PF X ifs t
structure JG (X:Cx) (tg:Expr) (t:TG):Prop where
 out:PG X tg t
structure jC (X:Cx) (ts:List Expr) (t:iC):Prop where
 out:rX X ts t
structure JI (X:Cx) (tg iter:Expr) (wi:TI):Prop where
 out:PI X tg iter wi
structure JC (X:Cx) (op:CmpOp) (a b:Expr) (t:TE):Prop where
 out:PC X op a b t
theorem JE.weak {X:Cx} {e:Expr} {t t':TE} (h:JE X e t) (k:∀ σ H Q,t' σ H Q->t σ H Q):JE X e t':=⟨PE.weak h.out k⟩
theorem JT.weak {X:Cx} {e:Expr} {t t':TT} (h:JT X e t) (k:∀ σ H Q,t' σ H Q->t σ H Q):JT X e t':=⟨PT.weak h.out k⟩
theorem JA.weak {X:Cx} {es:List Expr} {t t':TA} (h:JA X es t) (k:∀ σ H Q,t' σ H Q->t σ H Q):JA X es t':=⟨PA.weak h.out k⟩
theorem JS.weak {X:Cx} {st:Stmt} {t t':TS} (h:JS X st t) (k:∀ D σ H,t' D σ H->t D σ H):JS X st t':=⟨PS.weak h.out k⟩
theorem dP.weak {X:Cx} {st:List Stmt} {t t':TS} (h:dP X st t) (k:∀ D σ H,t' D σ H->t D σ H):dP X st t':=⟨fW.weak h.out k⟩
theorem JW.jt {X:Cx} {e:Expr} {t:TT} (h:JW X e t):JT X e t:=⟨PW.pt h.out⟩
theorem MK {X:Cx} {i:Nat} {x:Str} {pos:Pos} (hN:X.N[i]? = some x) (hv:ou X.env.scope x) (hd:(x == ("__debug__" : Str))=false:=by decide) (eT:(x == ("__classdict__" : Str))=false:=by decide):JE X (.Name x pos) (lT i):=⟨L2.CB hN hv hd eT⟩
theorem cN {X:Cx} {i j pos}:JE X (.Constant (.int i) j pos) (tC (.int i)):=⟨L2.CC⟩
theorem ML {X:Cx} {b j pos}:JE X (.Constant (.bool b) j pos) (tC (.bl b)):=⟨L2.JU⟩
theorem MM {X:Cx} {j pos}:JE X (.Constant .none j pos) (tC .non):=⟨L2.JV⟩
theorem MN {X:Cx} {x:Str} {v:V} {u:Value} {pos:Pos} (hg:Gl X x) (hm:X.mg x=some u) (r:RelV v u) (hd:(x == ("__debug__" : Str))=false:=by decide):JE X (.Name x pos) (tC v):=⟨L2.JX hg hm r hd⟩
theorem MO {X:Cx} {x:Str} {v:V} {u:Value} {pos:Pos} (hg:Gl X x) (hm:X.mg x=none) (hv:bootBuiltins x=some u) (r:RelV v u) (hn:x ≠ "__name__" := by decide) (hd:(x == ("__debug__" : Str))=false:=by decide):JE X (.Name x pos) (tC v):=⟨L2.JY hg hm hv r hn hd⟩
theorem MP {X:Cx} {a b:Expr} {pos:Pos} {op:CmpOp} {t:TE} (h:JC X op a b t) (h1:behindInMarks op b=false:=by first | exact J0 _ (by decide) (by decide) | rfl):JT X (.Compare a [op] [b] pos) (tB t):=⟨L2.JZ h.out h1⟩
theorem MQ {X:Cx} {e:Expr} {t:TE} (h:JE X e t) (he:∀ whole,isTrue e X.env whole=(do let v <- whole;standAt e.pos;holding [v] (truthy v)):=by intro _;rfl):JT X e (tB t):=⟨L2.J6 h.out he⟩
theorem MR {X:Cx} {a:Expr} {pos:Pos} {tA:TT} (ha:JT X a tA):JW X (.BoolOp .And [a] pos) tA:=⟨L2.J7 ha.out⟩
theorem MS {X:Cx} {a:Expr} {pos:Pos} {tA:TT} (ha:JT X a tA):JW X (.BoolOp .Or [a] pos) tA:=⟨L2.J8 ha.out⟩
theorem MT {X:Cx} {a b:Expr} {pos:Pos} {tA lh:TT} {rest:List Expr} (ha:JT X a tA) (hb:JW X (.BoolOp .And (b :: rest) pos) lh):JW X (.BoolOp .And (a :: b :: rest) pos) (oB tA lh):=⟨L2.J9 ha.out hb.out⟩
theorem MU {X:Cx} {a b:Expr} {pos:Pos} {tA lh:TT} {rest:List Expr} (ha:JT X a tA) (hb:JW X (.BoolOp .Or (b :: rest) pos) lh):JW X (.BoolOp .Or (a :: b :: rest) pos) (xg tA lh):=⟨L2.J_ ha.out hb.out⟩
theorem MV {X:Cx} {a:Expr} {pos:Pos} {tA:TT} (ha:JT X a tA):JT X (.UnaryOp .Not a pos) (rS tA):=⟨L2.Ka ha.out⟩
theorem MW {X:Cx} {a:Expr} {pos:Pos} {op} {t:TE} (h:JE X a t):JE X (.BoolOp op [a] pos) t:=⟨L2.Kb h.out⟩
theorem MX {X:Cx} {a b:Expr} {ta tb:TE} {pos:Pos} {rest:List Expr} (ha:JE X a ta) (hb:JE X (.BoolOp .And (b :: rest) pos) tb):JE X (.BoolOp .And (a :: b :: rest) pos) (CF ta tb):=⟨L2.Kc ha.out hb.out⟩
theorem MY {X:Cx} {a:Expr} {ta:TE} {pos:Pos} (ha:JE X a ta):JE X (.UnaryOp .Not a pos) (CG ta):=⟨L2.Kd ha.out⟩
theorem MZ {X:Cx} {a b:Expr} {ta tb:TE} {pos:Pos} {tA:TT} {c:Expr} (hc:JT X c tA) (ha:JE X a ta) (hb:JE X b tb):JE X (.IfExp c a b pos) (CH tA ta tb):=⟨L2.Ke hc.out ha.out hb.out⟩
theorem mz {X:Cx}  : dP X [] CI:=⟨L2.Kf⟩
theorem u7 {X:Cx} {st:Stmt} {rest:List Stmt} {t u:TS} (h1:JS X st t) (h2:dP X rest u):dP X (st :: rest) (rT t u):=⟨L2.Kg h1.out h2.out⟩
theorem yk {X:Cx} {st:Stmt} {t:TS} (h1:JS X st t):dP X [st] t:=⟨L2.Kh h1.out⟩
theorem M0 {X:Cx} {e:Expr} {te:TE} {pos:Pos} (he:JE X e te) (hs:swapsWith e none pos.line X.env=pure false:=by rfl):JS X (.Expr e pos) (CJ te):=⟨L2.Ki he.out hs⟩
theorem D6 {X:Cx} {e:Expr} {te:TE} {pos:Pos} (he:JE X e te):JS X (.Return (some e) pos) (rV te):=⟨L2.Kj he.out⟩
theorem M1 {X:Cx} {t u:TS} {pos:Pos} {c:Expr} {a b:List Stmt} {tc:TT} (hc:JT X c tc) (ha:dP X a t) (hb:dP X b u):JS X (.If c a b pos) (rW tc t u):=⟨L2.Kk hc.out ha.out hb.out⟩
theorem i5 {X:Cx} {xi:List Stmt}:dP X xi CK:=⟨L2.Kl⟩
theorem ym {X:Cx} {pos:Pos} {i:Nat} {x:Str} (hN:X.N.Nodup) (hi:X.N[i]? = some x) (hx:Loc X.env.scope x) (hf:X.fn x=true\/X.env.scope.names.lookup x=some .local:=by first | exact .inl rfl | exact .inr rfl | assumption):JG X (.Name x pos) (oD i):=⟨L2.Km hN hi hx hf⟩
theorem iE {X:Cx}  : jC X [] rY:=⟨L2.Kn⟩
theorem yn {X:Cx} {e:Expr} {es:List Expr} {t:TG} {u:iC} (h1:JG X e t) (h2:jC X es u) (hs:(assignEach (e :: es) X.env).map (·.2)=assign e X.env :: (assignEach es X.env).map (·.2):=by rfl):jC X (e :: es) (CL t u):=⟨L2.Ko h1.out h2.out hs⟩
theorem D7 {X:Cx} {pos:Pos} {es:List Expr} {k:Nat} {t:iC} {n:Nat} (hc:X.calm=true) (h:jC X es t) (hn:(assignEach es X.env).length=n:=by rfl) (jS:(assignEach es X.env).findIdx? (·.1)=none:=by rfl):JG X (.Tuple es k pos) (rZ X.K n t):=⟨L2.Kp hc h.out hn jS⟩
theorem sU {X:Cx} {pos:Pos} {o i:Expr} {to ti:TE} {t:lV} (ho:JE X o to) (hi:JE X i ti) (hs:oC X t) (ha:∀ v,assign (.Subscript o i pos) X.env v=(do
   let ov <- holding [v] (eval o X.env)
   let iv <- holding [v,ov] (eval i X.env)
   standAt pos
   holding [v,ov,iv] (setItem ov iv v)
   release [v,ov,iv] []):=by intro _;rfl):JG X (.Subscript o i pos) (oE to ti t):=⟨L2.Kq ho.out hi.out hs ha⟩
theorem qB {X:Cx} {pos:Pos} {tg e:Expr} {te:TE} {g:TG} (he:JE X e te) (hg:JG X tg g) (hs:swapsWithSole [tg] e pos.line X.env=pure false:=by rfl) (hw:swappedStores [tg] e X.env=pure none:=by rfl) (h1:(assignEach [tg] X.env).map (·.2)=[assign tg X.env]:=by rfl):JS X (.Assign [tg] e pos) (gB te g):=⟨L2.Kr he.out hg.out hs hw h1⟩
theorem yp {X:Cx} {pos:Pos} {i:Nat} {x:Str} {e:Expr} {te:TE} {pos':Pos} (hN:X.N.Nodup) (hi:X.N[i]? = some x) (hx:Loc X.env.scope x) (he:JE X e te) (hs:swapsWith e (some (.Name x pos')) pos.line X.env=pure false:=by rfl) (hf:X.fn x=true\/X.env.scope.names.lookup x=some .local:=by first | exact .inl rfl | exact .inr rfl | assumption):JS X (.Assign [.Name x pos'] e pos) (gB te (oD i)):=⟨L2.Ks hN hi hx he.out hs hf⟩
theorem M3 {X:Cx} {pos:Pos} {c:Expr} {body:List Stmt} {tc:TT} {tb:TS} (hp:PassesOwn (model X.prog X.w) X.A X.env X.xe) (hc:JT X c tc) (hb:dP X body tb):JS X (.While c body [] pos) (CM tc tb):=⟨L2.Kt hp hc.out hb.out⟩
theorem M4 {X:Cx} {tg:Expr} {a:Expr} {ta:TA} {p pos:Pos} (hg:Gl X "range") (hm:X.mg "range" = none) (ha:JA X [a] ta) (hs:starEach [a] X.env=[(false,eval a X.env)]:=by rfl):JI X tg (.Call (.Name "range" p) [a] [] pos) (CS ta):=⟨L2.Kx hg hm ha.out hs⟩
theorem M5 {X:Cx} {tg:Expr} {a b:Expr} {ta:TA} {p pos:Pos} (hg:Gl X "range") (hm:X.mg "range" = none) (ha:JA X [a,b] ta) (hs:starEach [a,b] X.env=[(false,eval a X.env),(false,eval b X.env)]:=by rfl) (iD:starEach [b] X.env=[(false,eval b X.env)]:=by rfl):JI X tg (.Call (.Name "range" p) [a,b] [] pos) (CT ta):=⟨L2.Ky hg hm ha.out hs iD⟩
theorem D8 {X:Cx} {tg:Expr} {iter:Expr} {body:List Stmt} {wi:TI} {g:TG} {tb:TS} {pos:Pos} (hp:PassesOwn (model X.prog X.w) X.A X.env X.xe) (hc:X.calm=true) (hi:JI X tg iter wi) (hg:JG X tg g) (hb:dP X body tb) (hs:∀ x,foldedSetIterable iter X.env x=pure x:=by intro _;rfl):JS X (.For tg iter body [] pos) (r9 wi g tb):=⟨L2.KC hp hc hi.out hg.out hb.out hs⟩
theorem sV {X:Cx} {a b:Expr} {ta tb:TE} {pos:Pos} {op:Operator} {r:R2} (ho:cG X (binaryOp op) r) (ha:JE X a ta) (hb:JE X b tb):JE X (.BinOp a op b pos) (lX r ta tb):=⟨L2.KD ho ha.out hb.out⟩
theorem M6 {X:Cx} {a:Expr} {ta:TE} {pos:Pos} {op:UnaryOp} {r:V->Hp->VK->Prop} (ho:uR X (unaryOp op) r) (ha:JE X a ta):JE X (.UnaryOp op a pos) (CU r ta):=⟨L2.CV ho ha.out⟩
theorem M7 {X:Cx} {a b:Expr} {ta tb:TE} {pos:Pos} {op:CmpOp} {r:R2} (ho:cG X (compareOp op) r) (ha:JE X a ta) (hb:JE X b tb) (hm:behindInMarks op b=false):JE X (.Compare a [op] [b] pos) (lX r ta tb):=⟨L2.KY ho ha.out hb.out hm⟩
theorem M8 {X:Cx} {a b:Expr} {ta tb:TE} {pos:Pos} {op:CmpOp} {r:R2} (ho:cG X (compareOp op) r) (ha:JE X a ta) (hb:JE X b tb) (hm:behindInMarks op b=false):JT X (.Compare a [op] [b] pos) (C0 (lX r ta tb)):=⟨L2.KZ ho ha.out hb.out hm⟩
theorem M9 {X:Cx} {a b c:Expr} {ta tb tc:TE} {pos:Pos} {op jV:CmpOp} {r r':R2} (ho:cG X (compareOp op) r) (iT:cG X (compareOp jV) r') (ha:JE X a ta) (hb:JE X b tb) (hc:JE X c tc) (hm:lastMarks [op,jV] [b,c]=false:=by with_unfolding_all rfl):JE X (.Compare a [op,jV] [b,c] pos) (C1 r r' ta tb tc):=⟨L2.K1 ho iT ha.out hb.out hc.out hm⟩
theorem bW {X:Cx}  : JA X [] si:=⟨L2.La⟩
theorem oZ {X:Cx} {e:Expr} {es:List Expr} {te:TE} {t:TA} (ha:JE X e te) (hr:JA X es t) (hs:starEach (e :: es) X.env=(false,eval e X.env) :: starEach es X.env:=by rfl):JA X (e :: es) (hZ te t):=⟨L2.oK ha.out hr.out hs⟩
theorem M_ {X:Cx} {es:List Expr} {t:TA} {pos:Pos} {x1} (h:JA X es t):JE X (.Tuple es x1 pos) (sj t):=⟨L2.Lb h.out⟩
theorem yq {X:Cx} {es:List Expr} {t:TA} {pos:Pos} (h:JA X es t):JE X (.List es pos) (sk t):=⟨L2.Lc h.out⟩
theorem yt {X:Cx} {CX:iU} {k:Nat} {f:Addr} {fd:FuncData} {ps:List Str} {sp:Sp} {jW:List V} {ds:List Value} {E:XK} {x:Str} {p pos:Pos} {e:Expr} {es:List Expr} {t:TA} (F:cK X.prog X.w X.K X.mg X.base CX k f fd ps sp) (hr:bg k X.A) (hg:Gl X x) (hm:X.mg x=some (.ref f)) (hk:PySem.W.keepIn X.K (.ref f)=true) (hb:Binds X.K fd ps ds) (hd:Vals jW ds) (hx:uU CX X E) (ha:JA X (e :: es) t) (eA:(x == ("__debug__" : Str))=false:=by decide) (he:starEach (e :: es) X.env=(false,eval e X.env) :: starEach es X.env:=by rfl) (d4:(backTo pos (starEach es X.env)).any (·.1)=false:=by rfl):JE X (.Call (.Name x p) (e :: es) [] pos) (uT sp jW E t):=⟨L2.Le F hr hg hm hk hb hd hx ha.out eA he d4⟩
theorem u9 {X:Cx} {x:Str} {p pos:Pos} {e:Expr} {es:List Expr} {t:TA} {id:String} {r:List V->Hp->VK->Prop} (hc:fX X (.builtin id) r) (hg:Gl X x) (hm:X.mg x=none) (hv:bootBuiltins x=some (.builtin id)) (ha:JA X (e :: es) t) (hn:x ≠ "__name__" := by decide) (eA:(x == ("__debug__" : Str))=false:=by decide) (he:starEach (e :: es) X.env=(false,eval e X.env) :: starEach es X.env:=by rfl) (d4:(backTo pos (starEach es X.env)).any (·.1)=false:=by rfl):JE X (.Call (.Name x p) (e :: es) [] pos) (qq r t):=⟨L2.Lg hc hg hm hv ha.out hn eA he d4⟩
theorem nK {X:Cx} {x:Str} {p pos:Pos} {e:Expr} {es:List Expr} {t:TA} {T:String} {r:List V->Hp->VK->Prop} (hc:fX X (.type T) r) (hg:Gl X x) (hm:X.mg x=none) (hv:bootBuiltins x=some (.type T)) (ha:JA X (e :: es) t) (hn:x ≠ "__name__" := by decide) (eA:(x == ("__debug__" : Str))=false:=by decide) (he:starEach (e :: es) X.env=(false,eval e X.env) :: starEach es X.env:=by rfl) (d4:(backTo pos (starEach es X.env)).any (·.1)=false:=by rfl):JE X (.Call (.Name x p) (e :: es) [] pos) (qq r t):=⟨L2.Lh hc hg hm hv ha.out hn eA he d4⟩
theorem yu {X:Cx} {e:Expr} {te:TE} {lo hi:Option Expr} {tl th:TO} {pos p2:Pos} {r:V->Option Int->Option Int->Hp->VK->Prop} (hr:mf X r) (he:JE X e te) (hl:PO X lo tl) (hu:PO X hi th):JE X (.Subscript e (.Slice lo hi none p2) pos) (Di r te tl th):=⟨L2.Lu hr he.out hl hu⟩
theorem D9 {X:Cx} {a b:Expr} {ta tb:TE} {pos:Pos} {r:R2} (hr:qr X r) (ha:JE X a ta) (hb:JE X b tb) (hs:xB b):JE X (.Subscript a b pos) (lX r ta tb):=⟨L2.LA hr ha.out hb.out hs⟩
theorem o9 {X:Cx} {o e:Expr} {es:List Expr} {to:TE} {t:TA} {name:Str} {apos bL:Pos} {T id:String} {r:V->List V->Hp->VK->Prop} (pa:PlainAttrs T) (slot:Slot T name id) (xI:typeOf (.builtin id)=pure (.type "method_descriptor")) (hm:xC X id r) (ho:JE X o to) (ha:JA X (e :: es) t) (jX:attributeBase o name X.env (eval o X.env)=eval o X.env:=by rfl) (oR:((backTo bL (starEach (e :: es) X.env)).all (fun x => !x.1) && (backToKw bL (keywordEach [] X.env)).all (fun x=>x.1.isSome)
   && decide ((e :: es).length + ([]:List Keyword).length + (if ([]:List Keyword).isEmpty then 0 else 1) < 30))=true:=by rfl) (jY:(apos.endLine == bL.line)=true:=by rfl) (hs:starEach (e :: es) X.env=(false,eval e X.env) :: starEach es X.env:=by rfl) (hplain:(backTo bL (starEach es X.env)).any (·.1)=false:=by rfl):JE X (.Call (.Attribute o name apos) (e :: es) [] bL) (sC X.K T r to t):=⟨L2.LM pa slot xI hm ho.out ha.out jX oR jY hs hplain⟩
theorem jv {X:Cx} (i:Nat) {x:Str} {pos:Pos} (hN:X.N[i]? = some x:=by rfl) (hv:ou X.env.scope x:=by first | exact Or.inl rfl | exact Or.inr (Or.inl rfl) | exact Or.inr (Or.inr rfl)) (hd:(x == ("__debug__" : Str))=false:=by decide) (eT:(x == ("__classdict__" : Str))=false:=by decide):JE X (.Name x pos) (lT i):=⟨L2.pv i hN hv hd eT⟩
theorem Na {X:Cx} {o i:Expr} {pos:Pos} {td ty:TE} (hu:X.A.units + 1 < cLine) (ho:JE X o td) (hi:JE X i ty) (hs:my i):JE X (.Subscript o i pos) (DZ td ty):=⟨L2.MA hu ho.out hi.out hs⟩
theorem Nc {X:Cx} {o i:Expr} {td ty:TE} (hu:X.A.units + 1 < cLine) (hi:JE X i ty) (ho:JE X o td):JC X .NotIn i o (yh ty td):=⟨L2.MB hu hi.out ho.out⟩
theorem Nd {X:Cx} {o i value:Expr} {pos pos':Pos} {td ty tv:TE} (hu:X.A.units + 1 < cLine) (ho:JE X o td) (hi:JE X i ty) (hv:JE X value tv) (hs:swapsWith value (some (.Subscript o i pos')) pos.line X.env=pure false):JS X (.Assign [.Subscript o i pos'] value pos) (D0 td ty tv):=⟨L2.MC hu ho.out hi.out hv.out hs⟩
theorem Nf {X:Cx} {pos:Pos} {keys:List (Option Expr)} {values:List Expr} {jB:List (TE × TE)} (h:sS X pos keys values jB) (gv:keys.all (·.isSome)=true) (hl:keys.length=values.length) (h0:keys≠[]) (yj:keys.length <= 15):JE X (.Dict keys values pos) (D3 jB):=⟨L2.MG h gv hl h0 yj⟩
theorem Ng {X:Cx} {o e f:Expr} {apos bL:Pos} {td ty tx:TE} (hu:X.A.units + 1 < cLine) (ho:JE X o td) (he:JE X e ty) (hf:JE X f tx) (m:M2 X o "get" apos e f bL):JE X (.Call (.Attribute o "get" apos) [e,f] [] bL) (D5 td ty tx):=⟨L2.MJ hu ho.out he.out hf.out m⟩
theorem o_ {X:Cx}:JF X [] sI:=⟨L2.LZ⟩
theorem Nh {X:Cx} {c:Expr} {t:TT} (h:JT X c t):JF X [c] t:=⟨L2.L0 h.out⟩
theorem D_ {X:Cx} {elt tg iter:Expr} {ifs:List Expr} {scope:Scope} {pos:Pos} {wi:TI} {g:BD->TG} {tf:BD->TT} {te:BD->TE} (cp:List (Option Nat)) (Nb:List Str) (hc:X.calm=true) (hi:JI X tg iter wi) (hg:∀ d,JG (cg X scope Nb d) tg (g d)) (hf:∀ d,JF (cg X scope Nb d) ifs (tf d)) (he:∀ d,JE (cg X scope Nb d) elt (te d)) (hk:scope.kind = .function:=by rfl) (ho:lr X.N X.env.scope scope Nb cp=true:=by first | rfl | kernel_rfl) (hs:∀ x,foldedSetIterable iter X.env x=pure x:=by intro _;rfl):JE X (.ListComp elt [⟨tg,iter,ifs,0⟩] scope pos) (oX wi cp g tf te):=⟨L2.Mg cp Nb hc hi.out (fun dd=>(hg dd).out) (fun dd=>(hf dd).out) (fun dd=>(he dd).out) hk ho hs⟩
theorem Ni {X:Cx} {elt tg iter:Expr} {ifs:List Expr} {scope:Scope} {pos:Pos} {wi:TI} {g:BD->TG} {tf:BD->TT} {te:BD->TE} (cp:List (Option Nat)) (Nb:List Str) {i:Nat} {x:Str} {pos' gF:Pos} (hN:X.N.Nodup) (hi:X.N[i]? = some x) (hx:Loc X.env.scope x) (hc:X.calm=true) (hit:JI X tg iter wi) (hg:∀ d,JG (cg X scope Nb d) tg (g d)) (hf:∀ d,JF (cg X scope Nb d) ifs (tf d)) (he:∀ d,JE (cg X scope Nb d) elt (te d)) (hk:scope.kind = .function:=by rfl) (ho:lr X.N X.env.scope scope Nb cp=true:=by first | rfl | kernel_rfl) (hs:∀ x,foldedSetIterable iter X.env x=pure x:=by intro _;rfl) (sN:swapsWith (.ListComp elt [⟨tg,iter,ifs,0⟩] scope pos) (some (.Name x pos')) gF.line X.env=pure true:=by rfl) (lS:X.fn x=true\/X.env.scope.names.lookup x=some .local:=by first | exact .inl rfl | exact .inr rfl | assumption):JS X (.Assign [.Name x pos'] (.ListComp elt [⟨tg,iter,ifs,0⟩] scope pos) gF) (gB (oX wi cp g tf te) (oD i)):=⟨L2.Mh cp Nb hN hi hx hc hit.out (fun dd=>(hg dd).out) (fun dd=>(hf dd).out) (fun dd=>(he dd).out) hk ho hs sN lS⟩
theorem Nj {X:Cx} {elts:List Expr} {x1:Nat} {tp:Pos} {a:Expr} {ta:TA} {p pos:Pos} (hg:Gl X "enumerate") (hm:X.mg "enumerate" = none) (ha:JA X [a] ta) (hs:starEach [a] X.env=[(false,eval a X.env)]:=by rfl):JI X (.Tuple elts x1 tp) (.Call (.Name "enumerate" p) [a] [] pos) (DQ X.K ta):=⟨L2.Mj hg hm ha.out hs⟩
theorem yw {X:Cx} {es:List Expr} {te:TE} {t:TA} {c j p} (ha:JE X (.Constant c j p) te) (hr:JA X es t):JA X (.Constant c j p :: es) (hZ te t):=⟨L2.x9 ha.out hr.out⟩
theorem pb {X:Cx} {es:List Expr} {te:TE} {t:TA} {x p} (ha:JE X (.Name x p) te) (hr:JA X es t):JA X (.Name x p :: es) (hZ te t):=⟨L2.x_ ha.out hr.out⟩
theorem j5 {X:Cx} {es:List Expr} {te:TE} {t:TA} {f a k p} (ha:JE X (.Call f a k p) te) (hr:JA X es t):JA X (.Call f a k p :: es) (hZ te t):=⟨L2.ya ha.out hr.out⟩
theorem yx {X:Cx} {es:List Expr} {te:TE} {t:TA} {a p} (ha:JE X (.List a p) te) (hr:JA X es t):JA X (.List a p :: es) (hZ te t):=⟨L2.yb ha.out hr.out⟩
theorem yy {X:Cx} {es:List Expr} {te:TE} {t:TA} {a k p} (ha:JE X (.Tuple a k p) te) (hr:JA X es t):JA X (.Tuple a k p :: es) (hZ te t):=⟨L2.yc ha.out hr.out⟩
theorem yz {X:Cx} {es:List Expr} {te:TE} {t:TA} {a k p} (ha:JE X (.Subscript a k p) te) (hr:JA X es t):JA X (.Subscript a k p :: es) (hZ te t):=⟨L2.yd ha.out hr.out⟩
theorem gE.yA {P:Program} {w:World} {K:PySem.W.Frag} {mg:Str->Option Value} {base:Heap} {x qual:Str} {st:Stmt} {f:Addr} {fd:FuncData} {N ps:List Str} {k:Nat} {sp:Sp} (F:gE K x qual st f fd) (S:l6 N ps (cM st)) (len:∀ vs H Q E,sp vs H Q E->vs.length=ps.length)
  (dj:∀ (a_:Value) (A:Around) (outer:List Env) (s:Shared) (H:Hp) (vs:List V) (Q:VK) (E:XK),bg k (A.deeper (envOfC qual (cM st) s.heap.objs.size f a_))->sp vs H Q E →
   ∃ t,dP (eB fL P w K mg base N qual (cM st) f a_ A outer s H E).jR (fZ st) t/\t { nx:=fun _ H'=>Q .non H',rt:=Q } (start N vs) H):cK P w K mg base fL (k + 1) f fd ps sp :=
 F.ok S len fun a_ A outer s H vs Q E hr h=>let ⟨t,g,q⟩:=dj a_ A outer s H vs Q E hr h; ⟨t,g.out,q⟩
end L2
namespace LJS
open PySem
noncomputable def hp (i j:Int):Int:=reduceHash (Builtin.Tuple.tupleHashOf [hashInt i,hashInt j])
theorem Ea {prog:Program} {w:World} (i j:Int):hT prog w [i,j]=hp i j:=rfl
noncomputable def u_:List (Int × Int):=(List.range 12).flatMap fun j=>(List.range j).map fun i:Nat=>(Int.ofNat i,Int.ofNat j)
theorem Nk:∀ a∈u_,∀ b∈u_,hp a.1 a.2=hp b.1 b.2->a=b:=by decide +kernel
theorem Eb {i j:Int} (h0:0 <= i) (h1:i < j) (h2:j < 12):(i,j)∈u_:=by
 obtain⟨a,rfl⟩:∃ a:Nat,i=a:=⟨i.toNat,by omega⟩
 obtain⟨b,rfl⟩:∃ b:Nat,j=b:=⟨j.toNat,by omega⟩
 unfold u_
 exact List.mem_flatMap.mpr ⟨b,VJ.mpr (by omega),My.mpr ⟨a,VJ.mpr (by omega),rfl⟩⟩
end LJS
namespace L2
open PySem PySem.Spec PyProof.Rows
noncomputable def j6 (S:Addr) (n:Nat):HO := .ext fun h=>∃ hs:List Int,hs.length=n/\LJS.eQ h S hs
theorem Nl {P:Program} {w:World} {H:Hp} {h:Heap} {S:Addr} {hs:List Int} {n:Nat} (e:LJS.eQ h S hs) (hn:hs.length=n):aQ P w H h S (j6 S n) :=
 ⟨⟨hs,hn,e⟩,let ⟨o,_,_,_,ho,_⟩:=e; ⟨o,ho⟩,fun h1 h2 ⟨va,en,e1⟩ k=>⟨va,en,LJS.wY e1 fun o eo=>k o eo⟩⟩
section
variable {X:Cx}
theorem Ec:∀ {ps:List Addr} {aq:List Value},Vals (ps.map V.ref) aq->aq=ps.map Value.ref
 | [],_,.nil=>rfl
 | _ :: _,_,.cons r rs=>by cases r;rw[Ec rs];rfl
theorem Nm (hc:X.calm=true) (hu:X.A.units + 64 < cLine):fX X (.type "set") (fun xs H Q=>∃ (l:Addr) (ps:List Addr) (ks:List (Int × Int)),xs=[.ref l]/\bq X.K H l (ps.map V.ref)/\ps.length=ks.length ∧
  (∀ (i:Nat) (a:Addr) (k:Int × Int),ps[i]? = some a->ks[i]? = some k->H a=some (.tup [.int k.1,.int k.2]))/\(∀ k∈ks,0 <= k.1/\k.1 < k.2/\k.2 < 12)/\ks.Nodup/\ks.length <= 30/\∀ p,H p=none->Q (.ref p) (upd H p (j6 p ks.length))):=by
 intro pins s σ H xs us Q I r h
 obtain⟨l,ps,ks,rfl,hq,hl,eS,bd,mB,fH,q⟩:=h
 obtain⟨u,rfl,rx⟩:=vals1 r
 cases rx
 obtain⟨aq,r',pl,_⟩:=I.list hq
 obtain rfl:=Ec r'
 have sz:(ps.map Value.ref).toArray.size=ks.length:=by rw[sD,oV,hl]
 have pd:∀ i,i < ks.length->∃ k,ks[i]? = some k/\ks.getD i (0,0)=k:=fun i hi=>⟨ks[i],oU hi,by rw[DD,oU hi];rfl⟩
 have yB:∀ i,i < ks.length->∃ a,ps[i]? = some a/\ps.getD i 0=a:=fun i hi=>⟨ps[i]'(by rw[hl];exact hi),oU (by rw[hl];exact hi),by rw[DD,oU (by rw[hl];exact hi)];rfl⟩
 refine LJS.Jr (fun i=>ps.getD i 0) (fun i=>[(ks.getD i (0,0)).1,(ks.getD i (0,0)).2]) (I.ok.hd hc) (by omega) pl.isList (fun i v hv => ?_) (fun i hi => ?_) (fun i j hi hj => ?_) (by rw[sz];exact fH) fun h' tk se kp => ?_
 ·rw[WX,LR] at hv
  obtain⟨a,ea,rfl⟩:=UP.mp hv
  rw[DD,ea];rfl
 ·rw[sz] at hi
  obtain⟨k,ek,dk⟩:=pd i hi
  obtain⟨a,ea,da⟩:=yB i hi
  show IsTupleKey _ _ [(ks.getD i (0,0)).1,(ks.getD i (0,0)).2] (ps.getD i 0)
  rw[dk,da]
  obtain⟨_,br,r2,o,ho,ly,n,hd⟩:=I.aN a _ (eS i a k ea ek)
  cases r2 with
  | cons ra rr =>
   cases rr with
   | cons rb rn =>
    cases rn
    obtain⟨t1,rfl⟩:=ra
    obtain⟨t2,rfl⟩:=rb
    exact⟨o,_,n,ho,ly,hd,.cons (intKind_is ..) (.cons (intKind_is ..) .nil)⟩
 ·rw[sz] at hi
  obtain⟨k,ek,dk⟩:=pd i hi
  obtain⟨k',yC,qC⟩:=pd j (by omega)
  show LJS.hT _ _ [(ks.getD j (0,0)).1,(ks.getD j (0,0)).2]≠LJS.hT _ _ [(ks.getD i (0,0)).1,(ks.getD i (0,0)).2]
  rw[dk,qC,LJS.Ea,LJS.Ea]
  intro z
  have b1:=bd k (UM.mpr ⟨i,ek⟩)
  have b2:=bd k' (UM.mpr ⟨j,yC⟩)
  have e:=LJS.Nk (k'.1,k'.2) (LJS.Eb b2.1 b2.2.1 b2.2.2) (k.1,k.2) (LJS.Eb b1.1 b1.2.1 b1.2.2) z
  have e':k'=k:=e
  rw[e'] at yC
  obtain⟨mC,Nn⟩:=oW.mp yC
  obtain⟨d5,Np⟩:=oW.mp ek
  have:=(Yq (h₀ := mC) (h₁ := d5) mB).mp (by rw[Nn,Np])
  omega
 ·refine⟨.ref s.heap.objs.size,upd H s.heap.objs.size (j6 s.heap.objs.size ks.length),I.laid (t':=tk) (fun b o e=>kp b o (UL e) e) (uX _) (Nl se (by rw[oV,VL,sz])),rfl,q _ (I.aN.fresh (uX _))⟩
theorem Nq:fX X (.builtin "len") (fun xs H Q=>∃ (p:Addr) (n:Nat),xs=[.ref p]/\H p=some (j6 p n)/\n < 1000/\Q (.int n) H):=by
 intro pins s σ H xs us Q I r h
 obtain⟨p,n,rfl,hp,hn,q⟩:=h
 obtain⟨u,rfl,rx⟩:=vals1 r
 cases rx
 obtain⟨⟨hs,hl,o,es,ep,t,ho,hex,hd,T⟩,_⟩:=I.aN p _ hp
 have e:es.size=n:=by rw[T.num,hl]
 refine call_len_set ho hex hd T.fits (by omega) ⟨.int n,H,I.tok _,⟨_,by rw[e]⟩,q⟩
theorem Ed:∀ {bs:List Bool} {aq:List Value},Vals (bs.map V.bl) aq->aq=bs.map Value.bool
 | [],_,.nil=>rfl
 | _ :: _,_,.cons r rs=>by cases r;rw[Ed rs];rfl
theorem all_range (bs:List Bool):(List.range bs.length).all (fun i=>bs.getD i true)=bs.all id:=by
 rw[Bool.eq_iff_iff,Wu,Wu]
 constructor
 ·intro h b hb
  obtain⟨i,hi⟩:=UM.mp hb
  have hl:=(oW.mp hi).1
  have:=h i (VJ.mpr hl)
  rw[DD,hi] at this
  exact this
 ·intro h i hi
  have hl:=VJ.mp hi
  rw[DD,oU hl]
  exact h _ (WK hl)
theorem Nr (hc:X.calm=true):fX X (.builtin "all") (fun xs H Q=>∃ (l:Addr) (bs:List Bool),xs=[.ref l]/\bq X.K H l (bs.map V.bl)/\Q (.bl (bs.all id)) H):=by
 intro pins s σ H xs us Q I r h
 obtain⟨l,bs,rfl,hq,q⟩:=h
 obtain⟨u,rfl,rx⟩:=vals1 r
 cases rx
 obtain⟨aq,r',pl,_⟩:=I.list hq
 obtain rfl:=Ed r'
 have hL:=pl.isList
 have ll:l < s.heap.objs.size:=by obtain⟨o,e,_⟩:=hL;exact UL e
 have nI:l≠s.heap.objs.size:=Vx ll
 refine call_all_walk (Xg hL ?_)
 refine⟨s.heap.objs.size,_,_,_,_,_,fun i=>bs.getD i true,rfl,Yp (by rw[X7];exact I.ok.hd hc) s.heap.objs.size l nI _,⟨⟨_,Vq _ rfl,rfl,rfl⟩,hL.push _⟩,fun i v s' Q' E' hv vc => ?_,fun h' tk kp => ?_⟩
 ·have hv:(bs.map Value.bool).toArray[i]? = some v:=hv
  have vc:Q' (bs.getD i true) s':=vc
  rw[WX,LR] at hv
  obtain⟨b,eb,rfl⟩:=UP.mp hv
  rw[DD,eb] at vc
  exact Wx vc
 ·refine⟨.bl (bs.all id),H,I.kept (t':=tk) fun b o e=>kp b o (fun z => ?_) (qt _ e),?_,q⟩
  ·have:=UL e
   rw[VI.mp z] at this
   exact WC _ this
  ·show Value.bool _=Value.bool _
   rw[sD,oV,all_range]
end
end L2
namespace LJ
open PySem L2
structure Fn (P:Program) (w:World) (K:PySem.W.Frag) (mg:Str->Option Value) (base:Heap) (k:Nat) (x:Str) (ps:List Str) (sp:Sp) (f:Addr) (fd:FuncData):Prop where
 ok:cK P w K mg base fL k f fd ps sp
 yD:mg x=some (.ref f)
 kp:PySem.W.keepIn K (.ref f)=true
 bd:Binds K fd ps []
theorem qD:bootBuiltins "bool" = some (.type "bool"):=by decide +kernel
theorem yE:bootBuiltins "int" = some (.type "int"):=by decide +kernel
theorem yF:bootBuiltins "tuple" = some (.type "tuple"):=by decide +kernel
theorem nL:bootBuiltins "list" = some (.type "list"):=by decide +kernel
theorem Nt:bootBuiltins "set" = some (.type "set"):=by decide +kernel
theorem Nu:bootBuiltins "all" = some (.builtin "all"):=by decide +kernel
section
variable {K:PySem.W.Frag}
end
structure aC (many:Int) (ys:List (Int × Int × Int)):Prop where
 m1:1 <= many
 d6:many <= 12
 fH:ys.length <= 30
 ends:∀ y∈ys,0 <= y.1/\y.1 < y.2.1/\y.2.1 < many/\0 <= y.2.2/\y.2.2 <= 1000000000
 unlike:(ys.map fun y=>(y.1,y.2.1)).Nodup
end LJ
namespace L2
open PySem PySem.Spec PyProof.Rows
section
variable {X:Cx}
end
end L2
namespace LJ
open PySem L2
noncomputable def iF:Nat->List (Int × Int)
 | 0=>[]
 | n + 1=>iF n ++ (List.range n).map fun a:Nat=>(Int.ofNat a,Int.ofNat n)
theorem yG:∀ {n:Nat} {k:Int × Int},k∈iF n->0 <= k.1/\k.1 < k.2/\k.2 < n
 | 0,_,h=>nomatch h
 | n + 1,k,h=>by
  rcases VO.mp h with h | h
  ·have:=yG h;omega
  ·obtain⟨a,ha,rfl⟩:=My.mp h
   have:=VJ.mp ha
   refine⟨Int.natCast_nonneg a,?_,?_⟩
   ·show (a:Int) < (n:Int);omega
   ·show (n:Int) < ((n + 1:Nat):Int);omega
theorem Ee:∀ n:Nat,(iF n).Nodup
 | 0=>List.nodup_nil
 | n + 1=>by
  refine W7.mpr ⟨Ee n,?_,fun k h1 k' h2 e => ?_⟩
  ·refine Xk.mpr (Yn.imp fun {a b} ne e=>ne ?_)
   exact ZJ (congrArg Prod.fst e)
  ·subst e
   obtain⟨a,ha,rfl⟩:=My.mp h2
   have:=(yG h1).2.2
   have:(n:Int) < (n:Int):=this
   omega
theorem Ef:∀ n:Nat,n <= 12->(iF n).length <= 66:=by
 intro n h
 rcases n with _ | _ | _ | _ | _ | _ | _ | _ | _ | _ | _ | _ | _ | n
 all_goals first | decide | omega
end LJ
namespace LJ
open PySem
theorem Nv {j n:Nat} (h:j < n):seqIndex? (j:Int) n=some j:=by
 unfold seqIndex?
 first | (simp;omega) | skip
end LJ
namespace L2
open PySem PySem.Spec PyProof.Rows
section
variable {X:Cx}
theorem yH:fX X (.type "range") (fun xs H Q=>∃ j:Int,xs=[.int j]/\∀ r,H r=none->Q (.ref r) (upd H r (.rng 0 j))):=by
 intro pins s σ H xs us Q I r h
 obtain⟨j,rfl,q⟩:=h
 obtain⟨u,rfl,t,rfl⟩:=vals1 r
 refine call_range_1 ⟨.ref s.heap.objs.size,_,I.laid (t':=s.toks + 1 + 1) (o := .rng 0 j) (fun b o e=>qt _ e) (uX _) ?_,rfl,q _ (I.aN.fresh (uX _))⟩
 exact⟨_,_,_,Vq _ rfl⟩
noncomputable def aL (n:Nat):List Int:=(List.range n).map fun a:Nat=>(a:Int)
theorem yI:∀ {ns:List Int} {us:List Value},us.length=ns.length->(∀ (i:Nat) (u:Value),us[i]? = some u->∃ t,u = .int (ns.getD i 0) t)->Vals (ns.map V.int) us
 | [],[],_,_ => .nil
 | [],_ :: _,h,_=>by simp at h
 | _ :: _,[],h,_=>by simp at h
 | n :: ns,u :: us,h,g=>by
  obtain⟨t,e⟩:=g 0 u rfl
  refine .cons ⟨t,e⟩ (yI (by simpa using h) fun i v e2 => ?_)
  obtain⟨t,e⟩:=g (i + 1) v (by simpa using e2)
  exact⟨t,by simpa using e⟩
theorem Eg (hc:X.calm=true):fX X (.type "list") (fun xs H Q=>∃ (r:Addr) (n:Nat),xs=[.ref r]/\H r=some (.rng 0 (n:Int))/\n <= 1000/\∀ l,H l=none->Q (.ref l) (upd H l (.lst ((aL n).map V.int)))):=by
 intro pins s σ H xs us Q I r h
 obtain⟨a,n,rfl,ha,hn,q⟩:=h
 obtain⟨u,rfl,rx⟩:=vals1 r
 cases rx
 obtain⟨t,u,v,e⟩:=(show ∃ t u v,s.heap.get? a=some { cls := .type "range",data := .fields #[.int 0 t,.int (n:Int) u,.int 1 v] } from I.aN a _ ha)
 have hs:Builtin.Range.rangeSize 0 (n:Int) 1=n:=by rw[rangeSize_one];split<;>omega
 refine call_list_range (n:=n) (I.ok.hd hc) e (small_one (by omega) (by omega) (by omega) (by omega)) hs (by omega) fun h' tk acc c' kp e' it => ?_
 refine⟨.ref s.heap.objs.size,_,I.laid (t':=tk) (o := .lst ((aL n).map V.int)) kp (uX _) ?_,rfl,q _ (I.aN.fresh (uX _))⟩
 refine⟨WM (qu (by rw[oV,aL,oV,VL];exact hn)),acc.toList,c',?_,by simpa using e'⟩
 refine yI ?_ fun i u e => ?_
 ·rw[UN,it.1,aL,oV,VL]
 ·rw[VX] at e
  obtain⟨t',e2⟩:=it.2 i u e
  have hi:i < n:=by rw[<-it.1];exact (XI.mp e).1
  refine⟨t',e2.trans ?_⟩
  rw[aL,DD,LR,Wv hi]
  show Value.int (0 + (i:Int) * 1) t'=Value.int (i:Int) t'
  rw[Zc,Int.mul_one]
theorem Eh:∀ {us:List Value} {ns:List Int},IntsAre us ns->Vals (ns.map V.int) us
 | _,_,.nil => .nil
 | _,_,.cons n t r => .cons ⟨t,rfl⟩ (Eh r)
theorem Ei:fX X (.builtin "sorted") (fun xs H Q=>∃ (l:Addr) (ns:List Int),xs=[.ref l]/\bq X.K H l (ns.map V.int)/\ns.length < 64/\∀ (r:Addr) (e8:List Int),e8.Perm ns->e8.Pairwise (· <= ·)->H r=none->Q (.ref r) (upd H r (.lst (e8.map V.int)))):=by
 intro pins s σ H xs us Q I r h
 obtain⟨l,ns,rfl,hq,gX,q⟩:=h
 obtain⟨u,rfl,rx⟩:=vals1 r
 cases rx
 obtain⟨aq,r',pl,_⟩:=I.list hq
 have hl:=r'.length
 rw[oV] at hl
 refine sorted_ints pl.isList (by simpa using intsAre_of r') (by omega) fun out e8 hI pm pw => ?_
 have hf:H (s.heap.objs.size + 1)=none:=I.aN.fresh (YQ _)
 obtain⟨e,he⟩:=sortedAll_at s.heap aq out
 refine⟨.ref (s.heap.objs.size + 1),_,I.laid (t':=s.toks) (o := .lst (e8.map V.int)) (fun b o e=>sortedAll_old e) (YQ _) ?_,rfl,q _ e8 pm pw hf⟩
 refine⟨WM (qu (by rw[oV,pm.length_eq];omega)),out.toList,e,Eh hI,?_⟩
 simpa [seqObj] using he
theorem Ej {prog:Program} {w:World} {A:Around} {E:Value->Shared->Prop} {I l:Addr} {items:Array Value} (W:Walks prog w A I [I,l] [I] items.size (fun i v=>items[i]? = some v) (fun i h=>h.IsListIter I l i/\h.IsList l items)) :
  ∀ (k i:Nat) (s:Shared) (Q:List Value->Shared->Prop),i + k <= items.size->(s.heap.IsListIter I l i/\s.heap.IsList l items) →
   (∀ h' tk,(h'.IsListIter I l (i + k)/\h'.IsList l items)->(∀ b o,b∉[I]->s.heap.get? b=some o->h'.get? b=some o)->Q ((items.toList.drop i).take k) { s with heap:=h',toks:=tk })->wpAny (model prog w) A (draw (.ref I) k) Q E s
 | 0,i,s,Q,_,st,g=>by
  show wpAny _ _ (pure []) Q E s
  refine xR ?_
  have:=g s.heap s.toks st fun _ _ _ e=>e
  rw[YM] at this
  exact this
 | k + 1,i,s,Q,hk,st,g=>by
  have hi:i < items.size:=by omega
  show wpAny _ _ (pyNext (.ref I) >>= _) Q E s
  refine mq (W.item i s _ _ hi st fun v h1 iR hv k_ yJ => ?_)
  refine mq (VG (Ej W k (i + 1) _ _ (by omega) k_ fun h2 sW jT yK=>xR ?_))
  have e:items.toList.drop i=v :: items.toList.drop (i + 1):=by
   rw[WW (by rw[UN];exact hi)]
   congr 1
   have Ek:items[i]? = some v:=hv
   rw[WV hi] at Ek
   simpa using Ek
  have:=g h2 sW (by rw[show i + (k + 1)=i + 1 + k by omega];exact jT) fun b o hb e=>yK b o hb (yJ b o hb e)
  rw[e,List.take_succ_cons] at this
  exact this
theorem Nx {prog:Program} {w:World} {A:Around} {E:Value->Shared->Prop} {s:Shared} {l:Addr} {items:Array Value} {Q:List Value->Shared->Prop} (hh:A.handled=none) (hl:s.heap.IsList l items)
  (g:∀ h' tk,(∀ b o,b≠s.heap.objs.size->s.heap.get? b=some o->h'.get? b=some o)->Q items.toList { s with heap:=h',toks:=tk }):wpAny (model prog w) A (unpackItems (.ref l) items.size none) Q E s:=by
 have ll:l < s.heap.objs.size:=by obtain⟨o,e,_⟩:=hl;exact UL e
 have W:=Yp (prog:=prog) (w:=w) hh s.heap.objs.size l (Vx ll) items
 unfold unpackItems
 refine mq ?_
 unfold notIterableAtAll
 refine mq (Zl hl.typeIs slot_list_iter.lookup (xR ?_))
 simp only[VW,Xf]
 refine mq (VG (Xg hl ?_))
 refine mq (VG (Ej W items.size 0 _ _ (by omega) ⟨⟨_,Vq _ rfl,rfl,rfl⟩,hl.push _⟩ fun h1 iR k_ yJ => ?_))
 rw[ZA,Wj (by rw[UN];exact uX _),LX (by rw[UN];exact WC _)]
 rw[VZ] at k_
 refine mq (VG (W.done _ _ _ k_ fun h2 sW yK => ?_))
 simp only[Option.isSome_none,VW,Xf]
 refine xR (g h2 sW fun b o hb e=>yK b o (by simpa using hb) (yJ b o (by simpa using hb) (qt _ e)))
noncomputable def Ny (K:PySem.W.Frag) (n:Nat) (t:iC):TG:=fun v σ H Q=>∃ a xs,v = .ref a/\bq K H a xs/\xs.length=n/\t xs σ H Q
theorem Nz {es:List Expr} {k:Nat} {t:iC} {n:Nat} {pos:Pos} (hc:X.calm=true) (h:jC X es t)
  (hn:(assignEach es X.env).length=n:=by rfl) (jS:(assignEach es X.env).findIdx? (·.1)=none:=by rfl):JG X (.Tuple es k pos) (Ny X.K n t):=by
 refine⟨?_⟩
 intro pins s σ H v u Q I r hw
 obtain⟨a,xs,e1,hq,hl,hw⟩:=hw
 subst e1
 cases r
 obtain⟨aq,rv,ht,hz⟩:=I.list hq
 have hlen:=rv.length
 rw[assign_Tuple]
 refine mq (XA ?_)
 unfold unpack
 rw[jS,show (assignEach es X.env).length=aq.toArray.size by rw[hn,<-hl,hlen];simp]
 refine mq (VG (Nx (I.ok.hd hc) ht.isList fun h' tk kp => ?_))
 have I1:Inv X pins σ H { s with heap:=h',toks:=tk }:=I.kept fun b o e=>kp b o (Vx (UL e)) e
 exact h.out pins _ σ H xs _ Q I1 (by simpa using rv) hw
end
theorem NA (aq:List Value):slicePick aq.toArray none none (some (-1))=aq.reverse.toArray:=by
 unfold slicePick
 congr 1
 have e:sliceBounds none none (some (-1)) aq.toArray.size=((aq.length:Int) - 1,-1,-1):=by
  unfold sliceBounds
  simp
 rw[e]
 unfold sliceRange
 simp only
 have ec:(if (-1:Int) > 0 then (if (aq.length:Int) - 1 < -1 then (-1 - ((aq.length:Int) - 1) + -1 - 1) / -1 else 0) else (if (aq.length:Int) - 1 > -1 then ((aq.length:Int) - 1 - -1 - -1 - 1) / (- -1) else 0))=(aq.length:Int):=by
  rw[LX (by decide)]
  split
  ·rw[show (- -1:Int)=1 by decide,ZN];omega
  ·omega
 rw[ec,LW]
 rw[List.filterMap_map]
 have hc:∀ (n:Nat),(∀ k∈List.range n,k < aq.length)->(List.range n).filterMap ((fun k:Nat=>aq.toArray[k]?) ∘ fun k:Nat=>((aq.length:Int) - 1 + -1 * (k:Int)).toNat)=(List.range n).map fun k=>aq.getD (aq.length - 1 - k) .none:=by
  intro n hn
  generalize hr:List.range n=l at hn
  clear hr
  induction l with
  | nil=>rfl
  | cons k l ih =>
   have hk:=hn k (UQ ..)
   have e1:((aq.length:Int) - 1 + -1 * (k:Int)).toNat=aq.length - 1 - k:=by omega
   have hl:aq.length - 1 - k < aq.length:=by omega
   rw[List.filterMap_cons_some (b:=aq.getD (aq.length - 1 - k) .none),Vy,ih fun x hx=>hn x (Vs _ hx)]
   show aq.toArray[((aq.length:Int) - 1 + -1 * (k:Int)).toNat]? = _
   rw[e1,WX,oU hl,DD,oU hl];rfl
 rw[hc aq.length fun k hk=>VJ.mp hk]
 refine List.ext_getElem (by simp) fun i h1 h2 => ?_
 rw[Xa,List.getElem_range,List.getElem_reverse]
 have hi:i < aq.length:=by simpa using h1
 rw[DD,oU (by omega)];rfl
section
variable {X:Cx} {e:Expr} {te:TE} {pos p2 p3 p4:Pos}
theorem yL:∀ {xs:List V} {us:List Value},Vals xs us->Vals xs.reverse us.reverse
 | [],_,.nil => .nil
 | x :: xs,_,.cons r rs=>by
  rw[XF,XF]
  exact Vals.append (yL rs) (.cons r .nil)
end
inductive DV where
 | p (d:D) | o (k:Nat)
inductive OV where
 | lst (ds:List D) | dct (ah:List (Key × D))
structure aF where
 sl:List (Option DV)
 mu:List (Option OV)
noncomputable def eW (F:Hp):List (Key × D)->List (Key × V)->Prop
 | [],ws=>ws=[]
 | kd :: r,ws=>∃ v t,ws=(kd.1,v) :: t/\Is F kd.2 v/\eW F r t
noncomputable def eE (F:Hp):OV->HO->Prop
 | .lst ds,o=>∃ vs,o = .lst vs/\ae F ds vs
 | .dct ah,o=>∃ ws,o = .dK ws/\eW F ah ws
theorem eW.same {F F':Hp} (s:aJ F F'):∀ {fy:List (Key × D)} {ws:List (Key × V)},eW F fy ws->eW F' fy ws
 | [],_,h=>h
 | _ :: _,_,⟨v,t,e,h1,h2⟩=>⟨v,t,e,h1.same s,eW.same s h2⟩
theorem eE.same {F F':Hp} (s:aJ F F'):∀ {ov:OV} {o:HO},eE F ov o->eE F' ov o
 | .lst _,_,⟨vs,e,h⟩=>⟨vs,e,h.same s⟩
 | .dct _,_,⟨ws,e,h⟩=>⟨ws,e,h.same s⟩
noncomputable def e_ (F:Hp) (ad:List Addr):DV->V->Prop
 | .p d,v=>Is F d v
 | .o k,v=>∃ a,ad[k]? = some a/\v = .ref a
noncomputable def Lv (ad:List Addr) (mu:List (Option OV)) (a:Addr):Prop:=∃ (k:Nat) (ov:OV),ad[k]? = some a/\mu[k]? = some (some ov)
class aM where
 ad:List Addr
 ok:Hp->Prop
 same:∀ {H H':Hp},ok H->aJ H H'->ok H'
 put:∀ {H:Hp} {a:Addr} {o o':HO},ok H->H a=some o->((∃ vs,o = .lst vs)\/∃ ws,o = .dK ws)->ok (upd H a o')
 tb:∀ {H:Hp} {a:Addr},ok H->a∈ad->∃ ps,H a=some (.tbl ps)
theorem eE.kind {F:Hp}:∀ {ov:OV} {o:HO},eE F ov o->(∃ vs,o = .lst vs)\/∃ ws,o = .dK ws
 | .lst _,_,⟨vs,e,_⟩ => .inl ⟨vs,e⟩
 | .dct _,_,⟨ws,e,_⟩ => .inr ⟨ws,e⟩
variable [aM]
structure SR (F:Hp) (ad:List Addr) (δ : aF) (σ : St) (H:Hp):Prop where
 sub:aJ F H
 off:∀ a,Lv ad δ.mu a->F a=none
 cb:ad.length = δ.mu.length
 inj:∀ (k l:Nat) (a:Addr) (ov ow:OV),ad[k]? = some a->ad[l]? = some a -> δ.mu[k]? = some (some ov) -> δ.mu[l]? = some (some ow)->k=l
 mu:∀ (k:Nat) (ov:OV),δ.mu[k]? = some (some ov)->∃ a o,ad[k]? = some a/\H a=some o/\eE F ov o
 sl:∀ (i:Nat) (x:DV),δ.sl[i]? = some (some x)->∃ v,σ[i]? = some (some v)/\e_ F ad x v
 len : σ.length = δ.sl.length
 tab:aM.ok H
 nt:∀ a∈aM.ad,F a=none
structure Ext (F:Hp) (ad:List Addr) (mu:List (Option OV)) (H:Hp) (F':Hp) (aK:List Addr) (cH:List (Option OV)) (H':Hp):Prop where
 same:aJ F F'
 new:∀ a o,F' a=some o->F a=some o\/H a=none\/Lv ad mu a
 keep:∀ a o,H a=some o->¬ Lv ad mu a->a∉aM.ad->H' a=some o
 pre:∀ (k:Nat) (a:Addr),ad[k]? = some a->aK[k]? = some a
 b7:∀ a,Lv aK cH a->Lv ad mu a\/H a=none
 iG:∀ a o,H a=some o->∃ o',H' a=some o'
section
variable {F F' Em H H' ie:Hp} {ad aK sX:List Addr} {mu cH sY:List (Option OV)} {δ : aF} {σ : St}
theorem cA {H:Hp} {a:Addr} {o:HO} (h:H a=none):aJ H (upd H a o):=fun b u e=>by rw[aX (cY e h)];exact e
theorem Ext.refl:Ext F ad mu H F ad mu H:=⟨fun _ _ e=>e,fun _ _ e => .inl e,fun _ _ e _ _=>e,fun _ _ e=>e,fun _ e => .inl e,fun _ o e=>⟨o,e⟩⟩
theorem Ext.trans (x:Ext F ad mu H F' aK cH H') (y:Ext F' aK cH H' Em sX sY ie):Ext F ad mu H Em sX sY ie where
 same:=x.same.trans y.same
 new:=fun a o e=>by
  rcases y.new a o e with h | h | h
  ·exact x.new a o h
  ·refine .inr (.inl ?_)
   cases q:H a with
   | none=>rfl
   | some u=>obtain⟨u',h'⟩:=x.iG a u q;rw[h] at h';cases h'
  ·rcases x.b7 a h with h | h
   ·exact .inr (.inr h)
   ·exact .inr (.inl h)
 keep:=fun a o e n t=>y.keep a o (x.keep a o e n t) (fun l=>by
  rcases x.b7 a l with h | h
  ·exact n h
  ·rw[e] at h;cases h) t
 pre:=fun k a e=>y.pre k a (x.pre k a e)
 b7:=fun a l=>by
  rcases y.b7 a l with h | h
  ·exact x.b7 a h
  ·refine .inr ?_
   cases q:H a with
   | none=>rfl
   | some u=>obtain⟨u',h'⟩:=x.iG a u q;rw[h] at h';cases h'
 iG:=fun a o e=>let ⟨o1,e1⟩:=x.iG a o e;y.iG a o1 e1
theorem e_.ext {x:DV} {v:V} (h:e_ F ad x v) (e:Ext F ad mu H F' aK cH H'):e_ F' aK x v:=by
 cases x with
 | p d=>exact Is.same e.same h
 | o k=>obtain⟨a,h1,h2⟩:=h;exact⟨a,e.pre k a h1,h2⟩
noncomputable def Nw (F H H':Hp):Hp:=fun a=>match H a with
 | none=>H' a
 | some _=>F a
theorem Nw.same (s:aJ F H):aJ F (Nw F H H'):=fun a o e=>by
 unfold Nw;rw[s a o e];exact e
theorem Nw.sub (s:aJ F H) (k:aJ H H'):aJ (Nw F H H') H':=fun a o e=>by
 unfold Nw at e
 cases q:H a with
 | none=>rw[q] at e;exact e
 | some u=>rw[q] at e;exact k a o (s a o e)
theorem Nw.upd {p:Addr} {o:HO} (s:aJ F H) (hp:H p=none):Nw F H (upd H p o)=upd F p o:=by
 funext a
 unfold Nw L2.upd
 by_cases c:a=p
 ·subst c;rw[hp,UO rfl];simp
 ·rw[LX c,LX c]
  cases q:H a with
  | none =>
   cases q2:F a with
   | none=>rfl
   | some u=>rw[s a u q2] at q;cases q
  | some u=>rfl
theorem Nw.refl (s:aJ F H):Nw F H H=F:=by
 funext a
 unfold Nw
 cases q:H a with
 | none =>
  cases q2:F a with
  | none=>rfl
  | some u=>rw[s a u q2] at q;cases q
 | some u=>rfl
theorem SR.al (S:SR F ad δ σ H) (k:aJ H H'):SR (Nw F H H') ad δ σ H':=by
 have sm:=Nw.same (H':=H') S.sub
 refine⟨Nw.sub S.sub k,fun a l => ?_,S.cb,S.inj,fun i ov e => ?_,fun i x e => ?_,S.len,aM.same S.tab k,fun a ha=>by obtain⟨ps,q⟩:=aM.tb S.tab ha;unfold Nw;rw[q];exact S.nt a ha⟩
 ·obtain⟨i,ov,e1,e2⟩:=l
  obtain⟨a',o,e3,e4,_⟩:=S.mu i ov e2
  rw[e1] at e3;cases e3
  unfold Nw;rw[e4];exact S.off a ⟨i,ov,e1,e2⟩
 ·obtain⟨a,o,e1,e2,h⟩:=S.mu i ov e
  exact⟨a,o,e1,k a o e2,h.same sm⟩
 ·obtain⟨v,e1,h⟩:=S.sl i x e
  refine⟨v,e1,?_⟩
  cases x with
  | p d=>exact Is.same sm h
  | o k=>exact h
theorem Ext.al (S:SR F ad δ σ H) (k:aJ H H'):Ext F ad δ.mu H (Nw F H H') ad δ.mu H' where
 same:=Nw.same S.sub
 new:=fun a o e=>by
  unfold Nw at e
  cases q:H a with
  | none=>exact .inr (.inl rfl)
  | some u=>rw[q] at e;exact .inl e
 keep:=fun a o e _ _=>k a o e
 pre:=fun _ _ e=>e
 b7:=fun _ l => .inl l
 iG:=fun a o e=>⟨o,k a o e⟩
theorem SR.own {p:Addr} {o:HO} {ov:OV} (S:SR F ad δ σ H) (hp:H p=none) (h:eE F ov o):SR F (ad ++ [p]) ⟨δ.sl,δ.mu ++ [some ov]⟩ σ (upd H p o):=by
 have old:∀ {k:Nat} {w:OV},(δ.mu ++ [some ov])[k]? = some (some w)->(k < δ.mu.length /\ δ.mu[k]? = some (some w))\/(k = δ.mu.length/\w=ov):=fun {k w} e=>by
  by_cases c:k < δ.mu.length
  ·rw[Vt c] at e;exact .inl ⟨c,e⟩
  ·have hl:=(oW.mp e).1
   rw[DG,VH] at hl
   have ek:k = δ.mu.length:=by omega
   subst ek
   rw[Vu (uX _),Wa] at e
   exact .inr ⟨rfl,by simpa using e.symm⟩
 have pre:∀ {k:Nat},k < δ.mu.length->(ad ++ [p])[k]? = ad[k]? := fun {k} c=>Vt (by rw[S.cb];exact c)
 have last:(ad ++ [p])[δ.mu.length]? = some p:=by rw[<-S.cb,Vu (uX _),Wa];rfl
 have np:∀ {k:Nat} {a:Addr} {w:OV},ad[k]? = some a -> δ.mu[k]? = some (some w)->a≠p:=fun {k a w} e1 e2=>by
  obtain⟨a',u,e3,e4,_⟩:=S.mu k w e2
  rw[e1] at e3;cases e3
  exact cY e4 hp
 refine⟨fun a u e => ?_,fun a l => ?_,by rw[DG,DG,S.cb];rfl,fun k l a w w' e1 e2 e3 e4 => ?_,fun k w e => ?_,fun i x e => ?_,S.len,aM.same S.tab (cA hp),S.nt⟩
 ·have:=S.sub a u e
  rw[aX (cY this hp)];exact this
 ·obtain⟨k,w,e1,e2⟩:=l
  rcases old e2 with⟨c,e3⟩ | ⟨c,e3⟩
  ·rw[pre c] at e1;exact S.off a ⟨k,w,e1,e3⟩
  ·subst c;rw[last] at e1;cases e1
   cases q:F p with
   | none=>rfl
   | some u=>rw[S.sub p u q] at hp;cases hp
 ·rcases old e3 with⟨c,q⟩ | ⟨c,q⟩
  ·rw[pre c] at e1
   rcases old e4 with⟨c',q'⟩ | ⟨c',q'⟩
   ·rw[pre c'] at e2;exact S.inj k l a w w' e1 e2 q q'
   ·subst c';rw[last] at e2;cases e2;exact absurd rfl (np e1 q)
  ·subst c;rw[last] at e1;cases e1
   rcases old e4 with⟨c',q'⟩ | ⟨c',q'⟩
   ·rw[pre c'] at e2;exact absurd rfl (np e2 q')
   ·exact c'.symm
 ·rcases old e with⟨c,q⟩ | ⟨c,q⟩
  ·obtain⟨a,u,e1,e2,h'⟩:=S.mu k w q
   exact⟨a,u,by rw[pre c];exact e1,by rw[aX (np e1 q)];exact e2,h'⟩
  ·subst c;subst q;exact⟨p,o,last,bR,h⟩
 ·obtain⟨v,e1,h'⟩:=S.sl i x e
  refine⟨v,e1,?_⟩
  cases x with
  | p d=>exact h'
  | o k =>
   obtain⟨a,e2,e3⟩:=h'
   exact⟨a,by rw[Vt (oW.mp e2).1];exact e2,e3⟩
theorem Ext.own {p:Addr} {o:HO} {ov:OV} (S:SR F ad δ σ H) (hp:H p=none):Ext F ad δ.mu H F (ad ++ [p]) (δ.mu ++ [some ov]) (upd H p o) where
 same:=fun _ _ e=>e
 new:=fun _ _ e => .inl e
 keep:=fun a u e _ _=>by rw[aX (cY e hp)];exact e
 pre:=fun k a e=>by rw[Vt (oW.mp e).1];exact e
 b7:=fun a l=>by
  obtain⟨k,w,e1,e2⟩:=l
  by_cases c:k < δ.mu.length
  ·rw[Vt c] at e2
   rw[Vt (by rw[S.cb];exact c)] at e1
   exact .inl ⟨k,w,e1,e2⟩
  ·have hl:=(oW.mp e2).1
   rw[DG,VH] at hl
   have ek:k=ad.length:=by rw[S.cb];omega
   subst ek
   rw[Vu (uX _),Wa] at e1
   have:p=a:=by simpa using e1
   subst this;exact .inr hp
 iG:=fun a u e=>⟨u,by rw[aX (cY e hp)];exact e⟩
theorem SR.put {k:Nat} {a:Addr} {o:HO} {ov ow:OV} (S:SR F ad δ σ H) (hk : δ.mu[k]? = some (some ow)) (ha:ad[k]? = some a) (h:eE F ov o):SR F ad ⟨δ.sl,δ.mu.set k (some ov)⟩ σ (upd H a o):=by
 have kl:=(oW.mp hk).1
 have old:∀ {l:Nat} {w:OV},(δ.mu.set k (some ov))[l]? = some (some w)->(l≠k /\ δ.mu[l]? = some (some w))\/(l=k/\w=ov):=fun {l w} e=>by
  by_cases c:k=l
  ·subst c;rw[Wi kl] at e;exact .inr ⟨rfl,by simpa using e.symm⟩
  ·rw[Wh c] at e;exact .inl ⟨fun z=>c z.symm,e⟩
 have lv:∀ {l:Nat} {w:OV} {b:Addr},ad[l]? = some b->(δ.mu.set k (some ov))[l]? = some (some w)->Lv ad δ.mu b:=fun {l w b} e1 e2=>by
  rcases old e2 with⟨_,q⟩ | ⟨c,_⟩
  ·exact⟨l,w,e1,q⟩
  ·subst c;exact⟨l,ow,e1,hk⟩
 have tk:aM.ok (upd H a o):=by
  obtain⟨a',u,e1,e2,h'⟩:=S.mu k ow hk
  rw[ha] at e1;cases e1
  exact aM.put S.tab e2 h'.kind
 refine⟨fun b u e => ?_,fun b l => ?_,by rw[WQ];exact S.cb,fun l l' b w w' e1 e2 e3 e4 => ?_,fun l w e => ?_,fun i x e => ?_,S.len,tk,S.nt⟩
 ·have nb:b≠a:=fun z=>by
   subst z
   rw[S.off b ⟨k,ow,ha,hk⟩] at e;cases e
  rw[aX nb];exact S.sub b u e
 ·obtain⟨l,w,e1,e2⟩:=l
  exact S.off b (lv e1 e2)
 ·have h1:∃ w,δ.mu[l]? = some (some w):=by
   rcases old e3 with⟨_,q⟩ | ⟨c,_⟩
   ·exact⟨_,q⟩
   ·subst c;exact⟨_,hk⟩
  have h2:∃ w,δ.mu[l']? = some (some w):=by
   rcases old e4 with⟨_,q⟩ | ⟨c,_⟩
   ·exact⟨_,q⟩
   ·subst c;exact⟨_,hk⟩
  obtain⟨w1,q1⟩:=h1
  obtain⟨w2,q2⟩:=h2
  exact S.inj l l' b _ _ e1 e2 q1 q2
 ·rcases old e with⟨c,q⟩ | ⟨c,q⟩
  ·obtain⟨b,u,e1,e2,h'⟩:=S.mu l w q
   have nb:b≠a:=fun z=>by subst z;exact c (S.inj l k b _ _ e1 ha q hk)
   exact⟨b,u,e1,by rw[aX nb];exact e2,h'⟩
  ·subst c;subst q;exact⟨a,o,ha,bR,h⟩
 ·exact S.sl i x e
theorem Ext.put {k:Nat} {a:Addr} {o:HO} {ov ow:OV} (S:SR F ad δ σ H) (hk : δ.mu[k]? = some (some ow)) (ha:ad[k]? = some a):Ext F ad δ.mu H F ad (δ.mu.set k (some ov)) (upd H a o) where
 same:=fun _ _ e=>e
 new:=fun _ _ e => .inl e
 keep:=fun b u e n _=>by rw[aX fun z=>n (by subst z;exact⟨k,ow,ha,hk⟩)];exact e
 pre:=fun _ _ e=>e
 b7:=fun b l=>by
  obtain⟨l,w,e1,e2⟩:=l
  by_cases c:k=l
  ·subst c;exact .inl ⟨k,ow,e1,hk⟩
  ·rw[Wh c] at e2;exact .inl ⟨l,w,e1,e2⟩
 iG:=fun b u e=>by
  by_cases c:b=a
  ·subst c;exact⟨o,bR⟩
  ·exact⟨u,by rw[aX c];exact e⟩
theorem SR.fix {k:Nat} {a:Addr} {o:HO} {ow:OV} (S:SR F ad δ σ H) (hk : δ.mu[k]? = some (some ow)) (ha:ad[k]? = some a) (ho:H a=some o):SR (upd F a o) ad ⟨δ.sl,δ.mu.set k none⟩ σ H:=by
 have kl:=(oW.mp hk).1
 have fa:=S.off a ⟨k,ow,ha,hk⟩
 have sm:aJ F (upd F a o):=fun b u e=>by rw[aX (cY e fa)];exact e
 have old:∀ {l:Nat} {w:OV},(δ.mu.set k none)[l]? = some (some w)->l≠k /\ δ.mu[l]? = some (some w):=fun {l w} e=>by
  by_cases c:k=l
  ·subst c;rw[Wi kl] at e;cases e
  ·rw[Wh c] at e;exact⟨fun z=>c z.symm,e⟩
 refine⟨fun b u e => ?_,fun b l => ?_,by rw[WQ];exact S.cb,fun l l' b w w' e1 e2 e3 e4=>S.inj l l' b w w' e1 e2 (old e3).2 (old e4).2,fun l w e => ?_,fun i x e => ?_,S.len,S.tab,fun b hb => ?_⟩
 ·by_cases c:b=a
  ·subst c;rw[bR] at e;cases e;exact ho
  ·rw[aX c] at e;exact S.sub b u e
 ·obtain⟨l,w,e1,e2⟩:=l
  obtain⟨c,q⟩:=old e2
  have nb:b≠a:=fun z=>by subst z;exact c (S.inj l k b _ _ e1 ha q hk)
  rw[aX nb];exact S.off b ⟨l,w,e1,q⟩
 ·obtain⟨b,u,e1,e2,h'⟩:=S.mu l w (old e).2
  exact⟨b,u,e1,e2,h'.same sm⟩
 ·obtain⟨v,e1,h'⟩:=S.sl i x e
  refine⟨v,e1,?_⟩
  cases x with
  | p d=>exact Is.same sm h'
  | o k=>exact h'
 ·obtain⟨ps,q⟩:=aM.tb S.tab hb
  have nb:b≠a:=fun z=>by
   subst z
   obtain⟨a',u,e1,e2,h'⟩:=S.mu k ow hk
   rw[ha] at e1;cases e1
   rw[q] at e2;cases e2
   rcases h'.kind with⟨_,z⟩ | ⟨_,z⟩<;>cases z
  rw[aX nb];exact S.nt b hb
theorem Ext.fix {k:Nat} {a:Addr} {o:HO} {ow:OV} (S:SR F ad δ σ H) (hk : δ.mu[k]? = some (some ow)) (ha:ad[k]? = some a):Ext F ad δ.mu H (upd F a o) ad (δ.mu.set k none) H where
 same:=fun b u e=>by rw[aX (cY e (S.off a ⟨k,ow,ha,hk⟩))];exact e
 new:=fun b u e=>by
  by_cases c:b=a
  ·subst c;exact .inr (.inr ⟨k,ow,ha,hk⟩)
  ·rw[aX c] at e;exact .inl e
 keep:=fun b u e _ _=>e
 pre:=fun _ _ e=>e
 b7:=fun b l=>by
  obtain⟨l,w,e1,e2⟩:=l
  by_cases c:k=l
  ·subst c;rw[Wi (oW.mp hk).1] at e2;cases e2
  ·rw[Wh c] at e2;exact .inl ⟨l,w,e1,e2⟩
 iG:=fun b u e=>⟨u,e⟩
theorem SR.set {i:Nat} {x:DV} {v:V} (S:SR F ad δ σ H) (h:e_ F ad x v):SR F ad ⟨δ.sl.set i (some x),δ.mu⟩ (σ.set i (some v)) H:=by
 refine⟨S.sub,S.off,S.cb,S.inj,S.mu,fun j y e => ?_,by rw[WQ,WQ];exact S.len,S.tab,S.nt⟩
 by_cases c:i=j
 ·subst c
  have hl:=(oW.mp e).1
  rw[WQ] at hl
  rw[Wi hl] at e
  cases e
  exact⟨v,Wi (by rw[S.len];exact hl),h⟩
 ·rw[Wh c] at e
  obtain⟨w,e1,h1⟩:=S.sl j y e
  exact⟨w,by rw[Wh c];exact e1,h1⟩
end
noncomputable abbrev WE:=aF->(DV->aF->Prop)->Prop
noncomputable abbrev WA:=aF->(List DV->aF->Prop)->Prop
noncomputable abbrev WT:=aF->(Bool->aF->Prop)->Prop
noncomputable def c6 (F:Hp) (ad:List Addr):List DV->List V->Prop
 | [],vs=>vs=[]
 | x :: xs,vs=>∃ v r,vs=v :: r/\e_ F ad x v/\c6 F ad xs r
theorem c6.ext {F F' H H':Hp} {ad aK:List Addr} {mu cH:List (Option OV)} (e:Ext F ad mu H F' aK cH H'):∀ {xs:List DV} {vs:List V},c6 F ad xs vs->c6 F' aK xs vs
 | [],_,h=>h
 | _ :: _,_,⟨v,r,q,h1,h2⟩=>⟨v,r,q,h1.ext e,c6.ext e h2⟩
noncomputable def tD (f:WE):TE:=fun σ H Q=>∃ F ad δ K,SR F ad δ σ H/\f δ K/\∀ x δ',K x δ'->∀ v F' aK H',Ext F ad δ.mu H F' aK δ'.mu H'->SR F' aK δ' σ H'->e_ F' aK x v->Q v H'
noncomputable def bX (f:WA):TA:=fun σ H Q=>∃ F ad δ K,SR F ad δ σ H/\f δ K/\∀ xs δ',K xs δ'->∀ vs F' aK H',Ext F ad δ.mu H F' aK δ'.mu H'->SR F' aK δ' σ H'->c6 F' aK xs vs->Q vs H'
noncomputable def cP (f:WT):TT:=fun σ H Q=>∃ F ad δ K,SR F ad δ σ H/\f δ K/\∀ b δ',K b δ'->∀ F' aK H',Ext F ad δ.mu H F' aK δ'.mu H'->SR F' aK δ' σ H'->Q b H'
noncomputable def gu (F H:Hp):D->V->Prop
 | .lst ds,v=>∃ a vs,v = .ref a/\H a=some (.lst vs)/\ae F ds vs
 | d,v=>Is F d v
noncomputable def gY (x:DV) (δ : aF) (K:D->Prop):Prop:=match x with
 | .p d=>K d
 | .o k=>match δ.mu[k]? with
  | some (some (.lst ds))=>K (.lst ds)
  | _=>False
theorem gu.of {F H:Hp} (s:aJ F H):∀ {d:D} {v:V},Is F d v->gu F H d v
 | .lst _,_,h=>by
  simp only[Is] at h
  obtain⟨a,vs,e,h1,h2⟩:=h
  exact⟨a,vs,e,s _ _ h1,h2⟩
 | .tup _,_,h=>h
 | .non,_,h=>h
 | .bl _,_,h=>h
 | .int _,_,h=>h
 | .str _,_,h=>h
theorem gu.is {F H:Hp} (s:aJ F H):∀ {d:D} {v:V},gu F H d v->Is H d v
 | .lst _,_,h=>by
  obtain⟨a,vs,e,h1,h2⟩:=h
  simp only[Is]
  exact⟨a,vs,e,h1,h2.same s⟩
 | .tup _,_,h=>Is.same s h
 | .non,_,h=>Is.same s h
 | .bl _,_,h=>Is.same s h
 | .int _,_,h=>Is.same s h
 | .str _,_,h=>Is.same s h
theorem iH {F H:Hp} {ad:List Addr} {δ : aF} {σ : St} {x:DV} {v:V} {K:D->Prop} (S:SR F ad δ σ H) (hv:e_ F ad x v) (h:gY x δ K):∃ d,K d/\gu F H d v:=by
 cases x with
 | p d=>exact⟨d,h,gu.of S.sub hv⟩
 | o k =>
  unfold gY at h
  dsimp only at h
  split at h
  ·rename_i ds e
   obtain⟨a,e1,rfl⟩:=hv
   obtain⟨a',o,e2,e3,vs,rfl,h4⟩:=S.mu k _ e
   rw[e1] at e2;cases e2
   exact⟨_,h,a,vs,rfl,e3,h4⟩
  ·exact h.elim
noncomputable def j7:List DV->aF->(List D->Prop)->Prop
 | [],_,K=>K []
 | x :: xs,δ,K=>gY x δ fun d=>j7 xs δ fun ds=>K (d :: ds)
noncomputable def gH (F H:Hp):List D->List V->Prop
 | [],vs=>vs=[]
 | d :: ds,vs=>∃ v r,vs=v :: r/\gu F H d v/\gH F H ds r
theorem vd {F H:Hp} {ad:List Addr} {δ : aF} {σ : St} (S:SR F ad δ σ H):∀ {xs:List DV} {vs:List V} {K:List D->Prop},c6 F ad xs vs->j7 xs δ K->∃ ds,K ds/\gH F H ds vs
 | [],_,_,hv,h=>⟨[],h,hv⟩
 | x :: xs,_,_,⟨v,r,rfl,h1,h2⟩,h=>by
  obtain⟨d,h',rd⟩:=iH S h1 h
  obtain⟨ds,qE,pe⟩:=vd S h2 h'
  exact⟨d :: ds,qE,v,r,rfl,rd,pe⟩
noncomputable abbrev Made (F H:Hp) (K:D->Prop) (Q:VK):Prop:=∀ z v H',K z->aJ H H'->Is (Nw F H H') z v->Q v H'
noncomputable def d7 (X:Cx) (f:Value->Value->Sem Value) (g:D->D->(D->Prop)->Prop):Prop :=
 cG X f fun x y H Q=>∃ F d e K,aJ F H/\gu F H d x/\gu F H e y/\g d e K/\Made F H K Q
noncomputable def En (X:Cx) (g:D->D->(D->Prop)->Prop):Prop :=
 qr X fun x y H Q=>∃ F d e K,aJ F H/\gu F H d x/\gu F H e y/\g d e K/\Made F H K Q
noncomputable def b8 (X:Cx) (f:Value) (g:List D->(D->Prop)->Prop):Prop :=
 fX X f fun xs H Q=>∃ F ds K,aJ F H/\gH F H ds xs/\g ds K/\Made F H K Q
noncomputable def d2 (f g:WE) (op:D->D->(D->Prop)->Prop):WE:=fun δ K=>f δ fun x δ1=>g δ1 fun y δ2=>gY x δ2 fun d=>gY y δ2 fun e=>op d e fun z=>K (.p z) δ2
noncomputable def d1 (f:WE) (op:D->(D->Prop)->Prop):WE:=fun δ K=>f δ fun x δ1=>gY x δ1 fun d=>op d fun z=>K (.p z) δ1
noncomputable def dN (f:WA) (op:List D->(D->Prop)->Prop):WE:=fun δ K=>f δ fun xs δ1=>j7 xs δ1 fun ds=>op ds fun z=>K (.p z) δ1
noncomputable def dC (d:D):WE:=fun δ K=>K (.p d) δ
noncomputable def aa (i:Nat):WE:=fun δ K=>match δ.sl[i]? with
 | some (some x)=>K x δ
 | _=>False
noncomputable def af:WA:=fun δ K=>K [] δ
noncomputable def ai (f:WE) (g:WA):WA:=fun δ K=>f δ fun x δ1=>g δ1 fun xs δ2=>K (x :: xs) δ2
section
variable {X:Cx} {a b c:Expr} {f g h:WE} {fa:WA} {pos:Pos}
theorem vf {e:Expr} {d:D} {v:V} (h:JE X e (tC v)) (hi:∀ F,Is F d v):JE X e (tD (dC d)):=h.weak fun σ H Q h0_ => el7 h0_ fun F ad δ K S q k =>k _ _ q _ _ _ _ .refl S (hi F)
theorem az {i j pos}:JE X (.Constant (.int i) j pos) (tD (dC (.int i))):=vf cN fun _=>rfl
theorem ig {i j pos}:JE X (.Constant (.bool i) j pos) (tD (dC (.bl i))):=vf ML fun _=>rfl
theorem pf {j pos}:JE X (.Constant .none j pos) (tD (dC .non)):=vf MM fun _=>rfl
theorem NB {x:Str} {i:Int} {u:Value} {pos:Pos} (hg:Gl X x) (hm:X.mg x=some u) (r:RelV (.int i) u) (hd:(x == ("__debug__" : Str))=false:=by decide):JE X (.Name x pos) (tD (dC (.int i))):=vf (MN hg hm r hd) fun _=>rfl
theorem dv (i:Nat) {x:Str} {pos:Pos} (hN:X.N[i]? = some x:=by rfl) (hv:ou X.env.scope x:=by first | exact Or.inl rfl | exact Or.inr (Or.inl rfl) | exact Or.inr (Or.inr rfl))
  (hd:(x == ("__debug__" : Str))=false:=by decide) (eT:(x == ("__classdict__" : Str))=false:=by decide):JE X (.Name x pos) (tD (aa i)) :=
 (MK hN hv hd eT).weak fun σ H Q h0_ => el7 h0_ fun F ad δ K S q k =>by
  unfold aa at q
  split at q
  ·rename_i x e
   obtain⟨v,e1,h1⟩:=S.sl i x e
   exact⟨v,e1,k _ _ q _ _ _ _ .refl S h1⟩
  ·exact q.elim
theorem vg {r:R2} {ta tb:TE} {op:D->D->(D->Prop)->Prop} (hr:∀ x y H Q,(∃ F d e K,aJ F H/\gu F H d x/\gu F H e y/\op d e K/\Made F H K Q)->r x y H Q):∀ σ H Q,tD (d2 f g op) σ H Q->lX r (tD f) (tD g) σ H Q:=by
 rintro σ H Q ⟨F,ad,δ,K,S,q,k⟩
 refine⟨F,ad,δ,_,S,q,fun x δ1 h1 v1 F1 aO H1 E1 S1 V1=>⟨F1,aO,δ1,_,S1,h1,fun y δ2 h2 v2 F2 bK H2 E2 S2 V2=>hr _ _ _ _ ?_⟩⟩
 obtain⟨d,h3,rd⟩:=iH S2 (V1.ext E2) h2
 obtain⟨e,h4,re⟩:=iH S2 V2 h3
 exact⟨F2,d,e,_,S2.sub,rd,re,h4,fun z v H' hz sm is=>k _ _ hz _ _ _ _ ((E1.trans E2).trans (Ext.al S2 sm)) (S2.al sm) is⟩
theorem ba {op:Operator} {o:D->D->(D->Prop)->Prop} (ho:d7 X (binaryOp op) o) (ha:JE X a (tD f)) (hb:JE X b (tD g)):JE X (.BinOp a op b pos) (tD (d2 f g o)) :=
 (sV ho ha hb).weak (vg (ta:=tD f) (tb:=tD g) fun _ _ _ _ h=>h)
theorem gZ {op:CmpOp} {o:D->D->(D->Prop)->Prop} (ho:d7 X (compareOp op) o) (ha:JE X a (tD f)) (hb:JE X b (tD g)) (hm:behindInMarks op b=false):JE X (.Compare a [op] [b] pos) (tD (d2 f g o)) :=
 (M7 ho ha hb hm).weak (vg (ta:=tD f) (tb:=tD g) fun _ _ _ _ h=>h)
theorem aV {o:D->D->(D->Prop)->Prop} (ho:En X o) (ha:JE X a (tD f)) (hb:JE X b (tD g)) (hs:xB b):JE X (.Subscript a b pos) (tD (d2 f g o)) :=
 (D9 ho ha hb hs).weak (vg (ta:=tD f) (tb:=tD g) fun _ _ _ _ h=>h)
theorem aA:JA X [] (bX af):=bW.weak fun σ H Q h0_ => el7 h0_ fun F ad δ K S q k =>k _ _ q _ _ _ _ .refl S rfl
theorem ph:∀ σ H Q,bX (ai f fa) σ H Q->hZ (tD f) (bX fa) σ H Q:=by
 rintro σ H Q ⟨F,ad,δ,K,S,q,k⟩
 exact⟨F,ad,δ,_,S,q,fun x δ1 h1 v1 F1 aO H1 E1 S1 V1=>⟨F1,aO,δ1,_,S1,h1,fun xs δ2 h2 vs F2 bK H2 E2 S2 V2=>k _ _ h2 _ _ _ _ (E1.trans E2) S2 ⟨v1,vs,rfl,V1.ext E2,V2⟩⟩⟩
theorem cI {e:Expr} {es:List Expr} (ha:JE X e (tD f)) (hr:JA X es (bX fa)) (hs:starEach (e :: es) X.env=(false,eval e X.env) :: starEach es X.env:=by rfl):JA X (e :: es) (bX (ai f fa)):=(oZ ha hr hs).weak ph
theorem a6 {es:List Expr} {c j p} (ha:JE X (.Constant c j p) (tD f)) (hr:JA X es (bX fa)):JA X (.Constant c j p :: es) (bX (ai f fa)):=(yw ha hr).weak ph
theorem ag {es:List Expr} {x p} (ha:JE X (.Name x p) (tD f)) (hr:JA X es (bX fa)):JA X (.Name x p :: es) (bX (ai f fa)):=(pb ha hr).weak ph
theorem bx {es:List Expr} {x y k p} (ha:JE X (.Call x y k p) (tD f)) (hr:JA X es (bX fa)):JA X (.Call x y k p :: es) (bX (ai f fa)):=(j5 ha hr).weak ph
theorem yM {es:List Expr} {x p} (ha:JE X (.List x p) (tD f)) (hr:JA X es (bX fa)):JA X (.List x p :: es) (bX (ai f fa)):=(yx ha hr).weak ph
theorem yN {es:List Expr} {x k p} (ha:JE X (.Tuple x k p) (tD f)) (hr:JA X es (bX fa)):JA X (.Tuple x k p :: es) (bX (ai f fa)):=(yy ha hr).weak ph
theorem bc {es:List Expr} {x k p} (ha:JE X (.Subscript x k p) (tD f)) (hr:JA X es (bX fa)):JA X (.Subscript x k p :: es) (bX (ai f fa)):=(yz ha hr).weak ph
theorem Eo {r:List V->Hp->VK->Prop} {op:List D->(D->Prop)->Prop} (hr:∀ xs H Q,(∃ F ds K,aJ F H/\gH F H ds xs/\op ds K/\Made F H K Q)->r xs H Q):∀ σ H Q,tD (dN fa op) σ H Q->qq r (bX fa) σ H Q:=by
 rintro σ H Q ⟨F,ad,δ,K,S,q,k⟩
 refine⟨F,ad,δ,_,S,q,fun xs δ1 h1 vs F1 aO H1 E1 S1 V1=>hr _ _ _ ?_⟩
 obtain⟨ds,h2,pe⟩:=vd S1 V1 h1
 exact⟨F1,ds,_,S1.sub,pe,h2,fun z v H' hz sm is=>k _ _ hz _ _ _ _ (E1.trans (Ext.al S1 sm)) (S1.al sm) is⟩
theorem dQ {x:Str} {p:Pos} {e:Expr} {es:List Expr} {id:String} {o:List D->(D->Prop)->Prop} (hc:b8 X (.builtin id) o) (hg:Gl X x) (hm:X.mg x=none) (hv:bootBuiltins x=some (.builtin id)) (ha:JA X (e :: es) (bX fa)) (hn:x ≠ "__name__" := by decide) (eA:(x == ("__debug__" : Str))=false:=by decide)
  (he:starEach (e :: es) X.env=(false,eval e X.env) :: starEach es X.env:=by rfl) (d4:(backTo pos (starEach es X.env)).any (·.1)=false:=by rfl):JE X (.Call (.Name x p) (e :: es) [] pos) (tD (dN fa o)) :=
 (u9 hc hg hm hv ha hn eA he d4).weak (Eo fun _ _ _ h=>h)
theorem yO {x:Str} {p:Pos} {e:Expr} {es:List Expr} {T:String} {o:List D->(D->Prop)->Prop} (hc:b8 X (.type T) o) (hg:Gl X x) (hm:X.mg x=none) (hv:bootBuiltins x=some (.type T)) (ha:JA X (e :: es) (bX fa)) (hn:x ≠ "__name__" := by decide) (eA:(x == ("__debug__" : Str))=false:=by decide)
  (he:starEach (e :: es) X.env=(false,eval e X.env) :: starEach es X.env:=by rfl) (d4:(backTo pos (starEach es X.env)).any (·.1)=false:=by rfl):JE X (.Call (.Name x p) (e :: es) [] pos) (tD (dN fa o)) :=
 (nK hc hg hm hv ha hn eA he d4).weak (Eo fun _ _ _ h=>h)
end
noncomputable def Ep (k:Nat) (ds:List D):Option DV->Option DV
 | some (.o j)=>if j=k then some (.p (.lst ds)) else some (.o j)
 | s=>s
noncomputable def aF.fix (δ : aF) (k:Nat) (ds:List D):aF:=⟨δ.sl.map (Ep k ds),δ.mu.set k none⟩
noncomputable def lz (x:DV) (δ : aF) (K:D->aF->Prop):Prop:=match x with
 | .p d=>K d δ
 | .o k=>match δ.mu[k]? with
  | some (some (.lst ds))=>K (.lst ds) (δ.fix k ds)
  | _=>False
noncomputable def i7:List DV->aF->(List D->aF->Prop)->Prop
 | [],δ,K=>K [] δ
 | x :: xs,δ,K=>lz x δ fun d δ1=>i7 xs δ1 fun ds δ2=>K (d :: ds) δ2
section
variable {F F' H H':Hp} {ad aK:List Addr} {δ δ':aF} {σ σ':St}
theorem SR.fixed {k:Nat} {a:Addr} {vs:List V} {ds:List D} (S:SR F ad δ σ H) (hk : δ.mu[k]? = some (some (.lst ds))) (ha:ad[k]? = some a) (ho:H a=some (.lst vs)) (hi:ae F ds vs):SR (upd F a (.lst vs)) ad (δ.fix k ds) σ H:=by
 have S1:=S.fix hk ha ho
 have sm:aJ F (upd F a (.lst vs)):=(Ext.fix (o := .lst vs) S hk ha).same
 refine⟨S1.sub,S1.off,S1.cb,S1.inj,S1.mu,fun i x e => ?_,by rw[S.len];unfold aF.fix;rw[oV],S1.tab,S1.nt⟩
 unfold aF.fix at e
 rw[LR] at e
 obtain⟨s,e1,e2⟩:=UP.mp e
 match s,e2 with
 | none,e2=>cases e2
 | some (.p d),e2 =>
  cases (show some (DV.p d)=some x from e2)
  exact S1.sl i _ e1
 | some (.o j),e2 =>
  have e3:(if j=k then some (DV.p (.lst ds)) else some (DV.o j))=some x:=e2
  clear e2
  obtain⟨v,h1,a',h2,h3⟩:=S.sl i _ e1
  by_cases c:j=k
  ·rw[UO c] at e3
   subst c
   cases e3
   rw[ha] at h2;cases h2
   refine⟨v,h1,?_⟩
   show Is _ (.lst ds) v
   simp only[Is]
   exact⟨a,vs,h3,bR,hi.same sm⟩
  ·rw[LX c] at e3
   cases e3
   exact⟨v,h1,a',h2,h3⟩
theorem qF {x:DV} {v:V} {K:D->aF->Prop} (S:SR F ad δ σ H) (hv:e_ F ad x v) (h:lz x δ K):∃ d δ' F',K d δ'/\Ext F ad δ.mu H F' ad δ'.mu H/\SR F' ad δ' σ H/\Is F' d v:=by
 cases x with
 | p d=>exact⟨d,δ,F,h,.refl,S,hv⟩
 | o k =>
  unfold lz at h
  dsimp only at h
  split at h
  ·rename_i ds e
   obtain⟨a,e1,rfl⟩:=hv
   obtain⟨a',o,e2,e3,vs,rfl,h4⟩:=S.mu k _ e
   rw[e1] at e2;cases e2
   refine⟨_,_,_,h,Ext.fix S e e1,S.fixed e e1 e3 h4,?_⟩
   simp only[Is]
   exact⟨a,vs,rfl,bR,h4.same (Ext.fix (o := .lst vs) S e e1).same⟩
  ·exact h.elim
theorem vh:∀ {xs:List DV} {vs:List V} {δ : aF} {F:Hp} {K:List D->aF->Prop},SR F ad δ σ H->c6 F ad xs vs->i7 xs δ K->∃ ds δ' F',K ds δ'/\Ext F ad δ.mu H F' ad δ'.mu H/\SR F' ad δ' σ H/\ae F' ds vs
 | [],_,δ,F,_,S,hv,h=>⟨[],δ,F,h,.refl,S,by simp only[ae];exact hv⟩
 | x :: xs,_,δ,F,_,S,⟨v,r,e,h1,h2⟩,h=>by
  subst e
  obtain⟨d,δ1,F1,h',E1,S1,i1⟩:=qF S h1 h
  obtain⟨ds,δ2,F2,qE,E2,S2,i2⟩:=vh S1 (h2.ext E1) h'
  exact⟨d :: ds,δ2,F2,qE,E1.trans E2,S2,.cons (i1.same E2.same) i2⟩
end
noncomputable def dS (fa:WA):WE:=fun δ K=>fa δ fun xs δ1=>i7 xs δ1 fun ds δ2=>ds.length <= 1000/\K (.p (.tup ds)) δ2
noncomputable def bS (fa:WA):WE:=fun δ K=>fa δ fun xs δ1=>i7 xs δ1 fun ds δ2=>ds.length <= 1000/\K (.p (.lst ds)) δ2
noncomputable def px (fa:WA):WE:=fun δ K=>fa δ fun xs δ1=>i7 xs δ1 fun ds δ2=>ds.length <= 1000/\K (.o δ2.mu.length) ⟨δ2.sl,δ2.mu ++ [some (.lst ds)]⟩
section
variable {X:Cx} {a b c:Expr} {es:List Expr} {f g h:WE} {fa:WA} {t u:WT} {pos:Pos}
theorem j8 {n:Nat} (h:n <= 1000):n <= sizeLine:=WM (qu h)
theorem j9 {x1} (ha:JA X es (bX fa)):JE X (.Tuple es x1 pos) (tD (dS fa)):=(M_ ha).weak fun σ H Q h0_ => el7 h0_ fun F ad δ K S q k =>
 ⟨F,ad,δ,_,S,q,fun xs δ1 h1 vs F1 aO H1 E1 S1 V1=>by
  obtain⟨ds,δ2,F2,⟨hl,h2⟩,E2,S2,i2⟩:=vh S1 V1 h1
  refine⟨j8 (by rw[i2.length];exact hl),fun p hp => ?_⟩
  have sm:aJ H1 (upd H1 p (.tup vs)):=cA hp
  refine k _ _ h2 _ _ _ _ ((E1.trans E2).trans (Ext.al S2 sm)) (S2.al sm) ?_
  show Is _ (.tup ds) _
  simp only[Is]
  rw[Nw.upd S2.sub hp]
  refine⟨p,vs,rfl,bR,i2.same fun b o e => ?_⟩
  rw[aX (cY (S2.sub b o e) hp)];exact e⟩
theorem gJ (ha:JA X es (bX fa)):JE X (.List es pos) (tD (bS fa)):=(yq ha).weak fun σ H Q h0_ => el7 h0_ fun F ad δ K S q k =>
 ⟨F,ad,δ,_,S,q,fun xs δ1 h1 vs F1 aO H1 E1 S1 V1=>by
  obtain⟨ds,δ2,F2,⟨hl,h2⟩,E2,S2,i2⟩:=vh S1 V1 h1
  refine⟨j8 (by rw[i2.length];exact hl),fun p hp => ?_⟩
  have sm:aJ H1 (upd H1 p (.lst vs)):=cA hp
  refine k _ _ h2 _ _ _ _ ((E1.trans E2).trans (Ext.al S2 sm)) (S2.al sm) ?_
  show Is _ (.lst ds) _
  simp only[Is]
  rw[Nw.upd S2.sub hp]
  refine⟨p,vs,rfl,bR,i2.same fun b o e => ?_⟩
  rw[aX (cY (S2.sub b o e) hp)];exact e⟩
theorem sZ (ha:JA X es (bX fa)):JE X (.List es pos) (tD (px fa)):=(yq ha).weak fun σ H Q h0_ => el7 h0_ fun F ad δ K S q k =>
 ⟨F,ad,δ,_,S,q,fun xs δ1 h1 vs F1 aO H1 E1 S1 V1=>by
  obtain⟨ds,δ2,F2,⟨hl,h2⟩,E2,S2,i2⟩:=vh S1 V1 h1
  refine⟨j8 (by rw[i2.length];exact hl),fun p hp => ?_⟩
  have oi:eE F2 (.lst ds) (.lst vs):=⟨vs,rfl,i2⟩
  refine k _ _ h2 _ _ _ _ ((E1.trans E2).trans (Ext.own S2 hp)) (S2.own hp oi) ⟨p,?_,rfl⟩
  rw[<-S2.cb,Vu (uX _),Wa];rfl⟩
noncomputable def qG (x:DV) (P:Bool->Prop):Prop:=match x with
 | .p (.bl b)=>P b
 | _=>False
noncomputable def dT (f:WE):WT:=fun δ K=>f δ fun x δ1=>qG x fun b=>K b δ1
noncomputable def f7 (t u:WT):WT:=fun δ K=>t δ fun b δ1=>if b=true then u δ1 K else K false δ1
noncomputable def i8 (t u:WT):WT:=fun δ K=>t δ fun b δ1=>if b=true then K true δ1 else u δ1 K
noncomputable def cR (t:WT):WT:=fun δ K=>t δ fun b δ1=>K (!b) δ1
noncomputable def pz (t:WT) (f g:WE):WE:=fun δ K=>t δ fun b δ1=>if b=true then f δ1 K else g δ1 K
noncomputable def i9 (f g:WE):WE:=fun δ K=>f δ fun x δ1=>qG x fun b=>if b=true then g δ1 K else K (.p (.bl false)) δ1
noncomputable def vi (f:WE):WE:=fun δ K=>f δ fun x δ1=>qG x fun b=>K (.p (.bl (!b))) δ1
theorem s_ {F:Hp} {ad:List Addr} {x:DV} {v:V} {P:Bool->Prop} (hv:e_ F ad x v) (h:qG x P):∃ b,v = .bl b/\P b:=by
 unfold qG at h
 split at h
 ·rename_i b
  exact⟨b,hv,h⟩
 ·exact h.elim
theorem f9 (ha:JE X a (tD f)) (he:∀ whole,isTrue a X.env whole=(do let v <- whole;standAt a.pos;holding [v] (truthy v)):=by intro _;rfl):JT X a (cP (dT f)) :=
 (MQ ha he).weak fun σ H Q h0_ => el7 h0_ fun F ad δ K S q k =>⟨F,ad,δ,_,S,q,fun x δ1 h1 v F1 aO H1 E1 S1 V1=>by
  obtain⟨b,rfl,h2⟩:=s_ V1 h1
  exact⟨b,rfl,k _ _ h2 _ _ _ E1 S1⟩⟩
theorem bN {op:CmpOp} {o:D->D->(D->Prop)->Prop} (ho:d7 X (compareOp op) o) (ha:JE X a (tD f)) (hb:JE X b (tD g)) (hm:behindInMarks op b=false):JT X (.Compare a [op] [b] pos) (cP (dT (d2 f g o))) :=
 (M8 ho ha hb hm).weak fun σ H Q h0_ => el7 h0_ fun F ad δ K S q k =>vg (ta:=tD f) (tb:=tD g) (fun _ _ _ _ h=>h) σ H _ ⟨F,ad,δ,_,S,q,fun x δ1 h1 v F1 aO H1 E1 S1 V1=>by
  obtain⟨b,rfl,h2⟩:=s_ V1 h1
  exact⟨b,rfl,k _ _ h2 _ _ _ E1 S1⟩⟩
theorem iI (ha:JT X a (cP t)):JT X (.UnaryOp .Not a pos) (cP (cR t)):=(MV ha).weak fun σ H Q h0_ => el7 h0_ fun F ad δ K S q k =>⟨F,ad,δ,_,S,q,fun b δ1 h1 F1 aO H1 E1 S1=>k _ _ h1 _ _ _ E1 S1⟩
theorem NC:∀ σ H Q,cP (f7 t u) σ H Q->oB (cP t) (cP u) σ H Q:=fun σ H Q h0_ => el7 h0_ fun F ad δ K S q k =>⟨F,ad,δ,_,S,q,fun b δ1 h1 F1 aO H1 E1 S1=>by
 cases b with
 | true =>
  rw[UO rfl] at h1 ⊢
  exact⟨F1,aO,δ1,_,S1,h1,fun b δ2 h2 F2 bK H2 E2 S2=>k _ _ h2 _ _ _ (E1.trans E2) S2⟩
 | false =>
  rw[LX Vv] at h1 ⊢
  exact k _ _ h1 _ _ _ E1 S1⟩
theorem ND:∀ σ H Q,cP (i8 t u) σ H Q->xg (cP t) (cP u) σ H Q:=fun σ H Q h0_ => el7 h0_ fun F ad δ K S q k =>⟨F,ad,δ,_,S,q,fun b δ1 h1 F1 aO H1 E1 S1=>by
 cases b with
 | false =>
  rw[LX Vv] at h1 ⊢
  exact⟨F1,aO,δ1,_,S1,h1,fun b δ2 h2 F2 bK H2 E2 S2=>k _ _ h2 _ _ _ (E1.trans E2) S2⟩
 | true =>
  rw[UO rfl] at h1 ⊢
  exact k _ _ h1 _ _ _ E1 S1⟩
theorem JW.weak {e:Expr} {t t':TT} (h:JW X e t) (k:∀ σ H Q,t' σ H Q->t σ H Q):JW X e t':=⟨fun wh pins s σ H Q I q=>h.out wh pins s σ H Q I (k σ H Q q)⟩
theorem tj (ha:JT X a (cP t)):JW X (.BoolOp .And [a] pos) (cP t):=MR ha
theorem pA (ha:JT X a (cP t)):JW X (.BoolOp .Or [a] pos) (cP t):=MS ha
theorem tu {rest:List Expr} (ha:JT X a (cP t)) (hb:JW X (.BoolOp .And (b :: rest) pos) (cP u)):JW X (.BoolOp .And (a :: b :: rest) pos) (cP (f7 t u)):=(MT ha hb).weak NC
theorem lA {rest:List Expr} (ha:JT X a (cP t)) (hb:JW X (.BoolOp .Or (b :: rest) pos) (cP u)):JW X (.BoolOp .Or (a :: b :: rest) pos) (cP (i8 t u)):=(MU ha hb).weak ND
theorem j_ {op} (ha:JE X a (tD f)):JE X (.BoolOp op [a] pos) (tD f):=MW ha
theorem ka {rest:List Expr} (ha:JE X a (tD f)) (hb:JE X (.BoolOp .And (b :: rest) pos) (tD g)):JE X (.BoolOp .And (a :: b :: rest) pos) (tD (i9 f g)) :=
 (MX ha hb).weak fun σ H Q h0_ => el7 h0_ fun F ad δ K S q k =>⟨F,ad,δ,_,S,q,fun x δ1 h1 v F1 aO H1 E1 S1 V1=>by
  obtain⟨b,rfl,h2⟩:=s_ V1 h1
  refine⟨b,rfl,?_⟩
  cases b with
  | true =>
   rw[UO rfl] at h2 ⊢
   exact⟨F1,aO,δ1,_,S1,h2,fun x δ2 h3 v F2 bK H2 E2 S2 V2=>k _ _ h3 _ _ _ _ (E1.trans E2) S2 V2⟩
  | false =>
   rw[LX Vv] at h2 ⊢
   exact k _ _ h2 _ _ _ _ E1 S1 rfl⟩
theorem Er (ha:JE X a (tD f)):JE X (.UnaryOp .Not a pos) (tD (vi f)) :=
 (MY ha).weak fun σ H Q h0_ => el7 h0_ fun F ad δ K S q k =>⟨F,ad,δ,_,S,q,fun x δ1 h1 v F1 aO H1 E1 S1 V1=>by
  obtain⟨b,rfl,h2⟩:=s_ V1 h1
  exact⟨b,rfl,k _ _ h2 _ _ _ _ E1 S1 rfl⟩⟩
theorem vj (hc:JT X c (cP t)) (ha:JE X a (tD f)) (hb:JE X b (tD g)):JE X (.IfExp c a b pos) (tD (pz t f g)) :=
 (MZ hc ha hb).weak fun σ H Q h0_ => el7 h0_ fun F ad δ K S q k =>⟨F,ad,δ,_,S,q,fun b δ1 h1 F1 aO H1 E1 S1=>by
  cases b with
  | true =>
   rw[UO rfl] at h1 ⊢
   exact⟨F1,aO,δ1,_,S1,h1,fun x δ2 h3 v F2 bK H2 E2 S2 V2=>k _ _ h3 _ _ _ _ (E1.trans E2) S2 V2⟩
  | false =>
   rw[LX Vv] at h1 ⊢
   exact⟨F1,aO,δ1,_,S1,h1,fun x δ2 h3 v F2 bK H2 E2 S2 V2=>k _ _ h3 _ _ _ _ (E1.trans E2) S2 V2⟩⟩
end
structure KS where
 nx:aF->Prop
 rt:DV->aF->Prop
 bk:aF->Prop:=fun _=>False
 ct:aF->Prop:=fun _=>False
noncomputable abbrev WS:=KS->aF->Prop
noncomputable def Cn (F:Hp) (ad:List Addr) (mu:List (Option OV)) (H:Hp) (P:aF->Prop) (R:St->Hp->Prop):Prop:=∀ δ',P δ'->∀ F' aK σ' H',Ext F ad mu H F' aK δ'.mu H'->SR F' aK δ' σ' H'->R σ' H'
class lB where
 ok:Nat->Int->Prop
 kp:List Addr->List (Option OV)->Hp->Prop
 st:∀ {F ad mu H F' aK cH H'},Ext F ad mu H F' aK cH H'->kp ad mu H->kp aK cH H'
instance (priority:=low) NF:lB:=⟨fun _ _=>False,fun _ _ _=>True,fun _ _=>trivial⟩
section
variable [lB]
structure vk (F:Hp) (ad:List Addr) (mu:List (Option OV)) (H:Hp) (K:KS) (D:Ends):Prop where
 nx:Cn F ad mu H K.nx D.nx
 bk:Cn F ad mu H K.bk D.bk
 ct:Cn F ad mu H K.ct D.ct
 rt:∀ x δ',K.rt x δ'->∀ v F' aK σ' H',Ext F ad mu H F' aK δ'.mu H'->SR F' aK δ' σ' H'->e_ F' aK x v->D.rt v H'
 kp:lB.kp ad mu H
theorem Cn.ext {F F' H H':Hp} {ad aK:List Addr} {mu cH:List (Option OV)} {P:aF->Prop} {R:St->Hp->Prop} (c:Cn F ad mu H P R) (e:Ext F ad mu H F' aK cH H'):Cn F' aK cH H' P R:=fun δ' h _ _ _ _ E S=>c δ' h _ _ _ _ (e.trans E) S
theorem vk.ext {F F' H H':Hp} {ad aK:List Addr} {mu cH:List (Option OV)} {K:KS} {D:Ends} (c:vk F ad mu H K D) (e:Ext F ad mu H F' aK cH H'):vk F' aK cH H' K D :=
 ⟨c.nx.ext e,c.bk.ext e,c.ct.ext e,fun x δ' h _ _ _ _ _ E S V=>c.rt x δ' h _ _ _ _ _ (e.trans E) S V,lB.st e c.kp⟩
noncomputable def dr (G:WS):TS:=fun D σ H=>∃ F ad δ K,SR F ad δ σ H/\G K δ /\ vk F ad δ.mu H K D
noncomputable def av (G G':WS):WS:=fun K δ => G { K with nx:=G' K } δ
noncomputable def cC:WS:=fun K δ => K.nx δ
noncomputable def aD (i:Nat) (f:WE):WS:=fun K δ => f δ fun x δ1=>K.nx ⟨δ1.sl.set i (some x),δ1.mu⟩
noncomputable def kg (f:WE):WS:=fun K δ => f δ fun _ δ1=>K.nx δ1
noncomputable def aG (f:WE):WS:=fun K δ => f δ fun x δ1=>K.rt x δ1
noncomputable def bh (t:WT) (G G':WS):WS:=fun K δ => t δ fun b δ1=>if b=true then G K δ1 else G' K δ1
section
variable {X:Cx} {e c:Expr} {st:Stmt} {rest:List Stmt} {f:WE} {t:WT} {G G':WS} {pos:Pos}
theorem cS:dP X [] (dr cC):=mz.weak fun D σ H h0_ => el7 h0_ fun F ad δ K S q k =>k.nx _ q _ _ _ _ .refl S
theorem aY (h:JS X st (dr G)):dP X [st] (dr G):=yk h
theorem aR (h:JS X st (dr G)) (r:dP X rest (dr G')):dP X (st :: rest) (dr (av G G')) :=
 (u7 h r).weak fun D σ H h0_ => el7 h0_ fun F ad δ K S q k =>⟨F,ad,δ,_,S,q,⟨fun δ' h _ _ _ _ E S'=>⟨_,_,δ',K,S',h,k.ext E⟩,k.bk,k.ct,k.rt,k.kp⟩⟩
theorem NG {i:Nat}:∀ D σ H,dr (aD i f) D σ H->gB (tD f) (oD i) D σ H:=fun D σ H h0_ => el7 h0_ fun F ad δ K S q k =>⟨F,ad,δ,_,S,q,fun x δ1 h1 v F1 aO H1 E1 S1 V1=>k.nx _ h1 _ _ _ _ E1 (S1.set V1)⟩
theorem bC {i:Nat} {x:Str} {pos':Pos} (hN:X.N.Nodup) (hi:X.N[i]? = some x) (hx:Loc X.env.scope x) (he:JE X e (tD f)) (hs:swapsWith e (some (.Name x pos')) pos.line X.env=pure false:=by rfl)
  (hf:X.fn x=true\/X.env.scope.names.lookup x=some .local:=by first | exact .inl rfl | exact .inr rfl | assumption):JS X (.Assign [.Name x pos'] e pos) (dr (aD i f)):=(yp hN hi hx he hs hf).weak NG
theorem nM (he:JE X e (tD f)) (hs:swapsWith e none pos.line X.env=pure false:=by rfl):JS X (.Expr e pos) (dr (kg f)) :=
 (M0 he hs).weak fun D σ H h0_ => el7 h0_ fun F ad δ K S q k =>⟨F,ad,δ,_,S,q,fun x δ1 h1 v F1 aO H1 E1 S1 V1=>k.nx _ h1 _ _ _ _ E1 S1⟩
theorem bu (he:JE X e (tD f)):JS X (.Return (some e) pos) (dr (aG f)) :=
 (D6 he).weak fun D σ H h0_ => el7 h0_ fun F ad δ K S q k =>⟨F,ad,δ,_,S,q,fun x δ1 h1 v F1 aO H1 E1 S1 V1=>k.rt _ _ h1 _ _ _ _ _ E1 S1 V1⟩
theorem cQ {a b:List Stmt} (hc:JT X c (cP t)) (ha:dP X a (dr G)) (hb:dP X b (dr G')):JS X (.If c a b pos) (dr (bh t G G')) :=
 (M1 hc ha hb).weak fun D σ H h0_ => el7 h0_ fun F ad δ K S q k =>⟨F,ad,δ,_,S,q,fun b δ1 h1 F1 aO H1 E1 S1=>by
  cases b with
  | true =>
   rw[UO rfl] at h1 ⊢
   exact⟨F1,aO,δ1,K,S1,h1,k.ext E1⟩
  | false =>
   rw[LX Vv] at h1 ⊢
   exact⟨F1,aO,δ1,K,S1,h1,k.ext E1⟩⟩
noncomputable def pB:WS:=fun _ _=>False
theorem NH:dP X rest (dr pB):=i5.weak fun D σ H h0_ => el7 h0_ fun F ad δ K S q k =>q.elim
noncomputable abbrev WG:=DV->aF->(aF->Prop)->Prop
noncomputable def kh (g:WG):TG:=fun v σ H Q=>∃ F ad δ x K,SR F ad δ σ H/\e_ F ad x v/\g x δ K/\Cn F ad δ.mu H K Q
noncomputable abbrev pC:=List D->aF->(aF->Prop)->Prop
noncomputable def mD (g:pC):iC:=fun vs σ H Q=>∃ F ad δ ds K,SR F ad δ σ H/\ae F ds vs/\g ds δ K/\Cn F ad δ.mu H K Q
noncomputable def bo (i:Nat):WG:=fun x δ K=>K ⟨δ.sl.set i (some x),δ.mu⟩
noncomputable def iJ:pC:=fun ds δ K=>match ds with
 | []=>K δ
 | _=>False
noncomputable def eF (g:WG) (g':pC):pC:=fun ds δ K=>match ds with
 | d :: r=>g (.p d) δ fun δ1=>g' r δ1 K
 | []=>False
theorem JG.weak {tg:Expr} {t t':TG} (h:JG X tg t) (k:∀ v σ H Q,t' v σ H Q->t v σ H Q):JG X tg t':=⟨fun pins s σ H v u Q I r q=>h.out pins s σ H v u Q I r (k v σ H Q q)⟩
theorem jC.weak {ts:List Expr} {t t':iC} (h:jC X ts t) (k:∀ v σ H Q,t' v σ H Q->t v σ H Q):jC X ts t':=⟨fun pins s σ H v u Q I r q=>h.out pins s σ H v u Q I r (k v σ H Q q)⟩
theorem bI {i:Nat} {x:Str} (hN:X.N.Nodup) (hi:X.N[i]? = some x) (hx:Loc X.env.scope x) (hf:X.fn x=true\/X.env.scope.names.lookup x=some .local:=by first | exact .inl rfl | exact .inr rfl | assumption):JG X (.Name x pos) (kh (bo i)) :=
 (ym hN hi hx hf).weak fun v σ H Q ⟨F,ad,δ,x,K,S,V,q,k⟩=>k _ q _ _ _ _ .refl (S.set V)
theorem mE:jC X [] (mD iJ):=iE.weak fun vs σ H Q ⟨F,ad,δ,ds,K,S,V,q,k⟩=>by
 unfold iJ at q
 split at q
 ·simp only[ae] at V
  exact⟨V,k _ q _ _ _ _ .refl S⟩
 ·exact q.elim
theorem f_ {es:List Expr} {g:WG} {g':pC} (h1:JG X e (kh g)) (h2:jC X es (mD g')) (hs:(assignEach (e :: es) X.env).map (·.2)=assign e X.env :: (assignEach es X.env).map (·.2):=by rfl):jC X (e :: es) (mD (eF g g')) :=
 (yn h1 h2 hs).weak fun vs σ H Q ⟨F,ad,δ,ds,K,S,V,q,k⟩=>by
  unfold eF at q
  split at q
  ·rename_i d r
   simp only[ae] at V
   obtain⟨v,r',e,i1,i2⟩:=V
   exact⟨v,r',e,F,ad,δ,.p d,_,S,i1,q,fun δ' h _ _ _ _ E S'=>⟨_,_,δ',r,K,S',i2.same E.same,h,k.ext E⟩⟩
  ·exact q.elim
noncomputable def i_ (n:Nat) (g:pC):WG:=fun x δ K=>gY x δ fun d=>match d with
 | .tup ds=>ds.length=n/\g ds δ K
 | .lst ds=>ds.length=n/\g ds δ K
 | _=>False
theorem JG.or {tg:Expr} {t t':TG} (h:JG X tg t) (h':JG X tg t'):JG X tg (fun v σ H Q=>t v σ H Q\/t' v σ H Q):=⟨fun pins s σ H v u Q I r q=>q.elim (fun q=>h.out pins s σ H v u Q I r q) fun q=>h'.out pins s σ H v u Q I r q⟩
theorem mF {es:List Expr} {k:Nat} {g:pC} {n:Nat} (hc:X.calm=true) (h:jC X es (mD g)) (hn:(assignEach es X.env).length=n:=by rfl) (jS:(assignEach es X.env).findIdx? (·.1)=none:=by rfl):JG X (.Tuple es k pos) (kh (i_ n g)) :=
 ((D7 hc h hn jS).or (Nz hc h hn jS)).weak fun v σ H Q ⟨F,ad,δ,x,K,S,V,q,k⟩=>by
  obtain⟨d,q,rd⟩:=iH S V q
  split at q
  ·rename_i ds
   have vm:Is F (.tup ds) v:=rd
   simp only[Is] at vm
   obtain⟨a,vs,e,h1,h2⟩:=vm
   exact .inl ⟨a,vs,e,bB.of (S.sub _ _ h1),by rw[h2.length];exact q.1,F,ad,δ,ds,K,S,h2,q.2,k⟩
  ·rename_i ds
   obtain⟨a,vs,e,h1,h2⟩:=rd
   exact .inr ⟨a,vs,e,bq.of h1,by rw[h2.length];exact q.1,F,ad,δ,ds,K,S,h2,q.2,k⟩
  ·exact q.elim
noncomputable def gK (f:WE) (g:WG):WS:=fun K δ => f δ fun x δ1=>g x δ1 K.nx
theorem tE {tg:Expr} {g:WG} (he:JE X e (tD f)) (hg:JG X tg (kh g)) (hs:swapsWithSole [tg] e pos.line X.env=pure false:=by rfl) (hw:swappedStores [tg] e X.env=pure none:=by rfl)
  (h1:(assignEach [tg] X.env).map (·.2)=[assign tg X.env]:=by rfl):JS X (.Assign [tg] e pos) (dr (gK f g)) :=
 (qB he hg hs hw h1).weak fun D σ H h0_ => el7 h0_ fun F ad δ K S q k =>⟨F,ad,δ,_,S,q,fun x δ1 h1 v F1 aO H1 E1 S1 V1=>⟨F1,aO,δ1,x,K.nx,S1,V1,h1,k.nx.ext E1⟩⟩
end
end
structure pD where
 items:List D
 bz:aF->Prop
noncomputable abbrev WI:=aF->(pD->aF->Prop)->Prop
noncomputable def pE (F:Hp) (ad:List Addr) (it:pD) (J:It):Prop:=∀ (F':Hp) (aK:List Addr) (δ : aF) (σ : St) (H:Hp),aJ F F'->(∀ (k:Nat) (a:Addr),ad[k]? = some a->aK[k]? = some a)->SR F' aK δ σ H->it.bz δ →
 J.stop it.items.length H/\∀ (i:Nat) (d:D),it.items[i]? = some d->J.go i H/\∀ x H',J.qp i H x H'->aJ H H'/\Is (Nw F' H H') d x
noncomputable def lC (w:WI):TI:=fun σ H R=>∃ F ad δ K,SR F ad δ σ H/\w δ K/\∀ it δ',K it δ'->∀ J F' aK H',Ext F ad δ.mu H F' aK δ'.mu H'->SR F' aK δ' σ H'->pE F' aK it J->R J H'
noncomputable def tF (n:Nat):Option DV->Option DV->Option DV
 | none,_=>none
 | some _,some (.o k)=>if k < n then some (.o k) else none
 | some _,s=>s
noncomputable def ff (n:Nat):List (Option DV)->List (Option DV)->List (Option DV)
 | s0 :: r0,s :: r=>tF n s0 s :: ff n r0 r
 | [],_ :: r=>none :: ff n [] r
 | _,[]=>[]
noncomputable def aF.trim (δ0 δ : aF):aF:=⟨ff δ0.mu.length δ0.sl δ.sl,δ.mu.take δ0.mu.length⟩
theorem yP {n:Nat}:∀ (l0 l:List (Option DV)),(ff n l0 l).length=l.length
 | _ :: r0,_ :: r=>by rw[ff,DE,DE,yP r0 r]
 | [],_ :: r=>by rw[ff,DE,DE,yP [] r]
 | [],[]=>rfl
 | _ :: _,[]=>rfl
theorem yQ {n:Nat}:∀ {l0 l:List (Option DV)} {i:Nat} {x:DV},(ff n l0 l)[i]? = some (some x)->l[i]? = some (some x)/\∀ k,x = .o k->k < n
 | s0 :: r0,s :: r,0,x,h=>by
  have h:tF n s0 s=some x:=by simpa [ff] using h
  match s0,s,h with
  | none,_,h=>cases h
  | some _,none,h=>cases h
  | some _,some (.p d),h=>cases (show some (DV.p d)=some x from h);exact⟨rfl,fun k e=>nomatch e⟩
  | some _,some (.o k),h =>
   have h:(if k < n then some (DV.o k) else none)=some x:=h
   by_cases c:k < n
   ·rw[UO c] at h;cases h;exact⟨rfl,fun k' e=>by cases e;exact c⟩
   ·rw[LX c] at h;cases h
 | s0 :: r0,s :: r,i + 1,x,h=>by
  have h:(ff n r0 r)[i]? = some (some x):=by simpa [ff] using h
  simpa using yQ h
 | [],s :: r,0,x,h=>by simp[ff] at h
 | [],s :: r,i + 1,x,h=>by
  have h:(ff n [] r)[i]? = some (some x):=by simpa [ff] using h
  simpa using yQ h
 | [],[],i,x,h=>by simp[ff] at h
 | _ :: _,[],i,x,h=>by simp[ff] at h
section
variable {F F' H H':Hp} {ad aK:List Addr} {δ δ' δ0:aF} {σ σ' τ : St} {mu cH:List (Option OV)} {l:Addr} {o:HO}
theorem Lv.take {n:Nat} {a:Addr} (h:Lv (ad.take n) (mu.take n) a):Lv ad mu a:=by
 obtain⟨k,ov,e1,e2⟩:=h
 have hk:k < n:=by
  have:=(oW.mp e1).1
  rw[VM] at this;omega
 rw[V9 hk] at e1 e2
 exact⟨k,ov,e1,e2⟩
theorem SR.trim (S:SR F ad δ σ H):SR F (ad.take δ0.mu.length) (δ0.trim δ) σ H:=by
 have tk:∀ {k:Nat} {a:Addr},(ad.take δ0.mu.length)[k]? = some a->k < δ0.mu.length/\ad[k]? = some a:=fun {k a} e=>by
  have hk:k < δ0.mu.length:=by
   have:=(oW.mp e).1
   rw[VM] at this;omega
  rw[V9 hk] at e;exact⟨hk,e⟩
 have tm:∀ {k:Nat} {w:Option OV},(δ.mu.take δ0.mu.length)[k]? = some w->k < δ0.mu.length /\ δ.mu[k]? = some w:=fun {k w} e=>by
  have hk:k < δ0.mu.length:=by
   have:=(oW.mp e).1
   rw[VM] at this;omega
  rw[V9 hk] at e;exact⟨hk,e⟩
 refine⟨S.sub,fun a x=>S.off a x.take,?_,fun k l a w w' e1 e2 e3 e4=>S.inj k l a w w' (tk e1).2 (tk e2).2 (tm e3).2 (tm e4).2,fun k ov e => ?_,fun i x e => ?_,?_,S.tab,S.nt⟩
 ·show (ad.take _).length=(δ.mu.take _).length
  rw[VM,VM,S.cb]
 ·obtain⟨a,o,e1,e2,h⟩:=S.mu k ov (tm e).2
  exact⟨a,o,by rw[V9 (tm e).1];exact e1,e2,h⟩
 ·obtain⟨e1,e2⟩:=yQ e
  obtain⟨v,h1,h2⟩:=S.sl i x e1
  refine⟨v,h1,?_⟩
  cases x with
  | p d=>exact h2
  | o k =>
   obtain⟨a,h3,h4⟩:=h2
   exact⟨a,by rw[V9 (e2 k rfl)];exact h3,h4⟩
 ·show σ.length=(ff _ _ _).length
  rw[yP];exact S.len
theorem Ext.trim {n:Nat} (e:Ext F ad mu H F' aK cH H') (hn:ad.length=n):Ext F ad mu H F' (aK.take n) (cH.take n) H' :=
 ⟨e.same,e.new,e.keep,fun k a h=>by rw[V9 (by rw[<-hn];exact (oW.mp h).1)];exact e.pre k a h,fun a x=>e.b7 a x.take,e.iG⟩
theorem SR.other (S:SR F ad δ σ H) (hf:F l=none) (hl:¬ Lv ad δ.mu l) (tk:aM.ok (upd H l o)):SR F ad δ σ (upd H l o):=by
 refine⟨fun a u e => ?_,S.off,S.cb,S.inj,fun k ov e => ?_,S.sl,S.len,tk,S.nt⟩
 ·rw[aX (cY e hf)];exact S.sub a u e
 ·obtain⟨a,u,e1,e2,h⟩:=S.mu k ov e
  exact⟨a,u,e1,by rw[aX fun z=>hl (by subst z;exact⟨k,ov,e1,e⟩)];exact e2,h⟩
theorem Ext.other (e:Ext F ad mu H F' aK cH H') (hl:H l=none):Ext F ad mu H F' aK cH (upd H' l o) :=
 ⟨e.same,e.new,fun a u h n t=>by rw[aX (cY h hl)];exact e.keep a u h n t,e.pre,e.b7,fun a u h=>by rw[aX (cY h hl)];exact e.iG a u h⟩
theorem SR.adopt (S:SR F ad δ σ H) (hf:F l=none) (ho:H l=some o) (hl:¬ Lv ad δ.mu l) (no:∀ ps,o ≠ .tbl ps:=by intro _ z;cases z):SR (upd F l o) ad δ σ H:=by
 have sm:aJ F (upd F l o):=cA hf
 refine⟨fun a u e => ?_,fun a x => ?_,S.cb,S.inj,fun k ov e => ?_,fun i x e => ?_,S.len,S.tab,fun a ha=>by
  obtain⟨ps,q⟩:=aM.tb S.tab ha
  rw[aX fun z=>by subst z;rw[ho] at q;exact no ps (VE q)]
  exact S.nt a ha⟩
 ·by_cases c:a=l
  ·subst c;rw[bR] at e;cases e;exact ho
  ·rw[aX c] at e;exact S.sub a u e
 ·rw[aX fun z=>hl (by subst z;exact x)];exact S.off a x
 ·obtain⟨a,u,e1,e2,h⟩:=S.mu k ov e
  exact⟨a,u,e1,e2,h.same sm⟩
 ·obtain⟨v,e1,h⟩:=S.sl i x e
  refine⟨v,e1,?_⟩
  cases x with
  | p d=>exact Is.same sm h
  | o k=>exact h
theorem Ext.adopt (e:Ext F ad mu H F' aK cH H') (hl:H l=none) (hf:F' l=none):Ext F ad mu H (upd F' l o) aK cH H' :=
 ⟨e.same.trans (cA hf),fun a u h=>by
  by_cases c:a=l
  ·subst c;exact .inr (.inl hl)
  ·rw[aX c] at h;exact e.new a u h,e.keep,e.pre,e.b7,e.iG⟩
theorem SR.du {ov:OV} (S:SR F ad δ σ H) (hf:F l=none) (ho:H l=some o) (hl:¬ Lv ad δ.mu l) (h:eE F ov o):SR F (ad ++ [l]) ⟨δ.sl,δ.mu ++ [some ov]⟩ σ H:=by
 have old:∀ {k:Nat} {w:OV},(δ.mu ++ [some ov])[k]? = some (some w)->(k < δ.mu.length /\ δ.mu[k]? = some (some w))\/(k = δ.mu.length/\w=ov):=fun {k w} e=>by
  by_cases c:k < δ.mu.length
  ·rw[Vt c] at e;exact .inl ⟨c,e⟩
  ·have hl:=(oW.mp e).1
   rw[DG,VH] at hl
   have ek:k = δ.mu.length:=by omega
   subst ek
   rw[Vu (uX _),Wa] at e
   exact .inr ⟨rfl,by simpa using e.symm⟩
 have pre:∀ {k:Nat},k < δ.mu.length->(ad ++ [l])[k]? = ad[k]? := fun {k} c=>Vt (by rw[S.cb];exact c)
 have last:(ad ++ [l])[δ.mu.length]? = some l:=by rw[<-S.cb,Vu (uX _),Wa];rfl
 refine⟨S.sub,fun a x => ?_,by rw[DG,DG,S.cb];rfl,fun k k' a w w' e1 e2 e3 e4 => ?_,fun k w e => ?_,fun i x e => ?_,S.len,S.tab,S.nt⟩
 ·obtain⟨k,w,e1,e2⟩:=x
  rcases old e2 with⟨c,e3⟩ | ⟨c,e3⟩
  ·rw[pre c] at e1;exact S.off a ⟨k,w,e1,e3⟩
  ·subst c;rw[last] at e1;cases e1;exact hf
 ·rcases old e3 with⟨c,q⟩ | ⟨c,q⟩
  ·rw[pre c] at e1
   rcases old e4 with⟨c',q'⟩ | ⟨c',q'⟩
   ·rw[pre c'] at e2;exact S.inj k k' a w w' e1 e2 q q'
   ·subst c';rw[last] at e2;cases e2;exact absurd ⟨k,w,e1,q⟩ hl
  ·subst c;rw[last] at e1;cases e1
   rcases old e4 with⟨c',q'⟩ | ⟨c',q'⟩
   ·rw[pre c'] at e2;exact absurd ⟨k',w',e2,q'⟩ hl
   ·exact c'.symm
 ·rcases old e with⟨c,q⟩ | ⟨c,q⟩
  ·obtain⟨a,u,e1,e2,h'⟩:=S.mu k w q
   exact⟨a,u,by rw[pre c];exact e1,e2,h'⟩
  ·subst c;subst q;exact⟨l,o,last,ho,h⟩
 ·obtain⟨v,e1,h'⟩:=S.sl i x e
  refine⟨v,e1,?_⟩
  cases x with
  | p d=>exact h'
  | o k =>
   obtain⟨a,e2,e3⟩:=h'
   exact⟨a,by rw[Vt (oW.mp e2).1];exact e2,e3⟩
theorem Ext.du {ov:OV} (e:Ext F ad mu H F' aK cH H') (hl:H l=none) (hm:aK.length=cH.length):Ext F ad mu H F' (aK ++ [l]) (cH ++ [some ov]) H' :=
 ⟨e.same,e.new,e.keep,fun k a h=>by rw[Vt (oW.mp (e.pre k a h)).1];exact e.pre k a h,fun a x=>by
  obtain⟨k,w,e1,e2⟩:=x
  by_cases c:k < cH.length
  ·rw[Vt c] at e2
   rw[Vt (by rw[hm];exact c)] at e1
   exact e.b7 a ⟨k,w,e1,e2⟩
  ·have iK:=(oW.mp e2).1
   rw[DG,VH] at iK
   have ek:k=aK.length:=by rw[hm];omega
   subst ek
   rw[Vu (uX _),Wa] at e1
   have:l=a:=by simpa using e1
   subst this;exact .inr hl,e.iG⟩
theorem SR.back {sl:List (Option DV)} (S0:SR F ad δ σ H) (e:Ext F ad δ.mu H F' aK cH H') (S:SR F' aK ⟨sl,cH⟩ τ H'):SR F' aK ⟨δ.sl,cH⟩ σ H' :=
 ⟨S.sub,S.off,S.cb,S.inj,S.mu,fun i x q=>let ⟨v,h1,h2⟩:=S0.sl i x q; ⟨v,h1,h2.ext e⟩,S0.len,S.tab,S.nt⟩
noncomputable def cU (cp:List (Option Nat)) (sl:List (Option DV)):List (Option DV):=cp.map fun o=>match o with
 | some i=>(sl[i]?).join
 | none=>none
theorem SR.pF {cp:List (Option Nat)} (S:SR F ad δ σ H):SR F ad ⟨cU cp δ.sl,δ.mu⟩ (gU cp σ) H:=by
 refine⟨S.sub,S.off,S.cb,S.inj,S.mu,fun j x e => ?_,by unfold gU cU;rw[oV,oV],S.tab,S.nt⟩
 unfold cU at e
 rw[LR] at e
 obtain⟨o,e1,e2⟩:=UP.mp e
 match o,e2 with
 | none,e2=>cases e2
 | some i,e2 =>
  have e2:(δ.sl[i]?).join=some x:=e2
  cases q : δ.sl[i]? with
  | none=>rw[q] at e2;cases e2
  | some z =>
   rw[q] at e2
   have e3:z=some x:=e2
   subst e3
   obtain⟨v,h1,h2⟩:=S.sl i x q
   refine⟨v,?_,h2⟩
   unfold gU
   rw[LR,e1]
   show some ((σ[i]?).join)=some (some v)
   rw[h1];rfl
end
noncomputable def jD (δ0:aF) (bz:aF->Prop) (g:WG) (b:WS) (K:KS):List D->aF->Prop
 | [],δ => bz δ /\ K.nx δ
 | d :: r,δ => bz δ /\ g (.p d) δ fun δ1=>b { nx:=fun δ2=>jD δ0 bz g b K r (δ0.trim δ2),ct:=fun δ2=>jD δ0 bz g b K r (δ0.trim δ2),bk:=K.nx,rt:=K.rt } δ1
noncomputable def c7 (w:WI) (g:WG) (b:WS):WS:=fun K δ => w δ fun it δ1=>jD δ1 it.bz g b K it.items δ1
noncomputable def iL (δ0:aF) (bz:aF->Prop) (g:WG) (t:WT) (f:WE) (K:List D->aF->Prop):List D->List D->aF->Prop
 | [],acc,δ => bz δ /\ K acc δ
 | d :: r,acc,δ => bz δ /\ g (.p d) δ fun δ1=>t δ1 fun b δ2=>if b=true then f δ2 fun x δ3=>lz x δ3 fun e δ4=>acc.length < 1000/\iL δ0 bz g t f K r (acc ++ [e]) (δ0.trim δ4) else iL δ0 bz g t f K r acc (δ0.trim δ2)
noncomputable def c8 (w:WI) (cp:List (Option Nat)) (g:WG) (t:WT) (f:WE):WE:=fun δ K=>w δ fun it δ1=>iL ⟨cU cp δ1.sl,δ1.mu⟩ it.bz g t f (fun acc δ'=>K (.p (.lst acc)) ⟨δ1.sl,δ'.mu⟩) it.items [] ⟨cU cp δ1.sl,δ1.mu⟩
noncomputable def pG (w:WI) (cp:List (Option Nat)) (g:WG) (t:WT) (f:WE):WE:=fun δ K=>w δ fun it δ1=>iL ⟨cU cp δ1.sl,δ1.mu⟩ it.bz g t f (fun acc δ'=>K (.o δ'.mu.length) ⟨δ1.sl,δ'.mu ++ [some (.lst acc)]⟩) it.items [] ⟨cU cp δ1.sl,δ1.mu⟩
section
variable {X:Cx} {tg iter elt:Expr} {body:List Stmt} {w:WI} {g:WG} {b:WS} {pos:Pos} {ifs:List Expr} {t:WT} {f:WE} {scope:Scope}
theorem ki [lB] (hp:PassesOwn (model X.prog X.w) X.A X.env X.xe) (hc:X.calm=true) (hi:JI X tg iter (lC w)) (hg:JG X tg (kh g)) (hb:dP X body (dr b)) (hs:∀ x,foldedSetIterable iter X.env x=pure x:=by intro _;rfl) :
  JS X (.For tg iter body [] pos) (dr (c7 w g b)):=(D8 hp hc hi hg hb hs).weak fun D σ H h0_ => el7 h0_ fun F ad δ K S q k =>by
 refine⟨F,ad,δ,_,S,q,fun it δ1 h1 J F1 aO H1 E1 S1 I1 => ?_⟩
 have k1:=k.ext E1
 refine⟨fun i m σ' H'=>∃ F' aK δ',i + m=it.items.length/\Ext F1 aO δ1.mu H1 F' aK δ'.mu H'/\SR F' aK δ' σ' H'/\jD δ1 it.bz g b K (it.items.drop i) δ',⟨it.items.length,F1,aO,δ1,by omega,.refl,S1,h1⟩,?_⟩
 rintro i m σ' H' ⟨F',aK,δ',hm,E',S',h⟩
 by_cases d3:i < it.items.length
 ·rw[WW d3] at h
  obtain⟨ck,h⟩:=h
  obtain⟨go,yl⟩:=(I1 F' aK δ' σ' H' E'.same E'.pre S' ck).2 i _ (oU d3)
  refine .inr ⟨go,fun σ2 H2=>∃ F2 bK δ2,Ext F1 aO δ1.mu H1 F2 bK δ2.mu H2/\SR F2 bK δ2 σ2 H2/\jD δ1 it.bz g b K (it.items.drop (i + 1)) δ2,fun σ2 H2 ⟨F2,bK,δ2,e1,e2,e3⟩=>⟨m - 1,by omega,F2,bK,δ2,by omega,e1,e2,e3⟩,fun x H2 y => ?_⟩
  obtain⟨sm,is⟩:=yl x H2 y
  have E2:=E'.trans (Ext.al S' sm)
  refine⟨_,aK,δ',.p _,_,S'.al sm,is,h,fun δ3 h3 F3 pH σ3 H3 E3 S3 => ?_⟩
  have tG:=E2.trans E3
  refine⟨F3,pH,δ3,_,S3,h3,⟨fun δ4 h4 F4 vn σ4 H4 E4 S4=>⟨F4,_,_,(tG.trans E4).trim S1.cb,S4.trim,h4⟩,k1.nx.ext tG,fun δ4 h4 F4 vn σ4 H4 E4 S4=>⟨F4,_,_,(tG.trans E4).trim S1.cb,S4.trim,h4⟩,(k1.ext tG).rt,(k1.ext tG).kp⟩⟩
 ·have ei:i=it.items.length:=by omega
  subst ei
  rw[Zd (uX _)] at h
  obtain⟨ck,h⟩:=h
  exact .inl ⟨(I1 F' aK δ' σ' H' E'.same E'.pre S' ck).1,k1.nx _ h _ _ _ _ E' S'⟩
noncomputable def cq:WT:=fun δ K=>K true δ
theorem JF.weak {ifs:List Expr} {t t':TT} (h:JF X ifs t) (k:∀ σ H Q,t' σ H Q->t σ H Q):JF X ifs t':=⟨fun pins s σ H Q I q=>h.out pins s σ H Q I (k σ H Q q)⟩
theorem ik:JF X [] (cP cq):=o_.weak fun σ H Q h0_ => el7 h0_ fun F ad δ K S q k =>k _ _ q _ _ _ .refl S
theorem iM {c:Expr} (h:JT X c (cP t)):JF X [c] (cP t):=Nh h
theorem Es {J:It} {l:Addr} {F1:Hp} {aO:List Addr} {δ1:aF} {σ : St} {H1:Hp} {it:pD} {cp:List (Option Nat)} {Q:VK} {K:List D->aF->Prop} (S1:SR F1 aO δ1 σ H1) (I1:pE F1 aO it J) (hl:H1 l=none)
  (h:iL ⟨cU cp δ1.sl,δ1.mu⟩ it.bz g t f K it.items [] ⟨cU cp δ1.sl,δ1.mu⟩)
  (fin:∀ acc δ' F' aK τ H' ys,K acc δ'->Ext F1 aO δ1.mu H1 F' aK δ'.mu H'->SR F' aK δ' τ H'->H' l=some (.lst ys)->F' l=none->¬ Lv aK δ'.mu l->ae F' acc ys->Q (.ref l) H') :
  DJ J (kh g) (cP t) (tD f) l (gU cp σ) (upd H1 l (.lst [])) Q:=by
 have f1:F1 l=none:=by
  cases q:F1 l with
  | none=>rfl
  | some u=>rw[S1.sub l u q] at hl;cases hl
 have nl:∀ {ad mu},(∀ a,Lv ad mu a->Lv aO δ1.mu a\/H1 a=none)->True:=fun _=>trivial
 have l1:¬ Lv aO δ1.mu l:=fun ⟨k,ov,e1,e2⟩=>by
  obtain⟨a,o,e3,e4,_⟩:=S1.mu k ov e2
  rw[e1] at e3;cases e3
  rw[hl] at e4;cases e4
 have S0:SR F1 aO ⟨cU cp δ1.sl,δ1.mu⟩ (gU cp σ) (upd H1 l (.lst [])):=S1.pF.other f1 l1 (aM.same S1.tab (cA hl))
 refine⟨fun i m τ H'=>∃ F' aK δ' acc ys,i + m=it.items.length/\Ext F1 aO δ1.mu H1 F' aK δ'.mu H'/\SR F' aK δ' τ H'/\H' l=some (.lst ys)/\F' l=none/\¬ Lv aK δ'.mu l/\ae F' acc ys/\iL ⟨cU cp δ1.sl,δ1.mu⟩ it.bz g t f K (it.items.drop i) acc δ',⟨it.items.length,F1,aO,_,[],[],by omega,Ext.refl.other hl,S0,bR,f1,l1,.nil,h⟩,?_⟩
 rintro i m τ H' ⟨F',aK,δ',acc,ys,hm,E',S',iK,mG,nN,ia,h⟩
 by_cases d3:i < it.items.length
 ·rw[WW d3] at h
  obtain⟨ck,h⟩:=h
  obtain⟨go,yl⟩:=(I1 F' aK δ' τ H' E'.same E'.pre S' ck).2 i _ (oU d3)
  have step:∀ {F2:Hp} {bK:List Addr} {yS:List (Option OV)} {H2:Hp},Ext F' aK δ'.mu H' F2 bK yS H2->H2 l=some (.lst ys)/\F2 l=none/\¬ Lv bK yS l/\ae F2 acc ys:=fun {F2 bK yS H2} e=>by
   refine⟨e.keep _ _ iK nN (fun z=>by obtain⟨ps,q⟩:=aM.tb S1.tab z;rw[hl] at q;cases q),?_,fun z => ?_,ia.same e.same⟩
   ·cases q:F2 l with
    | none=>rfl
    | some u =>
     rcases e.new l u q with z | z | z
     ·rw[mG] at z;cases z
     ·rw[iK] at z;cases z
     ·exact absurd z nN
   ·rcases e.b7 l z with z | z
    ·exact nN z
    ·rw[iK] at z;cases z
  refine .inr ⟨go,fun τ2 H2=>∃ F2 bK δ2 mH vo,Ext F1 aO δ1.mu H1 F2 bK δ2.mu H2/\SR F2 bK δ2 τ2 H2/\H2 l=some (.lst vo)/\F2 l=none/\¬ Lv bK δ2.mu l/\ae F2 mH vo/\iL ⟨cU cp δ1.sl,δ1.mu⟩ it.bz g t f K (it.items.drop (i + 1)) mH δ2,
   fun τ2 H2 ⟨F2,bK,δ2,mH,vo,r⟩=>⟨m - 1,by omega,F2,bK,δ2,mH,vo,by omega,r⟩,fun x H2 y => ?_⟩
  obtain⟨sm,is⟩:=yl x H2 y
  have X2:=Ext.al S' sm
  refine⟨_,aK,δ',.p _,_,S'.al sm,is,h,fun δ3 h3 F3 pH σ3 H3 X3 S3 => ?_⟩
  refine⟨F3,pH,δ3,_,S3,h3,fun bb δ4 h4 F4 vn H4 X4 S4 => ?_⟩
  have yT:=(X2.trans X3).trans X4
  cases bb with
  | false =>
   dsimp only at h4 ⊢
   rw[LX Vv] at h4 ⊢
   obtain⟨a1,a2,a3,a4⟩:=step yT
   exact⟨F4,_,_,acc,ys,(E'.trans yT).trim S1.cb,S4.trim (δ0:=⟨cU cp δ1.sl,δ1.mu⟩),a1,a2,fun z=>a3 z.take,a4,h4⟩
  | true =>
   dsimp only at h4 ⊢
   rw[UO rfl] at h4 ⊢
   refine⟨F4,vn,δ4,_,S4,h4,fun y δ5 h5 v F5 UX H5 X5 S5 V5 => ?_⟩
   obtain⟨e,δ6,F6,⟨hlen,h6⟩,X6,S6,i6⟩:=qF S5 V5 h5
   have Et:=(yT.trans X5).trans X6
   obtain⟨a1,a2,a3,a4⟩:=step Et
   refine⟨ys,a1,qu (by rw[a4.length];omega),F6,_,_,acc ++ [e],ys ++ [v],?_,(S6.other a2 a3 (aM.put S6.tab a1 (.inl ⟨_,rfl⟩))).trim (δ0:=⟨cU cp δ1.sl,δ1.mu⟩),bR,a2,fun z=>a3 z.take,a4.snoc i6,h6⟩
   exact ((E'.trans Et).other hl).trim S1.cb
 ·have ei:i=it.items.length:=by omega
  subst ei
  rw[Zd (uX _)] at h
  obtain⟨ck,h⟩:=h
  exact .inl ⟨(I1 F' aK δ' τ H' E'.same E'.pre S' ck).1,fin _ _ _ _ _ _ _ h E' S' iK mG nN ia⟩
theorem Eu {cp:List (Option Nat)}:∀ σ H Q,tD (c8 w cp g t f) σ H Q->oX (lC w) cp (fun _=>kh g) (fun _=>cP t) (fun _=>tD f) σ H Q:=fun σ H Q h0_ => el7 h0_ fun F ad δ K S q k =>by
 refine⟨F,ad,δ,_,S,q,fun it δ1 h1 J F1 aO H1 E1 S1 I1=>fun d l hl => ?_⟩
 refine Es S1 I1 hl h1 fun acc δ' F' aK τ H' ys hk E' S' iK mG nN ia => ?_
 have sm:aJ F' (upd F' l (.lst ys)):=cA mG
 refine k _ _ hk _ _ _ _ (E1.trans (E'.adopt hl mG)) (SR.back (sl := δ'.sl) S1 (E'.adopt hl mG) (S'.adopt mG iK nN)) ?_
 show Is _ (.lst acc) _
 simp only[Is]
 exact⟨l,ys,rfl,bR,ia.same sm⟩
theorem NI {cp:List (Option Nat)}:∀ σ H Q,tD (pG w cp g t f) σ H Q->oX (lC w) cp (fun _=>kh g) (fun _=>cP t) (fun _=>tD f) σ H Q:=fun σ H Q h0_ => el7 h0_ fun F ad δ K S q k =>by
 refine⟨F,ad,δ,_,S,q,fun it δ1 h1 J F1 aO H1 E1 S1 I1=>fun d l hl => ?_⟩
 refine Es S1 I1 hl h1 fun acc δ' F' aK τ H' ys hk E' S' iK mG nN ia => ?_
 have S2:=S'.du (ov := .lst acc) mG iK nN ⟨ys,rfl,ia⟩
 have E2:=E'.du (ov := .lst acc) hl S'.cb
 refine k _ _ hk _ _ _ _ (E1.trans E2) (SR.back (sl := δ'.sl) S1 E2 S2) ⟨l,?_,rfl⟩
 rw[<-S'.cb,Vu (uX _),Wa];rfl
theorem fz (cp:List (Option Nat)) (Nb:List Str) (hc:X.calm=true) (hi:JI X tg iter (lC w)) (hg:∀ d,JG (cg X scope Nb d) tg (kh g)) (hf:∀ d,JF (cg X scope Nb d) ifs (cP t)) (he:∀ d,JE (cg X scope Nb d) elt (tD f))
  (hk:scope.kind = .function:=by rfl) (ho:lr X.N X.env.scope scope Nb cp=true:=by first | rfl | kernel_rfl) (hs:∀ x,foldedSetIterable iter X.env x=pure x:=by intro _;rfl) :
  JE X (.ListComp elt [⟨tg,iter,ifs,0⟩] scope pos) (tD (c8 w cp g t f)):=(D_ cp Nb hc hi hg hf he hk ho hs).weak Eu
theorem vp (cp:List (Option Nat)) (Nb:List Str) (hc:X.calm=true) (hi:JI X tg iter (lC w)) (hg:∀ d,JG (cg X scope Nb d) tg (kh g)) (hf:∀ d,JF (cg X scope Nb d) ifs (cP t)) (he:∀ d,JE (cg X scope Nb d) elt (tD f))
  (hk:scope.kind = .function:=by rfl) (ho:lr X.N X.env.scope scope Nb cp=true:=by first | rfl | kernel_rfl) (hs:∀ x,foldedSetIterable iter X.env x=pure x:=by intro _;rfl) :
  JE X (.ListComp elt [⟨tg,iter,ifs,0⟩] scope pos) (tD (pG w cp g t f)):=(D_ cp Nb hc hi hg hf he hk ho hs).weak NI
theorem vq [lB] (cp:List (Option Nat)) (Nb:List Str) {i:Nat} {x:Str} {pos' gF:Pos} (hN:X.N.Nodup) (hi:X.N[i]? = some x) (hx:Loc X.env.scope x) (hc:X.calm=true) (hit:JI X tg iter (lC w)) (hg:∀ d,JG (cg X scope Nb d) tg (kh g)) (hf:∀ d,JF (cg X scope Nb d) ifs (cP t)) (he:∀ d,JE (cg X scope Nb d) elt (tD f))
  (hk:scope.kind = .function:=by rfl) (ho:lr X.N X.env.scope scope Nb cp=true:=by first | rfl | kernel_rfl) (hs:∀ x,foldedSetIterable iter X.env x=pure x:=by intro _;rfl)
  (sN:swapsWith (.ListComp elt [⟨tg,iter,ifs,0⟩] scope pos) (some (.Name x pos')) gF.line X.env=pure true:=by rfl)
  (lS:X.fn x=true\/X.env.scope.names.lookup x=some .local:=by first | exact .inl rfl | exact .inr rfl | assumption) :
  JS X (.Assign [.Name x pos'] (.ListComp elt [⟨tg,iter,ifs,0⟩] scope pos) gF) (dr (aD i (c8 w cp g t f))) :=
 (Ni cp Nb hN hi hx hc hit hg hf he hk ho hs sN lS).weak fun D σ H h0_ => el7 h0_ fun F ad δ K S q k =>Eu σ H _ ⟨F,ad,δ,_,S,q,fun x δ1 h1 v F1 aO H1 E1 S1 V1=>k.nx _ h1 _ _ _ _ E1 (S1.set V1)⟩
end
inductive RV where
 | p (d:D) | n (ds:List D) | a (j:Nat)
noncomputable abbrev GD:=List DV->List OV->(RV->List OV->Prop)->Prop
structure yU (F:Hp) (ad:List Addr) (H:Hp) (r:RV) (ows:List OV) (v:V) (F' H':Hp):Prop where
 sub:aJ F' H'
 same:aJ F F'
 new:∀ a o,F' a=some o->F a=some o\/H a=none
 keep:∀ a o,H a=some o->a∉ad->a∉aM.ad->H' a=some o
 tab:aM.ok H'
 nt:∀ a∈aM.ad,F' a=none
 len:ows.length=ad.length
 own:∀ (j:Nat) (ow:OV),ows[j]? = some ow->∃ a o,ad[j]? = some a/\H' a=some o/\eE F' ow o
 off:∀ a∈ad,F' a=none
 res:match r with
  | .p d=>Is F' d v
  | .n ds=>∃ a vs,v = .ref a/\H a=none/\H' a=some (.lst vs)/\F' a=none/\ae F' ds vs
  | .a j=>∃ a,ad[j]? = some a/\v = .ref a
noncomputable def mI (G:GD) (n:Nat):Sp:=fun vs H Q _=>vs.length=n/\∃ F ad ys aj K,SR F ad ⟨ys.map some,aj.map some⟩ (vs.map some) H/\G ys aj K/\∀ r ows,K r ows->∀ v F' H',yU F ad H r ows v F' H'->Q v H'
noncomputable def gb (n:Nat) (K:RV->List OV->Prop) (x:DV) (δ : aF):Prop:=∃ ows,δ.mu.take n=ows.map some/\ows.length=n/\match x with
 | .p d=>K (.p d) ows
 | .o k=>if k < n then K (.a k) ows else match δ.mu[k]? with
  | some (some (.lst ds))=>K (.n ds) ows\/K (.p (.lst ds)) ows
  | _=>False
noncomputable def bG (n:Nat) (K:RV->List OV->Prop):KS where
 nx:=gb n K (.p .non)
 rt:=gb n K
section
variable {F F' H H':Hp} {ad aK:List Addr} {σ σ':St}
theorem Ew {α : Type} {l:List α} {i:Nat} {x : α} (h:(l.map some)[i]? = some (some x)):l[i]? = some x:=by
 rw[LR] at h
 obtain⟨y,e,q⟩:=UP.mp h
 cases q;exact e
theorem NJ {α : Type} {l:List α} {i:Nat} {x : α} (h:l[i]? = some x):(l.map some)[i]? = some (some x):=by
 rw[LR,h];rfl
theorem SR.start {ys:List DV} {mu:List (Option OV)} {vs:List V} {N:List Str} (S:SR F ad ⟨ys.map some,mu⟩ (vs.map some) H):SR F ad ⟨ys.map some ++ List.replicate (N.length - vs.length) none,mu⟩ (start N vs) H:=by
 have hl:vs.length=ys.length:=by
  have:=S.len
  rw[oV] at this
  show vs.length=ys.length
  rw[this];show (ys.map some).length=_;rw[oV]
 refine⟨S.sub,S.off,S.cb,S.inj,S.mu,fun i x e => ?_,?_,S.tab,S.nt⟩
 ·have hi:i < ys.length:=by
   by_cases c:i < ys.length
   ·exact c
   ·rw[Vu (by rw[oV];omega),X_] at e
    split at e
    ·cases e
    ·cases e
  rw[Vt (by rw[oV];exact hi)] at e
  obtain⟨v,h1,h2⟩:=S.sl i x e
  exact⟨v,by unfold L2.start;rw[Vt (by rw[oV,hl];exact hi)];exact h1,h2⟩
 ·unfold L2.start
  show _=(ys.map some ++ _).length
  rw[DG,DG,Yk,Yk,oV,oV,hl]
theorem vt {aj:List OV} {δ : aF} {x:DV} {v:V} {K:RV->List OV->Prop} {Q:VK} {sl:List (Option DV)} {τ : St} (S0:SR F ad ⟨sl,aj.map some⟩ τ H) (E:Ext F ad (aj.map some) H F' aK δ.mu H') (S:SR F' aK δ σ' H') (V:e_ F' aK x v)
  (h:gb aj.length K x δ) (k:∀ r ows,K r ows->∀ v F' H',yU F ad H r ows v F' H'->Q v H'):Q v H':=by
 obtain⟨ows,tk,hl,h⟩:=h
 have al:ad.length=aj.length:=by have:=S0.cb;rwa [oV] at this
 have lv:∀ (j:Nat) (a:Addr),ad[j]? = some a->∃ ow,ows[j]? = some ow /\ δ.mu[j]? = some (some ow)/\Lv aK δ.mu a:=fun j a e=>by
  have hj:j < aj.length:=by rw[<-al];exact (oW.mp e).1
  have h1:(δ.mu.take aj.length)[j]? = some (some (ows[j]'(by rw[hl];exact hj))):=by
   rw[tk,LR,oU (by rw[hl];exact hj)];rfl
  rw[V9 hj] at h1
  exact⟨_,oU (by rw[hl];exact hj),h1,j,_,E.pre j a e,h1⟩
 have kj:∀ a∈ad,F' a=none:=fun a ha=>by
  obtain⟨j,e⟩:=UM.mp ha
  obtain⟨_,_,_,l⟩:=lv j a e
  exact S.off a l
 have base:∀ {F2:Hp},aJ F' F2->aJ F2 H'->(∀ a o,F2 a=some o->F' a=some o\/(H a=none/\¬ a∈ad))->(∀ a∈ad,F2 a=none)->(∀ a∈aM.ad,F2 a=none)->∀ {r:RV},(match r with
   | .p d=>Is F2 d v
   | .n ds=>∃ a vs,v = .ref a/\H a=none/\H' a=some (.lst vs)/\F2 a=none/\ae F2 ds vs
   | .a j=>∃ a,ad[j]? = some a/\v = .ref a)->yU F ad H r ows v F2 H':=fun {F2} s1 s2 n2 o2 NK {r} res=>by
  refine⟨s2,E.same.trans s1,fun a o e => ?_,fun a o e n t => ?_,S.tab,NK,by rw[hl,al],fun j ow e => ?_,o2,res⟩
  ·rcases n2 a o e with e | ⟨e,_⟩
   ·rcases E.new a o e with z | z | ⟨j,ov,z,_⟩
    ·exact .inl z
    ·exact .inr z
    ·rw[kj a (UM.mpr ⟨j,z⟩)] at e;cases e
   ·exact .inr e
  ·exact E.keep a o e (fun ⟨j,ov,z,_⟩=>n (UM.mpr ⟨j,z⟩)) t
  ·have hj:j < ad.length:=by rw[al,<-hl];exact (oW.mp e).1
   obtain⟨yV,e1,e2,_⟩:=lv j _ (oU hj)
   rw[e] at e1;cases e1
   obtain⟨a,o,e3,e4,h5⟩:=S.mu j _ e2
   rw[E.pre j _ (oU hj)] at e3
   cases e3
   exact⟨_,o,oU hj,e4,h5.same s1⟩
 cases x with
 | p d=>exact k _ _ h _ _ _ (base (F2:=F') (fun _ _ e=>e) S.sub (fun _ _ e => .inl e) kj S.nt V)
 | o i =>
  dsimp only at h
  obtain⟨a,e1,rfl⟩:=V
  by_cases c:i < aj.length
  ·rw[UO c] at h
   have ei:ad[i]? = some a:=by
    have:=E.pre i _ (oU (by rw[al];exact c))
    rw[e1] at this
    rw[oU (by rw[al];exact c)]
    exact this.symm
   exact k _ _ h _ _ _ (base (F2:=F') (fun _ _ e=>e) S.sub (fun _ _ e => .inl e) kj S.nt ⟨a,ei,rfl⟩)
  ·rw[LX c] at h
   split at h
   ·rename_i ds em
    obtain⟨a',o,e2,e3,vs,rfl,h4⟩:=S.mu i _ em
    rw[e1] at e2;cases e2
    have na:a∉ad:=fun z=>by
     obtain⟨j,e⟩:=UM.mp z
     obtain⟨ow,_,e5,_⟩:=lv j a e
     have:i=j:=S.inj i j a _ _ e1 (E.pre j a e) em e5
     subst this
     exact c (by rw[<-al];exact (oW.mp e).1)
    have fa:F' a=none:=S.off a ⟨i,_,e1,em⟩
    have ha:H a=none:=by
     rcases E.b7 a ⟨i,_,e1,em⟩ with⟨j,ov,z,_⟩ | z
     ·exact absurd (UM.mpr ⟨j,z⟩) na
     ·exact z
    rcases h with h | h
    ·exact k _ _ h _ _ _ (base (F2:=F') (fun _ _ e=>e) S.sub (fun _ _ e => .inl e) kj S.nt ⟨a,vs,rfl,ha,e3,fa,h4⟩)
    ·refine k _ _ h _ _ _ (base (F2:=upd F' a (.lst vs)) (cA fa) (fun b o e => ?_) (fun b o e => ?_) (fun b hb => ?_) (fun b hb => ?_) ?_)
     ·by_cases z:b=a
      ·subst z;rw[bR] at e;cases e;exact e3
      ·rw[aX z] at e;exact S.sub b o e
     ·by_cases z:b=a
      ·subst z;exact .inr ⟨ha,na⟩
      ·rw[aX z] at e;exact .inl e
     ·rw[aX fun z=>na (by subst z;exact hb)];exact kj b hb
     ·obtain⟨ps,q⟩:=aM.tb S.tab hb
      rw[aX fun z=>by subst z;rw[e3] at q;cases q];exact S.nt b hb
     ·show Is _ (.lst ds) _
      simp only[Is]
      exact⟨a,vs,rfl,bR,h4.same (cA fa)⟩
   ·exact h.elim
end
theorem gE.NL {P:Program} {w:World} {K:PySem.W.Frag} {mg:Str->Option Value} {base:Heap} {x qual:Str} {st:Stmt} {f:Addr} {fd:FuncData} {N ps:List Str} {k:Nat} {G:GD} (F:gE K x qual st f fd) (S:l6 N ps (cM st))
  (dj:∀ (a_:Value) (A:Around) (outer:List Env) (s:Shared) (H:Hp) (E:XK),bg k (A.deeper (envOfC qual (cM st) s.heap.objs.size f a_)) →
   ∃ B:WS,dP (eB fL P w K mg base N qual (cM st) f a_ A outer s H E).jR (fZ st) (dr B)/\∀ ys aj K',ys.length=ps.length->G ys aj K'->B (bG aj.length K') ⟨ys.map some ++ List.replicate (N.length - ps.length) none,aj.map some⟩) :
  cK P w K mg base fL (k + 1) f fd ps (mI G ps.length) :=
 F.yA S (fun vs H Q E h=>h.1) fun a_ A outer s H vs Q E hr h=>by
  obtain⟨hl,Fz,ad,ys,aj,K',S0,g,kk⟩:=h
  obtain⟨B,jb,hb⟩:=dj a_ A outer s H E hr
  have hy:ys.length=ps.length:=by
   have:=S0.len
   rw[oV] at this
   rw[<-hl,this];show _=(ys.map some).length;rw[oV]
  refine⟨_,jb,Fz,ad,⟨ys.map some ++ List.replicate (N.length - ps.length) none,aj.map some⟩,bG aj.length K',by rw[<-hl];exact S0.start,hb ys aj K' hy g,⟨fun δ' h F' aK σ' H' E' S' => ?_,fun δ' h=>h.elim,fun δ' h=>h.elim,fun y δ' h v F' aK σ' H' E' S' V => ?_,trivial⟩⟩
  ·exact vt (σ' := σ') S0 E' S' (x := .p .non) (v := .non) rfl h kk
  ·exact vt (σ' := σ') S0 E' S' V h kk
noncomputable def passes (mu:List (Option OV)):List DV->Nat->Option (List DV × List (Nat × OV))
 | [],_=>some ([],[])
 | .p d :: xs,j=>match passes mu xs j with
  | some r=>some (.p d :: r.1,r.2)
  | none=>none
 | .o k :: xs,j=>match mu[k]? with
  | some (some ov)=>match passes mu xs (j + 1) with
   | some r=>some (.o j :: r.1,(k,ov) :: r.2)
   | none=>none
  | _=>none
noncomputable def fg (mu:List (Option OV)):List (Nat × OV)->List OV->List (Option OV)
 | (k,_) :: r,ow :: ows=>fg (mu.set k (some ow)) r ows
 | _,_=>mu
noncomputable def km:List (Nat × OV)->Bool
 | []=>true
 | (k,_) :: r => !(r.any fun e=>e.1 == k) && km r
noncomputable def mJ (δ : aF) (fN:List (Nat × OV)) (K:DV->aF->Prop) (r:RV) (ows:List OV):Prop:=match r with
 | .p d=>K (.p d) ⟨δ.sl,fg δ.mu fN ows⟩
 | .n ds=>K (.p (.lst ds)) ⟨δ.sl,fg δ.mu fN ows⟩
 | .a j=>match fN[j]? with
  | some ko=>K (.o ko.1) ⟨δ.sl,fg δ.mu fN ows⟩
  | none=>False
noncomputable def pJ (δ : aF) (fN:List (Nat × OV)) (K:DV->aF->Prop) (r:RV) (ows:List OV):Prop:=match r with
 | .n ds=>K (.o (fg δ.mu fN ows).length) ⟨δ.sl,fg δ.mu fN ows ++ [some (.lst ds)]⟩
 | _=>False
noncomputable def au (n:Nat) (G:GD) (fa:WA):WE:=fun δ K=>fa δ fun xs δ1=>match passes δ1.mu xs 0 with
 | some r=>(km r.2=true/\r.1.length=n)/\G r.1 (r.2.map (·.2)) (mJ δ1 r.2 K)
 | none=>False
noncomputable def tH (n:Nat) (G:GD) (fa:WA):WE:=fun δ K=>fa δ fun xs δ1=>match passes δ1.mu xs 0 with
 | some r=>(km r.2=true/\r.1.length=n)/\G r.1 (r.2.map (·.2)) (pJ δ1 r.2 K)
 | none=>False
section
variable {F F' H H':Hp} {ad aK:List Addr} {δ : aF} {σ σ':St}
theorem vv {mu:List (Option OV)} (hm:∀ (k:Nat) (ov:OV),mu[k]? = some (some ov)->∃ a o,ad[k]? = some a/\H a=some o/\eE F ov o):∀ {xs:List DV} {vs:List V} {j:Nat} {r:List DV × List (Nat × OV)},passes mu xs j=some r->c6 F ad xs vs →
  ∃ as:List Addr,as.length=r.2.length/\(∀ (i:Nat) (ko:Nat × OV),r.2[i]? = some ko->mu[ko.1]? = some (some ko.2)/\∃ a o,as[i]? = some a/\ad[ko.1]? = some a/\H a=some o/\eE F ko.2 o) ∧
   ∀ (pre:List Addr),pre.length=j->∃ _u:Unit,vs.length=r.1.length/\∀ (i:Nat) (y:DV),r.1[i]? = some y->∃ v,vs[i]? = some v/\e_ F (pre ++ as) y v
 | [],vs,j,r,h,hv=>by
  cases h
  have:vs=[]:=hv
  subst this
  exact⟨[],rfl,fun i ko e=>by simp at e,fun pre _=>⟨(),rfl,fun i y e=>by simp at e⟩⟩
 | .p d :: xs,_,j,r,h,⟨v,t,e,h1,h2⟩=>by
  subst e
  unfold passes at h
  split at h
  ·rename_i r' hr
   cases h
   obtain⟨as,l,b,c⟩:=vv hm hr h2
   refine⟨as,l,b,fun pre hp=>⟨(),?_,fun i y e => ?_⟩⟩
   ·obtain⟨_,c1,_⟩:=c pre hp
    rw[DE,DE,c1]
   ·obtain⟨_,_,c2⟩:=c pre hp
    cases i with
    | zero=>cases (show some (DV.p d)=some y by simpa using e);exact⟨v,rfl,h1⟩
    | succ i=>simpa using c2 i y (by simpa using e)
  ·cases h
 | .o k :: xs,_,j,r,h,⟨v,t,e,h1,h2⟩=>by
  subst e
  unfold passes at h
  split at h
  ·rename_i ov hk
   split at h
   ·rename_i r' hr
    cases h
    obtain⟨as,l,b,c⟩:=vv hm hr h2
    obtain⟨a,e1,rfl⟩:=h1
    obtain⟨a',o,e2,e3,e4⟩:=hm k ov hk
    rw[e1] at e2;cases e2
    refine⟨a :: as,by rw[DE,DE,l],fun i ko e => ?_,fun pre hp=>⟨(),?_,fun i y e => ?_⟩⟩
    ·cases i with
     | zero=>cases (show some (k,ov)=some ko by simpa using e);exact⟨hk,a,o,rfl,e1,e3,e4⟩
     | succ i=>simpa using b i ko (by simpa using e)
    ·obtain⟨_,c1,_⟩:=c (pre ++ [a]) (by rw[DG,hp];rfl)
     rw[DE,DE,c1]
    ·obtain⟨_,_,c2⟩:=c (pre ++ [a]) (by rw[DG,hp];rfl)
     cases i with
     | zero =>
      cases (show some (DV.o j)=some y by simpa using e)
      refine⟨_,rfl,a,?_,rfl⟩
      rw[Vu (by omega),hp,Wa];rfl
     | succ i =>
      obtain⟨v',c3,c4⟩:=c2 i y (by simpa using e)
      exact⟨v',by simpa using c3,by rw[XE] at c4;exact c4⟩
   ·cases h
  ·cases h
theorem Ex:∀ {fN:List (Nat × OV)},km fN=true->∀ (i j:Nat) (k:Nat) (a b:OV),fN[i]? = some (k,a)->fN[j]? = some (k,b)->i=j
 | [],_,i,j,k,a,b,e,_=>by simp at e
 | (k',ov) :: r,h,i,j,k,a,b,e1,e2=>by
  unfold km at h
  simp only[VY,XG] at h
  have no:∀ (m:Nat) (c:OV),r[m]? = some (k',c)->False:=fun m c e=>by
   have:=Xh.mp h.1 _ (UM.mpr ⟨m,e⟩)
   exact this (by simp)
  cases i with
  | zero =>
   cases (show some (k',ov)=some (k,a) by simpa using e1)
   cases j with
   | zero=>rfl
   | succ j=>exact (no j b (by simpa using e2)).elim
  | succ i =>
   cases j with
   | zero=>cases (show some (k',ov)=some (k,b) by simpa using e2);exact (no i a (by simpa using e1)).elim
   | succ j=>rw[Ex h.2 i j k a b (by simpa using e1) (by simpa using e2)]
theorem Ey:∀ (fN:List (Nat × OV)) (ows:List OV) (mu:List (Option OV)),(fg mu fN ows).length=mu.length
 | (k,_) :: r,ow :: ows,mu=>by rw[fg,Ey r ows,WQ]
 | [],_,_=>rfl
 | _ :: _,[],_=>rfl
theorem vw:∀ (fN:List (Nat × OV)) (ows:List OV) (mu:List (Option OV)) (l:Nat),(∀ ko∈fN,ko.1≠l)->(fg mu fN ows)[l]? = mu[l]?
 | (k,_) :: r,ow :: ows,mu,l,h=>by
  rw[fg,vw r ows _ l fun ko hk=>h ko (Vs _ hk),Wh (h _ UQ)]
 | [],_,_,_,_=>rfl
 | _ :: _,[],_,_,_=>rfl
theorem Ez:∀ {fN:List (Nat × OV)} {ows:List OV} {mu:List (Option OV)} {i:Nat} {ko:Nat × OV} {ow:OV},km fN=true->fN[i]? = some ko->ows[i]? = some ow->ko.1 < mu.length->(fg mu fN ows)[ko.1]? = some (some ow)
 | (k,ov) :: r,yV :: ows,mu,0,ko,ow,h,e1,e2,hl=>by
  cases (show some (k,ov)=some ko by simpa using e1)
  cases (show some yV=some ow by simpa using e2)
  unfold km at h
  simp only[VY,XG] at h
  rw[fg,vw r ows _ k fun ko hk z=>absurd (by simpa using z) (Xh.mp h.1 ko hk),Wi hl]
 | (k,ov) :: r,yV :: ows,mu,i + 1,ko,ow,h,e1,e2,hl=>by
  unfold km at h
  simp only[VY,XG] at h
  rw[fg]
  exact Ez h.2 (by simpa using e1) (by simpa using e2) (by rw[WQ];exact hl)
 | [],_,_,i,_,_,_,e1,_,_=>by simp at e1
 | _ :: _,[],_,i,_,_,_,_,e2,_=>by simp at e2
theorem EA {xs:List DV} {vs:List V} {r:List DV × List (Nat × OV)} {G:GD} {n:Nat} {Q:VK} {E:XK} {K:RV->List OV->Prop} (S:SR F ad δ σ H) (V:c6 F ad xs vs) (hn:vs.length=n) (hp:passes δ.mu xs 0=some r) (nd:km r.2=true) (g:G r.1 (r.2.map (·.2)) K)
  (fin:∀ res ows v F' H',K res ows->Ext F ad δ.mu H F' ad (fg δ.mu r.2 ows) H'->SR F' ad ⟨δ.sl,fg δ.mu r.2 ows⟩ σ H'->(match res with
   | .p d=>Is F' d v
   | .n ds=>∃ a vs,v = .ref a/\H a=none/\H' a=some (.lst vs)/\F' a=none/\ae F' ds vs
   | .a j=>∃ ko a,r.2[j]? = some ko/\ad[ko.1]? = some a/\v = .ref a)->Q v H'):mI G n vs H Q E:=by
 obtain⟨as,al,b,c⟩:=vv S.mu hp V
 obtain⟨_,c1,c2⟩:=c [] rfl
 have qH:∀ (i:Nat) (a:Addr),as[i]? = some a->Lv ad δ.mu a/\∃ ko,r.2[i]? = some ko/\ad[ko.1]? = some a /\ δ.mu[ko.1]? = some (some ko.2):=fun i a e=>by
  have hi:i < r.2.length:=by rw[<-al];exact (oW.mp e).1
  obtain⟨m1,a',o,e1,e2,_,_⟩:=b i _ (oU hi)
  rw[e] at e1;cases e1
  exact⟨⟨_,_,e2,m1⟩,_,oU hi,e2,m1⟩
 refine⟨hn,F,as,r.1,r.2.map (·.2),K,⟨S.sub,fun a ⟨i,ov,e1,e2⟩=>S.off a (qH i a e1).1,by rw[al];show _=((r.2.map (·.2)).map some).length;rw[oV,oV],fun i j a ov ow e1 e2 _ _ => ?_,fun i ov e => ?_,fun i y e => ?_,?_,S.tab,S.nt⟩,g,fun res ows hk v F' H' P => ?_⟩
 ·obtain⟨_,ko,k1,k2,k3⟩:=qH i a e1
  obtain⟨_,kp,p1,p2,p3⟩:=qH j a e2
  have:ko.1=kp.1:=S.inj _ _ a _ _ k2 p2 k3 p3
  exact Ex nd i j ko.1 ko.2 kp.2 k1 (by rw[this];exact p1)
 ·have e:=Ew e
  rw[LR] at e
  obtain⟨ko,e1,rfl⟩:=UP.mp e
  obtain⟨_,a,o,e2,_,e4,e5⟩:=b i ko e1
  exact⟨a,o,e2,e4,e5⟩
 ·obtain⟨v,e1,e2⟩:=c2 i y (Ew e)
  exact⟨v,NJ e1,by simpa using e2⟩
 ·show (vs.map some).length=(r.1.map some).length
  rw[oV,oV,c1]
 ·have ol:ows.length=r.2.length:=by rw[P.len,al]
  have nA:∀ (l:Nat) (ow:OV),(fg δ.mu r.2 ows)[l]? = some (some ow)->(∃ (i:Nat) (ko:Nat × OV),r.2[i]? = some ko/\ko.1=l/\ows[i]? = some ow)\/((∀ ko∈r.2,ko.1≠l) /\ δ.mu[l]? = some (some ow)):=fun l ow e=>by
   by_cases z:∃ ko∈r.2,ko.1=l
   ·obtain⟨ko,hk,rfl⟩:=z
    obtain⟨i,hi⟩:=UM.mp hk
    have pK:i < ows.length:=by rw[ol];exact (oW.mp hi).1
    have:=Ez (mu := δ.mu) nd hi (oU pK) (oW.mp (b i ko hi).1).1
    rw[e] at this
    cases this
    exact .inl ⟨i,ko,hi,rfl,oU pK⟩
   ·have z':∀ ko∈r.2,ko.1≠l:=fun ko hk q=>z ⟨ko,hk,q⟩
    rw[vw _ _ _ _ z'] at e
    exact .inr ⟨z',e⟩
  have EB:∀ (l:Nat) (ow:OV) (a:Addr),ad[l]? = some a->(fg δ.mu r.2 ows)[l]? = some (some ow)->Lv ad δ.mu a:=fun l ow a e1 e2=>by
   rcases nA l ow e2 with⟨i,ko,hi,rfl,_⟩ | ⟨_,q⟩
   ·exact⟨_,_,e1,(b i ko hi).1⟩
   ·exact⟨_,_,e1,q⟩
  have NM:∀ a,a∈as->Lv ad δ.mu a:=fun a ha=>by
   obtain⟨i,e⟩:=UM.mp ha
   exact (qH i a e).1
  have ex:Ext F ad δ.mu H F' ad (fg δ.mu r.2 ows) H':=by
   refine⟨P.same,fun a o e => ?_,fun a o e n t=>P.keep a o e (fun z=>n (NM a z)) t,fun _ _ e=>e,fun a ⟨l,ow,e1,e2⟩ => .inl (EB l ow a e1 e2),fun a o e => ?_⟩
   ·rcases P.new a o e with z | z
    ·exact .inl z
    ·exact .inr (.inl z)
   ·by_cases z:a∈as
    ·obtain⟨i,e1⟩:=UM.mp z
     have hi:i < ows.length:=by rw[P.len];exact (oW.mp e1).1
     obtain⟨a',o',e2,e3,_⟩:=P.own i _ (oU hi)
     rw[e1] at e2;cases e2
     exact⟨o',e3⟩
    ·by_cases t:a∈aM.ad
     ·obtain⟨ps,q⟩:=aM.tb P.tab t
      exact⟨_,q⟩
     ·exact⟨o,P.keep a o e z t⟩
  have yW:∀ a,Lv ad δ.mu a->F' a=none:=fun a l=>by
   by_cases z:a∈as
   ·exact P.off a z
   ·cases q:F' a with
    | none=>rfl
    | some u =>
     rcases P.new a u q with y | y
     ·rw[S.off a l] at y;cases y
     ·obtain⟨k,ov,e1,e2⟩:=l
      obtain⟨a',o,e3,e4,_⟩:=S.mu k ov e2
      rw[e1] at e3;cases e3
      rw[y] at e4;cases e4
  have sr:SR F' ad ⟨δ.sl,fg δ.mu r.2 ows⟩ σ H':=by
   refine⟨P.sub,fun a ⟨l,ow,e1,e2⟩=>yW a (EB l ow a e1 e2),by rw[S.cb];exact (Ey _ _ _).symm,fun k l a ov ow e1 e2 e3 e4 => ?_,fun l ow e => ?_,fun i y e => ?_,S.len,P.tab,P.nt⟩
   ·have h3:∃ w,δ.mu[k]? = some (some w):=by
     rcases nA k ov e3 with⟨i,ko,hi,rfl,_⟩ | ⟨_,q⟩
     ·exact⟨_,(b i ko hi).1⟩
     ·exact⟨_,q⟩
    have h4:∃ w,δ.mu[l]? = some (some w):=by
     rcases nA l ow e4 with⟨i,ko,hi,rfl,_⟩ | ⟨_,q⟩
     ·exact⟨_,(b i ko hi).1⟩
     ·exact⟨_,q⟩
    obtain⟨_,h3⟩:=h3
    obtain⟨_,h4⟩:=h4
    exact S.inj k l a _ _ e1 e2 h3 h4
   ·rcases nA l ow e with⟨i,ko,hi,rfl,ho⟩ | ⟨z,q⟩
    ·obtain⟨_,a,o,e1,e2,_,_⟩:=b i ko hi
     obtain⟨a',o',e3,e4,h5⟩:=P.own i ow ho
     rw[e1] at e3;cases e3
     exact⟨a,o',e2,e4,h5⟩
    ·obtain⟨a,o,e1,e2,h⟩:=S.mu l ow q
     refine⟨a,o,e1,P.keep a o e2 (fun y => ?_) (fun t => ?_),h.same P.same⟩
     ·obtain⟨i,e3⟩:=UM.mp y
      obtain⟨_,ko,k1,k2,k3⟩:=qH i a e3
      exact z ko (UM.mpr ⟨i,k1⟩) (S.inj _ _ a _ _ k2 e1 k3 q)
     ·obtain⟨ps,q2⟩:=aM.tb S.tab t
      rw[e2] at q2
      cases q2
      rcases h.kind with⟨_,z⟩ | ⟨_,z⟩<;>cases z
   ·obtain⟨v,e1,h⟩:=S.sl i y e
    exact⟨v,e1,h.ext ex⟩
  refine fin res ows v F' H' hk ex sr ?_
  have pL:=P.res
  cases res with
  | p d=>exact pL
  | n ds=>exact pL
  | a j =>
   obtain⟨a,e1,e2⟩:=pL
   obtain⟨_,ko,k1,k2,_⟩:=qH j a e1
   exact⟨ko,a,k1,k2,e2⟩
end
section
variable {X:Cx} {fa:WA} {G:GD} {pos:Pos}
theorem EC {F1 F2 H1 H2:Hp} {aO:List Addr} {δ1:aF} {σ : St} {xs:List DV} {vs:List V} {r:List DV × List (Nat × OV)} {ows:List OV} {a:Addr} (S1:SR F1 aO δ1 σ H1) (V1:c6 F1 aO xs vs) (hp:passes δ1.mu xs 0=some r) (n1:H1 a=none):¬ Lv aO (fg δ1.mu r.2 ows) a:=fun ⟨k,ov,e1,e2⟩=>by
 have c:∃ ov,δ1.mu[k]? = some (some ov):=by
  by_cases y:∃ ko∈r.2,ko.1=k
  ·obtain⟨ko,eX,rfl⟩:=y
   obtain⟨as,_,b,_⟩:=vv S1.mu hp V1
   obtain⟨i,hi⟩:=UM.mp eX
   exact⟨_,(b i ko hi).1⟩
  ·rw[vw _ _ _ _ fun ko eX q=>y ⟨ko,eX,q⟩] at e2
   exact⟨_,e2⟩
 obtain⟨NN,c⟩:=c
 obtain⟨a',o,e3,e4,_⟩:=S1.mu k NN c
 rw[e1] at e3;cases e3
 rw[n1] at e4;cases e4
theorem c6.length {F:Hp} {ad:List Addr}:∀ {xs:List DV} {vs:List V},c6 F ad xs vs->vs.length=xs.length
 | [],vs,h=>by have h:vs=[]:=h;rw[h];rfl
 | x :: xs,vs,⟨v,r,e,_,h2⟩=>by rw[e,DE,DE,c6.length h2]
theorem vx {mu:List (Option OV)}:∀ {xs:List DV} {j:Nat} {r:List DV × List (Nat × OV)},passes mu xs j=some r->r.1.length=xs.length
 | [],j,r,h=>by cases h;rfl
 | .p d :: xs,j,r,h=>by
  unfold passes at h
  split at h
  ·rename_i r' hr;cases h;show (DV.p d :: r'.1).length=_;rw[DE,DE,vx hr]
  ·cases h
 | .o k :: xs,j,r,h=>by
  unfold passes at h
  split at h
  ·split at h
   ·rename_i r' hr;cases h;show (DV.o j :: r'.1).length=_;rw[DE,DE,vx hr]
   ·cases h
  ·cases h
section
variable {k:Nat} {f:Addr} {fd:FuncData} {ps:List Str} {x:Str} {p:Pos} {e:Expr} {es:List Expr} {n:Nat}
theorem NO {E:XK} {F F1 H H1:Hp} {ad aO:List Addr} {δ δ1:aF} {σ : St} {K:DV->aF->Prop} {Q:VK} {xs:List DV} {vs:List V} (kk:∀ x δ',K x δ'->∀ v F' aK H',Ext F ad δ.mu H F' aK δ'.mu H'->SR F' aK δ' σ H'->e_ F' aK x v->Q v H') (h1:match passes δ1.mu xs 0 with
 | some r=>(km r.2=true/\r.1.length=n)/\G r.1 (r.2.map (·.2)) (mJ δ1 r.2 K)
 | none=>False) (E1:Ext F ad δ.mu H F1 aO δ1.mu H1) (S1:SR F1 aO δ1 σ H1) (V1:c6 F1 aO xs vs):mI G n (vs ++ []) H1 Q E:=by
 split at h1
 ·rename_i r hp
  obtain⟨⟨nd,hn⟩,h1⟩:=h1
  rw[Yw]
  refine EA S1 V1 (by rw[V1.length,<-vx hp,hn]) hp nd h1 fun res ows v F2 H2 hk E2 S2 kq => ?_
  unfold mJ at hk
  cases res with
  | p d=>exact kk _ _ hk _ _ _ _ (E1.trans E2) S2 kq
  | n ds =>
   obtain⟨a,us,rfl,n1,n2,n3,n4⟩:=kq
   refine kk _ _ hk _ _ _ _ (E1.trans (E2.adopt (o := .lst us) n1 n3)) (S2.adopt n3 n2 (EC (F2:=F2) (H2:=H2) S1 V1 hp n1)) ?_
   show Is _ (.lst ds) _
   simp only[Is]
   exact⟨a,us,rfl,bR,n4.same (cA n3)⟩
  | a j =>
   obtain⟨ko,a,h1,h2,h3⟩:=kq
   dsimp only at hk
   rw[h1] at hk
   exact kk _ _ hk _ _ _ _ (E1.trans E2) S2 ⟨a,h2,h3⟩
 ·exact h1.elim
theorem NP {E:XK}:∀ σ H Q,tD (au n G fa) σ H Q->uT (mI G n) [] E (bX fa) σ H Q:=fun σ H Q h0_ => el7 h0_ fun F ad δ K S q kk =>
 ⟨F,ad,δ,_,S,q,fun xs δ1 h1 vs F1 aO H1 E1 S1 V1=>NO kk h1 E1 S1 V1⟩
theorem NQ {E:XK}:∀ σ H Q,tD (tH n G fa) σ H Q->uT (mI G n) [] E (bX fa) σ H Q:=fun σ H Q h0_ => el7 h0_ fun F ad δ K S q kk =>by
 refine⟨F,ad,δ,_,S,q,fun xs δ1 h1 vs F1 aO H1 E1 S1 V1 => ?_⟩
 split at h1
 ·rename_i r hp
  obtain⟨⟨nd,hn⟩,h1⟩:=h1
  rw[Yw]
  refine EA S1 V1 (by rw[V1.length,<-vx hp,hn]) hp nd h1 fun res ows v F2 H2 hk E2 S2 kq => ?_
  unfold pJ at hk
  cases res with
  | p d=>exact hk.elim
  | n ds =>
   obtain⟨a,us,rfl,n1,n2,n3,n4⟩:=kq
   have oi:eE F2 (.lst ds) (.lst us):=⟨us,rfl,n4⟩
   refine kk _ _ hk _ _ _ _ (E1.trans (E2.du (ov := .lst ds) n1 S2.cb)) (S2.du n3 n2 (EC (F2:=F2) (H2:=H2) S1 V1 hp n1) oi) ⟨a,?_,rfl⟩
   have:aO.length=(fg δ1.mu r.2 ows).length:=S2.cb
   rw[<-this,Vu (uX _),Wa];rfl
  | a j=>exact hk.elim
 ·exact h1.elim
theorem NR (Fn:cK X.prog X.w X.K X.mg X.base fL k f fd ps (mI G n)) (hr:bg k X.A) (hg:Gl X x) (hm:X.mg x=some (.ref f)) (hk:PySem.W.keepIn X.K (.ref f)=true) (hb:Binds X.K fd ps [])
  (ha:JA X (e :: es) (bX fa)) (eA:(x == ("__debug__" : Str))=false:=by decide) (he:starEach (e :: es) X.env=(false,eval e X.env) :: starEach es X.env:=by rfl) (d4:(backTo pos (starEach es X.env)).any (·.1)=false:=by rfl) :
  JE X (.Call (.Name x p) (e :: es) [] pos) (tD (au n G fa)):=(yt Fn hr hg hm hk hb .nil xS ha eA he d4).weak NP
theorem NS (Fn:cK X.prog X.w X.K X.mg X.base fL k f fd ps (mI G n)) (hr:bg k X.A) (hg:Gl X x) (hm:X.mg x=some (.ref f)) (hk:PySem.W.keepIn X.K (.ref f)=true) (hb:Binds X.K fd ps [])
  (ha:JA X (e :: es) (bX fa)) (eA:(x == ("__debug__" : Str))=false:=by decide) (he:starEach (e :: es) X.env=(false,eval e X.env) :: starEach es X.env:=by rfl) (d4:(backTo pos (starEach es X.env)).any (·.1)=false:=by rfl) :
  JE X (.Call (.Name x p) (e :: es) [] pos) (tD (tH n G fa)):=(yt Fn hr hg hm hk hb .nil xS ha eA he d4).weak NQ
end
end
end L2
namespace PySem
open Sem (wp)
open AutoSeq1 (wpAny_loadPart')
theorem NT (l:Addr) (items:Array Value) (n:Nat) (dct:Option Addr) (sl:Array (Option Value)) :
  Meets (Builtin.«enumerate.__new__» ⟨[.type "enumerate",.ref l],[]⟩) (fun _ R s=>s.heap.get? l=some { cls := .type "tuple",dict:=dct,data := .seq items n,slots:=sl } ∧
   R (.ok (.ret (.ref (s.heap.push { cls := .type "tuple_iterator",data := .fields #[.ref l,.int 0 0] }).objs.size)))
    { s with heap:=(s.heap.push { cls := .type "tuple_iterator",data := .fields #[.ref l,.int 0 0] }).push { cls := .type "enumerate",data := .fields #[.none,.bool false,.ref s.heap.objs.size,rawInt 0,.none,.none] } }) :=
 .of_wp fun prog w A R s h=>by
  obtain⟨hp,g,d,tk,os⟩:=s;obtain⟨hl,h⟩:=h
  have NU:=sub_enumerate
  have hL:Heap.IsTuple (Shared.heap ⟨hp,g,d,tk,os⟩) l items:=⟨_,hl,rfl,n,rfl⟩
  wp_walk using VS hl
  refine wpAny_stack_any fun st=>xR ?_
  split
  ·rename_i c _ _ _ _ _
   cases (c == Value.type "enumerate")
   ·wp_walk using VS hl,X8 hL
    exact⟨_,rfl,h⟩
   ·wp_walk using VS hl,X8 hL
    exact⟨_,rfl,h⟩
  ·wp_walk using VS hl,X8 hL
   exact⟨_,rfl,h⟩
section
variable {prog:Program} {w:World} {A:Around} {E:Value->Shared->Prop} {s:Shared}
theorem NV {l:Addr} {items:Array Value} {Q:Value->Shared->Prop} (hL:s.heap.IsTuple l items)
  (h:∀ h',IsEnum h' (s.heap.objs.size + 1) s.heap.objs.size 0 .none->h'.IsTupleIter s.heap.objs.size l 0->h'.objs.size=s.heap.objs.size + 2 →
   (∀ b o,s.heap.get? b=some o->h'.get? b=some o)->Q (.ref (s.heap.objs.size + 1)) { s with heap:=h' }) :
  wpAny (model prog w) A (call (.type "enumerate") [.ref l]) Q E s:=by
 obtain⟨⟨c,dct,dt,sl⟩,hl,hc,n,hd⟩:=hL
 replace hc:c = .type "tuple" := hc
 replace hd:dt = .seq items n:=hd
 subst hc hd
 refine callType_new F.called_enumerate (by decide) (F.typeCall_enumerate_1 _) (F.newCall_enumerate_1 _) (fun obj=>F.args_object_init_2 obj _) F.entry_enumerate_new
  (NT l items n dct sl) ⟨hl,?_⟩
 have hz:(s.heap.push { cls := .type "tuple_iterator",data := .fields #[.ref l,.int 0 0] }).objs.size=s.heap.objs.size + 1:=XJ ..
 show _/\_
 rw[hz]
 have he:IsEnum ((s.heap.push { cls := .type "tuple_iterator",data := .fields #[.ref l,.int 0 0] }).push
   { cls := .type "enumerate",data := .fields #[.none,.bool false,.ref s.heap.objs.size,rawInt 0,.none,.none] }) (s.heap.objs.size + 1) s.heap.objs.size 0 .none:=by
  have:=Vq (s.heap.push { cls := .type "tuple_iterator",data := .fields #[.ref l,.int 0 0] })
   (o:={ cls := .type "enumerate",data := .fields #[.none,.bool false,.ref s.heap.objs.size,rawInt 0,.none,.none] }) rfl
  rw[hz] at this;exact this
 refine⟨⟨_,he,rfl⟩,h _ he ⟨_,qt _ (Vq _ rfl),rfl,rfl⟩ (by rw[XJ,hz]) fun b o x=>qt _ (qt _ x)⟩
theorem NW {it l:Addr} {i:Nat} {items:Array Value} {x:Value} {Q:Value->Shared->Prop} (hit:s.heap.IsTupleIter it l i) (hl:s.heap.IsTuple l items) (hx:items[i]? = some x)
  (hQ:∀ h',h'.IsTupleIter it l (i + 1)->Heap.SameBut it s.heap h'->Q x { s with heap:=h' }):wpAny (model prog w) A (Builtin.SmallTypes.nextOf (.ref it)) Q E s:=by
 obtain⟨o,ho,hc,hd⟩:=id hit
 obtain⟨ol,yX,_,nl,yY⟩:=hl
 have nn:¬ ((Value.ref l == Value.none)=true):=Vv
 unfold Builtin.SmallTypes.nextOf
 refine mq (W5 (name:=Str.ofString "__next__") hit.typeIs Xb (Xp Xb hit.typeIs F.entry_tuple_iterator_next ?_ (Yx _)))
 show wpAny _ _ (field (.ref it) 0 >>= _) _ _ s;refine mq (Xi ho hd (x := .ref l) rfl ?_)
 show wpAny _ _ (if (Value.ref l == Value.none)=true then _ else _) _ _ s;rw[LX nn]
 show wpAny _ _ (field (.ref it) 1 >>= _) _ _ s;refine mq (Xi ho hd (x := .int i 0) rfl ?_)
 show wpAny _ _ (seqItems? (.ref l) >>= _) _ _ s;refine mq (Xo yX yY ?_)
 simp only[LW,hx]
 refine mq (wpAny_setField ho hd (by simp) (xR ⟨x,rfl,xR (hQ _ ⟨_,XB _ ho (Obj.isFreed_of_fields (Obj.data_mapFields hd _)),(Obj.cls_mapFields ..).trans hc,?_⟩ (VF ..))⟩))
 rw[Obj.data_mapFields hd];simp[rawInt]
theorem NX {it l:Addr} {i:Nat} {items:Array Value} {Q:Value->Shared->Prop} (hh:A.handled=none) (hit:s.heap.IsTupleIter it l i) (hl:s.heap.IsTuple l items) (hx:items[i]? = none)
  (hE:∀ h' e,Heap.ExtBut it s.heap h'->(∃ o,h'.get? e=some o/\o.cls = .type "StopIteration")->E (.ref e) { s with heap:=h' }):wpAny (model prog w) A (Builtin.SmallTypes.nextOf (.ref it)) Q E s:=by
 obtain⟨o,ho,hc,hd⟩:=id hit
 obtain⟨ol,yX,_,nl,yY⟩:=hl
 have nn:¬ ((Value.ref l == Value.none)=true):=Vv
 unfold Builtin.SmallTypes.nextOf
 refine mq (W5 (name:=Str.ofString "__next__") hit.typeIs Xb (Xp Xb hit.typeIs F.entry_tuple_iterator_next ?_ (Yx _)))
 show wpAny _ _ (field (.ref it) 0 >>= _) _ _ s;refine mq (Xi ho hd (x := .ref l) rfl ?_)
 show wpAny _ _ (if (Value.ref l == Value.none)=true then _ else _) _ _ s;rw[LX nn]
 show wpAny _ _ (field (.ref it) 1 >>= _) _ _ s;refine mq (Xi ho hd (x := .int i 0) rfl ?_)
 show wpAny _ _ (seqItems? (.ref l) >>= _) _ _ s;refine mq (Xo yX yY ?_)
 simp only[LW,hx]
 refine mq (Ze (mq (wpAny_setField ho hd (by simp) ?_)))
 show wpAny _ _ (newExc (.type "StopIteration") [] >>= _) _ _ _;refine mq ?_
 simp only[newExc,newTuple];refine mq (V7 ?_ (by size_fits))
 refine mq (m:=firstArgMember _ _) (wpAny_of_eq (a:=Value.none) (by first | rfl | (simp only[firstArgMember];rfl)) (V7 ?_ (by size_fits)))
 simp only[raiseNew];refine mq (wpAny_handled ?_)
 first | rw[show A.in1.handled=none from hh] | rw[hh]
 refine mq (xR (wpAny_throw (hE _ _ (((VF ..).extBut.push _).push _) ⟨_,Vq _ rfl,rfl⟩)))
theorem ED (hh:A.handled=none) (it l:Addr) (ib:l≠it) (items:Array Value):Draws prog w A it [it,l] items.size (fun i v=>items[i]? = some v) (fun i h=>h.IsTupleIter it l i/\h.IsTuple l items) where
 live:=fun _ _ st=>let ⟨o,ho,_⟩:=st.1; ⟨o,ho⟩
 frame:=fun _ _ _ st hk=>⟨st.1.at fun o e=>hk it (by simp) o e,st.2.at fun o e=>hk l (by simp) o e⟩
 item:=fun i s Q E hi st hQ=>NW st.1 st.2 (x:=items[i]) (by simp[hi]) fun h' yZ va=>hQ _ h' s.toks (by simp[hi]) ⟨yZ,st.2.extBut va.extBut ib⟩ va
 done:=fun s Q E st hE=>NX hh st.1 st.2 (by simp) hE
end
end PySem
namespace L2
open PySem PySem.Spec PyProof.Rows
noncomputable def tI (K:PySem.W.Frag) (a:Addr):It :=
 ⟨fun i H=>∃ xs x,bB K H a xs/\xs[i]? = some x,fun i H x H'=>∃ T v,x = .ref T/\H T=none/\H'=upd H T (.tup [.int (i:Nat),v])/\∀ xs,bB K H a xs->xs[i]? = some v,fun i H=>∃ xs,bB K H a xs/\xs.length=i⟩
theorem NY {P:Program} {w:World} {K:PySem.W.Frag} {elts:List Expr} {x1} {tp:Pos} (a e it:Addr) (ib:e≠it) (NZ:a≠e) (EE:a≠it) :
  Turn P w K (.Tuple elts x1 tp) (tI K a) [e,it] e (fun i h=>(∃ old,IsEnum h e it (i:Nat) old)/\h.IsTupleIter it a i) where
 mem:=by simp
 obj:=fun i h st b hb=>by
  obtain⟨⟨old,he⟩,o,hi,hc,hd⟩:=st
  rcases Vr.mp hb with rfl | hb
  ·exact⟨_,he,fun v z=>by cases z⟩
  ·have z:b=it:=by simpa using hb
   subst z
   exact⟨o,hi,fun v z=>by rw[hd] at z;cases z⟩
 keep:=fun i h h' st k=>by
  obtain⟨⟨old,he⟩,hi⟩:=st
  exact⟨⟨old,k e (by simp) _ he⟩,hi.at fun o q=>k it (by simp) o q⟩
 item:=by
  intro X hP hw hK hc i pins s σ H E I hf st hg
  subst hP hw hK
  obtain⟨⟨old,he⟩,hi⟩:=st
  obtain⟨xs,x,hq,hx⟩:=hg
  obtain⟨aq,rv,p,hz⟩:=I.tuple hq
  obtain⟨u,hu,ru⟩:=rv.get hx
  have D:=ED (prog:=X.prog) (w:=X.w) (A:=X.A.in1) (by rw[X7];exact I.ok.hd hc) it a EE aq.toArray
  have pK:i < aq.toArray.size:=by rw[sD];exact (oW.mp hu).1
  refine wpAny_pyNext_enum_itemD D he ⟨hi,p⟩ pK ib (by simp[ib,XC NZ]) fun y h1 tk py la x6 sO hsz hk=>⟨_,rfl,?_⟩
  have ey:y=u:=by
   have py:aq.toArray[i]? = some y:=py
   rw[WX,hu] at py;cases py;rfl
  subst ey
  refine wpAny_letOwnedTupleGo_enum la fun h2 sP iD => ?_
  have hT:s.heap.objs.size≠e:=XN (UL he)
  have jP:h2.get? s.heap.objs.size=some { cls := .type "tuple",data := .seq #[.int i tk,y] }:=(iD.2 _ hT).trans sO
  have k2:∀ b o,b∉[e,it]->s.heap.get? b=some o->h2.get? b=some o:=fun b o hb q=>by
   have mw:b≠e:=fun z=>hb (by simp[z])
   have f6:b≠it:=fun z=>hb (by simp[z])
   exact (iD.2 _ mw).trans (hk b o mw f6 q)
  have hn:H s.heap.objs.size=none:=I.aN.fresh (uX _)
  refine⟨.ref s.heap.objs.size,upd H s.heap.objs.size (.tup [.int i,x]),I.gG (ch:=[e,it]) (t':=tk + 1) hf k2 (uX _) ?_,rfl,⟨_,x,rfl,hn,rfl,fun ys hy=>by rw[I.fJ hy hq];exact hx⟩,⟨⟨y,?_⟩,?_⟩,fun b hb => ?_⟩
  ·exact⟨by show 2 <= sizeLine;decide,[.int i tk,y],.cons ⟨_,rfl⟩ (.cons ru .nil),_,jP,rfl,_,rfl⟩
  ·have e3:((i:Int) + 1)=(((i + 1:Nat)):Int):=by omega
   rw[e3] at sP
   exact sP
  ·exact x6.1.at fun o q=>(iD.2 _ (XC ib)).trans q
  ·have:b < s.heap.objs.size:=by
    obtain⟨o,q,_⟩:=hi
    rcases Vr.mp hb with rfl | hb
    ·exact UL he
    ·have z:b=it:=by simpa using hb
     subst z;exact UL q
   rw[aX (Vx this)]
   exact (hf b hb).1
 done:=by
  intro X hP hw hK hc i pins s σ H E I hf st hg
  subst hP hw hK
  obtain⟨⟨old,he⟩,hi⟩:=st
  obtain⟨xs,hq,hx⟩:=hg
  obtain⟨aq,rv,p,hz⟩:=I.tuple hq
  have D:=ED (prog:=X.prog) (w:=X.w) (A:=X.A.in1) (by rw[X7];exact I.ok.hd hc) it a EE aq.toArray
  have pK:aq.toArray.size=i:=by rw[sD,<-rv.length];exact hx
  refine wpAny_pyNext_enum_endD D he (by rw[pK];exact⟨hi,p⟩) fun h1 eb=>⟨rfl,?_⟩
  obtain⟨f0,f1,f2,f3,f4,f5⟩:=hf it (by simp)
  exact I.turned (t':=s.toks) (fun b o hb q=>eb b o hb q) f0 f1 f3 f4 f5
 self:=fun A i s Q E st h=>by
  obtain⟨⟨old,he⟩,hi⟩:=st
  exact W6 he h
section
variable {X:Cx} {elts:List Expr} {x1:Nat} {tp:Pos} {tg:Expr}
noncomputable def N0 (K:PySem.W.Frag) (ta:TA):TI:=fun σ H R=>ta σ H fun vs H1=>∃ a,vs=[.ref a]/\(((∃ xs,bq K H1 a xs)/\R (qw K a) H1)\/((∃ xs,bB K H1 a xs)/\R (tI K a) H1))
theorem N5 {a:Expr} {ta:TA} {p pos:Pos} (hg:Gl X "enumerate") (hm:X.mg "enumerate" = none) (ha:JA X [a] ta) (hs:starEach [a] X.env=[(false,eval a X.env)]:=by rfl) :
  JI X (.Tuple elts x1 tp) (.Call (.Name "enumerate" p) [a] [] pos) (N0 X.K ta):=by
 refine⟨?_⟩
 intro pins s σ H R I h
 refine Call_ (lU I hg hm DR (WL (aZ (ha.out pos pins s σ H _ I h) fun us s1 h0_ => el5 h0_ fun vs H1 I1 r1 q1 => ?_) hs rfl))
 obtain⟨l,e,q⟩:=q1
 subst e
 obtain⟨u,rfl,rx⟩:=vals1 r1
 cases rx
 have fp:∀ b∈[s1.heap.objs.size + 1,s1.heap.objs.size],a9 X pins H1 b:=fun b hb=>by
  have hb':s1.heap.objs.size <= b:=by
   rcases Vr.mp hb with rfl | hb
   ·exact YQ _
   ·have z:b=s1.heap.objs.size:=by simpa using hb
    rw[z];exact uX _
  exact I1.eu hb' (I1.aN.fresh hb')
 rcases q with⟨⟨xs,hq⟩,q⟩ | ⟨⟨xs,hq⟩,q⟩
 ·obtain⟨aq,rv,p,hz⟩:=I1.list hq
  refine call_enumerate_list p.isList fun h' he hi hsz hk => ?_
  have I2:Inv X pins σ H1 { s1 with heap:=h' }:=I1.kept (t':=s1.toks) hk
  refine W6 he ?_
  exact⟨_,_,_,_,H1,rfl,I2,DP l (s1.heap.objs.size + 1) s1.heap.objs.size (Y0 _),⟨⟨_,he⟩,hi⟩,fp,q⟩
 ·obtain⟨aq,rv,p,hz⟩:=I1.tuple hq
  have qJ:l < s1.heap.objs.size:=by obtain⟨o,e,_⟩:=p;exact UL e
  refine NV p fun h' he hi hsz hk => ?_
  have I2:Inv X pins σ H1 { s1 with heap:=h' }:=I1.kept (t':=s1.toks) hk
  refine W6 he ?_
  exact⟨_,_,_,_,H1,rfl,I2,NY l (s1.heap.objs.size + 1) s1.heap.objs.size (Y0 _) (Vx (W0 qJ)) (Vx qJ),⟨⟨_,he⟩,hi⟩,fp,q⟩
noncomputable def y0 (K:PySem.W.Frag) (tl:TE):TI:=fun σ H R=>tl σ H fun x H1=>∃ a,x = .ref a/\(((∃ xs,bq K H1 a xs)/\R (CO K a) H1)\/((∃ xs,bB K H1 a xs)/\R (CP K a) H1))
theorem N6 {l:Expr} {tl:TE} (hl:JE X l tl):JI X tg l (y0 X.K tl):=by
 refine⟨?_⟩
 intro pins s σ H R I h
 refine aZ (hl.out pins s σ H _ I h) fun v s1 h0_ => el5 h0_ fun x H1 I1 r1 q1 => ?_
 obtain⟨a,e,q⟩:=q1
 subst e
 cases r1
 have fp:∀ b∈[s1.heap.objs.size],a9 X pins H1 b:=fun b hb=>by
  have e:b=s1.heap.objs.size:=by simpa using hb
  subst e
  exact I1.eu (uX _) (I1.aN.fresh (uX _))
 rcases q with⟨⟨xs,hq⟩,q⟩ | ⟨⟨xs,hq⟩,q⟩
 ·obtain⟨aq,rv,p,hz⟩:=I1.list hq
  exact Xg p.isList ⟨s1.heap.objs.size,[s1.heap.objs.size],_,_,H1,rfl,I1.kept (t':=s1.toks) fun b o e=>qt _ e,Ku a _,⟨_,Vq _ rfl,rfl,rfl⟩,fp,q⟩
 ·obtain⟨aq,rv,p,hz⟩:=I1.tuple hq
  exact X8 (show s1.heap.IsTuple a aq.toArray from p) ⟨s1.heap.objs.size,[s1.heap.objs.size],_,_,H1,rfl,I1.kept (t':=s1.toks) fun b o e=>qt _ e,Kv a _,⟨_,Vq _ rfl,rfl,rfl⟩,fp,q⟩
end
variable [aM]
noncomputable def bO (lo:Int) (n:Nat):List D:=(List.range n).map fun i:Nat=>D.int (lo + i)
noncomputable def lD:Nat->List D->List D
 | _,[]=>[]
 | i,d :: r => .tup [.int i,d] :: lD (i + 1) r
noncomputable def tJ (x:DV) (δ : aF) (K:pD->Prop):Prop:=match x with
 | .p (.lst ds)=>K ⟨ds,fun _=>True⟩
 | .p (.tup ds)=>K ⟨ds,fun _=>True⟩
 | .o k=>match δ.mu[k]? with
  | some (some (.lst ds))=>K ⟨ds,fun δ' => δ'.mu[k]? = some (some (.lst ds))⟩
  | _=>False
 | _=>False
noncomputable def bA (f:WE):WI:=fun δ K=>f δ fun x δ1=>tJ x δ1 fun it=>K it δ1
noncomputable def jE (fa:WA):WI:=fun δ K=>fa δ fun xs δ1=>match xs with
 | [.p (.int j)]=>(-(2 ^ 62) <= j/\j < 2 ^ 62)/\K ⟨bO 0 j.toNat,fun _=>True⟩ δ1
 | _=>False
noncomputable def y6 (fa:WA):WI:=fun δ K=>fa δ fun xs δ1=>match xs with
 | [.p (.int i),.p (.int j)]=>(-(2 ^ 62) <= i/\i < 2 ^ 62 /\ -(2 ^ 62) <= j/\j < 2 ^ 62)/\K ⟨bO i (j - i).toNat,fun _=>True⟩ δ1
 | _=>False
noncomputable def kr (fa:WA):WI:=fun δ K=>fa δ fun xs δ1=>match xs with
 | [x]=>tJ x δ1 fun it=>K ⟨lD 0 it.items,it.bz⟩ δ1
 | _=>False
noncomputable def y7 (x:DV) (δ : aF) (K:pD->Prop):Prop:=match x with
 | .p (.lst ds)=>K ⟨ds,fun _=>True⟩
 | .o k=>match δ.mu[k]? with
  | some (some (.lst ds))=>K ⟨ds,fun δ' => δ'.mu[k]? = some (some (.lst ds))⟩
  | _=>False
 | _=>False
theorem jF {lo:Int} {n i:Nat} {d:D} (h:(bO lo n)[i]? = some d):i < n/\d = .int (lo + i):=by
 unfold bO at h
 rw[LR] at h
 obtain⟨j,e,rfl⟩:=UP.mp h
 have hj:=(oW.mp e).1
 rw[VL] at hj
 rw[Wv hj] at e
 cases e
 exact⟨hj,rfl⟩
theorem ja (lo:Int) (n:Nat):(bO lo n).length=n:=by unfold bO;rw[oV,VL]
theorem qK:∀ (ds:List D) (i:Nat),(lD i ds).length=ds.length
 | [],_=>rfl
 | d :: r,i=>by rw[lD,DE,DE,qK r]
theorem qL:∀ {ds:List D} {k i:Nat} {d:D},(lD k ds)[i]? = some d->∃ e,ds[i]? = some e/\d = .tup [.int ((k + i:Nat):Int),e]
 | [],k,i,d,h=>by simp[lD] at h
 | e :: r,k,0,d,h=>by
  cases (show some (D.tup [.int (k:Nat),e])=some d by simpa [lD] using h)
  exact⟨e,rfl,rfl⟩
 | e :: r,k,i + 1,d,h=>by
  obtain⟨e',h1,h2⟩:=qL (ds:=r) (k:=k + 1) (i:=i) (d:=d) (by simpa [lD] using h)
  exact⟨e',by simpa using h1,by rw[h2];congr 4;omega⟩
section
variable {X:Cx} {tg l a b:Expr} {f:WE} {fa:WA} {F H:Hp} {ad:List Addr} {δ : aF} {σ : St}
theorem JI.weak {iter:Expr} {w w':TI} (h:JI X tg iter w) (k:∀ σ H R,w' σ H R->w σ H R):JI X tg iter w':=⟨fun pins s σ H R I q=>h.out pins s σ H R I (k σ H R q)⟩
theorem qM {ds:List D} {vs:List V} (h:ae F ds vs) {i:Nat} {d:D} (e:ds[i]? = some d):∃ v,vs[i]? = some v/\Is F d v:=by
 have hl:=h.length
 have hi:i < vs.length:=by rw[hl];exact (oW.mp e).1
 obtain⟨d',e1,h1⟩:=h.get (oU hi)
 rw[e] at e1;cases e1
 exact⟨_,oU hi,h1⟩
theorem EF {x:DV} {v:V} {K:pD->Prop} (S:SR F ad δ σ H) (V1:e_ F ad x v) (h:y7 x δ K):∃ a it,v = .ref a/\K it/\(∃ vs,H a=some (.lst vs)) ∧
  ∀ (F':Hp) (aK:List Addr) (δ':aF) (σ':St) (H':Hp),aJ F F'->(∀ (k:Nat) (a:Addr),ad[k]? = some a->aK[k]? = some a)->SR F' aK δ' σ' H'->it.bz δ'->∃ vs,H' a=some (.lst vs)/\ae F' it.items vs:=by
 unfold y7 at h
 split at h
 ·rename_i ds
  have V2:Is F (.lst ds) v:=V1
  simp only[Is] at V2
  obtain⟨a,vs,rfl,h1,h2⟩:=V2
  exact⟨a,_,rfl,h,⟨vs,S.sub _ _ h1⟩,fun F' aK δ' σ' H' s _ S' _=>⟨vs,S'.sub _ _ (s _ _ h1),h2.same s⟩⟩
 ·rename_i k
  split at h
  ·rename_i ds e
   obtain⟨a,e1,rfl⟩:=V1
   obtain⟨a',o,e2,e3,vs,rfl,h4⟩:=S.mu k _ e
   rw[e1] at e2;cases e2
   refine⟨a,_,rfl,h,⟨vs,e3⟩,fun F' aK δ' σ' H' _ pre S' ck => ?_⟩
   obtain⟨UY,o,e5,e6,ws,rfl,h7⟩:=S'.mu k _ ck
   rw[pre k a e1] at e5;cases e5
   exact⟨ws,e6,h7⟩
  ·exact h.elim
 ·exact h.elim
theorem EG {x:DV} {v:V} {K:pD->Prop} (S:SR F ad δ σ H) (V1:e_ F ad x v) (h:tJ x δ K):∃ a it,v = .ref a/\K it ∧
  (((∃ vs,H a=some (.lst vs))/\∀ (F':Hp) (aK:List Addr) (δ':aF) (σ':St) (H':Hp),aJ F F'->(∀ (k:Nat) (a:Addr),ad[k]? = some a->aK[k]? = some a)->SR F' aK δ' σ' H'->it.bz δ'->∃ vs,H' a=some (.lst vs)/\ae F' it.items vs) ∨
  ((∃ vs,H a=some (.tup vs))/\∀ (F':Hp) (aK:List Addr) (δ':aF) (σ':St) (H':Hp),aJ F F'->(∀ (k:Nat) (a:Addr),ad[k]? = some a->aK[k]? = some a)->SR F' aK δ' σ' H'->it.bz δ'->∃ vs,H' a=some (.tup vs)/\ae F' it.items vs)):=by
 unfold tJ at h
 split at h
 ·rename_i ds
  obtain⟨a,it,e,k,r⟩:=EF (x := .p (.lst ds)) S V1 h
  exact⟨a,it,e,k,.inl r⟩
 ·rename_i ds
  have V2:Is F (.tup ds) v:=V1
  simp only[Is] at V2
  obtain⟨a,vs,rfl,h1,h2⟩:=V2
  exact⟨a,_,rfl,h,.inr ⟨⟨vs,S.sub _ _ h1⟩,fun F' aK δ' σ' H' s _ S' _=>⟨vs,S'.sub _ _ (s _ _ h1),h2.same s⟩⟩⟩
 ·rename_i k
  obtain⟨a,it,e,k,r⟩:=EF (x := .o k) S V1 h
  exact⟨a,it,e,k,.inl r⟩
 ·exact h.elim
theorem d8 (hl:JE X l (tD f)):JI X tg l (lC (bA f)):=(N6 hl).weak fun σ H R h0_ => el7 h0_ fun F ad δ K S q k =>⟨F,ad,δ,_,S,q,fun x δ1 h1 v F1 aO H1 E1 S1 V1=>by
 obtain⟨a,it,rfl,hk,r⟩:=EG S1 V1 h1
 refine⟨a,rfl,?_⟩
 rcases r with⟨⟨vs,e⟩,r⟩ | ⟨⟨vs,e⟩,r⟩
 ·refine .inl ⟨⟨vs,bq.of e⟩,k _ _ hk _ _ _ _ E1 S1 fun F' aK δ' σ' H' s pre S' ck => ?_⟩
  obtain⟨ws,e1,e2⟩:=r F' aK δ' σ' H' s pre S' ck
  refine⟨⟨ws,bq.of e1,by rw[e2.length];exact uX _⟩,fun i d ed => ?_⟩
  obtain⟨w,e3,e4⟩:=qM e2 ed
  refine⟨⟨ws,w,bq.of e1,e3⟩,fun y ie ⟨eh,hy⟩ => ?_⟩
  subst eh
  refine⟨fun _ _ e=>e,?_⟩
  have:=hy ws (bq.of e1)
  rw[e3] at this;cases this
  rw[Nw.refl S'.sub];exact e4
 ·refine .inr ⟨⟨vs,bB.of e⟩,k _ _ hk _ _ _ _ E1 S1 fun F' aK δ' σ' H' s pre S' ck => ?_⟩
  obtain⟨ws,e1,e2⟩:=r F' aK δ' σ' H' s pre S' ck
  refine⟨⟨ws,bB.of e1,by rw[e2.length];exact uX _⟩,fun i d ed => ?_⟩
  obtain⟨w,e3,e4⟩:=qM e2 ed
  refine⟨⟨ws,w,bB.of e1,e3⟩,fun y ie ⟨eh,hy⟩ => ?_⟩
  subst eh
  refine⟨fun _ _ e=>e,?_⟩
  have:=hy ws (bB.of e1)
  rw[e3] at this;cases this
  rw[Nw.refl S'.sub];exact e4⟩
theorem EH {F H:Hp} {T:Addr} {d e:D} {x y:V} (s:aJ F H) (hT:H T=none) (h1:Is F d x) (h2:Is F e y):Is (Nw F H (upd H T (.tup [x,y]))) (.tup [d,e]) (.ref T):=by
 rw[Nw.upd s hT]
 have hF:F T=none:=by
  cases q:F T with
  | none=>rfl
  | some u=>rw[s T u q] at hT;cases hT
 have sm:aJ F (upd F T (.tup [x,y])):=cA hF
 simp only[Is]
 exact⟨T,_,rfl,bR,.cons (h1.same sm) (.cons (h2.same sm) .nil)⟩
theorem y8 {elts:List Expr} {x1:Nat} {tp p pos:Pos} (hg:Gl X "enumerate") (hm:X.mg "enumerate" = none) (ha:JA X [a] (bX fa)) (hs:starEach [a] X.env=[(false,eval a X.env)]:=by rfl) :
  JI X (.Tuple elts x1 tp) (.Call (.Name "enumerate" p) [a] [] pos) (lC (kr fa)):=(N5 hg hm ha hs).weak fun σ H R h0_ => el7 h0_ fun F ad δ K S q k =>⟨F,ad,δ,_,S,q,fun xs δ1 h1 vs F1 aO H1 E1 S1 V1=>by
 match xs,h1,V1 with
 | [x],g1,⟨v,r,e,W1,W2⟩ =>
  subst e
  have W3:r=[]:=W2
  subst W3
  obtain⟨a,it,rfl,hk,r⟩:=EG S1 W1 g1
  refine⟨a,rfl,?_⟩
  rcases r with⟨⟨vs,e⟩,r⟩ | ⟨⟨vs,e⟩,r⟩
  ·refine .inl ⟨⟨vs,bq.of e⟩,k _ _ hk _ _ _ _ E1 S1 fun F' aK δ' σ' H' s pre S' ck => ?_⟩
   obtain⟨ws,e1,e2⟩:=r F' aK δ' σ' H' s pre S' ck
   refine⟨⟨ws,bq.of e1,by rw[e2.length,qK];exact uX _⟩,fun i d ed => ?_⟩
   obtain⟨d',y9,rfl⟩:=qL ed
   obtain⟨w,e3,e4⟩:=qM e2 y9
   refine⟨⟨ws,w,bq.of e1,e3⟩,fun y ie ⟨T,v,ey,hT,eh,hy⟩ => ?_⟩
   subst eh ey
   have:=hy ws (bq.of e1)
   rw[e3] at this;cases this
   refine⟨cA hT,?_⟩
   rw[VZ]
   exact EH S'.sub hT rfl e4
  ·refine .inr ⟨⟨vs,bB.of e⟩,k _ _ hk _ _ _ _ E1 S1 fun F' aK δ' σ' H' s pre S' ck => ?_⟩
   obtain⟨ws,e1,e2⟩:=r F' aK δ' σ' H' s pre S' ck
   refine⟨⟨ws,bB.of e1,by rw[e2.length,qK]⟩,fun i d ed => ?_⟩
   obtain⟨d',y9,rfl⟩:=qL ed
   obtain⟨w,e3,e4⟩:=qM e2 y9
   refine⟨⟨ws,w,bB.of e1,e3⟩,fun y ie ⟨T,v,ey,hT,eh,hy⟩ => ?_⟩
   subst eh ey
   have:=hy ws (bB.of e1)
   rw[e3] at this;cases this
   refine⟨cA hT,?_⟩
   rw[VZ]
   exact EH S'.sub hT rfl e4
 | [],h1,_=>exact h1.elim
 | _ :: _ :: _,h1,_=>exact h1.elim⟩
theorem EI {F1:Hp} {aO:List Addr} {lo:Int} {n:Nat}:pE F1 aO ⟨bO lo n,fun _=>True⟩ (r6 lo n):=fun F' aK δ' σ' H' s pre S' _=>by
 refine⟨by show n <= (bO lo n).length;rw[ja];exact uX _,fun i d ed => ?_⟩
 obtain⟨hi,rfl⟩:=jF ed
 refine⟨hi,fun x ie ⟨eh,ex⟩ => ?_⟩
 subst eh ex
 exact⟨fun _ _ e=>e,rfl⟩
theorem lE {p pos:Pos} (hg:Gl X "range") (hm:X.mg "range" = none) (ha:JA X [a] (bX fa)) (hs:starEach [a] X.env=[(false,eval a X.env)]:=by rfl):JI X tg (.Call (.Name "range" p) [a] [] pos) (lC (jE fa)) :=
 (M4 hg hm ha hs).weak fun σ H R h0_ => el7 h0_ fun F ad δ K S q k =>⟨F,ad,δ,_,S,q,fun xs δ1 h1 vs F1 aO H1 E1 S1 V1=>by
  split at h1
  ·rename_i j
   obtain⟨v,r,e,V1,V2⟩:=V1
   have V2:r=[]:=V2
   have V1:v = .int j:=V1
   subst V2 V1 e
   exact⟨j,rfl,h1.1.1,h1.1.2,k _ _ h1.2 _ _ _ _ E1 S1 EI⟩
  ·exact h1.elim⟩
theorem N7 {p pos:Pos} (hg:Gl X "range") (hm:X.mg "range" = none) (ha:JA X [a,b] (bX fa)) (hs:starEach [a,b] X.env=[(false,eval a X.env),(false,eval b X.env)]:=by rfl) (iD:starEach [b] X.env=[(false,eval b X.env)]:=by rfl) :
  JI X tg (.Call (.Name "range" p) [a,b] [] pos) (lC (y6 fa)) :=
 (M5 hg hm ha hs iD).weak fun σ H R h0_ => el7 h0_ fun F ad δ K S q k =>⟨F,ad,δ,_,S,q,fun xs δ1 h1 vs F1 aO H1 E1 S1 V1=>by
  split at h1
  ·rename_i i j
   obtain⟨v,r,e,V1,w,r2,e2,V2,V3⟩:=V1
   have V3:r2=[]:=V3
   have V1:v = .int i:=V1
   have V2:w = .int j:=V2
   subst V3 V1 V2 e2 e
   exact⟨i,j,rfl,h1.1,k _ _ h1.2 _ _ _ _ E1 S1 EI⟩
  ·exact h1.elim⟩
end
end L2
namespace L2
open PySem PySem.Spec PyProof.Rows
mutual
noncomputable def aH:D->D->Bool
 | .non,.non=>true
 | .bl a,.bl b=>a == b
 | .bl a,.int b=>(if a then 1 else 0) == b
 | .int a,.bl b=>a == (if b then 1 else 0)
 | .int a,.int b=>a == b
 | .str a,.str b=>a == b
 | .tup a,.tup b=>bM a b
 | .lst a,.lst b=>bM a b
 | _,_=>false
noncomputable def bM:List D->List D->Bool
 | [],[]=>true
 | a :: r,b :: s=>aH a b && bM r s
 | _,_=>false
end
mutual
theorem lF:∀ d:D,aH d d=true
 | .non=>by simp[aH]
 | .bl a=>by simp[aH]
 | .int a=>by simp[aH]
 | .str a=>by simp[aH]
 | .tup a=>by simp only[aH];exact y_ a
 | .lst a=>by simp only[aH];exact y_ a
theorem y_:∀ ds:List D,bM ds ds=true
 | []=>by simp[bM]
 | d :: r=>by simp only[bM,lF d,y_ r,Bool.and_true]
end
mutual
theorem Is.inj {H:Hp}:∀ {d e:D} {v:V},Is H d v->Is H e v->d=e
 | .non,e,v,h,q=>by cases e<;>simp only[Is] at h q<;>first | rfl | (subst h;first | (obtain⟨_,_,z,_⟩:=q;cases z;done) | (cases q;done) | (cases q;rfl))
 | .bl a,e,v,h,q=>by cases e<;>simp only[Is] at h q<;>(subst h;first | (obtain⟨_,_,z,_⟩:=q;cases z;done) | (cases q;done) | (cases q;rfl))
 | .int a,e,v,h,q=>by cases e<;>simp only[Is] at h q<;>(subst h;first | (obtain⟨_,_,z,_⟩:=q;cases z;done) | (cases q;done) | (cases q;rfl))
 | .str a,e,v,h,q=>by cases e<;>simp only[Is] at h q<;>(subst h;first | (obtain⟨_,_,z,_⟩:=q;cases z;done) | (cases q;done) | (cases q;rfl))
 | .tup a,e,v,h,q=>by
  simp only[Is] at h
  obtain⟨p,vs,rfl,h1,h2⟩:=h
  cases e with
  | tup b =>
   simp only[Is] at q
   obtain⟨p',ws,z,q1,q2⟩:=q
   cases z
   rw[h1] at q1;cases q1
   rw[ae.inj h2 q2]
  | lst b =>
   simp only[Is] at q
   obtain⟨p',ws,z,q1,q2⟩:=q
   cases z
   rw[h1] at q1;cases q1
  | non=>simp only[Is] at q;cases q
  | bl _=>simp only[Is] at q;cases q
  | int _=>simp only[Is] at q;cases q
  | str _=>simp only[Is] at q;cases q
 | .lst a,e,v,h,q=>by
  simp only[Is] at h
  obtain⟨p,vs,rfl,h1,h2⟩:=h
  cases e with
  | lst b =>
   simp only[Is] at q
   obtain⟨p',ws,z,q1,q2⟩:=q
   cases z
   rw[h1] at q1;cases q1
   rw[ae.inj h2 q2]
  | tup b =>
   simp only[Is] at q
   obtain⟨p',ws,z,q1,q2⟩:=q
   cases z
   rw[h1] at q1;cases q1
  | non=>simp only[Is] at q;cases q
  | bl _=>simp only[Is] at q;cases q
  | int _=>simp only[Is] at q;cases q
  | str _=>simp only[Is] at q;cases q
theorem ae.inj {H:Hp}:∀ {ds es:List D} {vs:List V},ae H ds vs->ae H es vs->ds=es
 | [],es,vs,h,q=>by
  simp only[ae] at h;subst h
  cases es with
  | nil=>rfl
  | cons _ _=>simp only[ae] at q;obtain⟨_,_,z,_⟩:=q;cases z
 | d :: ds,es,vs,h,q=>by
  simp only[ae] at h
  obtain⟨v,r,rfl,h1,h2⟩:=h
  cases es with
  | nil=>simp only[ae] at q;cases q
  | cons e es =>
   simp only[ae] at q
   obtain⟨v',r',z,q1,q2⟩:=q
   cases z
   rw[Is.inj h1 q1,ae.inj h2 q2]
end
theorem tK:∀ {ds es:List D},ds.length≠es.length->bM ds es=false
 | [],[],h=>absurd rfl h
 | [],_ :: _,_=>by simp[bM]
 | _ :: _,[],_=>by simp[bM]
 | d :: r,e :: s,h=>by simp only[bM];rw[tK (fun z=>h (by rw[DE,DE,z])),Bool.and_false]
noncomputable def pM (ds es:List D) (j:Nat):Bool:=match ds[j]?,es[j]? with
 | some a,some b=>aH a b
 | _,_=>true
theorem tL:∀ {ds es:List D},ds.length=es.length->(List.range ds.length).all (pM ds es)=bM ds es
 | [],[],_=>by simp[bM]
 | [],_ :: _,h=>by simp at h
 | _ :: _,[],h=>by simp at h
 | d :: r,e :: s,h=>by
  have ih:=tL (ds:=r) (es:=s) (by simpa using h)
  rw[DE,List.range_succ_eq_map,List.all_cons,List.all_map]
  simp only[bM]
  rw[<-ih]
  rfl
section
variable {X:Cx} {pins:List (Addr × Obj)} {σ : St} {H:Hp} {s:Shared}
theorem vy {vs:List V} {aq:List Value} (r:Vals vs aq) {j:Nat} (h:j < aq.toArray.size):∃ v,vs[j]? = some v/\RelV v aq.toArray[j]:=by
 have hj:j < aq.length:=by simpa using h
 have hv:j < vs.length:=by rw[r.length];exact hj
 obtain⟨u,e,ru⟩:=r.get (oU hv)
 have:aq.toArray[j]=u:=by
  have:=(oW.mp e).2
  simpa using this
 rw[this]
 exact⟨_,oU hv,ru⟩
theorem cV (I:Inv X pins σ H s) {a:Addr} {vs:List V} (h:H a=some (.lst vs)):∃ aq:List Value,Vals vs aq/\s.heap.IsList a aq.toArray:=by
 obtain⟨aq,r,p,_⟩:=I.list (bq.of h)
 exact⟨aq,r,p.isList⟩
theorem cW (I:Inv X pins σ H s) {a:Addr} {vs:List V} (h:H a=some (.tup vs)):∃ aq:List Value,Vals vs aq/\s.heap.IsTuple a aq.toArray:=by
 obtain⟨aq,r,p,_⟩:=I.tuple (bB.of h)
 exact⟨aq,r,p⟩
theorem in1_units (A:Around):A.in1.units=A.units + 1:=rfl
theorem vz (I:Inv X pins σ H s):∀ (n:Nat) {A:Around} {d e:D} {v u:V} {x y:Value},dep d <= n->A.units + n < cLine->Is H d v->Is H e u->RelV v x->RelV u y->SeqAt.EqAt A s x y (aH d e)/\SeqAt.RcAt A s x y (aH d e):=by
 intro n
 induction n with
 | zero =>
  intro A d e v u x y hd hu hv hw rv ru
  have nz:A.units < cLine:=by omega
  cases d with
  | tup ds=>simp[dep] at hd
  | lst ds=>simp[dep] at hd
  | non =>
   cases (show v = .non from hv);cases rv
   cases e with
   | non=>cases (show u = .non from hw);cases ru;simp only[aH];exact⟨Zn _,SeqAt.RcAt.none_none⟩
   | bl b=>cases (show u = .bl b from hw);cases ru;simp only[aH];exact⟨SeqAt.EqAt.none_bool _,SeqAt.RcAt.none_bool _⟩
   | int b=>cases (show u = .int b from hw);obtain⟨t,rfl⟩:=ru;simp only[aH];exact⟨SeqAt.EqAt.none_int _ _,SeqAt.RcAt.none_int _ _⟩
   | str b=>cases (show u = .str b from hw);obtain⟨t,rfl⟩:=ru;simp only[aH];exact⟨SeqAt.EqAt.none_str _ _,SeqAt.RcAt.none_str _ _⟩
   | tup es=>simp only[Is] at hw;obtain⟨a,vs,rfl,h1,_⟩:=hw;cases ru;obtain⟨_,_,p⟩:=cW I h1;simp only[aH];exact⟨SeqAt.EqAt.none_tuple p nz,SeqAt.RcAt.none_tuple p nz⟩
   | lst es=>simp only[Is] at hw;obtain⟨a,vs,rfl,h1,_⟩:=hw;cases ru;obtain⟨_,_,p⟩:=cV I h1;simp only[aH];exact⟨SeqAt.EqAt.none_list p nz,SeqAt.RcAt.none_list p nz⟩
  | bl b0 =>
   cases (show v = .bl b0 from hv);cases rv
   cases e with
   | non=>cases (show u = .non from hw);cases ru;simp only[aH];exact⟨SeqAt.EqAt.bool_none _,SeqAt.RcAt.bool_none _⟩
   | bl b=>cases (show u = .bl b from hw);cases ru;simp only[aH];exact⟨SeqAt.EqAt.bool_bool _ _,SeqAt.RcAt.bool_bool _ _⟩
   | int b=>cases (show u = .int b from hw);obtain⟨t,rfl⟩:=ru;simp only[aH];exact⟨SeqAt.EqAt.bool_int _ _ _,SeqAt.RcAt.bool_int _ _ _⟩
   | str b=>cases (show u = .str b from hw);obtain⟨t,rfl⟩:=ru;simp only[aH];exact⟨SeqAt.EqAt.bool_str _ _ _,SeqAt.RcAt.bool_str _ _ _⟩
   | tup es=>simp only[Is] at hw;obtain⟨a,vs,rfl,h1,_⟩:=hw;cases ru;obtain⟨_,_,p⟩:=cW I h1;simp only[aH];exact⟨SeqAt.EqAt.bool_tuple _ p nz,SeqAt.RcAt.bool_tuple _ p nz⟩
   | lst es=>simp only[Is] at hw;obtain⟨a,vs,rfl,h1,_⟩:=hw;cases ru;obtain⟨_,_,p⟩:=cV I h1;simp only[aH];exact⟨SeqAt.EqAt.bool_list _ p nz,SeqAt.RcAt.bool_list _ p nz⟩
  | int b0 =>
   cases (show v = .int b0 from hv);obtain⟨t0,rfl⟩:=rv
   cases e with
   | non=>cases (show u = .non from hw);cases ru;simp only[aH];exact⟨SeqAt.EqAt.int_none _ _,SeqAt.RcAt.int_none _ _⟩
   | bl b=>cases (show u = .bl b from hw);cases ru;simp only[aH];exact⟨SeqAt.EqAt.int_bool _ _ _,SeqAt.RcAt.int_bool _ _ _⟩
   | int b=>cases (show u = .int b from hw);obtain⟨t,rfl⟩:=ru;simp only[aH];exact⟨SeqAt.EqAt.int_int _ _ _ _,SeqAt.RcAt.int_int _ _ _ _⟩
   | str b=>cases (show u = .str b from hw);obtain⟨t,rfl⟩:=ru;simp only[aH];exact⟨SeqAt.EqAt.int_str _ _ _ _,SeqAt.RcAt.int_str _ _ _ _⟩
   | tup es=>simp only[Is] at hw;obtain⟨a,vs,rfl,h1,_⟩:=hw;cases ru;obtain⟨_,_,p⟩:=cW I h1;simp only[aH];exact⟨SeqAt.EqAt.int_tuple _ _ p nz,SeqAt.RcAt.int_tuple _ _ p nz⟩
   | lst es=>simp only[Is] at hw;obtain⟨a,vs,rfl,h1,_⟩:=hw;cases ru;obtain⟨_,_,p⟩:=cV I h1;simp only[aH];exact⟨SeqAt.EqAt.int_list _ _ p nz,SeqAt.RcAt.int_list _ _ p nz⟩
  | str b0 =>
   cases (show v = .str b0 from hv);obtain⟨t0,rfl⟩:=rv
   cases e with
   | non=>cases (show u = .non from hw);cases ru;simp only[aH];exact⟨SeqAt.EqAt.str_none _ _,SeqAt.RcAt.str_none _ _⟩
   | bl b=>cases (show u = .bl b from hw);cases ru;simp only[aH];exact⟨SeqAt.EqAt.str_bool _ _ _,SeqAt.RcAt.str_bool _ _ _⟩
   | int b=>cases (show u = .int b from hw);obtain⟨t,rfl⟩:=ru;simp only[aH];exact⟨SeqAt.EqAt.str_int _ _ _ _,SeqAt.RcAt.str_int _ _ _ _⟩
   | str b=>cases (show u = .str b from hw);obtain⟨t,rfl⟩:=ru;simp only[aH];exact⟨SeqAt.EqAt.str_str _ _ _ _,SeqAt.RcAt.str_str _ _ _ _⟩
   | tup es=>simp only[Is] at hw;obtain⟨a,vs,rfl,h1,_⟩:=hw;cases ru;obtain⟨_,_,p⟩:=cW I h1;simp only[aH];exact⟨SeqAt.EqAt.str_tuple _ _ p nz,SeqAt.RcAt.str_tuple _ _ p nz⟩
   | lst es=>simp only[Is] at hw;obtain⟨a,vs,rfl,h1,_⟩:=hw;cases ru;obtain⟨_,_,p⟩:=cV I h1;simp only[aH];exact⟨SeqAt.EqAt.str_list _ _ p nz,SeqAt.RcAt.str_list _ _ p nz⟩
 | succ n ih =>
  intro A d e v u x y hd hu hv hw rv ru
  have nz:A.units < cLine:=by omega
  have step:∀ {ds es:List D} {vs us:List V} {aq br:List Value} (r1:Vals vs aq) (r2:Vals us br),bH ds <= n->ae H ds vs->ae H es us →
    ∀ (j:Nat) (h1:j < aq.toArray.size) (h2:j < br.toArray.size),SeqAt.EqAt A.in1 s aq.toArray[j] br.toArray[j] (pM ds es j):=fun {ds es vs us aq br} r1 r2 hl i1 i2 j h1 h2=>by
   obtain⟨v1,e1,q1⟩:=vy r1 h1
   obtain⟨v2,e2,q2⟩:=vy r2 h2
   obtain⟨d1,f1,g1⟩:=i1.get e1
   obtain⟨d2,f2,g2⟩:=i2.get e2
   unfold pM
   rw[f1,f2]
   exact (ih (V_ (ye f1) hl) (by rw[in1_units];omega) g1 g2 q1 q2).1
  cases d with
  | tup ds =>
   have hl:bH ds <= n:=by simp only[dep] at hd;omega
   have za:=hv
   simp only[Is] at hv
   obtain⟨a,vs,rfl,h1,i1⟩:=hv
   cases rv
   obtain⟨aq,r1,p1⟩:=cW I h1
   cases e with
   | tup es =>
    have zb:=hw
    simp only[Is] at hw
    obtain⟨b,us,rfl,h2,i2⟩:=hw
    cases ru
    obtain⟨br,r2,p2⟩:=cW I h2
    have rc:SeqAt.RcAt A s (.ref a) (.ref b) (aH (.tup ds) (.tup es)):=by
     have:=SeqAt.RcAt.tuples p1 p2 nz (step r1 r2 hl i1 i2)
     have l1:aq.toArray.size=ds.length:=by rw[sD,<-r1.length,i1.length]
     have l2:br.toArray.size=es.length:=by rw[sD,<-r2.length,i2.length]
     rw[l1,l2] at this
     have eb:((List.range (min ds.length es.length)).all (pM ds es) && ds.length == es.length)=aH (.tup ds) (.tup es):=by
      simp only[aH]
      by_cases c:ds.length=es.length
      ·rw[<-c,Nat.min_self,tL c];simp
      ·rw[tK c];simp[c]
     rw[eb] at this;exact this
    refine⟨?_,rc⟩
    by_cases c:a=b
    ·subst c
     have:=Is.inj za zb
     rw[this,lF];exact Zn _
    ·exact SeqAt.EqAt.of_refs c rc
   | lst es =>
    simp only[Is] at hw
    obtain⟨b,us,rfl,h2,i2⟩:=hw
    cases ru
    obtain⟨br,r2,p2⟩:=cV I h2
    simp only[aH];exact⟨SeqAt.EqAt.tuple_list p1 p2 nz,SeqAt.RcAt.tuple_list p1 p2 nz⟩
   | non=>cases (show u = .non from hw);cases ru;simp only[aH];exact⟨SeqAt.EqAt.tuple_none p1 nz,SeqAt.RcAt.tuple_none p1 nz⟩
   | bl b=>cases (show u = .bl b from hw);cases ru;simp only[aH];exact⟨SeqAt.EqAt.tuple_bool _ p1 nz,SeqAt.RcAt.tuple_bool _ p1 nz⟩
   | int b=>cases (show u = .int b from hw);obtain⟨t,rfl⟩:=ru;simp only[aH];exact⟨SeqAt.EqAt.tuple_int _ _ p1 nz,SeqAt.RcAt.tuple_int _ _ p1 nz⟩
   | str b=>cases (show u = .str b from hw);obtain⟨t,rfl⟩:=ru;simp only[aH];exact⟨SeqAt.EqAt.tuple_str _ _ p1 nz,SeqAt.RcAt.tuple_str _ _ p1 nz⟩
  | lst ds =>
   have hl:bH ds <= n:=by simp only[dep] at hd;omega
   have za:=hv
   simp only[Is] at hv
   obtain⟨a,vs,rfl,h1,i1⟩:=hv
   cases rv
   obtain⟨aq,r1,p1⟩:=cV I h1
   cases e with
   | lst es =>
    have zb:=hw
    simp only[Is] at hw
    obtain⟨b,us,rfl,h2,i2⟩:=hw
    cases ru
    obtain⟨br,r2,p2⟩:=cV I h2
    have l1:aq.toArray.size=ds.length:=by rw[sD,<-r1.length,i1.length]
    have l2:br.toArray.size=es.length:=by rw[sD,<-r2.length,i2.length]
    have rc:SeqAt.RcAt A s (.ref a) (.ref b) (aH (.lst ds) (.lst es)):=by
     by_cases c:ds.length=es.length
     ·have:=SeqAt.RcAt.lists p1 p2 (by rw[l1,l2];exact c) nz (step r1 r2 hl i1 i2)
      rw[l1,tL c] at this
      simp only[aH];exact this
     ·simp only[aH];rw[tK c]
      exact SeqAt.RcAt.lists_lengths p1 p2 (by rw[l1,l2];simpa using c) nz
    refine⟨?_,rc⟩
    by_cases c:a=b
    ·subst c
     have:=Is.inj za zb
     rw[this,lF];exact Zn _
    ·exact SeqAt.EqAt.of_refs c rc
   | tup es =>
    simp only[Is] at hw
    obtain⟨b,us,rfl,h2,i2⟩:=hw
    cases ru
    obtain⟨br,r2,p2⟩:=cW I h2
    simp only[aH];exact⟨SeqAt.EqAt.list_tuple p1 p2 nz,SeqAt.RcAt.list_tuple p1 p2 nz⟩
   | non=>cases (show u = .non from hw);cases ru;simp only[aH];exact⟨SeqAt.EqAt.list_none p1 nz,SeqAt.RcAt.list_none p1 nz⟩
   | bl b=>cases (show u = .bl b from hw);cases ru;simp only[aH];exact⟨SeqAt.EqAt.list_bool _ p1 nz,SeqAt.RcAt.list_bool _ p1 nz⟩
   | int b=>cases (show u = .int b from hw);obtain⟨t,rfl⟩:=ru;simp only[aH];exact⟨SeqAt.EqAt.list_int _ _ p1 nz,SeqAt.RcAt.list_int _ _ p1 nz⟩
   | str b=>cases (show u = .str b from hw);obtain⟨t,rfl⟩:=ru;simp only[aH];exact⟨SeqAt.EqAt.list_str _ _ p1 nz,SeqAt.RcAt.list_str _ _ p1 nz⟩
  | non=>exact ih (by simp[dep]) (by omega) hv hw rv ru
  | bl b0=>exact ih (by simp[dep]) (by omega) hv hw rv ru
  | int b0=>exact ih (by simp[dep]) (by omega) hv hw rv ru
  | str b0=>exact ih (by simp[dep]) (by omega) hv hw rv ru
theorem N8 (I:Inv X pins σ H s) {A:Around} {d e:D} {v u:V} {x y:Value} (hd:dep d <= 60) (hu:A.units + 61 < cLine) (hv:Is H d v) (hw:Is H e u) (rv:RelV v x) (ru:RelV u y):SeqAt.RcNeAt A s x y (!aH d e):=by
 have nz:A.units < cLine:=by omega
 have step:∀ {ds es:List D} {vs us:List V} {aq br:List Value} (r1:Vals vs aq) (r2:Vals us br),bH ds <= 59->ae H ds vs->ae H es us →
   ∀ (j:Nat) (h1:j < aq.toArray.size) (h2:j < br.toArray.size),SeqAt.EqAt A.in1 s aq.toArray[j] br.toArray[j] (pM ds es j):=fun {ds es vs us aq br} r1 r2 hl i1 i2 j h1 h2=>by
  obtain⟨v1,e1,q1⟩:=vy r1 h1
  obtain⟨v2,e2,q2⟩:=vy r2 h2
  obtain⟨d1,f1,g1⟩:=i1.get e1
  obtain⟨d2,f2,g2⟩:=i2.get e2
  unfold pM
  rw[f1,f2]
  exact (vz I 59 (V_ (ye f1) hl) (by rw[in1_units];omega) g1 g2 q1 q2).1
 cases d with
 | tup ds =>
  have hl:bH ds <= 59:=by simp only[dep] at hd;omega
  simp only[Is] at hv
  obtain⟨a,vs,rfl,h1,i1⟩:=hv
  cases rv
  obtain⟨aq,r1,p1⟩:=cW I h1
  cases e with
  | tup es =>
   simp only[Is] at hw
   obtain⟨b,us,rfl,h2,i2⟩:=hw
   cases ru
   obtain⟨br,r2,p2⟩:=cW I h2
   have:=SeqAt.RcNeAt.tuples p1 p2 nz (step r1 r2 hl i1 i2)
   have l1:aq.toArray.size=ds.length:=by rw[sD,<-r1.length,i1.length]
   have l2:br.toArray.size=es.length:=by rw[sD,<-r2.length,i2.length]
   rw[l1,l2] at this
   have eb:((List.range (min ds.length es.length)).all (pM ds es) && ds.length == es.length)=aH (.tup ds) (.tup es):=by
    simp only[aH]
    by_cases c:ds.length=es.length
    ·rw[<-c,Nat.min_self,tL c];simp
    ·rw[tK c];simp[c]
   rw[eb] at this;exact this
  | lst es=>simp only[Is] at hw;obtain⟨b,us,rfl,h2,i2⟩:=hw;cases ru;obtain⟨br,r2,p2⟩:=cV I h2;simp only[aH];exact SeqAt.RcNeAt.tuple_list p1 p2 nz
  | non=>cases (show u = .non from hw);cases ru;simp only[aH];exact SeqAt.RcNeAt.tuple_none p1 nz
  | bl b=>cases (show u = .bl b from hw);cases ru;simp only[aH];exact SeqAt.RcNeAt.tuple_bool _ p1 nz
  | int b=>cases (show u = .int b from hw);obtain⟨t,rfl⟩:=ru;simp only[aH];exact SeqAt.RcNeAt.tuple_int _ _ p1 nz
  | str b=>cases (show u = .str b from hw);obtain⟨t,rfl⟩:=ru;simp only[aH];exact SeqAt.RcNeAt.tuple_str _ _ p1 nz
 | lst ds =>
  have hl:bH ds <= 59:=by simp only[dep] at hd;omega
  simp only[Is] at hv
  obtain⟨a,vs,rfl,h1,i1⟩:=hv
  cases rv
  obtain⟨aq,r1,p1⟩:=cV I h1
  cases e with
  | lst es =>
   simp only[Is] at hw
   obtain⟨b,us,rfl,h2,i2⟩:=hw
   cases ru
   obtain⟨br,r2,p2⟩:=cV I h2
   have l1:aq.toArray.size=ds.length:=by rw[sD,<-r1.length,i1.length]
   have l2:br.toArray.size=es.length:=by rw[sD,<-r2.length,i2.length]
   by_cases c:ds.length=es.length
   ·have:=SeqAt.RcNeAt.lists p1 p2 (by rw[l1,l2];exact c) nz (step r1 r2 hl i1 i2)
    rw[l1,tL c] at this
    simp only[aH];exact this
   ·simp only[aH];rw[tK c]
    exact SeqAt.RcNeAt.lists_lengths p1 p2 (by rw[l1,l2];simpa using c) nz
  | tup es=>simp only[Is] at hw;obtain⟨b,us,rfl,h2,i2⟩:=hw;cases ru;obtain⟨br,r2,p2⟩:=cW I h2;simp only[aH];exact SeqAt.RcNeAt.list_tuple p1 p2 nz
  | non=>cases (show u = .non from hw);cases ru;simp only[aH];exact SeqAt.RcNeAt.list_none p1 nz
  | bl b=>cases (show u = .bl b from hw);cases ru;simp only[aH];exact SeqAt.RcNeAt.list_bool _ p1 nz
  | int b=>cases (show u = .int b from hw);obtain⟨t,rfl⟩:=ru;simp only[aH];exact SeqAt.RcNeAt.list_int _ _ p1 nz
  | str b=>cases (show u = .str b from hw);obtain⟨t,rfl⟩:=ru;simp only[aH];exact SeqAt.RcNeAt.list_str _ _ p1 nz
 | non =>
  cases (show v = .non from hv);cases rv
  cases e with
  | non=>cases (show u = .non from hw);cases ru;simp only[aH];exact SeqAt.RcNeAt.none_none
  | bl b=>cases (show u = .bl b from hw);cases ru;simp only[aH];exact SeqAt.RcNeAt.none_bool _
  | int b=>cases (show u = .int b from hw);obtain⟨t,rfl⟩:=ru;simp only[aH];exact SeqAt.RcNeAt.none_int _ _
  | str b=>cases (show u = .str b from hw);obtain⟨t,rfl⟩:=ru;simp only[aH];exact SeqAt.RcNeAt.none_str _ _
  | tup es=>simp only[Is] at hw;obtain⟨a,vs,rfl,h1,_⟩:=hw;cases ru;obtain⟨_,_,p⟩:=cW I h1;simp only[aH];exact SeqAt.RcNeAt.none_tuple p nz
  | lst es=>simp only[Is] at hw;obtain⟨a,vs,rfl,h1,_⟩:=hw;cases ru;obtain⟨_,_,p⟩:=cV I h1;simp only[aH];exact SeqAt.RcNeAt.none_list p nz
 | bl b0 =>
  cases (show v = .bl b0 from hv);cases rv
  cases e with
  | non=>cases (show u = .non from hw);cases ru;simp only[aH];exact SeqAt.RcNeAt.bool_none _
  | bl b=>cases (show u = .bl b from hw);cases ru;simp only[aH];exact SeqAt.RcNeAt.bool_bool _ _
  | int b=>cases (show u = .int b from hw);obtain⟨t,rfl⟩:=ru;simp only[aH];exact SeqAt.RcNeAt.bool_int _ _ _
  | str b=>cases (show u = .str b from hw);obtain⟨t,rfl⟩:=ru;simp only[aH];exact SeqAt.RcNeAt.bool_str _ _ _
  | tup es=>simp only[Is] at hw;obtain⟨a,vs,rfl,h1,_⟩:=hw;cases ru;obtain⟨_,_,p⟩:=cW I h1;simp only[aH];exact SeqAt.RcNeAt.bool_tuple _ p nz
  | lst es=>simp only[Is] at hw;obtain⟨a,vs,rfl,h1,_⟩:=hw;cases ru;obtain⟨_,_,p⟩:=cV I h1;simp only[aH];exact SeqAt.RcNeAt.bool_list _ p nz
 | int b0 =>
  cases (show v = .int b0 from hv);obtain⟨t0,rfl⟩:=rv
  cases e with
  | non=>cases (show u = .non from hw);cases ru;simp only[aH];exact SeqAt.RcNeAt.int_none _ _
  | bl b=>cases (show u = .bl b from hw);cases ru;simp only[aH];exact SeqAt.RcNeAt.int_bool _ _ _
  | int b=>cases (show u = .int b from hw);obtain⟨t,rfl⟩:=ru;simp only[aH];exact SeqAt.RcNeAt.int_int _ _ _ _
  | str b=>cases (show u = .str b from hw);obtain⟨t,rfl⟩:=ru;simp only[aH];exact SeqAt.RcNeAt.int_str _ _ _ _
  | tup es=>simp only[Is] at hw;obtain⟨a,vs,rfl,h1,_⟩:=hw;cases ru;obtain⟨_,_,p⟩:=cW I h1;simp only[aH];exact SeqAt.RcNeAt.int_tuple _ _ p nz
  | lst es=>simp only[Is] at hw;obtain⟨a,vs,rfl,h1,_⟩:=hw;cases ru;obtain⟨_,_,p⟩:=cV I h1;simp only[aH];exact SeqAt.RcNeAt.int_list _ _ p nz
 | str b0 =>
  cases (show v = .str b0 from hv);obtain⟨t0,rfl⟩:=rv
  cases e with
  | non=>cases (show u = .non from hw);cases ru;simp only[aH];exact SeqAt.RcNeAt.str_none _ _
  | bl b=>cases (show u = .bl b from hw);cases ru;simp only[aH];exact SeqAt.RcNeAt.str_bool _ _ _
  | int b=>cases (show u = .int b from hw);obtain⟨t,rfl⟩:=ru;simp only[aH];exact SeqAt.RcNeAt.str_int _ _ _ _
  | str b=>cases (show u = .str b from hw);obtain⟨t,rfl⟩:=ru;simp only[aH];exact SeqAt.RcNeAt.str_str _ _ _ _
  | tup es=>simp only[Is] at hw;obtain⟨a,vs,rfl,h1,_⟩:=hw;cases ru;obtain⟨_,_,p⟩:=cW I h1;simp only[aH];exact SeqAt.RcNeAt.str_tuple _ _ p nz
  | lst es=>simp only[Is] at hw;obtain⟨a,vs,rfl,h1,_⟩:=hw;cases ru;obtain⟨_,_,p⟩:=cV I h1;simp only[aH];exact SeqAt.RcNeAt.str_list _ _ p nz
end
variable [aM]
noncomputable def intsOf:List D->Option (List Int)
 | []=>some []
 | .int i :: r=>match intsOf r with
  | some ns=>some (i :: ns)
  | none=>none
 | _=>none
theorem jG:∀ ns:List Int,intsOf (ns.map D.int)=some ns
 | []=>rfl
 | n :: r=>by show (match intsOf (r.map D.int) with | some ns=>some (n :: ns) | none=>none)=_;rw[jG r]
theorem tM:∀ {ds:List D} {ns:List Int},intsOf ds=some ns->ds=ns.map D.int
 | [],ns,h=>by cases h;rfl
 | .int i :: r,ns,h=>by
  unfold intsOf at h
  split at h
  ·rename_i ms e;cases h;rw[Vy,tM e]
  ·cases h
 | .non :: r,ns,h=>by cases h
 | .bl _ :: r,ns,h=>by cases h
 | .str _ :: r,ns,h=>by cases h
 | .tup _ :: r,ns,h=>by cases h
 | .lst _ :: r,ns,h=>by cases h
theorem lG {F:Hp}:∀ {ns:List Int} {vs:List V},ae F (ns.map D.int) vs->vs=ns.map V.int
 | [],vs,h=>by simp only[W8,ae] at h;exact h
 | n :: r,vs,h=>by
  simp only[Vy,ae] at h
  obtain⟨v,t,rfl,h1,h2⟩:=h
  have h1:v = .int n:=h1
  rw[lG h2,h1];rfl
theorem ku {F:Hp}:∀ {ns:List Int},ae F (ns.map D.int) (ns.map V.int)
 | [] => .nil
 | n :: r => .cons (show _=_ from rfl) ku
theorem qN {F:Hp}:∀ {as bs:List D} {us vs:List V},ae F as us->ae F bs vs->ae F (as ++ bs) (us ++ vs)
 | [],bs,us,vs,h,q=>by simp only[ae] at h;subst h;exact q
 | a :: r,bs,us,vs,h,q=>by
  simp only[ae] at h
  obtain⟨v,t,rfl,h1,h2⟩:=h
  exact .cons h1 (qN h2 q)
theorem EJ {F:Hp}:∀ {as:List D} {us:List V} (n:Nat),ae F as us->ae F (as.take n) (us.take n)
 | as,us,0,_=>by rw[YM,YM];exact .nil
 | [],us,n + 1,h=>by simp only[ae] at h;subst h;exact .nil
 | a :: r,us,n + 1,h=>by
  simp only[ae] at h
  obtain⟨v,t,rfl,h1,h2⟩:=h
  exact .cons h1 (EJ n h2)
theorem vA {F:Hp}:∀ {as:List D} {us:List V} (n:Nat),ae F as us->ae F (as.drop n) (us.drop n)
 | as,us,0,h=>h
 | [],us,n + 1,h=>by simp only[ae] at h;subst h;exact .nil
 | a :: r,us,n + 1,h=>by
  simp only[ae] at h
  obtain⟨v,t,rfl,h1,h2⟩:=h
  exact vA n h2
theorem zc {F:Hp}:∀ {as:List D} {us:List V},ae F as us->ae F as.reverse us.reverse
 | [],us,h=>by simp only[ae] at h;subst h;exact .nil
 | a :: r,us,h=>by
  simp only[ae] at h
  obtain⟨v,t,rfl,h1,h2⟩:=h
  rw[XF,XF]
  exact (zc h2).snoc h1
theorem EK {F:Hp}:∀ {as:List D} {us:List V} (n:Nat) {d:D} {v:V},ae F as us->Is F d v->ae F (as.set n d) (us.set n v)
 | [],us,n,d,v,h,_=>by simp only[ae] at h;subst h;exact .nil
 | a :: r,us,0,d,v,h,q=>by
  simp only[ae] at h
  obtain⟨w,t,rfl,h1,h2⟩:=h
  exact .cons q h2
 | a :: r,us,n + 1,d,v,h,q=>by
  simp only[ae] at h
  obtain⟨w,t,rfl,h1,h2⟩:=h
  exact .cons h1 (EK n h2 q)
theorem EL {F:Hp}:∀ {as:List D} {us:List V} (n:Nat),ae F as us->ae F (as.eraseIdx n) (us.eraseIdx n)
 | [],us,n,h=>by simp only[ae] at h;subst h;exact .nil
 | a :: r,us,0,h=>by
  simp only[ae] at h
  obtain⟨w,t,rfl,h1,h2⟩:=h
  exact h2
 | a :: r,us,n + 1,h=>by
  simp only[ae] at h
  obtain⟨w,t,rfl,h1,h2⟩:=h
  exact .cons h1 (EL n h2)
theorem lH {F H:Hp} {p:Addr} {ds:List D} {vs:List V} (s:aJ F H) (hp:H p=none) (h:ae F ds vs):Is (Nw F H (upd H p (.lst vs))) (.lst ds) (.ref p):=by
 rw[Nw.upd s hp]
 simp only[Is]
 exact⟨p,vs,rfl,bR,h.same (cA (s.free hp))⟩
theorem vB {F H:Hp} {p:Addr} {ds:List D} {vs:List V} (s:aJ F H) (hp:H p=none) (h:ae F ds vs):Is (Nw F H (upd H p (.tup vs))) (.tup ds) (.ref p):=by
 rw[Nw.upd s hp]
 simp only[Is]
 exact⟨p,vs,rfl,bR,h.same (cA (s.free hp))⟩
theorem tN {F H:Hp} {d:D} {v:V} (s:aJ F H) (h:Is F d v):Is (Nw F H H) d v:=by rw[Nw.refl s];exact h
noncomputable def pN:D->D->(D->Prop)->Prop
 | .int i,.int j,K=>K (.int (i + j))
 | .lst a,.lst b,K=>a.length + b.length <= 1000/\K (.lst (a ++ b))
 | .tup a,.tup b,K=>(a≠[]/\a.length + b.length <= 1000)/\K (.tup (a ++ b))
 | .str a,.str b,K=>a.length + b.length <= 1000/\K (.str (a ++ b))
 | _,_,_=>False
noncomputable def oI (f:Int->Int->D):D->D->(D->Prop)->Prop
 | .int i,.int j,K=>K (f i j)
 | _,_,_=>False
noncomputable def c9 (C:Int->Int->Prop) (f:Int->Int->D):D->D->(D->Prop)->Prop
 | .int i,.int j,K=>C i j/\K (f i j)
 | _,_,_=>False
noncomputable def eY:D->D->(D->Prop)->Prop
 | .int i,.int j,K=>jU i j/\K (.int (i * j))
 | .lst a,.int j,K=>(-(2 ^ 63) <= j/\j < 2 ^ 63/\a.length * j.toNat <= 1000)/\K (.lst (List.replicate j.toNat a).flatten)
 | _,_,_=>False
section
variable {X:Cx}
theorem vC {f:Value->Value->Sem Value} {g:Int->Int->V} {h:Int->Int->D} (op:cG X f (lY g)) (hg:∀ F i j,Is F (h i j) (g i j)):d7 X f (oI h):=by
 rintro pins s σ H x y v u Q I rx ry ⟨F,d,e,K,sub,rd,re,q,md⟩
 unfold oI at q
 split at q
 ·rename_i i j
  exact op pins s σ H x y v u Q I rx ry ⟨i,j,rd,re,md _ _ _ q (fun _ _ e=>e) (hg _ i j)⟩
 ·exact q.elim
theorem ze {f:Value->Value->Sem Value} {C:Int->Int->Prop} {g:Int->Int->V} {h:Int->Int->D} (op:cG X f (rI C g)) (hg:∀ F i j,Is F (h i j) (g i j)):d7 X f (c9 C h):=by
 rintro pins s σ H x y v u Q I rx ry ⟨F,d,e,K,sub,rd,re,q,md⟩
 unfold c9 at q
 split at q
 ·rename_i i j
  exact op pins s σ H x y v u Q I rx ry ⟨i,j,rd,re,q.1,md _ _ _ q.2 (fun _ _ e=>e) (hg _ i j)⟩
 ·exact q.elim
theorem vD:d7 X (binaryOp .Add) pN:=by
 rintro pins s σ H x y v u Q I rx ry ⟨F,d,e,K,sub,rd,re,q,md⟩
 unfold pN at q
 split at q
 ·rename_i i j
  exact CW pins s σ H x y v u Q I rx ry ⟨i,j,rd,re,md _ _ _ q (fun _ _ e=>e) rfl⟩
 ·rename_i as bs
  obtain⟨a,us,rfl,h1,h2⟩:=rd
  obtain⟨b,ws,rfl,h3,h4⟩:=re
  refine DA pins s σ H _ _ v u Q I rx ry ⟨a,b,us,ws,rfl,rfl,h1,h3,j8 (by rw[h2.length,h4.length];exact q.1),fun p hp=>md _ _ _ q.2 (cA hp) (lH sub hp (qN h2 h4))⟩
 ·rename_i as bs
  have cf:Is F (.tup as) x:=rd
  have gL:Is F (.tup bs) y:=re
  simp only[Is] at cf gL
  obtain⟨a,us,rfl,h1,h2⟩:=cf
  obtain⟨b,ws,rfl,h3,h4⟩:=gL
  have ne:us≠[]:=fun z=>q.1.1 (Wd.mp (by rw[<-h2.length,z];rfl))
  refine Lz pins s σ H _ _ v u Q I rx ry ⟨a,b,us,ws,rfl,rfl,bB.of (sub _ _ h1),bB.of (sub _ _ h3),ne,j8 (by rw[h2.length,h4.length];exact q.1.2),fun z => ?_,fun z p hp=>md _ _ _ q.2 (cA hp) (vB sub hp (qN h2 h4))⟩
  have:bs=[]:=Wd.mp (by rw[<-h4.length,z];rfl)
  subst this
  refine md _ _ _ q.2 (fun _ _ e=>e) (tN sub ?_)
  rw[Yw];exact rd
 ·rename_i as bs
  have cf:x = .str as:=rd
  have gL:y = .str bs:=re
  subst cf gL
  exact K5 pins s σ H _ _ v u Q I rx ry ⟨as,bs,rfl,rfl,j8 q.1,md _ _ _ q.2 (fun _ _ e=>e) rfl⟩
 ·exact q.elim
theorem jc:d7 X (binaryOp .Sub) (oI fun i j => .int (i - j)):=vC KG fun _ _ _=>rfl
theorem nP:d7 X (binaryOp .Mult) eY:=by
 rintro pins s σ H x y v u Q I rx ry ⟨F,d,e,K,sub,rd,re,q,md⟩
 unfold eY at q
 split at q
 ·rename_i i j
  exact KH pins s σ H x y v u Q I rx ry ⟨i,j,rd,re,q.1,md _ _ _ q.2 (fun _ _ e=>e) rfl⟩
 ·rename_i as j
  obtain⟨a,us,rfl,h1,h2⟩:=rd
  refine LO pins s σ H _ _ v u Q I rx ry ⟨a,j,us,rfl,re,h1,q.1.1,q.1.2.1,j8 (by rw[h2.length];exact q.1.2.2),fun p hp=>md _ _ _ q.2 (cA hp) (lH sub hp ?_)⟩
  have:∀ k:Nat,ae F (List.replicate k as).flatten (List.replicate k us).flatten:=fun k=>by
   induction k with
   | zero=>exact .nil
   | succ k ih=>rw[Wl,Wl,Xj,Xj];exact qN h2 ih
  exact this _
 ·exact q.elim
theorem N9:d7 X (binaryOp .FloorDiv) (c9 sg fun i j => .int (i.fdiv j)):=ze KI fun _ _ _=>rfl
theorem jd:d7 X (binaryOp .Mod) (c9 (fun _ j=>0 < j) fun i j => .int (i % j)):=ze xp fun _ _ _=>rfl
theorem mK:d7 X (binaryOp .Pow) (c9 eU fun i j => .int (i ^ j.toNat)):=ze KJ fun _ _ _=>rfl
noncomputable def oEq:D->D->(D->Prop)->Prop:=fun d e K=>dep d <= 60/\K (.bl (aH d e))
noncomputable def je:D->D->(D->Prop)->Prop:=fun d e K=>dep d <= 60/\K (.bl (!aH d e))
theorem eZ (hu:X.A.units + 64 < cLine):d7 X (compareOp .Eq) oEq:=by
 rintro pins s σ H x y v u Q I rx ry ⟨F,d,e,K,sub,rd,re,q,md⟩
 exact (vz I 60 q.1 (by omega) (rd.is sub) (re.is sub) rx ry).2 _ _ _ _ ⟨.bl _,H,I,rfl,md _ _ _ q.2 (fun _ _ e=>e) rfl⟩
theorem lI (hu:X.A.units + 64 < cLine):d7 X (compareOp .NotEq) je:=by
 rintro pins s σ H x y v u Q I rx ry ⟨F,d,e,K,sub,rd,re,q,md⟩
 exact N8 I q.1 (by omega) (rd.is sub) (re.is sub) rx ry _ _ _ _ ⟨.bl _,H,I,rfl,md _ _ _ q.2 (fun _ _ e=>e) rfl⟩
noncomputable def oLt:D->D->(D->Prop)->Prop
 | .int i,.int j,K=>K (.bl (decide (i < j)))
 | .tup a,.tup b,K=>match intsOf a,intsOf b with
  | some ns,some ms=>K (.bl (HT.lexLt ns ms))
  | _,_=>False
 | _,_,_=>False
theorem tO (hu:X.A.units + 64 < cLine):d7 X (compareOp .Lt) oLt:=by
 rintro pins s σ H x y v u Q I rx ry ⟨F,d,e,K,sub,rd,re,q,md⟩
 unfold oLt at q
 split at q
 ·rename_i i j
  exact KO pins s σ H x y v u Q I rx ry ⟨i,j,rd,re,md _ _ _ q (fun _ _ e=>e) rfl⟩
 ·rename_i as bs
  split at q
  ·rename_i ns ms e1 e2
   rw[tM e1] at rd
   rw[tM e2] at re
   have cf:Is F (.tup (ns.map D.int)) x:=rd
   have gL:Is F (.tup (ms.map D.int)) y:=re
   simp only[Is] at cf gL
   obtain⟨a,us,rfl,h1,h2⟩:=cf
   obtain⟨b,ws,rfl,h3,h4⟩:=gL
   rw[lG h2] at h1
   rw[lG h4] at h3
   exact Lx (by omega) pins s σ H _ _ v u Q I rx ry ⟨a,b,ns,ms,rfl,rfl,bB.of (sub _ _ h1),bB.of (sub _ _ h3),md _ _ _ q (fun _ _ e=>e) rfl⟩
  ·exact q.elim
 ·exact q.elim
theorem vE:d7 X (compareOp .LtE) (oI fun i j => .bl (decide (i <= j))):=vC KP fun _ _ _=>rfl
theorem pO:d7 X (compareOp .Gt) (oI fun i j => .bl (decide (j < i))):=vC KQ fun _ _ _=>rfl
theorem EM:d7 X (compareOp .GtE) (oI fun i j => .bl (decide (j <= i))):=vC KR fun _ _ _=>rfl
noncomputable def jf:D->D->(D->Prop)->Prop
 | .non,.non,K=>K (.bl true)
 | .bl _,.non,K=>K (.bl false)
 | .int _,.non,K=>K (.bl false)
 | .str _,.non,K=>K (.bl false)
 | .tup _,.non,K=>K (.bl false)
 | .lst _,.non,K=>K (.bl false)
 | _,_,_=>False
theorem EN {F H:Hp} {d e:D} {x y:V} {K:D->Prop} (rd:gu F H d x) (re:gu F H e y) (q:jf d e K):y = .non/\K (.bl (decide (x = .non))):=by
 unfold jf at q
 split at q
 ·have:x = .non:=rd;have h2:y = .non:=re;subst this;exact⟨h2,q⟩
 ·rename_i b;have:x = .bl b:=rd;have h2:y = .non:=re;subst this;exact⟨h2,q⟩
 ·rename_i b;have:x = .int b:=rd;have h2:y = .non:=re;subst this;exact⟨h2,q⟩
 ·rename_i b;have:x = .str b:=rd;have h2:y = .non:=re;subst this;exact⟨h2,q⟩
 ·rename_i b;have rd:Is F (.tup b) x:=rd;simp only[Is] at rd;obtain⟨a,_,rfl,_⟩:=rd;exact⟨re,q⟩
 ·rename_i b;obtain⟨a,_,rfl,_⟩:=rd;exact⟨re,q⟩
 ·exact q.elim
noncomputable def zf:D->D->(D->Prop)->Prop:=fun d e K=>jf d e fun z=>match z with
 | .bl b=>K (.bl (!b))
 | _=>False
theorem N_:d7 X (compareOp .Is) jf:=by
 rintro pins s σ H x y v u Q I rx ry ⟨F,d,e,K,sub,rd,re,q,md⟩
 obtain⟨h1,h2⟩:=EN rd re q
 exact KU pins s σ H x y v u Q I rx ry ⟨h1,md _ _ _ h2 (fun _ _ e=>e) rfl⟩
theorem Oa:d7 X (compareOp .IsNot) zf:=by
 rintro pins s σ H x y v u Q I rx ry ⟨F,d,e,K,sub,rd,re,q,md⟩
 obtain⟨h1,h2⟩:=EN rd re q
 exact KW pins s σ H x y v u Q I rx ry ⟨h1,md _ _ _ h2 (fun _ _ e=>e) rfl⟩
noncomputable def fA (neg:Bool):D->D->(D->Prop)->Prop
 | d,.lst es,K=>bH es <= 55/\K (.bl (if neg then !(es.any fun e=>aH e d) else es.any fun e=>aH e d))
 | d,.tup es,K=>bH es <= 55/\K (.bl (if neg then !(es.any fun e=>aH e d) else es.any fun e=>aH e d))
 | _,_,_=>False
noncomputable def g5 (H:Hp) (d:D) (u:Value):Bool:=by
 classical exact if ∃ e v,Is H e v/\RelV v u/\aH e d=true then true else false
theorem EO {H:Hp} {d e:D} {v:V} {u:Value} (h:Is H e v) (r:RelV v u):g5 H d u=aH e d:=by
 unfold g5
 split
 ·rename_i z
  obtain⟨e',v',h',r',q⟩:=z
  have:v'=v:=r'.inj r
  subst this
  rw[Is.inj h h'];exact q.symm
 ·rename_i z
  cases q:aH e d with
  | false=>rfl
  | true=>exact absurd ⟨e,v,h,r,q⟩ z
theorem tP {H:Hp} {d:D}:∀ {es:List D} {vs:List V} {us:List Value},ae H es vs->Vals vs us->us.any (g5 H d)=es.any fun e=>aH e d
 | [],vs,us,h,r=>by simp only[ae] at h;subst h;cases r;rfl
 | e :: es,vs,us,h,r=>by
  simp only[ae] at h
  obtain⟨v,t,rfl,h1,h2⟩:=h
  cases r with
  | cons r1 r2=>rw[W9,W9,EO h1 r1,tP h2 r2]
theorem tQ {pins:List (Addr × Obj)} {σ : St} {H:Hp} {s:Shared} (I:Inv X pins σ H s) {A:Around} (hu:A.units + 60 < cLine) {d:D} {x:V} {w:Value} (hd:Is H d x) (rd:RelV x w):∀ {es:List D} {vs:List V} {us:List Value},bH es <= 55->ae H es vs->Vals vs us->∀ u∈us,SeqAt.EqAt A s u w (g5 H d u)
 | [],vs,us,_,h,r=>by simp only[ae] at h;subst h;cases r;intro u hu;cases hu
 | e :: es,vs,us,hp,h,r=>by
  simp only[ae] at h
  obtain⟨v,t,rfl,h1,h2⟩:=h
  simp only[bH] at hp
  cases r with
  | cons r1 r2 =>
   intro u hu'
   rcases Vr.mp hu' with rfl | hu'
   ·rw[EO h1 r1];exact (vz I 55 (by omega) (by omega) h1 hd r1 rd).1
   ·exact tQ I hu hd rd (by omega) h2 r2 u hu'
theorem nQ (hu:X.A.units + 64 < cLine):d7 X (compareOp .In) (fA false):=by
 rintro pins s σ H x y v u Q I rx ry ⟨F,d,e,K,sub,rd,re,q,md⟩
 unfold fA at q
 split at q
 ·rename_i es
  obtain⟨a,vs,rfl,h1,h2⟩:=re
  cases ry
  obtain⟨aq,r,p⟩:=cV I h1
  have f6:=h2.same sub
  refine SeqAt.in_listAt (g5 H d) p (fun w hw=>tQ I (by rw[in1_units];omega) (rd.is sub) rx q.1 f6 r w (by simpa using hw)) ⟨.bl _,H,I,rfl,?_⟩
  rw[show aq.toArray.any (g5 H d)=aq.any (g5 H d) by simp,tP f6 r]
  exact md _ _ _ q.2 (fun _ _ e=>e) rfl
 ·rename_i es
  have gL:Is F (.tup es) y:=re
  simp only[Is] at gL
  obtain⟨a,vs,rfl,h1,h2⟩:=gL
  cases ry
  obtain⟨aq,r,p⟩:=cW I (sub _ _ h1)
  have f6:=h2.same sub
  refine SeqAt.in_tupleAt (g5 H d) p (fun w hw=>tQ I (by rw[in1_units];omega) (rd.is sub) rx q.1 f6 r w (by simpa using hw)) ⟨.bl _,H,I,rfl,?_⟩
  rw[show aq.toArray.any (g5 H d)=aq.any (g5 H d) by simp,tP f6 r]
  exact md _ _ _ q.2 (fun _ _ e=>e) rfl
 ·exact q.elim
theorem qO (hu:X.A.units + 64 < cLine):d7 X (compareOp .NotIn) (fA true):=by
 rintro pins s σ H x y v u Q I rx ry ⟨F,d,e,K,sub,rd,re,q,md⟩
 unfold fA at q
 split at q
 ·rename_i es
  obtain⟨a,vs,rfl,h1,h2⟩:=re
  cases ry
  obtain⟨aq,r,p⟩:=cV I h1
  have f6:=h2.same sub
  refine SeqAt.notIn_listAt (g5 H d) p (fun w hw=>tQ I (by rw[in1_units];omega) (rd.is sub) rx q.1 f6 r w (by simpa using hw)) ⟨.bl _,H,I,rfl,?_⟩
  rw[show aq.toArray.any (g5 H d)=aq.any (g5 H d) by simp,tP f6 r]
  exact md _ _ _ q.2 (fun _ _ e=>e) rfl
 ·rename_i es
  have gL:Is F (.tup es) y:=re
  simp only[Is] at gL
  obtain⟨a,vs,rfl,h1,h2⟩:=gL
  cases ry
  obtain⟨aq,r,p⟩:=cW I (sub _ _ h1)
  have f6:=h2.same sub
  refine SeqAt.notIn_tupleAt (g5 H d) p (fun w hw=>tQ I (by rw[in1_units];omega) (rd.is sub) rx q.1 f6 r w (by simpa using hw)) ⟨.bl _,H,I,rfl,?_⟩
  rw[show aq.toArray.any (g5 H d)=aq.any (g5 H d) by simp,tP f6 r]
  exact md _ _ _ q.2 (fun _ _ e=>e) rfl
 ·exact q.elim
noncomputable def aP:D->D->(D->Prop)->Prop
 | .lst ds,.int i,K=>match eC ds i with
  | some d=>K d
  | none=>False
 | .tup ds,.int i,K=>match eC ds i with
  | some d=>K d
  | none=>False
 | .str z,.int i,K=>z.length <= 1000/\match eC z.cps.toList i with
  | some c=>K (.str ⟨#[c]⟩)
  | none=>False
 | _,_,_=>False
theorem ER {F:Hp} {ds:List D} {vs:List V} {i:Int} {d:D} (h:ae F ds vs) (e:eC ds i=some d):∃ v,eC vs i=some v/\Is F d v:=by
 unfold eC at e ⊢
 rw[h.length]
 cases q:iX ds.length i with
 | none=>rw[q] at e;cases e
 | some j =>
  rw[q] at e
  exact qM h (show ds[j]? = some d from e)
theorem aW:En X aP:=by
 rintro value slice pins s σ H x y v u Q I rx ry ⟨F,d,e,K,sub,rd,re,q,md⟩ hs
 unfold aP at q
 split at q
 ·rename_i ds i
  split at q
  ·rename_i d' e1
   obtain⟨a,vs,rfl,h1,h2⟩:=rd
   obtain⟨w,e2,h3⟩:=ER h2 e1
   exact Dm value slice pins s σ H _ _ v u Q I rx ry ⟨a,vs,i,w,rfl,re,bq.of h1,e2,md _ _ _ q (fun _ _ e=>e) (tN sub h3)⟩ hs
  ·exact q.elim
 ·rename_i ds i
  split at q
  ·rename_i d' e1
   have cf:Is F (.tup ds) x:=rd
   simp only[Is] at cf
   obtain⟨a,vs,rfl,h1,h2⟩:=cf
   obtain⟨w,e2,h3⟩:=ER h2 e1
   exact LB value slice pins s σ H _ _ v u Q I rx ry ⟨a,vs,i,w,rfl,re,bB.of (sub _ _ h1),e2,md _ _ _ q (fun _ _ e=>e) (tN sub h3)⟩ hs
  ·exact q.elim
 ·rename_i z i
  obtain⟨hz,q⟩:=q
  split at q
  ·rename_i c e1
   have cf:x = .str z:=rd
   subst cf
   exact LC value slice pins s σ H _ _ v u Q I rx ry ⟨z,i,c,rfl,re,j8 hz,e1,md _ _ _ q (fun _ _ e=>e) rfl⟩ hs
  ·exact q.elim
 ·exact q.elim
noncomputable def cutD (ds:List D) (lo hi:Option Int):List D:=(ds.drop (HT.a8 ds.length 0 lo)).take (HT.a8 ds.length ds.length hi - HT.a8 ds.length 0 lo)
theorem ES {F:Hp} {ds:List D} {vs:List V} (h:ae F ds vs) (lo hi:Option Int):ae F (cutD ds lo hi) (cL vs lo hi):=by
 unfold cutD cL
 rw[h.length]
 exact EJ _ (vA _ h)
noncomputable abbrev WO:=aF->(Option Int->aF->Prop)->Prop
noncomputable def vF (f:WO):TO:=fun σ H Q=>∃ F ad δ K,SR F ad δ σ H/\f δ K/\∀ o δ',K o δ'->∀ F' aK H',Ext F ad δ.mu H F' aK δ'.mu H'->SR F' aK δ' σ H'->Q o H'
noncomputable def dw:WO:=fun δ K=>K none δ
noncomputable def g6 (f:WE):WO:=fun δ K=>f δ fun x δ1=>match x with
 | .p (.int i)=>K (some i) δ1
 | _=>False
theorem lJ:PO X none (vF dw):=fun pins s σ H Q I h0_ => el7 h0_ fun F ad δ K S q k =>Dh pins s σ H Q I (k _ _ q _ _ _ .refl S)
theorem jH {e:Expr} {f:WE} (h:JE X e (tD f)):PO X (some e) (vF (g6 f)):=fun pins s σ H Q I h0_ => el7 h0_ fun F ad δ K S q k =>uW h.out pins s σ H Q I ⟨F,ad,δ,_,S,q,fun x δ1 h1 v F1 aO H1 E1 S1 V1=>by
 split at h1
 ·rename_i i
  exact⟨i,V1,k _ _ h1 _ _ _ E1 S1⟩
 ·exact h1.elim⟩
noncomputable def kz:D->(D->Prop)->Prop
 | .int i,K=>K (.int (-i))
 | _,_=>False
theorem ET {e:Expr} {f:WE} {pos:Pos} (he:JE X e (tD f)):JE X (.UnaryOp .USub e pos) (tD (d1 f kz)) :=
 (M6 CY he).weak fun σ H Q h0_ => el7 h0_ fun F ad δ K S q k =>⟨F,ad,δ,_,S,q,fun x δ1 h1 v F1 aO H1 E1 S1 V1=>by
  obtain⟨d,h4,rd⟩:=iH S1 V1 h1
  unfold kz at h4
  split at h4
  ·rename_i i
   exact⟨i,rd,k _ _ h4 _ _ _ _ E1 S1 rfl⟩
  ·exact h4.elim⟩
noncomputable def tR (f g h:WE) (o o':D->D->(D->Prop)->Prop):WE:=fun δ K=>f δ fun x δ1=>g δ1 fun y δ2=>gY x δ2 fun d=>gY y δ2 fun e=>o d e fun z=>match z with
 | .bl true=>h δ2 fun w δ3=>gY y δ3 fun e'=>gY w δ3 fun c=>o' e' c fun z'=>K (.p z') δ3
 | .bl false=>K (.p (.bl false)) δ2
 | _=>False
theorem zg {a b c:Expr} {f g h:WE} {op jV:CmpOp} {o o':D->D->(D->Prop)->Prop} {pos:Pos} (ho:d7 X (compareOp op) o) (iT:d7 X (compareOp jV) o') (ha:JE X a (tD f)) (hb:JE X b (tD g)) (hc:JE X c (tD h))
  (hm:lastMarks [op,jV] [b,c]=false:=by with_unfolding_all rfl):JE X (.Compare a [op,jV] [b,c] pos) (tD (tR f g h o o')) :=
 (M9 ho iT ha hb hc hm).weak fun σ H Q h0_ => el7 h0_ fun F ad δ K S q k =>by
  refine⟨F,ad,δ,_,S,q,fun x δ1 h1 v1 F1 aO H1 E1 S1 V1=>⟨F1,aO,δ1,_,S1,h1,fun y δ2 h2 v2 F2 bK H2 E2 S2 V2 => ?_⟩⟩
  obtain⟨d,h3,rd⟩:=iH S2 (V1.ext E2) h2
  obtain⟨e,h4,re⟩:=iH S2 V2 h3
  refine⟨F2,d,e,_,S2.sub,rd,re,h4,fun z v H' hz sm is => ?_⟩
  have S3:=S2.al sm
  have E3:=Ext.al S2 sm
  split at hz
  ·refine⟨true,is,?_⟩
   rw[UO rfl]
   refine⟨_,bK,δ2,_,S3,hz,fun w δ4 h5 v4 F4 vn H4 E4 S4 V4 => ?_⟩
   obtain⟨d',h6,vm⟩:=iH S4 ((V2.ext E3).ext E4) h5
   obtain⟨e',h7,vG⟩:=iH S4 V4 h6
   exact⟨F4,d',e',_,S4.sub,vm,vG,h7,fun z v H' hz sm is=>k _ _ hz _ _ _ _ ((((E1.trans E2).trans E3).trans E4).trans (Ext.al S4 sm)) (S4.al sm) is⟩
  ·refine⟨false,is,?_⟩
   rw[LX Vv]
   exact k _ _ hz _ _ _ _ ((E1.trans E2).trans E3) S3 rfl
  ·exact hz.elim
end
noncomputable def sortI (ns:List Int):List Int:=ns.mergeSort fun a b=>decide (a <= b)
theorem sortI_perm (ns:List Int):(sortI ns).Perm ns:=List.mergeSort_perm ns _
theorem Ob (ns:List Int):(sortI ns).Pairwise (· <= ·):=by
 have:=List.pairwise_mergeSort (le:=fun a b:Int=>decide (a <= b)) (fun a b c h1 h2=>by simp at *;omega) (fun a b=>by simp;omega) ns
 exact this.imp fun h=>by simpa using h
theorem EU:∀ {as bs:List Int},as.Perm bs->as.Pairwise (· <= ·)->bs.Pairwise (· <= ·)->as=bs
 | [],bs,p,_,_=>p.nil_eq
 | a :: as,[],p,_,_=>absurd p.length_eq (by simp)
 | a :: as,b :: bs,p,s,t=>by
  have e:a=b:=by
   have h1:a <= b:=by
    have hb:b∈a :: as:=p.mem_iff.mpr (UQ ..)
    rcases Vr.mp hb with h | h
    ·omega
    ·exact (WJ.mp s).1 b h
   have h2:b <= a:=by
    have ha:a∈b :: bs:=p.mem_iff.mp (UQ ..)
    rcases Vr.mp ha with h | h
    ·omega
    ·exact (WJ.mp t).1 a h
   omega
  subst e
  rw[EU (List.perm_cons a |>.mp p) (WJ.mp s).2 (WJ.mp t).2]
theorem zh {as bs:List Int} (p:as.Perm bs) (s:as.Pairwise (· <= ·)):as=sortI bs:=EU (p.trans (sortI_perm bs).symm) s (Ob bs)
noncomputable def cu:List D->(D->Prop)->Prop
 | [.lst ds],K=>K (.int ds.length)
 | [.tup ds],K=>K (.int ds.length)
 | [.str z],K=>z.length <= 1000/\K (.int z.length)
 | _,_=>False
noncomputable def vH:List D->(D->Prop)->Prop
 | [.lst ds],K=>K (.lst ds)
 | [.tup ds],K=>K (.lst ds)
 | _,_=>False
noncomputable def vI:List D->(D->Prop)->Prop
 | [.lst ds],K=>K (.tup ds)
 | [.tup ds],K=>K (.tup ds)
 | _,_=>False
noncomputable def mL:List D->(D->Prop)->Prop
 | [.lst ds],K=>match intsOf ds with
  | some ns=>ns.length < 64/\K (.lst ((sortI ns).map D.int))
  | none=>False
 | _,_=>False
noncomputable def qP:List D->Option (List Bool)
 | []=>some []
 | .bl b :: r=>match qP r with
  | some bs=>some (b :: bs)
  | none=>none
 | _=>none
theorem EV:∀ bs:List Bool,qP (bs.map D.bl)=some bs
 | []=>rfl
 | n :: r=>by show (match qP (r.map D.bl) with | some ns=>some (n :: ns) | none=>none)=_;rw[EV r]
theorem EW:∀ {ds:List D} {bs:List Bool},qP ds=some bs->ds=bs.map D.bl
 | [],ns,h=>by cases h;rfl
 | .bl i :: r,ns,h=>by
  unfold qP at h
  split at h
  ·rename_i ms e;cases h;rw[Vy,EW e]
  ·cases h
 | .non :: r,ns,h=>by cases h
 | .int _ :: r,ns,h=>by cases h
 | .str _ :: r,ns,h=>by cases h
 | .tup _ :: r,ns,h=>by cases h
 | .lst _ :: r,ns,h=>by cases h
theorem EX {F:Hp}:∀ {bs:List Bool} {vs:List V},ae F (bs.map D.bl) vs->vs=bs.map V.bl
 | [],vs,h=>by simp only[W8,ae] at h;exact h
 | n :: r,vs,h=>by
  simp only[Vy,ae] at h
  obtain⟨v,t,rfl,h1,h2⟩:=h
  have h1:v = .bl n:=h1
  rw[EX h2,h1];rfl
noncomputable def mM:List D->(D->Prop)->Prop
 | [.lst ds],K=>match qP ds with
  | some bs=>K (.bl (bs.all id))
  | none=>False
 | _,_=>False
noncomputable def tT:List D->(D->Prop)->Prop
 | [.int i,.int j],K=>K (.int (min i j))
 | _,_=>False
noncomputable def vJ:List D->(D->Prop)->Prop
 | [.int i,.int j],K=>K (.int (max i j))
 | _,_=>False
section
variable {X:Cx}
theorem cf {F H:Hp} {d:D} {xs:List V} (h:gH F H [d] xs):∃ v,xs=[v]/\gu F H d v:=by
 obtain⟨v,r,rfl,h1,h2⟩:=h
 have h2:r=[]:=h2
 subst h2
 exact⟨v,rfl,h1⟩
theorem EY {F H:Hp} {d e:D} {xs:List V} (h:gH F H [d,e] xs):∃ v w,xs=[v,w]/\gu F H d v/\gu F H e w:=by
 obtain⟨v,r,rfl,h1,h2⟩:=h
 obtain⟨w,rfl,h3⟩:=cf h2
 exact⟨v,w,rfl,h1,h3⟩
theorem g7:b8 X (.builtin "len") cu:=by
 rintro pins s σ H xs us Q I r ⟨F,ds,K,sub,rd,q,md⟩
 unfold cu at q
 split at q
 ·obtain⟨v,rfl,a,vs,rfl,h1,h2⟩:=cf rd
  exact Dq pins s σ H _ us Q I r ⟨a,vs,rfl,.inl (bq.of h1),by rw[h2.length];exact md _ _ _ q (fun _ _ e=>e) rfl⟩
 ·rename_i es
  obtain⟨v,rfl,h⟩:=cf rd
  have h:Is F (.tup es) v:=h
  simp only[Is] at h
  obtain⟨a,vs,rfl,h1,h2⟩:=h
  exact Dq pins s σ H _ us Q I r ⟨a,vs,rfl,.inr (bB.of (sub _ _ h1)),by rw[h2.length];exact md _ _ _ q (fun _ _ e=>e) rfl⟩
 ·rename_i z
  obtain⟨v,rfl,h⟩:=cf rd
  have h:v = .str z:=h
  subst h
  exact LI pins s σ H _ us Q I r ⟨z,rfl,j8 q.1,md _ _ _ q.2 (fun _ _ e=>e) rfl⟩
 ·exact q.elim
theorem Oc:b8 X (.type "list") vH:=by
 rintro pins s σ H xs us Q I r ⟨F,ds,K,sub,rd,q,md⟩
 unfold vH at q
 split at q
 ·obtain⟨v,rfl,a,vs,rfl,h1,h2⟩:=cf rd
  exact xH pins s σ H _ us Q I r ⟨a,vs,rfl,.inl (bq.of h1),fun l hl=>md _ _ _ q (cA hl) (lH sub hl h2)⟩
 ·rename_i es
  obtain⟨v,rfl,h⟩:=cf rd
  have h:Is F (.tup es) v:=h
  simp only[Is] at h
  obtain⟨a,vs,rfl,h1,h2⟩:=h
  exact xH pins s σ H _ us Q I r ⟨a,vs,rfl,.inr (bB.of (sub _ _ h1)),fun l hl=>md _ _ _ q (cA hl) (lH sub hl h2)⟩
 ·exact q.elim
theorem Od:b8 X (.type "tuple") vI:=by
 rintro pins s σ H xs us Q I r ⟨F,ds,K,sub,rd,q,md⟩
 unfold vI at q
 split at q
 ·obtain⟨v,rfl,a,vs,rfl,h1,h2⟩:=cf rd
  exact Dr pins s σ H _ us Q I r ⟨a,vs,rfl,.inl ⟨bq.of h1,fun l hl=>md _ _ _ q (cA hl) (vB sub hl h2)⟩⟩
 ·rename_i es
  obtain⟨v,rfl,h⟩:=cf rd
  have h0:Is F (.tup es) v:=h
  have h:Is F (.tup es) v:=h
  simp only[Is] at h
  obtain⟨a,vs,rfl,h1,h2⟩:=h
  exact Dr pins s σ H _ us Q I r ⟨a,vs,rfl,.inr ⟨bB.of (sub _ _ h1),md _ _ _ q (fun _ _ e=>e) (tN sub h0)⟩⟩
 ·exact q.elim
theorem zi:b8 X (.builtin "sorted") mL:=by
 rintro pins s σ H xs us Q I r ⟨F,ds,K,sub,rd,q,md⟩
 unfold mL at q
 split at q
 ·rename_i es
  split at q
  ·rename_i ns e
   obtain⟨v,rfl,a,vs,rfl,h1,h2⟩:=cf rd
   rw[tM e] at h2
   rw[lG h2] at h1
   refine Ei pins s σ H _ us Q I r ⟨a,ns,rfl,bq.of h1,q.1,fun l e8 pm pw hl => ?_⟩
   rw[zh pm pw]
   exact md _ _ _ q.2 (cA hl) (lH sub hl ku)
  ·exact q.elim
 ·exact q.elim
theorem Oe (hc:X.calm=true):b8 X (.builtin "all") mM:=by
 rintro pins s σ H xs us Q I r ⟨F,ds,K,sub,rd,q,md⟩
 unfold mM at q
 split at q
 ·rename_i es
  split at q
  ·rename_i bs e
   obtain⟨v,rfl,a,vs,rfl,h1,h2⟩:=cf rd
   rw[EW e] at h2
   rw[EX h2] at h1
   exact Nr hc pins s σ H _ us Q I r ⟨a,bs,rfl,bq.of h1,md _ _ _ q (fun _ _ e=>e) rfl⟩
  ·exact q.elim
 ·exact q.elim
theorem EZ (hc:X.calm=true):b8 X (.builtin "min") tT:=by
 rintro pins s σ H xs us Q I r ⟨F,ds,K,sub,rd,q,md⟩
 unfold tT at q
 split at q
 ·rename_i i j
  obtain⟨v,w,rfl,h1,h2⟩:=EY rd
  have h1:v = .int i:=h1
  have h2:w = .int j:=h2
  subst h1 h2
  refine K7 hc pins s σ H _ us Q I r ⟨i,j,rfl,?_⟩
  have:(if j < i then j else i)=min i j:=by split<;>omega
  rw[this]
  exact md _ _ _ q (fun _ _ e=>e) rfl
 ·exact q.elim
theorem Of (hc:X.calm=true):b8 X (.builtin "max") vJ:=by
 rintro pins s σ H xs us Q I r ⟨F,ds,K,sub,rd,q,md⟩
 unfold vJ at q
 split at q
 ·rename_i i j
  obtain⟨v,w,rfl,h1,h2⟩:=EY rd
  have h1:v = .int i:=h1
  have h2:w = .int j:=h2
  subst h1 h2
  refine K6 hc pins s σ H _ us Q I r ⟨i,j,rfl,?_⟩
  have:(if j > i then j else i)=max i j:=by split<;>omega
  rw[this]
  exact md _ _ _ q (fun _ _ e=>e) rfl
 ·exact q.elim
noncomputable def pP (fa:WA):WE:=fun δ K=>fa δ fun xs δ1=>match xs with
 | [.p (.int j)]=>(0 <= j/\j <= 1000)/\K (.p (.lst (bO 0 j.toNat))) δ1
 | _=>False
theorem jI (n:Nat):bO 0 n=(aL n).map D.int:=by
 unfold bO aL
 rw[Vz]
 refine Wm fun i _ => ?_
 show D.int (0 + (i:Int))=D.int (i:Int)
 rw[Zc]
theorem tU {a:Expr} {fa:WA} {p1 p2 q1 q2:Pos} (hc:X.calm=true) (tV:Gl X "list") (hl:X.mg "list" = none) (tW:bootBuiltins "list" = some (.type "list")) (mN:Gl X "range") (hr:X.mg "range" = none) (mO:bootBuiltins "range" = some (.type "range")) (ha:JA X [a] (bX fa))
  (he:starEach [a] X.env=[(false,eval a X.env)]:=by rfl) (tX:starEach [.Call (.Name "range" p2) [a] [] q2] X.env=[(false,eval (.Call (.Name "range" p2) [a] [] q2) X.env)]:=by rfl):JE X (.Call (.Name "list" p1) [.Call (.Name "range" p2) [a] [] q2] [] q1) (tD (pP fa)) :=
 (nK (Eg hc) tV hl tW (j5 (nK yH mN hr mO ha (he:=he)) bW) (he:=tX)).weak fun σ H Q h0_ => el7 h0_ fun F ad δ K S q k =>⟨F,ad,δ,_,S,q,fun xs δ1 h1 vs F1 aO H1 E1 S1 V1=>by
  split at h1
  ·rename_i j
   obtain⟨v,r,e,W1,W2⟩:=V1
   have W2:r=[]:=W2
   have W1:v = .int j:=W1
   subst W2 W1 e
   refine⟨j,rfl,fun rr tY=>⟨rr,j.toNat,rfl,by rw[bR,Int.toNat_of_nonneg h1.1.1],by omega,fun l hl => ?_⟩⟩
   have s1:aJ H1 (upd H1 rr (.rng 0 j)):=cA tY
   have S2:=S1.al s1
   have E2:=Ext.al S1 s1
   refine k _ _ h1.2 _ _ _ _ ((E1.trans E2).trans (Ext.al S2 (cA hl))) (S2.al (cA hl)) ?_
   have:Is (Nw (Nw F1 H1 (upd H1 rr (.rng 0 j))) (upd H1 rr (.rng 0 j)) (upd (upd H1 rr (.rng 0 j)) l (.lst ((aL j.toNat).map V.int)))) (.lst ((aL j.toNat).map D.int)) (.ref l):=lH S2.sub hl ku
   rw[jI]
   exact this
  ·exact h1.elim⟩
noncomputable def dU (T:String):D->(D->Prop)->Prop:=fun d K=>K (.bl (c5 (fM d) T))
theorem kA {T:String} {t:Str} {a:Expr} {f:WE} {p p2 pos:Pos} (hk:∀ d:D,PySem.W.kitOne X.K (.type (fM d)) (.type T)=some (c5 (fM d) T)) (hg:Gl X "isinstance") (hm:X.mg "isinstance" = none) (Og:Gl X t) (Oh:X.mg t=none) (Oi:bootBuiltins t=some (.type T)) (ha:JE X a (tD f))
  (sO:t ≠ "__name__" := by decide) (jP:(t == ("__debug__" : Str))=false:=by decide) (he:starEach [a,.Name t p2] X.env=(false,eval a X.env) :: starEach [.Name t p2] X.env:=by rfl):JE X (.Call (.Name "isinstance" p) [a,.Name t p2] [] pos) (tD (d1 f (dU T))) :=
 (u9 Mn hg hm PyProof.Rows.boot_isinstance (oZ ha (pb (MO Og Oh Oi (v := .ty T) rfl sO jP) bW) he) (he:=he)).weak fun σ H Q h0_ => el7 h0_ fun F ad δ K S q k =>⟨F,ad,δ,_,S,q,fun x δ1 h1 v F1 aO H1 E1 S1 V1=>by
  obtain⟨d,h2,rd⟩:=iH S1 V1 h1
  refine⟨v,.ty T,.type T,.type (fM d),_,rfl,rfl,Is.ty (rd.is S1.sub),hk d,k _ _ h2 _ _ _ _ E1 S1 rfl⟩⟩
theorem E5 {K:PySem.W.Frag}:∀ d:D,PySem.W.kitOne K (.type (fM d)) (.type "int")=some (c5 (fM d) "int"):=fun d=>Mq _ (u4 d)
theorem qQ {K:PySem.W.Frag}:∀ d:D,PySem.W.kitOne K (.type (fM d)) (.type "bool")=some (c5 (fM d) "bool"):=fun d=>Mp _ (u4 d)
theorem E6 {K:PySem.W.Frag}:∀ d:D,PySem.W.kitOne K (.type (fM d)) (.type "tuple")=some (c5 (fM d) "tuple"):=fun d=>kit_tuple _ (u4 d)
theorem Oj {K:PySem.W.Frag}:∀ d:D,PySem.W.kitOne K (.type (fM d)) (.type "list")=some (c5 (fM d) "list"):=fun d=>Mr _ (u4 d)
noncomputable def fB (x:DV) (δ : aF) (K:Nat->List D->Prop):Prop:=match x with
 | .o k=>match δ.mu[k]? with
  | some (some (.lst ds))=>K k ds
  | _=>False
 | _=>False
theorem pQ {F H:Hp} {ad:List Addr} {δ : aF} {σ : St} {x:DV} {v:V} {K:Nat->List D->Prop} (S:SR F ad δ σ H) (V1:e_ F ad x v) (h:fB x δ K):∃ k ds a vs,x = .o k/\K k ds/\v = .ref a/\ad[k]? = some a/\H a=some (.lst vs)/\ae F ds vs /\ δ.mu[k]? = some (some (.lst ds)):=by
 unfold fB at h
 split at h
 ·rename_i k
  split at h
  ·rename_i ds e
   obtain⟨a,e1,rfl⟩:=V1
   obtain⟨a',o,e2,e3,vs,rfl,h4⟩:=S.mu k _ e
   rw[e1] at e2;cases e2
   exact⟨k,ds,a,vs,rfl,h,rfl,e1,e3,h4,e⟩
  ·exact h.elim
 ·exact h.elim
noncomputable def ip (f:WE) (fa:WA):WE:=fun δ K=>f δ fun x δ1=>fB x δ1 fun _ _=>fa δ1 fun ys δ2=>match ys with
 | [y]=>lz y δ2 fun d δ3=>fB x δ3 fun k ds=>ds.length < 1000/\K (.p .non) ⟨δ3.sl,δ3.mu.set k (some (.lst (ds ++ [d])))⟩
 | _=>False
theorem vK {f:WE} {fa:WA} {K0:PySem.W.Frag}:∀ σ H Q,tD (ip f fa) σ H Q->sC K0 "list" Dv (tD f) (bX fa) σ H Q:=fun σ H Q h0_ => el7 h0_ fun F ad δ K S q k =>⟨F,ad,δ,_,S,q,fun x δ1 h1 v F1 aO H1 E1 S1 V1=>by
 obtain⟨k0,E7,a,vs,rfl,h2,rfl,e1,e2,i1,m1⟩:=pQ S1 V1 h1
 refine⟨.inl ⟨rfl,vs,bq.of e2⟩,F1,aO,δ1,_,S1,h2,fun ys δ2 h3 us F2 bK H2 E2 S2 V2 => ?_⟩
 match ys,h3,V2 with
 | [y],g3,⟨u,r,e,W1,W2⟩ =>
  have W3:r=[]:=W2
  subst W3 e
  obtain⟨d,δ3,F3,h4,E3,S3,i3⟩:=qF S2 W1 g3
  obtain⟨k1,ds,b,ws,ek,h5,eb,e3,e4,i4,m4⟩:=pQ (x := .o k0) S3 ((V1.ext E2).ext E3) h4
  cases ek
  have tZ:a=b:=by injection eb
  subst tZ
  have oi:eE F3 (.lst (ds ++ [d])) (.lst (ws ++ [u])):=⟨_,rfl,i4.snoc i3⟩
  refine⟨a,ws,u,rfl,rfl,e4,qu (by rw[i4.length];omega),?_⟩
  exact k _ _ h5.2 _ _ _ _ (((E1.trans E2).trans E3).trans (Ext.put S3 m4 e3)) (S3.put m4 e3 oi) rfl
 | [],g3,_=>exact g3.elim
 | _ :: _ :: _,g3,_=>exact g3.elim⟩
noncomputable def pR (f:WE) (fa:WA):WE:=fun δ K=>f δ fun x δ1=>fB x δ1 fun _ _=>fa δ1 fun ys δ2=>match ys with
 | [.p (.lst es)]=>fB x δ2 fun k ds=>ds.length + es.length <= 1000/\K (.p .non) ⟨δ2.sl,δ2.mu.set k (some (.lst (ds ++ es)))⟩
 | _=>False
theorem Ol {f:WE} {fa:WA} {K0:PySem.W.Frag}:∀ σ H Q,tD (pR f fa) σ H Q->sC K0 "list" Dw (tD f) (bX fa) σ H Q:=fun σ H Q h0_ => el7 h0_ fun F ad δ K S q k =>⟨F,ad,δ,_,S,q,fun x δ1 h1 v F1 aO H1 E1 S1 V1=>by
 obtain⟨k0,E7,a,vs,rfl,h2,rfl,e1,e2,i1,m1⟩:=pQ S1 V1 h1
 refine⟨.inl ⟨rfl,vs,bq.of e2⟩,F1,aO,δ1,_,S1,h2,fun ys δ2 h3 us F2 bK H2 E2 S2 V2 => ?_⟩
 split at h3
 ·rename_i es
  obtain⟨u,r,e,W1,W2⟩:=V2
  have W3:r=[]:=W2
  have W4:Is F2 (.lst es) u:=W1
  simp only[Is] at W4
  obtain⟨b,zs,rfl,z1,z2⟩:=W4
  subst W3 e
  obtain⟨k1,ds,b',ws,ek,h5,eb,e3,e4,i4,m4⟩:=pQ (x := .o k0) S2 (V1.ext E2) h3
  cases ek
  have tZ:a=b':=by injection eb
  subst tZ
  have oi:eE F2 (.lst (ds ++ es)) (.lst (ws ++ zs)):=⟨_,rfl,qN i4 z2⟩
  refine⟨a,b,ws,zs,rfl,rfl,e4,S2.sub _ _ z1,j8 (by rw[i4.length,z2.length];exact h5.1),?_⟩
  exact k _ _ h5.2 _ _ _ _ ((E1.trans E2).trans (Ext.put S2 m4 e3)) (S2.put m4 e3 oi) rfl
 ·exact h3.elim⟩
noncomputable def t4 (f:WE) (fa:WA):WE:=fun δ K=>f δ fun x δ1=>fB x δ1 fun _ _=>fa δ1 fun ys δ2=>match ys with
 | [.p (.int i)]=>fB x δ2 fun k ds=>(-(2 ^ 63) <= i/\i < 2 ^ 63)/\match seqIndex? i ds.length with
  | some j=>match ds[j]? with
   | some d=>K (.p d) ⟨δ2.sl,δ2.mu.set k (some (.lst (ds.eraseIdx j)))⟩
   | none=>False
  | none=>False
 | _=>False
theorem E8 {f:WE} {fa:WA} {K0:PySem.W.Frag}:∀ σ H Q,tD (t4 f fa) σ H Q->sC K0 "list" Dy (tD f) (bX fa) σ H Q:=fun σ H Q h0_ => el7 h0_ fun F ad δ K S q k =>⟨F,ad,δ,_,S,q,fun x δ1 h1 v F1 aO H1 E1 S1 V1=>by
 obtain⟨k0,E7,a,vs,rfl,h2,rfl,e1,e2,i1,m1⟩:=pQ S1 V1 h1
 refine⟨.inl ⟨rfl,vs,bq.of e2⟩,F1,aO,δ1,_,S1,h2,fun ys δ2 h3 us F2 bK H2 E2 S2 V2 => ?_⟩
 split at h3
 ·rename_i i
  obtain⟨u,r,e,W1,W2⟩:=V2
  have W3:r=[]:=W2
  have W4:u = .int i:=W1
  subst W3 W4 e
  obtain⟨k1,ds,b',ws,ek,⟨h5,h6⟩,eb,e3,e4,i4,m4⟩:=pQ (x := .o k0) S2 (V1.ext E2) h3
  cases ek
  have tZ:a=b':=by injection eb
  subst tZ
  split at h6
  ·rename_i j hj
   split at h6
   ·rename_i d hd
    obtain⟨w,g1,g2⟩:=qM i4 hd
    have oi:eE F2 (.lst (ds.eraseIdx j)) (.lst (ws.eraseIdx j)):=⟨_,rfl,EL j i4⟩
    refine⟨a,ws,i,j,w,rfl,rfl,e4,h5.1,h5.2,by rw[i4.length];exact hj,g1,?_⟩
    exact k _ _ h6 _ _ _ _ ((E1.trans E2).trans (Ext.put S2 m4 e3)) (S2.put m4 e3 oi) g2
   ·exact h6.elim
  ·exact h6.elim
 ·exact h3.elim⟩
noncomputable def pT (f fo fi:WE):WS:=fun K δ => f δ fun x δ1=>fo δ1 fun o δ2=>fi δ2 fun i δ3=>lz x δ3 fun d δ4=>fB o δ4 fun k ds=>match i with
 | .p (.int j)=>match iX ds.length j with
  | some m=>K.nx ⟨δ4.sl,δ4.mu.set k (some (.lst (ds.set m d)))⟩
  | none=>False
 | _=>False
theorem vL [lB] {f fo fi:WE}:∀ D σ H,dr (pT f fo fi) D σ H->gB (tD f) (oE (tD fo) (tD fi) Dp) D σ H:=fun D σ H h0_ => el7 h0_ fun F ad δ K S q k =>⟨F,ad,δ,_,S,q,fun x δ1 h1 v F1 aO H1 E1 S1 V1=>⟨F1,aO,δ1,_,S1,h1,fun o δ2 h2 ov F2 bK H2 E2 S2 V2=>⟨F2,bK,δ2,_,S2,h2,fun i δ3 h3 iv F3 pH H3 E3 S3 V3=>by
 obtain⟨d,δ4,F4,h4,E4,S4,i4⟩:=qF S3 ((V1.ext E2).ext E3) h3
 obtain⟨k0,ds,a,vs,rfl,h5,rfl,e1,e2,i1,m1⟩:=pQ S4 ((V2.ext E3).ext E4) h4
 split at h5
 ·rename_i j
  split at h5
  ·rename_i m hm
   have V3:iv = .int j:=V3
   subst V3
   have oi:eE F4 (.lst (ds.set m d)) (.lst (vs.set m v)):=⟨_,rfl,EK m i1 i4⟩
   refine⟨a,vs,j,m,rfl,rfl,e2,by rw[i1.length];exact hm,?_⟩
   exact k.nx _ h5 _ _ _ _ ((((E1.trans E2).trans E3).trans E4).trans (Ext.put S4 m1 e1)) (S4.put m1 e1 oi)
  ·exact h5.elim
 ·exact h5.elim⟩⟩⟩
end
end L2
namespace L2
open PySem PySem.Spec PyProof.Rows PySem.W
noncomputable abbrev LK:=List Int
noncomputable def kle (a b:LK):Prop:=HT.lexLt b a=false
theorem pU:∀ a:LK,HT.lexLt a a=false
 | []=>rfl
 | x :: r=>by rw[HT.l9,UO rfl];exact pU r
theorem t5:∀ {a b:LK},HT.lexLt a b=false->HT.lexLt b a=false->a=b
 | [],[],_,_=>rfl
 | [],_ :: _,h,_=>by cases h
 | _ :: _,[],_,h=>by cases h
 | x :: r,y :: s,h,q=>by
  rw[HT.l9] at h q
  by_cases c:x=y
  ·subst c
   rw[UO rfl] at h q
   rw[t5 h q]
  ·rw[LX c] at h
   rw[LX (fun z=>c z.symm)] at q
   simp at h q;omega
theorem qR:∀ {a b c:LK},HT.lexLt a b=true->HT.lexLt b c=true->HT.lexLt a c=true
 | [],[],_,h,_=>by cases h
 | [],_ :: _,[],_,q=>by cases q
 | [],_ :: _,_ :: _,_,_=>rfl
 | _ :: _,[],_,h,_=>by cases h
 | _ :: _,_ :: _,[],_,q=>by cases q
 | x :: r,y :: s,z :: t,h,q=>by
  rw[HT.l9] at h q ⊢
  by_cases c1:x=y
  ·subst c1
   rw[UO rfl] at h
   by_cases c2:x=z
   ·subst c2
    rw[UO rfl] at q ⊢
    exact qR h q
   ·rw[LX c2] at q ⊢;exact q
  ·rw[LX c1] at h
   by_cases c2:y=z
   ·subst c2
    rw[LX c1];exact h
   ·rw[LX c2] at q
    have h1:x < y:=by simpa using h
    have h2:y < z:=by simpa using q
    rw[LX (by omega)]
    simp;omega
theorem kle_refl (a:LK):kle a a:=pU a
theorem qT {a b:LK} (h:HT.lexLt a b=true):kle a b:=by
 unfold kle
 cases q:HT.lexLt b a with
 | false=>rfl
 | true=>have:=qR h q;rw[pU] at this;cases this
theorem kle_trans {a b c:LK} (h1:kle a b) (h2:kle b c):kle a c:=by
 unfold kle at *
 cases q:HT.lexLt c a with
 | false=>rfl
 | true =>
  cases q2:HT.lexLt a b with
  | true=>have:=qR q q2;rw[h2] at this;cases this
  | false =>
   have e:=t5 q2 h1
   subst e;rw[h2] at q;cases q
theorem Om {a b:LK} (h1:kle a b) (h2:kle b a):a=b:=t5 h2 h1
section
variable {n:Nat} {k:Nat->LK} {I:Shared->Prop} {cmp:Nat->Nat->(Bool->Shared->Prop)->Shared->Prop}
noncomputable def nU (n:Nat) (k:Nat->LK) (I:Shared->Prop) (cmp:Nat->Nat->(Bool->Shared->Prop)->Shared->Prop):Prop :=
 ∀ (i j:Nat) (C:Bool->Shared->Prop) (s:Shared),i < n->j < n->I s->(∀ s',I s'->C (HT.lexLt (k i) (k j)) s')->cmp i j C s
noncomputable def KA (k:Nat->LK) (p:Array Nat) (i:Nat):LK:=k (p.getD i 0)
structure cD (n:Nat) (p:Array Nat):Prop where
 perm:p.Perm (List.range n).toArray
theorem cD.size {p:Array Nat} (h:cD n p):p.size=n:=by have:=h.perm.size_eq;simpa using this
theorem cD.lt {p:Array Nat} (h:cD n p) {i:Nat} (hi:i < n):p.getD i 0 < n:=by
 have hs:=h.size
 have e:p.getD i 0=p[i]:=by simp[Array.getD,hs,hi]
 rw[e]
 have:p[i]∈(List.range n).toArray:=(h.perm.mem_iff).mp (Array.getElem_mem _)
 simpa using this
theorem t6 {p q:Array Nat} {i j:Nat} (h:p[i]? = q[j]?):p.getD i 0=q.getD j 0:=by
 rw[Wn,Wn,h]
theorem vM {p:Array Nat} {i j:Nat} (hj:j <= p.size) (t:Nat):KA k (kas_rev p i j) t=if i <= t/\t < j then KA k p (i + j - 1 - t) else KA k p t:=by
 have e:=getElem?_mirror_all (xs:=p) (i:=i) hj t
 unfold KA kas_rev
 by_cases c:i <= t/\t < j
 ·rw[UO c] at e ⊢;rw[t6 e]
 ·rw[LX c] at e ⊢;rw[t6 e]
theorem Oo {p:Array Nat} {src d:Nat} (hs:src < p.size) (hd:d <= src) (t:Nat) :
  KA k (bubble p src d) t=if t=src - d then KA k p src else if src - d < t/\t <= src then KA k p (t - 1) else KA k p t:=by
 have e:=getElem?_bubble hs d hd t
 unfold KA
 by_cases c:t=src - d
 ·rw[UO c] at e ⊢;rw[t6 e]
 ·rw[LX c] at e ⊢
  by_cases c2:src - d < t/\t <= src
  ·rw[UO c2] at e ⊢;rw[t6 e]
  ·rw[LX c2] at e ⊢;rw[t6 e]
noncomputable def Up (k:Nat->LK) (p:Array Nat) (m:Nat):Prop:=∀ i j,i <= j->j < m->kle (KA k p i) (KA k p j)
noncomputable def Dn (k:Nat->LK) (p:Array Nat) (m:Nat):Prop:=∀ i j,i <= j->j < m->kle (KA k p j) (KA k p i)
theorem Up.snoc {p:Array Nat} {m:Nat} (h:Up k p m) (hm:1 <= m) (q:kle (KA k p (m - 1)) (KA k p m)):Up k p (m + 1):=fun i j g8 hj=>by
 by_cases c:j < m
 ·exact h i j g8 c
 ·have e:j=m:=by omega
  subst e
  by_cases c2:i=j
  ·subst c2;exact kle_refl _
  ·exact kle_trans (h i (j - 1) (by omega) (by omega)) q
theorem Dn.snoc {p:Array Nat} {m:Nat} (h:Dn k p m) (hm:1 <= m) (q:kle (KA k p m) (KA k p (m - 1))):Dn k p (m + 1):=fun i j g8 hj=>by
 by_cases c:j < m
 ·exact h i j g8 c
 ·have e:j=m:=by omega
  subst e
  by_cases c2:i=j
  ·subst c2;exact kle_refl _
  ·exact kle_trans q (h i (j - 1) (by omega) (by omega))
theorem Up.one {p:Array Nat}:Up k p 1:=fun i j g8 hj=>by
 have:i=j:=by omega
 subst this;exact kle_refl _
theorem Dn.one {p:Array Nat}:Dn k p 1:=fun i j g8 hj=>by
 have:i=j:=by omega
 subst this;exact kle_refl _
theorem cD.rev {p:Array Nat} (h:cD n p) (i j:Nat):cD n (kas_rev p i j):=⟨(mirror_perm _ _ _ _).trans h.perm⟩
theorem cD.Oq {p:Array Nat} (h:cD n p) (i j:Nat):cD n (bubble p i j):=⟨(bubble_perm _ _ _).trans h.perm⟩
theorem E9 (hc:nU n k I cmp) {p:Array Nat} (hp:cD n p):∀ (f m:Nat) (s:Shared) (Q:Nat->Shared->Prop),1 <= m->m + f=n->Up k p m->I s →
  (∀ m' s',m <= m'->m' <= n->Up k p m'->I s'->Q m' s')->(kas_asc p f m).kasWp cmp Q s
 | 0,m,s,Q,h1,h2,up,hi,fin=>fin m s (uX _) (by omega) up hi
 | f + 1,m,s,Q,h1,h2,up,hi,fin=>by
  show cmp _ _ _ s
  refine hc _ _ _ s (hp.lt (by omega)) (hp.lt (by omega)) hi fun s' d5 => ?_
  cases q:HT.lexLt (k (p.getD m 0)) (k (p.getD (m - 1) 0)) with
  | true=>dsimp only;rw[UO rfl];exact fin m s' (uX _) (by omega) up d5
  | false =>
   dsimp only;rw[LX Vv]
   exact E9 hc hp f (m + 1) s' Q (by omega) (by omega) (up.snoc h1 q) d5 fun m' h8 a b c d=>fin m' h8 (by omega) b c d
noncomputable def zj (k:Nat->LK) (p:Array Nat) (m q:Nat):Prop:=∀ t,m - (q + 1) <= t->t < m->KA k p t=KA k p (m - 1)
theorem E_ {p:Array Nat} {m q:Nat} (hs:m <= p.size) (hq:q + 1 <= m) (e:zj k p m q) (t:Nat):KA k (kas_rev p (m - (q + 1)) m) t=KA k p t:=by
 rw[vM hs]
 split
 ·rename_i c
  rw[e _ (by omega) (by omega),e t c.1 c.2]
 ·rfl
theorem Dn.congr {p p':Array Nat} {m:Nat} (h:Dn k p m) (e:∀ t,KA k p' t=KA k p t):Dn k p' m:=fun i j a b=>by rw[e,e];exact h i j a b
theorem vN (hc:nU n k I cmp):∀ (f:Nat) (p:Array Nat) (m q:Nat) (s:Shared) (Q:Array Nat × Nat × Nat->Shared->Prop),cD n p->1 <= m->m + f=n->q + 1 <= m->Dn k p m->zj k p m q->I s →
  (∀ p' m' q' s',cD n p'->m <= m'->m' <= n->q' + 1 <= m'->Dn k p' m'->zj k p' m' q'->I s'->Q (p',m',q') s')->(kas_desc f p m q).kasWp cmp Q s
 | 0,p,m,q,s,Q,hp,h1,h2,hq,dn,es,hi,fin=>fin p m q s hp (uX _) (by omega) hq dn es hi
 | f + 1,p,m,q,s,Q,hp,h1,h2,hq,dn,es,hi,fin=>by
  show cmp _ _ _ s
  refine hc _ _ _ s (hp.lt (by omega)) (hp.lt (by omega)) hi fun s' d5 => ?_
  have sz:=hp.size
  cases c1:HT.lexLt (k (p.getD m 0)) (k (p.getD (m - 1) 0)) with
  | true =>
   dsimp only;rw[UO rfl]
   have st:kle (KA k p m) (KA k p (m - 1)):=qT c1
   by_cases Fb:q > 0
   ·rw[UO Fb]
    have e:=E_ (k:=k) (p:=p) (m:=m) (q:=q) (by omega) hq es
    refine vN hc f _ (m + 1) 0 s' Q (hp.rev _ _) (by omega) (by omega) (by omega) ((dn.snoc h1 st).congr e) (fun t a b => ?_) d5 fun p' m' q' h8 a b c d e g i=>fin p' m' q' h8 a (by omega) c d e g i
    have:t=m + 1 - 1:=by omega
    rw[this]
   ·rw[LX Fb]
    refine vN hc f p (m + 1) 0 s' Q hp (by omega) (by omega) (by omega) (dn.snoc h1 st) (fun t a b => ?_) d5 fun p' m' q' h8 a b c d e g i=>fin p' m' q' h8 a (by omega) c d e g i
    have:t=m + 1 - 1:=by omega
    rw[this]
  | false =>
   dsimp only;rw[LX Vv]
   show cmp _ _ _ s'
   refine hc _ _ _ s' (hp.lt (by omega)) (hp.lt (by omega)) d5 fun s2 mP => ?_
   cases c2:HT.lexLt (k (p.getD (m - 1) 0)) (k (p.getD m 0)) with
   | true=>dsimp only;rw[UO rfl];exact fin p m q s2 hp (uX _) (by omega) hq dn es mP
   | false =>
    dsimp only;rw[LX Vv]
    have eq:KA k p m=KA k p (m - 1):=t5 c1 c2
    refine vN hc f p (m + 1) (q + 1) s2 Q hp (by omega) (by omega) (by omega) (dn.snoc h1 (by rw[eq];exact kle_refl _)) (fun t a b => ?_) mP fun p' m' q' h8 a b c d e g i=>fin p' m' q' h8 a (by omega) c d e g i
    show KA k p t=KA k p m
    by_cases z:t=m
    ·rw[z]
    ·rw[es t (by omega) (by omega),eq]
theorem Dn.rev {p:Array Nat} {m:Nat} (h:Dn k p m) (hs:m <= p.size):Up k (kas_rev p 0 m) m:=fun i j g8 hj=>by
 rw[vM hs,vM hs,UO ⟨V6 _,by omega⟩,UO ⟨V6 _,hj⟩]
 exact h _ _ (by omega) (by omega)
theorem Fc (hc:nU n k I cmp) {p:Array Nat} (hp:cD n p) {m:Nat} {s:Shared} {Q:Nat × Array Nat->Shared->Prop} (h1:1 <= m) (hm:m <= n) (dn:Dn k p m) (hi:I s)
  (fin:∀ p' m' s',cD n p'->1 <= m'->m' <= n->Up k p' m'->I s'->Q (m',p') s'):(kas_tail3 m n p).kasWp cmp Q s:=by
 unfold kas_tail3
 rw[KasT.kasWp_bind]
 have sz:=hp.size
 refine E9 hc (hp.rev 0 m) (n - m) m s _ h1 (by omega) (dn.rev (by omega)) hi fun m' s' a b c d => ?_
 exact fin _ m' s' (hp.rev 0 m) (by omega) b c d
theorem Fd (hc:nU n k I cmp) {p:Array Nat} (hp:cD n p) {m:Nat} {s:Shared} {Q:Nat × Array Nat->Shared->Prop} (h1:1 <= m) (hm:m + 1 <= n) (dn:Dn k p (m + 1)) (hi:I s)
  (fin:∀ p' m' s',cD n p'->1 <= m'->m' <= n->Up k p' m'->I s'->Q (m',p') s'):(kas_descPart m n p).kasWp cmp Q s:=by
 unfold kas_descPart
 rw[KasT.kasWp_bind]
 refine vN hc (n - (m + 1)) p (m + 1) 0 s _ hp (by omega) (by omega) (by omega) dn (fun t a b => ?_) hi fun p' m' q' s' a b c d e g i => ?_
 ·have:t=m + 1 - 1:=by omega
  rw[this]
 ·have sz:=a.size
  dsimp only
  by_cases hq:q' > 0
  ·rw[UO hq]
   exact Fc hc (a.rev _ _) (by omega) c (e.congr (E_ (by omega) d g)) i fin
  ·rw[LX hq]
   exact Fc hc a (by omega) c e i fin
theorem Ot (hc:nU n k I cmp) {p:Array Nat} (hp:cD n p) {s:Shared} {Q:Nat × Array Nat->Shared->Prop} (h1:1 <= n) (hi:I s)
  (fin:∀ p' m' s',cD n p'->1 <= m'->m' <= n->Up k p' m'->I s'->Q (m',p') s'):(kas_count n p).kasWp cmp Q s:=by
 unfold kas_count
 rw[KasT.kasWp_bind]
 have sz:=hp.size
 have key:∀ (f m:Nat) (s:Shared) (Q':Nat->Shared->Prop),1 <= m->m + f=n->Up k p m->I s →
   (∀ m' s',m <= m'->m' <= n->Up k p m'->(m' < n->HT.lexLt (KA k p m') (KA k p (m' - 1))=true)->I s'->Q' m' s')->(kas_asc p f m).kasWp cmp Q' s:=by
  intro f
  induction f with
  | zero=>intro m s Q' a b up hi fin;exact fin m s (uX _) (by omega) up (fun z=>absurd z (by omega)) hi
  | succ f ih =>
   intro m s Q' a b up hi fin
   show cmp _ _ _ s
   refine hc _ _ _ s (hp.lt (by omega)) (hp.lt (by omega)) hi fun s' d5 => ?_
   cases q:HT.lexLt (k (p.getD m 0)) (k (p.getD (m - 1) 0)) with
   | true=>dsimp only;rw[UO rfl];exact fin m s' (uX _) (by omega) up (fun _=>q) d5
   | false =>
    dsimp only;rw[LX Vv]
    exact ih (m + 1) s' Q' (by omega) (by omega) (up.snoc a q) d5 fun m' h8 a b c d e=>fin m' h8 (by omega) b c d e
 refine key (n - 1) 1 s _ (uX _) (by omega) Up.one hi fun m s' a b up nx d5 => ?_
 by_cases c1:m=n
 ·subst c1
  rw[UO (by simp)]
  exact fin p m s' hp a (uX _) up d5
 ·rw[LX (by simpa using c1)]
  have d3:m < n:=by omega
  have nx:=nx d3
  by_cases c2:m > 1
  ·rw[UO c2]
   show cmp _ _ _ s'
   refine hc _ _ _ s' (hp.lt (by omega)) (hp.lt (by omega)) d5 fun s2 mP => ?_
   cases q:HT.lexLt (k (p.getD 0 0)) (k (p.getD (m - 1) 0)) with
   | true=>dsimp only;rw[UO rfl];exact fin p m s2 hp a b up mP
   | false =>
    dsimp only;rw[LX Vv]
    have al:∀ t,t < m->KA k p t=KA k p (m - 1):=fun t ht=>by
     refine Om (up t (m - 1) (by omega) (by omega)) (kle_trans q (up 0 t (V6 _) ht))
    have e:∀ t,KA k (kas_rev p 0 m) t=KA k p t:=fun t=>by
     rw[vM (by omega)]
     split
     ·rename_i c;rw[al _ (by omega),al t c.2]
     ·rfl
    refine Fd hc (hp.rev 0 m) (by omega) (by omega) (Dn.congr (p:=p) ?_ e) mP fin
    refine Dn.snoc (fun i j g8 hj => ?_) (by omega) (qT nx)
    rw[al i (by omega),al j hj];exact kle_refl _
  ·rw[LX c2]
   have:m=1:=by omega
   subst this
   exact Fd hc hp (by omega) (by omega) (Dn.one.snoc (uX _) (qT nx)) d5 fin
theorem zk (hc:nU n k I cmp) {p:Array Nat} (hp:cD n p) {t:Nat} (ht:t < n) (up:Up k p t):∀ (f l r:Nat) (s:Shared) (Q:Nat->Shared->Prop),l <= r->r <= t->r - l <= f →
  (∀ i,i < l->kle (KA k p i) (KA k p t))->(∀ i,r <= i->i < t->kle (KA k p t) (KA k p i))->I s →
  (∀ l' s',l' <= t->(∀ i,i < l'->kle (KA k p i) (KA k p t))->(∀ i,l' <= i->i < t->kle (KA k p t) (KA k p i))->I s'->Q l' s')->(kas_place p t f l r).kasWp cmp Q s
 | 0,l,r,s,Q,h1,h2,h3,lo,qU,hi,fin=>by
  have:l=r:=by omega
  subst this
  exact fin l s h2 lo qU hi
 | f + 1,l,r,s,Q,h1,h2,h3,lo,qU,hi,fin=>by
  unfold kas_place
  by_cases c:l ≥ r
  ·rw[UO c]
   have:l=r:=by omega
   subst this
   exact fin l s h2 lo qU hi
  ·rw[LX c]
   show cmp _ _ _ s
   refine hc _ _ _ s (hp.lt ht) (hp.lt (by omega)) hi fun s' d5 => ?_
   cases q:HT.lexLt (k (p.getD t 0)) (k (p.getD ((l + r) / 2) 0)) with
   | true =>
    dsimp only;rw[UO rfl]
    refine zk hc hp ht up f l ((l + r) / 2) s' Q (by omega) (by omega) (by omega) lo (fun i a b => ?_) d5 fin
    exact kle_trans (qT q) (up _ _ a b)
   | false =>
    dsimp only;rw[LX Vv]
    refine zk hc hp ht up f ((l + r) / 2 + 1) r s' Q (by omega) h2 (by omega) (fun i a => ?_) qU d5 fin
    exact kle_trans (up i ((l + r) / 2) (by omega) (by omega)) q
theorem Fe (hc:nU n k I cmp):∀ (f:Nat) (p:Array Nat) (t:Nat) (s:Shared) (Q:Array Nat->Shared->Prop),cD n p->t + f=n->Up k p t->I s →
  (∀ p' s',cD n p'->Up k p' n->I s'->Q p' s')->(kas_bin f p t).kasWp cmp Q s
 | 0,p,t,s,Q,hp,h2,up,hi,fin=>by
  have:t=n:=by omega
  subst this
  exact fin p s hp up hi
 | f + 1,p,t,s,Q,hp,h2,up,hi,fin=>by
  unfold kas_bin
  rw[KasT.kasWp_bind]
  have sz:=hp.size
  refine zk hc hp (by omega) up t 0 t s _ (V6 _) (uX _) (by omega) (fun i a=>absurd a (by omega)) (fun i a b=>absurd b (by omega)) hi fun l s' hl lo qU d5 => ?_
  refine Fe hc f _ (t + 1) s' Q (hp.Oq _ _) (by omega) (fun i j g8 hj => ?_) d5 fin
  have kb:=fun x=>Oo (k:=k) (p:=p) (src:=t) (d:=t - l) (by omega) (by omega) x
  have el:t - (t - l)=l:=by omega
  rw[kb i,kb j,el]
  by_cases c1:i=l
  ·subst c1
   rw[UO rfl]
   by_cases c2:j=i
   ·rw[UO c2];exact kle_refl _
   ·rw[LX c2,UO ⟨by omega,by omega⟩]
    exact qU (j - 1) (by omega) (by omega)
  ·rw[LX c1]
   by_cases c2:j=l
   ·subst c2
    rw[UO rfl,LX (by omega)]
    exact lo i (by omega)
   ·rw[LX c2]
    by_cases c3:l < i/\i <= t
    ·rw[UO c3,UO ⟨by omega,by omega⟩]
     exact up _ _ (by omega) (by omega)
    ·rw[LX c3]
     by_cases c4:l < j/\j <= t
     ·rw[UO c4];exact up _ _ (by omega) (by omega)
     ·rw[LX c4];exact up _ _ g8 (by omega)
theorem Ff (hc:nU n k I cmp) {s:Shared} {Q:Array Nat->Shared->Prop} (h1:1 <= n) (hi:I s) (fin:∀ p s',cD n p->Up k p n->I s'->Q p s'):(kas_sort n).kasWp cmp Q s:=by
 unfold kas_sort
 rw[KasT.kasWp_bind]
 refine Ot hc ⟨Zo _⟩ h1 hi fun p m s' a b c d e => ?_
 dsimp only
 by_cases q:m < n
 ·rw[UO q]
  have:max m 1=m:=by omega
  rw[this]
  exact Fe hc (n - m) p m s' Q a (by omega) d e fin
 ·rw[LX q]
  have:m=n:=by omega
  subst this
  exact fin p s' a d e
end
end L2
namespace L2
open PySem PySem.Spec PyProof.Rows
theorem Fg {δ0:aF} {bz:aF->Prop} {g:WG} {b:WS} {K:KS} (I:Nat->aF->Prop):∀ (items:List D) (i:Nat) (δ : aF),I i δ →
  (∀ j d δ (L:aF->Prop),items[j]? = some d->I (i + j) δ -> (∀ δ',I (i + j + 1) δ'->L δ')->bz δ /\ g (.p d) δ fun δ1=>b { nx:=fun δ2=>L (δ0.trim δ2),ct:=fun δ2=>L (δ0.trim δ2),bk:=K.nx,rt:=K.rt } δ1) →
  (∀ δ,I (i + items.length) δ -> bz δ /\ K.nx δ)->jD δ0 bz g b K items δ
 | [],i,δ,h,_,fin=>fin δ h
 | d :: r,i,δ,h,st,fin=>by
  unfold jD
  refine st 0 d δ (fun δ'=>jD δ0 bz g b K r δ') rfl h fun δ' hi => ?_
  refine Fg I r (i + 1) _ hi (fun j e δ L hj hI hL => ?_) fun δ hI => ?_
  ·have e:i + 1 + j=i + (j + 1):=by omega
   rw[e] at hI hL
   exact st (j + 1) _ δ L (by simpa using hj) hI hL
  ·exact fin δ (by rw[DE];have e:i + 1 + r.length=i + (r.length + 1):=by omega
                   rw[e] at hI;exact hI)
theorem kB {δ0:aF} {bz:aF->Prop} {g:WG} {b:WS} {K:KS} {items:List D} {δ : aF} (I:Nat->aF->Prop) (h0:I 0 δ)
  (st:∀ j d δ (L:aF->Prop),items[j]? = some d->I j δ -> (∀ δ',I (j + 1) δ'->L δ')->bz δ /\ g (.p d) δ fun δ1=>b { nx:=fun δ2=>L (δ0.trim δ2),ct:=fun δ2=>L (δ0.trim δ2),bk:=K.nx,rt:=K.rt } δ1)
  (fin:∀ δ,I items.length δ -> bz δ /\ K.nx δ):jD δ0 bz g b K items δ :=
 Fg I items 0 δ h0 (fun j d δ L hj hI hL=>by rw[VZ] at hI hL;exact st j d δ L hj hI hL) fun δ hI=>by rw[VZ] at hI;exact fin δ hI
noncomputable def t7 (δ0:aF) (bz:aF->Prop) (g:WG) (t:WT) (f:WE) (d:D) (acc:List D) (δ : aF) (L:List D->aF->Prop):Prop :=
 bz δ /\ g (.p d) δ fun δ1=>t δ1 fun b δ2=>if b=true then f δ2 fun x δ3=>lz x δ3 fun e δ4=>acc.length < 1000/\L (acc ++ [e]) (δ0.trim δ4) else L acc (δ0.trim δ2)
theorem Fh {δ0:aF} {bz:aF->Prop} {g:WG} {t:WT} {f:WE} {K:List D->aF->Prop} (I:Nat->List D->aF->Prop):∀ (items:List D) (i:Nat) (acc:List D) (δ : aF),I i acc δ →
  (∀ j d acc δ (L:List D->aF->Prop),items[j]? = some d->I (i + j) acc δ -> (∀ cy δ',I (i + j + 1) cy δ'->L cy δ')->t7 δ0 bz g t f d acc δ L) →
  (∀ acc δ,I (i + items.length) acc δ -> bz δ /\ K acc δ)->iL δ0 bz g t f K items acc δ
 | [],i,acc,δ,h,_,fin=>fin acc δ h
 | d :: r,i,acc,δ,h,st,fin=>by
  unfold iL
  refine st 0 d acc δ (fun cy δ'=>iL δ0 bz g t f K r cy δ') rfl h fun cy δ' hi => ?_
  refine Fh I r (i + 1) cy _ hi (fun j e acc δ L hj hI hL => ?_) fun acc δ hI => ?_
  ·have e:i + 1 + j=i + (j + 1):=by omega
   rw[e] at hI hL
   exact st (j + 1) _ acc δ L (by simpa using hj) hI hL
  ·exact fin acc δ (by rw[DE];have e:i + 1 + r.length=i + (r.length + 1):=by omega
                       rw[e] at hI;exact hI)
theorem vO {δ0:aF} {bz:aF->Prop} {g:WG} {t:WT} {f:WE} {K:List D->aF->Prop} {items:List D} {δ : aF} (I:Nat->List D->aF->Prop) (h0:I 0 [] δ)
  (st:∀ j d acc δ (L:List D->aF->Prop),items[j]? = some d->I j acc δ -> (∀ cy δ',I (j + 1) cy δ'->L cy δ')->t7 δ0 bz g t f d acc δ L)
  (fin:∀ acc δ,I items.length acc δ -> bz δ /\ K acc δ):iL δ0 bz g t f K items [] δ :=
 Fh I items 0 [] δ h0 (fun j d acc δ L hj hI hL=>by rw[VZ] at hI hL;exact st j d acc δ L hj hI hL) fun acc δ hI=>by rw[VZ] at hI;exact fin acc δ hI
theorem jg {δ0:aF} {bz:aF->Prop} {g:WG} {t:WT} {f:WE} {K:List D->aF->Prop} {items:List D} (p:D->Bool) (fn:D->D) (hl:items.length <= 1000) (hc:bz δ0)
  (st:∀ d∈items,∀ acc (L:List D->aF->Prop),acc.length < 1000->(p d=true->L (acc ++ [fn d]) δ0)->(p d=false->L acc δ0)->t7 δ0 bz g t f d acc δ0 L)
  (fin:K ((items.filter p).map fn) δ0):iL δ0 bz g t f K items [] δ0:=by
 refine vO (fun i acc δ => δ = δ0/\acc=((items.take i).filter p).map fn) ⟨rfl,rfl⟩ ?_ ?_
 ·rintro j d acc δ L hj ⟨rfl,rfl⟩ hL
  have d3:=(oW.mp hj).1
  have hm:d∈items:=VA hj
  have hn:(((items.take j).filter p).map fn).length < 1000:=by
   rw[oV]
   have:=Ym p (items.take j)
   rw[VM] at this;omega
  have e:items.take (j + 1)=items.take j ++ [d]:=by rw[Xq,hj];rfl
  refine st d hm _ L hn (fun q=>hL _ _ ⟨rfl,?_⟩) (fun q=>hL _ _ ⟨rfl,?_⟩)
  ·rw[e,List.filter_append,VC];simp[List.filter,q]
  ·rw[e,List.filter_append,VC];simp[List.filter,q]
 ·rintro acc δ ⟨rfl,rfl⟩
  rw[Wj (uX _)]
  exact⟨hc,fin⟩
theorem jJ {δ0:aF} {bz:aF->Prop} {g:WG} {t:WT} {f:WE} {K:List D->aF->Prop} {items:List D} (fn:D->D) (hl:items.length <= 1000) (hc:bz δ0)
  (st:∀ d∈items,∀ acc (L:List D->aF->Prop),acc.length < 1000->L (acc ++ [fn d]) δ0->t7 δ0 bz g t f d acc δ0 L)
  (fin:K (items.map fn) δ0):iL δ0 bz g t f K items [] δ0 :=
 jg (fun _=>true) fn hl hc (fun d hd acc L ha h _=>st d hd acc L ha (h rfl)) (by rw[YA.mpr fun _ _=>rfl];exact fin)
end L2
namespace LJ
open PySem L2
theorem pV:bootBuiltins "range" = some (.type "range"):=by decide +kernel
theorem vP:bootBuiltins "max" = some (.builtin "max"):=by decide +kernel
theorem zm:bootBuiltins "min" = some (.builtin "min"):=by decide +kernel
theorem pW:bootBuiltins "sorted" = some (.builtin "sorted"):=by decide +kernel
structure BT (mg:Str->Option Value):Prop where
 len:mg "len" = none
 range:mg "range" = none
 list:mg "list" = none
 tuple:mg "tuple" = none
 set:mg "set" = none
 sorted:mg "sorted" = none
 min:mg "min" = none
 max:mg "max" = none
 sum:mg "sum" = none
 all:mg "all" = none
 any:mg "any" = none
 enumerate:mg "enumerate" = none
 zip:mg "zip" = none
 isinstance:mg "isinstance" = none
 int:mg "int" = none
 bool:mg "bool" = none
 str:mg "str" = none
end LJ
namespace L2
open PySem PySem.Spec PyProof.Rows
variable [aM]
noncomputable def Fi (X:Cx) (f:Value) (g:List D->(List D->Prop)->Prop):Prop :=
 fX X f fun xs H Q=>∃ F ds K,aJ F H/\gH F H ds xs/\g ds K/\∀ zs vs a,K zs->H a=none->ae F zs vs->Q (.ref a) (upd H a (.lst vs))
noncomputable def vQ (fa:WA) (op:List D->(List D->Prop)->Prop):WE:=fun δ K=>fa δ fun xs δ1=>j7 xs δ1 fun ds=>op ds fun zs=>K (.o δ1.mu.length) ⟨δ1.sl,δ1.mu ++ [some (.lst zs)]⟩
noncomputable def vR:List D->(List D->Prop)->Prop
 | [.lst ds],K=>match intsOf ds with
  | some ns=>ns.length < 64/\K ((sortI ns).map D.int)
  | none=>False
 | _,_=>False
section
variable {X:Cx} {fa:WA} {pos:Pos}
theorem vS {F H:Hp} {ad:List Addr} {δ : aF} {σ : St} {p:Addr} (S:SR F ad δ σ H):e_ F (ad ++ [p]) (.o δ.mu.length) (.ref p) :=
 ⟨p,by rw[<-S.cb,Vu (uX _),Wa];rfl,rfl⟩
theorem Ou {r:List V->Hp->VK->Prop} {op:List D->(List D->Prop)->Prop} (hr:∀ xs H Q,(∃ F ds K,aJ F H/\gH F H ds xs/\op ds K/\∀ zs vs a,K zs->H a=none->ae F zs vs->Q (.ref a) (upd H a (.lst vs)))->r xs H Q):∀ σ H Q,tD (vQ fa op) σ H Q->qq r (bX fa) σ H Q:=by
 rintro σ H Q ⟨F,ad,δ,K,S,q,k⟩
 refine⟨F,ad,δ,_,S,q,fun xs δ1 h1 vs F1 aO H1 E1 S1 V1=>hr _ _ _ ?_⟩
 obtain⟨ds,h2,pe⟩:=vd S1 V1 h1
 refine⟨F1,ds,_,S1.sub,pe,h2,fun zs us a hz hp is => ?_⟩
 have oi:eE F1 (.lst zs) (.lst us):=⟨us,rfl,is⟩
 exact k _ _ hz _ _ _ _ (E1.trans (Ext.own S1 hp)) (S1.own hp oi) (vS S1)
theorem Ov {x:Str} {p:Pos} {e:Expr} {es:List Expr} {id:String} {o:List D->(List D->Prop)->Prop} (hc:Fi X (.builtin id) o) (hg:Gl X x) (hm:X.mg x=none) (hv:bootBuiltins x=some (.builtin id)) (ha:JA X (e :: es) (bX fa)) (hn:x ≠ "__name__" := by decide) (eA:(x == ("__debug__" : Str))=false:=by decide)
  (he:starEach (e :: es) X.env=(false,eval e X.env) :: starEach es X.env:=by rfl) (d4:(backTo pos (starEach es X.env)).any (·.1)=false:=by rfl):JE X (.Call (.Name x p) (e :: es) [] pos) (tD (vQ fa o)) :=
 (u9 hc hg hm hv ha hn eA he d4).weak (Ou fun _ _ _ h=>h)
theorem Ox:Fi X (.builtin "sorted") vR:=by
 rintro pins s σ H xs us Q I r ⟨F,ds,K,sub,rd,q,md⟩
 unfold vR at q
 split at q
 ·rename_i es
  split at q
  ·rename_i ns e
   obtain⟨v,rfl,a,vs,rfl,h1,h2⟩:=cf rd
   rw[tM e] at h2
   rw[lG h2] at h1
   refine Ei pins s σ H _ us Q I r ⟨a,ns,rfl,bq.of h1,q.1,fun l e8 pm pw hl => ?_⟩
   rw[zh pm pw]
   exact md _ _ _ q.2 hl ku
  ·exact q.elim
 ·exact q.elim
noncomputable def zo (fa:WA):WE:=fun δ K=>fa δ fun xs δ1=>match xs with
 | [.p (.int j)]=>(0 <= j/\j <= 1000)/\K (.o δ1.mu.length) ⟨δ1.sl,δ1.mu ++ [some (.lst (bO 0 j.toNat))]⟩
 | _=>False
theorem Oy {a:Expr} {p1 p2 q1 q2:Pos} (hc:X.calm=true) (tV:Gl X "list") (hl:X.mg "list" = none) (tW:bootBuiltins "list" = some (.type "list")) (mN:Gl X "range") (hr:X.mg "range" = none) (mO:bootBuiltins "range" = some (.type "range")) (ha:JA X [a] (bX fa))
  (he:starEach [a] X.env=[(false,eval a X.env)]:=by rfl) (tX:starEach [.Call (.Name "range" p2) [a] [] q2] X.env=[(false,eval (.Call (.Name "range" p2) [a] [] q2) X.env)]:=by rfl):JE X (.Call (.Name "list" p1) [.Call (.Name "range" p2) [a] [] q2] [] q1) (tD (zo fa)) :=
 (nK (Eg hc) tV hl tW (j5 (nK yH mN hr mO ha (he:=he)) bW) (he:=tX)).weak fun σ H Q h0_ => el7 h0_ fun F ad δ K S q k =>⟨F,ad,δ,_,S,q,fun xs δ1 h1 vs F1 aO H1 E1 S1 V1=>by
  split at h1
  ·rename_i j
   obtain⟨v,r,e,W1,W2⟩:=V1
   have W2:r=[]:=W2
   have W1:v = .int j:=W1
   subst W2 W1 e
   refine⟨j,rfl,fun rr tY=>⟨rr,j.toNat,rfl,by rw[bR,Int.toNat_of_nonneg h1.1.1],by omega,fun l hl => ?_⟩⟩
   have s1:aJ H1 (upd H1 rr (.rng 0 j)):=cA tY
   have S2:=S1.al s1
   have E2:=Ext.al S1 s1
   have oi:eE (Nw F1 H1 (upd H1 rr (.rng 0 j))) (.lst (bO 0 j.toNat)) (.lst ((aL j.toNat).map V.int)):=⟨_,rfl,by rw[jI];exact ku⟩
   exact k _ _ h1.2 _ _ _ _ ((E1.trans E2).trans (Ext.own S2 hl)) (S2.own hl oi) (vS S2)
  ·exact h1.elim⟩
noncomputable def zp (f g:WE):WE:=fun δ K=>f δ fun x δ1=>g δ1 fun y δ2=>gY x δ2 fun d=>gY y δ2 fun e=>match d,e with
 | .lst a,.lst b=>a.length + b.length <= 1000/\K (.o δ2.mu.length) ⟨δ2.sl,δ2.mu ++ [some (.lst (a ++ b))]⟩
 | _,_=>False
theorem Oz {a b:Expr} {f g:WE} (ha:JE X a (tD f)) (hb:JE X b (tD g)):JE X (.BinOp a .Add b pos) (tD (zp f g)) :=
 (sV DA ha hb).weak fun σ H Q h0_ => el7 h0_ fun F ad δ K S q k =>⟨F,ad,δ,_,S,q,fun x δ1 h1 v1 F1 aO H1 E1 S1 V1=>⟨F1,aO,δ1,_,S1,h1,fun y δ2 h2 v2 F2 bK H2 E2 S2 V2=>by
  obtain⟨d,h3,rd⟩:=iH S2 (V1.ext E2) h2
  obtain⟨e,h4,re⟩:=iH S2 V2 h3
  split at h4
  ·rename_i as bs
   obtain⟨a,us,rfl,g1,g2⟩:=rd
   obtain⟨b,ws,rfl,g3,g4⟩:=re
   have oi:eE F2 (.lst (as ++ bs)) (.lst (us ++ ws)):=⟨_,rfl,qN g2 g4⟩
   exact⟨a,b,us,ws,rfl,rfl,g1,g3,j8 (by rw[g2.length,g4.length];exact h4.1),fun p hp=>k _ _ h4.2 _ _ _ _ ((E1.trans E2).trans (Ext.own S2 hp)) (S2.own hp oi) (vS S2)⟩
  ·exact h4.elim⟩⟩
theorem zq [lB] {st:Stmt}:JS X st (dr pB):=⟨fun pins s D σ H I q=>by obtain⟨F,ad,δ,K,S,q,k⟩:=q;exact q.elim⟩
end
end L2
namespace LJS
open PySem PySem.SetTable PyProof.Rows
section
variable {prog:Program} {w:World} {A:Around} {S:Addr} {ks:List Int}
end
end LJS
namespace L2
open PySem PySem.Spec PyProof.Rows
section
variable {X:Cx}
end
end L2
namespace LJS
open PySem PySem.SetTable PyProof.Rows
section
variable {t:SetTable} {f:Nat->Int} {h:Int}
end
section
variable {hk:Nat->Int} {ad:Nat->Addr} {t:SetTable} {es:Array (Int × Value)} {js:List Nat}
end
section
variable {prog:Program} {w:World} {A:Around} {E:Value->Shared->Prop} {s:Shared} {ad:Nat->Addr} {ks:Nat->List Int} {js:List Nat} {S:Addr}
end
section
variable {prog:Program} {w:World} {A:Around} {R:Result->Shared->Prop} {I S:Addr} {fp wr:List Addr} {G:Array GenState->Array GenState->Prop} {n:Nat} {P:Nat->Value->Prop} {St:Nat->Shared->Prop}
end
section
variable {prog:Program} {w:World} {A:Around} {E:Value->Shared->Prop} {s:Shared}
end
end LJS
namespace L2
open PySem PySem.Spec PyProof.Rows
variable [aM]
section
variable {X:Cx} {fa:WA}
theorem Fj {F:Hp}:∀ {ps:List (Int × Int)} {vs:List V},ae F (ps.map fun p=>D.tup [.int p.1,.int p.2]) vs->∃ as:List Addr,vs=as.map V.ref/\as.length=ps.length/\∀ (i:Nat) (a:Addr) (k:Int × Int),as[i]? = some a->ps[i]? = some k->F a=some (.tup [.int k.1,.int k.2])
 | [],vs,h=>by
  have h:vs=[]:=by simpa only [W8,ae] using h
  subst h
  exact⟨[],rfl,rfl,fun i a k e=>by simp at e⟩
 | p :: r,vs,h=>by
  rw[Vy] at h
  simp only[ae] at h
  obtain⟨v,r',rfl,h1,h2⟩:=h
  obtain⟨as,rfl,hl,g⟩:=Fj h2
  simp only[Is] at h1
  obtain⟨a,us,rfl,e1,e2⟩:=h1
  simp only[ae,Is] at e2
  obtain⟨_,_,rfl,rfl,_,_,rfl,rfl,rfl⟩:=e2
  refine⟨a :: as,rfl,by rw[DE,DE,hl],fun i b k eb ek => ?_⟩
  cases i with
  | zero =>
   cases (show some a=some b by simpa using eb)
   cases (show some p=some k by simpa using ek)
   exact e1
  | succ i=>exact g i b k (by simpa using eb) (by simpa using ek)
end
end L2
namespace HT
open PySem PySem.Spec PyProof.Rows
section
variable {prog:Program} {w:World} {A:Around} {E:Value->Shared->Prop} {s:Shared}
theorem OA {t b:Addr} {ws:List Value} {Q:Value->Shared->Prop} (ht:IsTup s.heap t #[]) (hb:IsTup s.heap b ws.toArray) (h:Q (.ref b) s):wpAny (model prog w) A (binaryOp .Add (.ref t) (.ref b)) Q E s:=by
 obtain⟨⟨cls,dd,data,sl⟩,ho,hc,n,hd⟩:=id ht
 obtain⟨⟨ma,gR,data2,gT⟩,dI,eK,n2,hd2⟩:=id hb
 simp only at hc hd eK hd2
 subst hc hd eK hd2
 exact concat_meets ⟨_,ho,rfl⟩ ⟨_,dI,rfl⟩ YZ seq_tuple_add Yh Ya (XW _ _)
  (tuple_addW0 t b #[] ws.toArray n n2 dd gR sl gT rfl) ⟨ho,dI,h⟩
theorem OB {t sl:Addr} {items:Array Value} {vl vu:Value} {lo hi:Option Int} {Q:Value->Shared->Prop} (ht:IsTup s.heap t items) (hs:s.heap.IsSliceOf sl vl vu .none) (pl:IsPart vl lo) (pu:IsPart vu hi)
  (hw:a8 items.size 0 lo=0/\a8 items.size items.size hi=items.size) (h:Q (.ref t) s):wpAny (model prog w) A (getItem (.ref t) (.ref sl)) Q E s:=by
 obtain⟨os,iW,me,lj⟩:=id hs
 have sA:s.TypeIs (.ref sl) "slice" := ⟨os,iW,me⟩
 unfold getItem
 try with_reducible refine VG ?_
 first | refine mq (xR ?_) | skip
 refine mq (YN ht.typeIs (by decide) ?_)
 refine mq (W5 (name:=Str.ofString "__getitem__") ht.typeIs VD
  (Xp VD ht.typeIs Yz ?_ (args_tuple_getitem _ _)))
 show wpAny _ _ (Builtin.Tuple.tupleItemsOf (.ref t) >>= _) _ _ s
 refine mq (tupleItemsOf_ ht ?_)
 refine mq (Y7 sA ?_)
 rw[UO (by decide)]
 refine mq (Dg hs pl pu ?_)
 show wpAny _ _ (if (((a8 items.size 0 lo:Nat):Int) == 0 && (1:Int) == 1 && (a8 items.size items.size hi - a8 items.size 0 lo) == items.size)=true then _ else _) _ _ s
 rw[UO (by rw[hw.1,hw.2];simp)]
 unfold Builtin.Tuple.tupleIsExact
 refine mq (mq (Y7 ht.typeIs (xR ?_)))
 rw[UO (by decide)]
 refine mq (Ze ?_)
 exact xR ⟨_,rfl,xR h⟩
theorem OC {sl:Addr} {n:Nat} {t:Tok} {Q:Int × Int × Nat->Shared->Prop} (hs:s.heap.IsSliceOf sl .none .none (.int (-1) t))
  (h:Q ((n:Int) - 1,-1,n) s):wpAny (model prog w) A (Builtin.Slice.sliceApplied (.ref sl) (pure (n:Int))) Q E s:=by
 obtain⟨os,iW,me,lj⟩:=id hs
 unfold Builtin.Slice.sliceApplied Builtin.Slice.sliceFields
 refine mq (mq (Xi iW lj (x := .none) rfl (mq (Xi iW lj (x := .none) rfl (mq (Xi iW lj (x := .int (-1) t) rfl (xR ?_)))))))
 refine mq (sy (.int (-1) t) ?_)
 show wpAny _ _ (if ((-1:Int) == 0)=true then _ else _) _ _ s
 rw[LX (by decide)]
 refine mq (sy .none (mq (sy .none (mq (xR ?_)))))
 refine xR ?_
 have e:Builtin.Slice.slicePlaces ((n:Int) - 1) (-1) (-1)=n:=by
  unfold Builtin.Slice.slicePlaces
  rw[LX (by decide)]
  split
  ·rename_i c
   rw[show -(-1:Int)=1 by decide,ZN];omega
  ·omega
 show Q ((n:Int) - 1,-1,Builtin.Slice.slicePlaces ((n:Int) - 1) (-1) (-1)) s
 rw[e];exact h
theorem OD {t sl:Addr} {aq:List Value} {tk:Tok} {Q:Value->Shared->Prop} (ht:IsTup s.heap t aq.toArray) (hs:s.heap.IsSliceOf sl .none .none (.int (-1) tk))
  (h:Q (.ref s.heap.objs.size) { s with heap:=s.heap.push { cls := .type "tuple",data := .seq aq.reverse.toArray } }) (hsz:aq.length <= sizeLine):wpAny (model prog w) A (getItem (.ref t) (.ref sl)) Q E s:=by
 have dm:sizeOk (.seq aq.reverse.toArray):=by
  show aq.reverse.toArray.size <= sizeLine
  rw[sD,XS];exact hsz
 obtain⟨os,iW,me,lj⟩:=id hs
 have sA:s.TypeIs (.ref sl) "slice" := ⟨os,iW,me⟩
 unfold getItem
 try with_reducible refine VG ?_
 first | refine mq (xR ?_) | skip
 refine mq (YN ht.typeIs (by decide) ?_)
 refine mq (W5 (name:=Str.ofString "__getitem__") ht.typeIs VD
  (Xp VD ht.typeIs Yz ?_ (args_tuple_getitem _ _)))
 show wpAny _ _ (Builtin.Tuple.tupleItemsOf (.ref t) >>= _) _ _ s
 refine mq (tupleItemsOf_ ht ?_)
 refine mq (Y7 sA ?_)
 rw[UO (by decide)]
 refine mq (OC hs ?_)
 show wpAny _ _ (if ((((aq.toArray.size:Int) - 1)) == 0 && (-1:Int) == 1 && aq.toArray.size == aq.toArray.size)=true then _ else _) _ _ s
 rw[LX (by simp)]
 have e:((List.range aq.toArray.size).filterMap fun (k:Nat)=>aq.toArray[((aq.toArray.size:Int) - 1 + (k:Int) * -1).toNat]?).toArray=aq.reverse.toArray:=by
  congr 1
  rw[sD]
  refine Xe fun i => ?_
  have all:∀ k∈List.range aq.length,((aq.toArray[((aq.length:Int) - 1 + (k:Int) * -1).toNat]?)).isSome=true:=fun k hk=>by
   have:=VJ.mp hk
   rw[WX,oU (by omega)];rfl
  have fm:∀ l:List Nat,(∀ k∈l,((aq.toArray[((aq.length:Int) - 1 + (k:Int) * -1).toNat]?)).isSome=true)->∀ i:Nat,(l.filterMap fun (k:Nat)=>aq.toArray[((aq.length:Int) - 1 + (k:Int) * -1).toNat]?)[i]? = (l[i]?).bind fun k=>aq.toArray[((aq.length:Int) - 1 + (k:Int) * -1).toNat]? := by
   intro l
   induction l with
   | nil=>intro _ i;simp
   | cons k r ih =>
    intro hk i
    obtain⟨v,hv⟩:=WZ.mp (hk k UQ)
    rw[XR,hv]
    dsimp only
    cases i with
    | zero=>exact hv.symm
    | succ i=>simpa using ih (fun k' eX=>hk k' (Vs _ eX)) i
  rw[fm _ all]
  by_cases c:i < aq.length
  ·rw[Wv c,List.getElem?_reverse c]
   show aq.toArray[((aq.length:Int) - 1 + (i:Int) * -1).toNat]? = _
   rw[WX]
   congr 1
   omega
  ·rw[VN (by rw[VL];omega),VN (by rw[XS];omega)];rfl
 rw[e]
 first
  | exact mq (m:=Builtin.Tuple.tupleExact _) (V7 (xR ⟨_,rfl,xR h⟩) dm)
  | exact mq (m:=Builtin.Tuple.tupleExact _) (V7 (mq (xR (xR ⟨_,rfl,xR h⟩))) dm)
  | exact mq (mq (m:=Builtin.Tuple.tupleExact _) (V7 (xR (xR ⟨_,rfl,xR h⟩)) dm))
  | exact mq (mq (m:=Builtin.Tuple.tupleExact _) (V7 (xR ⟨_,rfl,xR h⟩) dm))
end
end HT
namespace L2
open PySem PySem.Spec PyProof.Rows
variable [aM]
section
variable {X:Cx} {e:Expr} {te:TE} {pos p2 p3 p4:Pos}
noncomputable def OE (K:PySem.W.Frag):V->Option Int->Option Int->Hp->VK->Prop:=fun x lo hi H Q=>∃ a xs,x = .ref a/\bB K H a xs ∧
 (HT.a8 xs.length 0 lo=0/\HT.a8 xs.length xs.length hi=xs.length->Q (.ref a) H)/\(¬ (HT.a8 xs.length 0 lo=0/\HT.a8 xs.length xs.length hi=xs.length)->∀ p,H p=none->Q (.ref p) (upd H p (.tup (cL xs lo hi))))
theorem OF:mf X (OE X.K):=by
 intro pins s σ H x v vl vu lo hi sl Q I rx hs pl pu h
 obtain⟨a,xs,rfl,hx,q1,q2⟩:=h
 by_cases hw:HT.a8 xs.length 0 lo=0/\HT.a8 xs.length xs.length hi=xs.length
 ·cases rx
  obtain⟨aq,r,ht,hz⟩:=I.tuple hx
  have hlen:aq.toArray.size=xs.length:=by rw[sD];exact r.length.symm
  refine⟨"tuple",_,VD.lookup,ht.typeIs,?_⟩
  exact HT.OB ht hs pl pu (by rw[hlen];exact hw) ⟨.ref a,H,I,rfl,q1 hw⟩
 ·exact Lw pins s σ H _ v vl vu lo hi sl Q I rx hs pl pu ⟨a,xs,rfl,hx,hw,q2 hw⟩
noncomputable def OG (K:PySem.W.Frag) (te:TE):TE:=fun σ H Q=>te σ H fun x H1=>(∃ a xs,x = .ref a/\bq K H1 a xs/\∀ p,H1 p=none->Q (.ref p) (upd H1 p (.lst xs.reverse)))\/∃ a xs,x = .ref a/\bB K H1 a xs/\∀ p,H1 p=none->Q (.ref p) (upd H1 p (.tup xs.reverse))
theorem OH {j1} (he:JE X e te):JE X (.Subscript e (.Slice none none (some (.UnaryOp .USub (.Constant (.int 1) j1 p3) p4)) p2) pos) (OG X.K te):=by
 refine⟨?_⟩
 intro pins s σ H Q I h
 refine Subscript_ (aZ (he.out pins s σ H _ I h) fun v s1 h0_ => el5 h0_ fun x H1 I1 r1 q1 => ?_)
 refine wpAny_Slice ?_
 rw[evalPart_none]
 refine xR ?_
 refine xR ?_
 rw[evalPart_some]
 have h1:=CV (X:=X) CY (CC (X:=X) (i:=1) (j:=j1) (pos:=p3)) (pos:=p4) pins s1 σ H1 (fun v H2=>v = .int (-1)/\H2=H1) I1 ⟨1,rfl,rfl,rfl⟩
 refine aZ h1 fun u s3 ⟨y,H3,I3,ry,ey,eH⟩ => ?_
 subst ey eH
 obtain⟨t,rfl⟩:=ry
 have I4:Inv X pins σ H3 { s3 with heap:=s3.heap.push { cls := .type "slice",data := .fields #[.none,.none,.int (-1) t] } }:=I3.kept (t':=s3.toks) fun b ob q=>qt _ q
 rcases q1 with⟨a,xs,rfl,hx,q⟩ | ⟨a,xs,rfl,hx,q⟩
 ·cases r1
  obtain⟨aq,r,ht,hz⟩:=I4.list hx
  have hlen:=r.length
  refine tail_any (ops:=[.ref a,.ref s3.heap.objs.size]) ht.isList.typeIs YO.lookup ?_ (by with_unfolding_all rfl)
  refine wpAny_getItem_list_slice ht.isList (YK ..) .none .none (.int (-1) t) (by decide) ?_ (by rw[sD]<;>omega)
  rw[NA]
  refine⟨.ref _,_,I4.laid (t':=s3.toks) (o := .lst xs.reverse) (fun b ob q=>qt _ q) (uX _) ?_,rfl,q _ (I4.aN.fresh (uX _))⟩
  exact⟨by rw[XS];exact hz,_,0,yL r,Vq _ rfl⟩
 ·cases r1
  obtain⟨aq,r,ht,hz⟩:=I4.tuple hx
  have hlen:=r.length
  refine tail_any (ops:=[.ref a,.ref s3.heap.objs.size]) ht.typeIs VD.lookup ?_ (by with_unfolding_all rfl)
  refine HT.OD ht (YK ..) ?_ (by omega)
  refine⟨.ref _,_,I4.laid (t':=s3.toks) (o := .tup xs.reverse) (fun b ob q=>qt _ q) (uX _) ?_,rfl,q _ (I4.aN.fresh (uX _))⟩
  exact⟨by rw[XS];exact hz,_,yL r,IsTup.new _ _⟩
theorem OI:cG X (binaryOp .Add) (fun x y H Q=>∃ a b ys,x = .ref a/\y = .ref b/\bB X.K H a []/\bB X.K H b ys/\Q (.ref b) H):=by
 intro pins s σ H x y v u Q I rx ry h
 obtain⟨a,b,ys,rfl,rfl,ha,hb,q⟩:=h
 cases rx
 cases ry
 obtain⟨aq,r1,p1,_⟩:=I.tuple ha
 obtain⟨br,r2,p2,_⟩:=I.tuple hb
 have:aq=[]:=r1.eM.mpr rfl
 subst this
 exact HT.OA p1 p2 ⟨.ref b,H,I,rfl,q⟩
theorem OJ:cG X (compareOp .Is) (fun x y H Q=>∃ a b,x = .bl a/\y = .bl b/\Q (.bl (a == b)) H):=by
 intro pins s σ H x y v u Q I rx ry h
 obtain⟨a,b,rfl,rfl,q⟩:=h
 cases rx
 cases ry
 exact xR ⟨.bl (a == b),H,I,by cases a<;>cases b<;>rfl,q⟩
theorem OK:cG X (compareOp .IsNot) (fun x y H Q=>∃ a b,x = .bl a/\y = .bl b/\Q (.bl (!(a == b))) H):=by
 intro pins s σ H x y v u Q I rx ry h
 obtain⟨a,b,rfl,rfl,q⟩:=h
 cases rx
 cases ry
 exact xR ⟨.bl (!(a == b)),H,I,by cases a<;>cases b<;>rfl,q⟩
noncomputable def bZ:D->D->(D->Prop)->Prop
 | .int i,.int j,K=>K (.int (i + j))
 | .lst a,.lst b,K=>a.length + b.length <= 1000/\K (.lst (a ++ b))
 | .tup a,.tup b,K=>a.length + b.length <= 1000/\K (.tup (a ++ b))
 | .str a,.str b,K=>a.length + b.length <= 1000/\K (.str (a ++ b))
 | _,_,_=>False
theorem cE:d7 X (binaryOp .Add) bZ:=by
 rintro pins s σ H x y v u Q I rx ry ⟨F,d,e,K,sub,rd,re,q,md⟩
 unfold bZ at q
 split at q
 ·exact vD pins s σ H x y v u Q I rx ry ⟨F,_,_,K,sub,rd,re,q,md⟩
 ·exact vD pins s σ H x y v u Q I rx ry ⟨F,_,_,K,sub,rd,re,q,md⟩
 ·rename_i as bs
  by_cases c:as=[]
  ·subst c
   have cf:Is F (.tup []) x:=rd
   have gL:Is F (.tup bs) y:=re
   have OL:=gL
   simp only[Is] at cf gL
   obtain⟨a,us,rfl,h1,h2⟩:=cf
   obtain⟨b,ws,rfl,h3,h4⟩:=gL
   have:us=[]:=by simpa only [ae] using h2
   subst this
   exact OI pins s σ H _ _ v u Q I rx ry ⟨a,b,ws,rfl,rfl,bB.of (sub _ _ h1),bB.of (sub _ _ h3),md _ _ _ q.2 (fun _ _ e=>e) (tN sub OL)⟩
  ·exact vD pins s σ H x y v u Q I rx ry ⟨F,_,_,K,sub,rd,re,⟨⟨c,q.1⟩,q.2⟩,md⟩
 ·exact vD pins s σ H x y v u Q I rx ry ⟨F,_,_,K,sub,rd,re,q,md⟩
 ·exact q.elim
noncomputable def pX:D->Option Int->Option Int->(D->Prop)->Prop
 | .lst ds,lo,hi,K=>K (.lst (cutD ds lo hi))
 | .tup ds,lo,hi,K=>K (.tup (cutD ds lo hi))
 | _,_,_,_=>False
noncomputable def c_ (f:WE) (l h:WO):WE:=fun δ K=>f δ fun x δ1=>l δ1 fun lo δ2=>h δ2 fun hi δ3=>gY x δ3 fun d=>pX d lo hi fun z=>K (.p z) δ3
theorem OM {ds:List D} {lo hi:Option Int} (h:HT.a8 ds.length 0 lo=0/\HT.a8 ds.length ds.length hi=ds.length):cutD ds lo hi=ds:=by
 unfold cutD
 rw[h.1,h.2,ZA,Nat.sub_zero,Wj (uX _)]
theorem kC {e:Expr} {f:WE} {lo hi:Option Expr} {l h:WO} {pos p2:Pos} (he:JE X e (tD f)) (hl:PO X lo (vF l)) (hh:PO X hi (vF h)):JE X (.Subscript e (.Slice lo hi none p2) pos) (tD (c_ f l h)) :=
 (yu (fY.or OF) he hl hh).weak fun σ H Q h0_ => el7 h0_ fun F ad δ K S q k =>⟨F,ad,δ,_,S,q,fun x δ1 h1 v F1 aO H1 E1 S1 V1=>⟨F1,aO,δ1,_,S1,h1,fun lo δ2 h2 F2 bK H2 E2 S2=>⟨F2,bK,δ2,_,S2,h2,fun hi δ3 h3 F3 pH H3 E3 S3=>by
  obtain⟨d,h4,rd⟩:=iH S3 ((V1.ext E2).ext E3) h3
  have zr:=(E1.trans E2).trans E3
  unfold pX at h4
  split at h4
  ·rename_i ds
   obtain⟨a,vs,rfl,g1,g2⟩:=rd
   refine .inl ⟨a,vs,rfl,bq.of g1,fun p hp => ?_⟩
   exact k _ _ h4 _ _ _ _ (zr.trans (Ext.al S3 (cA hp))) (S3.al (cA hp)) (lH S3.sub hp (ES g2 _ _))
  ·rename_i ds
   have cf:Is F3 (.tup ds) v:=rd
   have ON:=cf
   simp only[Is] at cf
   obtain⟨a,vs,rfl,g1,g2⟩:=cf
   refine .inr ⟨a,vs,rfl,bB.of (S3.sub _ _ g1),fun hw => ?_,fun _ p hp => ?_⟩
   ·rw[g2.length] at hw
    rw[OM hw] at h4
    exact k _ _ h4 _ _ _ _ zr S3 ON
   ·exact k _ _ h4 _ _ _ _ (zr.trans (Ext.al S3 (cA hp))) (S3.al (cA hp)) (vB S3.sub hp (ES g2 _ _))
  ·exact h4.elim⟩⟩⟩
noncomputable def vT:D->(D->Prop)->Prop
 | .lst ds,K=>K (.lst ds.reverse)
 | .tup ds,K=>K (.tup ds.reverse)
 | _,_=>False
theorem OO {e:Expr} {f:WE} {j1} {pos p2 p3 p4:Pos} (he:JE X e (tD f)):JE X (.Subscript e (.Slice none none (some (.UnaryOp .USub (.Constant (.int 1) j1 p3) p4)) p2) pos) (tD (d1 f vT)) :=
 (OH he).weak fun σ H Q h0_ => el7 h0_ fun F ad δ K S q k =>⟨F,ad,δ,_,S,q,fun x δ1 h1 v F1 aO H1 E1 S1 V1=>by
  obtain⟨d,h4,rd⟩:=iH S1 V1 h1
  unfold vT at h4
  split at h4
  ·rename_i ds
   obtain⟨a,vs,rfl,g1,g2⟩:=rd
   refine .inl ⟨a,vs,rfl,bq.of g1,fun p hp => ?_⟩
   exact k _ _ h4 _ _ _ _ (E1.trans (Ext.al S1 (cA hp))) (S1.al (cA hp)) (lH S1.sub hp (zc g2))
  ·rename_i ds
   have cf:Is F1 (.tup ds) v:=rd
   simp only[Is] at cf
   obtain⟨a,vs,rfl,g1,g2⟩:=cf
   refine .inr ⟨a,vs,rfl,bB.of (S1.sub _ _ g1),fun p hp => ?_⟩
   exact k _ _ h4 _ _ _ _ (E1.trans (Ext.al S1 (cA hp))) (S1.al (cA hp)) (vB S1.sub hp (zc g2))
  ·exact h4.elim⟩
noncomputable def jh:D->D->(D->Prop)->Prop
 | .bl a,.bl b,K=>K (.bl (a == b))
 | d,e,K=>jf d e K
noncomputable def t8:D->D->(D->Prop)->Prop
 | .bl a,.bl b,K=>K (.bl (!(a == b)))
 | d,e,K=>zf d e K
theorem zt:d7 X (compareOp .Is) jh:=by
 rintro pins s σ H x y v u Q I rx ry ⟨F,d,e,K,sub,rd,re,q,md⟩
 unfold jh at q
 split at q
 ·rename_i a b
  exact OJ pins s σ H x y v u Q I rx ry ⟨a,b,rd,re,md _ _ _ q (fun _ _ e=>e) rfl⟩
 ·exact N_ pins s σ H x y v u Q I rx ry ⟨F,_,_,K,sub,rd,re,q,md⟩
theorem Fl:d7 X (compareOp .IsNot) t8:=by
 rintro pins s σ H x y v u Q I rx ry ⟨F,d,e,K,sub,rd,re,q,md⟩
 unfold t8 at q
 split at q
 ·rename_i a b
  exact OK pins s σ H x y v u Q I rx ry ⟨a,b,rd,re,md _ _ _ q (fun _ _ e=>e) rfl⟩
 ·exact Oa pins s σ H x y v u Q I rx ry ⟨F,_,_,K,sub,rd,re,q,md⟩
end
end L2
open L2
open Lean in
local macro_rules
 | `(tactic| simp? only [$ls,*] $[$loc:location]?) => do
  let a ← ("Yr dep bH V6 Nat.max_self Nat.max_zero Nat.zero_max Nat.reduceLeDiff av aD dN vQ ai af d1 d2 dC aa j7 gY lz i7 aF.fix Ep dS bS px dT qG f7 i8 cR pz i9 vi cC kg aG bh bo iJ eF i_ gK c7 c8 pG cq bA tJ jE y6 kr y7 cU au tH passes km fg mJ pJ aP pN bZ pX c_ vT jh t8 pB mM eY oI c9 oEq je oLt jf zf fA cu vH vI tT vJ kz dU pP zo zp dw g6 pT fB ip pR t4 tR bG t7 aF.trim ff tF Option.join_some Option.join_none Vy W8 Y2 List.nil_append Wl List.replicate_zero Y3 Yb List.getElem?_nil VT VU DE WD List.take_succ_cons YM List.take_nil List.any_nil W9 Bool.not_false Bool.not_true Bool.and_true Bool.and_self ZI VW Bool.true_eq_false Yi Xf true_and and_true and_self reduceCtorEq beq_self_eq_true VZ Nat.reduceAdd Nat.reduceLT Nat.reduceEqDiff Nat.reduceSub oV DG".splitOn " ").toArray.mapM fun s => `(Parser.Tactic.simpLemma| $(mkIdent s.toName):ident)
  let r ← `(Parser.Tactic.simpLemma| ↓reduceIte)
  let a : Syntax.TSepArray [`Lean.Parser.Tactic.simpStar, `Lean.Parser.Tactic.simpErase, `Lean.Parser.Tactic.simpLemma] "," := ⟨(Syntax.SepArray.ofElems (sep := ",") ((a.push r).map (·.raw) ++ ls.getElems.map (·.raw))).elemsAndSeps⟩
  `(tactic| simp only [$a,*] $[$loc]?)
set_option maxHeartbeats 8000000
namespace LJ
open PySem L2
variable [aM]
theorem Fm {ns:List Int} {k:Int} (h0:0 <= k) (h1:k < (ns.length:Int)):∃ n,eC (ns.map D.int) k=some (.int n):=by
 obtain⟨i,rfl⟩:∃ i:Nat,k=i:=⟨k.toNat,by omega⟩
 have hi:i < ns.length:=by omega
 refine⟨ns[i],mi ?_⟩
 rw[LR,oU hi];rfl
theorem dG {α : Type} {x : α} {r:List α}:eC (x :: r) 0=some x:=mi (j:=0) rfl
theorem dH {α : Type} {x y : α} {r:List α}:eC (x :: y :: r) 1=some y:=mi (j:=1) rfl
theorem at2 {α : Type} {x y z : α} {r:List α}:eC (x :: y :: z :: r) 2=some z:=mi (j:=2) rfl
theorem t9 {a b A B:Int} (h0:0 <= a) (h1:a <= A) (h2:0 <= b) (h3:b <= B):0 <= a * b/\a * b <= A * B :=
 ⟨Int.mul_nonneg h0 h2,Int.mul_le_mul h1 h3 h2 (Int.le_trans h0 h1)⟩
noncomputable def gM:List Int:=[2147483629,2147483587,2147483579,2147483563,2147483549,2147483543,2147483497,2147483489,2147483477,2147483423,2147483399,2147483353,2147483323]
theorem zu (n:Int):∃ q:Int,eC (gM.map D.int) (n % 13)=some (.int q)/\0 < q/\q < 2147483648:=by
 have h0:0 <= n % 13:=Ws _ (by decide)
 have h1:n % 13 < 13:=V8 _ (by decide)
 generalize n % 13=j at h0 h1
 obtain⟨i,rfl⟩:∃ i:Nat,j=i:=⟨j.toNat,by omega⟩
 have hi:i < 13:=by omega
 have hl:(gM.map D.int)[i]? = some (.int (gM[i]'(by show i < 13;exact hi))):=by
  rw[LR,oU (by show i < 13;exact hi)];rfl
 refine⟨_,mi hl,?_⟩
 have all:∀ q∈gM,0 < q/\q < 2147483648:=by decide
 exact all _ (WK _)
theorem OP:iX 3 1=some 1:=rfl
theorem Fp:iX 3 2=some 2:=rfl
theorem aU {A B:WS} {K:KS} {δ : aF} (h:∀ N:aF->Prop,N=B K->A { K with nx:=N } δ):av A B K δ := h _ rfl
theorem gf {t:WT} {G G':WS} {K:KS} {δ : aF} (h:∀ A B:aF->Prop,A=G K->B=G' K->t δ fun b δ1=>if b=true then A δ1 else B δ1):bh t G G' K δ := h _ _ rfl rfl
theorem lK {w:WI} {g:WG} {b:WS} {K:KS} {δ : aF} (h:∀ g' b' K',g'=g->b'=b->K'=K->w δ fun it δ1=>jD δ1 it.bz g' b' K' it.items δ1):c7 w g b K δ := h _ _ _ rfl rfl rfl
theorem vU {f:WE} {g:WA} {δ : aF} {K:List DV->aF->Prop} (h:∀ K',K'=(fun x δ1=>g δ1 fun xs δ2=>K (x :: xs) δ2)->f δ K'):ai f g δ K:=h _ rfl
noncomputable def zv:GD:=fun ys aj K=>∃ cell at_:Int,ys=[.p (.int cell),.p (.int at_)]/\aj=[]/\0 <= at_/\at_ < 2 ^ 30/\∀ z:Int,K (.p (.int z)) []
noncomputable def zw:WS:=(av (bh (dT (d2 (aa 0) (d2 (dC (.int 10)) (dC (.int 18)) (c9 eU fun i j => .int (i ^ j.toNat))) (oI fun i j => .bl (decide (j <= i))))) (aG (aa 0)) cC) (av (aD 2 (bS (ai (dC (.int 2147483629)) (ai (dC (.int 2147483587)) (ai (dC (.int 2147483579)) (ai (dC (.int 2147483563)) (ai (dC (.int 2147483549)) (ai (dC (.int 2147483543)) (ai (dC (.int 2147483497)) (ai (dC (.int 2147483489)) af)))))))))) (av (aD 2 (d2 (aa 2) (bS (ai (dC (.int 2147483477)) (ai (dC (.int 2147483423)) (ai (dC (.int 2147483399)) (ai (dC (.int 2147483353)) (ai (dC (.int 2147483323)) af)))))) bZ)) (av (aD 3 (d2 (d2 (d2 (d2 (d2 (d2 (aa 0) (dC (.int 1000000007)) (c9 (fun _ j=>0 < j) fun i j => .int (i % j))) (d2 (d2 (dC (.int 2)) (aa 1) eY) (dC (.int 69069)) bZ) eY) (d2 (aa 1) (dC (.int 40503)) eY) bZ) (dC (.int 977)) bZ) (dC (.int 3)) (c9 eU fun i j => .int (i ^ j.toNat))) (d2 (aa 2) (d2 (aa 1) (dC (.int 13)) (c9 (fun _ j=>0 < j) fun i j => .int (i % j))) aP) (c9 (fun _ j=>0 < j) fun i j => .int (i % j)))) (av (aD 4 (d2 (d2 (d2 (d2 (d2 (aa 3) (d2 (aa 1) (dC (.int 3)) bZ) eY) (d2 (aa 0) (dC (.int 65537)) (c9 (fun _ j=>0 < j) fun i j => .int (i % j))) bZ) (dC (.int 5)) bZ) (dC (.int 5)) (c9 eU fun i j => .int (i ^ j.toNat))) (d2 (aa 2) (d2 (d2 (aa 1) (dC (.int 5)) bZ) (dC (.int 13)) (c9 (fun _ j=>0 < j) fun i j => .int (i % j))) aP) (c9 (fun _ j=>0 < j) fun i j => .int (i % j)))) (av (aD 5 (d2 (d2 (d2 (d2 (aa 4) (d2 (aa 3) (dC (.int 1009)) (c9 (fun _ j=>0 < j) fun i j => .int (i % j))) bZ) (aa 1) bZ) (dC (.int 3)) (c9 eU fun i j => .int (i ^ j.toNat))) (d2 (aa 2) (d2 (d2 (aa 1) (dC (.int 7)) bZ) (dC (.int 13)) (c9 (fun _ j=>0 < j) fun i j => .int (i % j))) aP) (c9 (fun _ j=>0 < j) fun i j => .int (i % j)))) (aG (d2 (d2 (d2 (d2 (aa 3) (dC (.int 2147483647)) eY) (aa 4) bZ) (dC (.int 2147483647)) eY) (aa 5) bZ))))))))
theorem OQ:∀ ys aj K',ys.length=2->zv ys aj K'->zw (bG aj.length K') ⟨ys.map some ++ List.replicate 4 none,aj.map some⟩:=by
 rintro ys aj K' - ⟨cell,k,rfl,rfl,h0,h1,fin⟩
 unfold zw
 have kD:∀ (z:Int) (sl:List (Option DV)),gb 0 K' (.p (.int z)) ⟨sl,[]⟩:=fun z sl=>⟨[],rfl,rfl,fin z⟩
 simp? only []
 refine⟨⟨by decide,by decide,by decide⟩,?_⟩
 split
 ·exact kD _ _
 obtain⟨q1,e1,p1,b1⟩:=zu k
 obtain⟨q2,e2,p2,b2⟩:=zu (k + 5)
 obtain⟨q3,e3,p3,b3⟩:=zu (k + 7)
 simp only[gM,Vy,W8] at e1 e2 e3
 simp only[e1,e2,e3]
 have c0:0 <= cell % 1000000007:=Ws _ (by decide)
 have c1:cell % 1000000007 < 1000000007:=V8 _ (by decide)
 have m1:=t9 c0 (Int.le_of_lt c1) (show (0:Int) <= 2 * k + 69069 by omega) (show 2 * k + 69069 <= 2147552717 by omega)
 refine⟨by decide,.inl ⟨by decide,by decide⟩,.inl ⟨by omega,by omega⟩,.inr ⟨by decide,by decide⟩,⟨by decide,by decide,?cp1⟩,by decide,p1,?_⟩
 case cp1 =>
  generalize cell % 1000000007 * (2 * k + 69069)=m at m1 ⊢
  omega
 generalize (cell % 1000000007 * (2 * k + 69069) + k * 40503 + 977) ^ (3:Int).toNat=x1
 have o0:0 <= x1 % q1:=Ws _ (by omega)
 have o1:x1 % q1 < q1:=V8 _ p1
 have d0:0 <= cell % 65537:=Ws _ (by decide)
 have d1:cell % 65537 < 65537:=V8 _ (by decide)
 have m2:=t9 o0 (show x1 % q1 <= 2147483648 by omega) (show (0:Int) <= k + 3 by omega) (show k + 3 <= 1073741827 by omega)
 refine⟨.inl ⟨by omega,by omega⟩,by decide,⟨by decide,by decide,?cp2⟩,by decide,p2,?_⟩
 case cp2 =>
  generalize x1 % q1 * (k + 3)=m at m2 ⊢
  omega
 have t0:0 <= (x1 % q1 * (k + 3) + cell % 65537 + 5) ^ (5:Int).toNat % q2:=Ws _ (by omega)
 have t1:(x1 % q1 * (k + 3) + cell % 65537 + 5) ^ (5:Int).toNat % q2 < q2:=V8 _ p2
 have u0:0 <= x1 % q1 % 1009:=Ws _ (by decide)
 have u1:x1 % q1 % 1009 < 1009:=V8 _ (by decide)
 generalize (x1 % q1 * (k + 3) + cell % 65537 + 5) ^ (5:Int).toNat % q2=m at t0 t1 ⊢
 exact⟨by decide,⟨by decide,by decide,by omega⟩,by decide,p3,.inr ⟨by decide,by decide⟩,.inr ⟨by decide,by decide⟩,kD _ _⟩
noncomputable def iq (ns:List Int) (k z:Int):OV := .lst [.lst (ns.map D.int),.int k,.int z]
structure a5 (n:Int) (o:OV):Prop where
 out:∃ ns k z,o=iq ns k z/\ns.length <= 63/\0 <= k/\k <= n
theorem a5.mono {n m:Int} {o:OV} (h:a5 n o) (l:n <= m):a5 m o:=by
 obtain⟨ns,k,z,e,h1,h2,h3⟩:=h.out
 exact⟨ns,k,z,e,h1,h2,by omega⟩
noncomputable def zy:GD:=fun ys aj K=>∃ n o,ys=[.o 0]/\aj=[o]/\a5 n o/\∀ o',a5 n o'->K (.a 0) [o']
noncomputable def zA:WS:=(av (pT (dC (.int 0)) (aa 0) (dC (.int 2))) (aG (aa 0)))
theorem OR:∀ ys aj K',ys.length=1->zy ys aj K'->zA (bG aj.length K') ⟨ys.map some ++ List.replicate 0 none,aj.map some⟩:=by
 rintro ys aj K' - ⟨n,o,rfl,rfl,P,fin⟩
 obtain⟨ns,k,z,rfl,h1,h2,h3⟩:=P.out
 unfold zA iq
 simp? only []
 exact⟨[iq ns k 0],rfl,rfl,fin _ ⟨ns,k,0,rfl,h1,h2,h3⟩⟩
noncomputable def eN:GD:=fun ys aj K=>∃ (n m:Int) (o:OV),ys=[.o 0,.p (.int m)]/\aj=[o]/\a5 n o/\n < 2 ^ 30/\0 < m/\m < 1073741824/\∀ r o',0 <= r->r < m->a5 (n + 1) o'->K (.p (.int r)) [o']
noncomputable def zB:WS:=(av (bh (dT (d2 (d2 (aa 0) (dC (.int 2)) aP) (aa 1) oLt)) (av (aD 2 (d2 (aa 0) (dC (.int 1)) aP)) (av (aD 3 (dC (.int 0))) (av (bh (dT (d2 (aa 2) (dN (ai (d2 (aa 0) (dC (.int 0)) aP) af) cu) oLt)) (aD 3 (d2 (d2 (aa 0) (dC (.int 0)) aP) (aa 2) aP)) (bh (dT (d2 (dN (ai (d2 (aa 0) (dC (.int 0)) aP) af) cu) (dC (.int 0)) (oI fun i j => .bl (decide (j < i))))) (aD 3 (d2 (d2 (d2 (aa 0) (dC (.int 0)) aP) (d2 (d2 (d2 (aa 2) (dC (.int 5)) eY) (dC (.int 3)) bZ) (dN (ai (d2 (aa 0) (dC (.int 0)) aP) af) cu) (c9 (fun _ j=>0 < j) fun i j => .int (i % j))) aP) (d2 (d2 (dC (.int 10)) (dC (.int 17)) (c9 eU fun i j => .int (i ^ j.toNat))) (aa 2) bZ) (c9 (fun _ j=>0 < j) fun i j => .int (i % j)))) cC)) (av (pT (d2 (aa 2) (dC (.int 1)) bZ) (aa 0) (dC (.int 1))) (pT (au 2 zv (ai (aa 3) (ai (aa 2) af))) (aa 0) (dC (.int 2))))))) cC) (av (aD 4 (d2 (d2 (aa 0) (dC (.int 2)) aP) (aa 1) (c9 (fun _ j=>0 < j) fun i j => .int (i % j)))) (av (pT (d2 (d2 (aa 0) (dC (.int 2)) aP) (aa 1) (c9 sg fun i j => .int (i.fdiv j))) (aa 0) (dC (.int 2))) (aG (aa 4)))))
theorem OS:∀ ys aj K',ys.length=2->eN ys aj K'->zB (bG aj.length K') ⟨ys.map some ++ List.replicate 3 none,aj.map some⟩:=by
 rintro ys aj K' - ⟨n,m,o,rfl,rfl,P,hn,Fq,UZ,fin⟩
 obtain⟨ns,k,z,rfl,h1,h2,h3⟩:=P.out
 unfold zB iq
 have last:∀ (k' z':Int) (sl:List (Option DV)),0 <= k'->k' <= n + 1->gb 1 K' (.p (.int (z' % m))) ⟨sl,[some (.lst [.lst (ns.map D.int),.int k',.int (z'.fdiv m)])]⟩:=fun k' z' sl a b =>
  ⟨[iq ns k' (z'.fdiv m)],rfl,rfl,fin _ _ (Ws _ (by omega)) (V8 _ Fq) ⟨ns,k',_,rfl,h1,a,b⟩⟩
 have OT:∀ z,sg z m:=fun z=>⟨by omega,by omega⟩
 have rest:∀ (k' z':Int) (s2 s3 s4:Option DV),0 <= k'->k' <= n + 1->(av (aD 4 (d2 (d2 (aa 0) (dC (.int 2)) aP) (aa 1) (c9 (fun _ j=>0 < j) fun i j => .int (i % j)))) (av (pT (d2 (d2 (aa 0) (dC (.int 2)) aP) (aa 1) (c9 sg fun i j => .int (i.fdiv j))) (aa 0) (dC (.int 2))) (aG (aa 4)))) (bG 1 K') ⟨[some (.o 0),some (.p (.int m)),s2,s3,s4],[some (.lst [.lst (ns.map D.int),.int k',.int z'])]⟩:=fun k' z' s2 s3 s4 a b=>by
  simp? only [at2,Fp]
  exact⟨Fq,OT _,last _ _ _ a b⟩
 refine aU fun N hN => ?_
 refine gf fun A B hA hB => ?_
 simp? only [at2]
 split
 ·subst hA
  refine aU fun N2 dA => ?_
  simp? only [dH]
  subst dA
  refine aU fun N2 dA => ?_
  simp? only []
  subst dA
  refine aU fun N2 dA => ?_
  have go:∀ (c:Int) (s4:Option DV),N2 ⟨[some (.o 0),some (.p (.int m)),some (.p (.int k)),some (.p (.int c)),s4],[some (.lst [.lst (ns.map D.int),.int k,.int z])]⟩:=fun c s4=>by
   subst dA
   simp? only [OP]
   refine⟨c,k,rfl,rfl,h2,by omega,fun z' => ?_⟩
   simp? only [Fp]
   subst hN
   exact rest _ _ _ _ _ (by omega) (by omega)
  refine gf fun A B hA hB => ?_
  simp? only [dG]
  split
  ·rename_i d3
   obtain⟨c,ec⟩:=Fm h2 (We d3)
   subst hA
   simp? only [dG]
   rw[ec]
   exact go _ _
  ·subst hB
   refine gf fun A B hA hB => ?_
   simp? only [dG]
   split
   ·rename_i mQ
    have mQ:=We mQ
    obtain⟨c,ec⟩:=Fm (ns:=ns) (k:=(k * 5 + 3) % (ns.length:Int)) (Ws _ (by omega)) (V8 _ mQ)
    subst hA
    simp? only [dG]
    refine⟨.inr ⟨by decide,by decide⟩,mQ,?_⟩
    rw[ec]
    exact⟨⟨by decide,by decide,by decide⟩,by show (0:Int) < 10 ^ 17 + k;omega,go _ _⟩
   ·subst hB
    exact go _ _
 ·subst hB hN
  exact rest _ _ _ _ _ (by omega) (by omega)
theorem OU (ns:List Int) (lo hi:Option Int):cutD (ns.map D.int) lo hi=((ns.drop (HT.a8 ns.length 0 lo)).take (HT.a8 ns.length ns.length hi - HT.a8 ns.length 0 lo)).map D.int:=by
 unfold cutD
 rw[oV,ZK,List.map_drop]
noncomputable def cB (p:Int × Int):D := .tup [.int p.1,.int p.2]
structure cZ (many:Int) (ps:List (Int × Int)):Prop where
 ends:∀ p∈ps,0 <= p.1/\p.1 < p.2/\p.2 < many
 mB:ps.Nodup
 hV:ps.length <= 66
theorem cZ.sub {many:Int} {ps qs:List (Int × Int)} (h:cZ many ps) (s:qs.Sublist ps):cZ many qs :=
 ⟨fun p hp=>h.ends p (s.subset hp),h.mB.sublist s,V_ s.length_le h.hV⟩
noncomputable def zC:GD:=fun ys aj K=>∃ (n kind many:Int) (o:OV),ys=[.o 0,.p (.int kind),.p (.int many)]/\aj=[o]/\a5 n o/\n + 100 < 2 ^ 30/\1 <= many/\many <= 12/\∀ ps o',cZ many ps->a5 (n + 67) o'->K (.n (ps.map cB)) [o']
noncomputable def zD:WS:=(av (aD 3 (px af)) (av (c7 (jE (ai (aa 2) af)) (bo 4) (kg (pR (aa 3) (ai (c8 (jE (ai (aa 4) af)) [none,some 4] (bo 0) cq (dS (ai (aa 0) (ai (aa 1) af)))) af)))) (av (bh (dT (d2 (aa 1) (dC (.int 1)) oEq)) (aG (pG (y6 (ai (dC (.int 1)) (ai (aa 2) af))) [none,some 0] (bo 0) cq (dS (ai (au 2 eN (ai (aa 1) (ai (aa 0) af))) (ai (aa 0) af))))) cC) (av (bh (dT (d2 (aa 1) (dC (.int 2)) oEq)) (av (aD 5 (c8 (jE (ai (d2 (aa 2) (dC (.int 1)) (oI fun i j => .int (i - j))) af)) [none] (bo 0) cq (dS (ai (aa 0) (ai (d2 (aa 0) (dC (.int 1)) bZ) af))))) (aG (zp (aa 5) (c8 (bA (aa 3)) [none,some 2] (bo 0) (f7 (dT (d2 (aa 0) (dS (ai (dC (.int 0)) (ai (d2 (aa 1) (dC (.int 1)) (oI fun i j => .int (i - j))) af))) oEq)) (dT (d2 (aa 1) (dC (.int 2)) (oI fun i j => .bl (decide (j < i)))))) (aa 0))))) cC) (av (bh (dT (d2 (aa 1) (dC (.int 3)) oEq)) (aG (aa 3)) cC) (av (bh (dT (d2 (aa 1) (dC (.int 4)) oEq)) (aG (pG (bA (aa 3)) [none,some 0] (bo 0) (dT (d2 (au 2 eN (ai (aa 1) (ai (dC (.int 4)) af))) (dC (.int 0)) oEq)) (aa 0))) cC) (av (bh (dT (d2 (aa 1) (dC (.int 5)) oEq)) (av (aD 6 (au 2 eN (ai (aa 0) (ai (d2 (aa 2) (dC (.int 1)) bZ) af)))) (aG (pG (bA (aa 3)) [none,some 6,some 0] (bo 0) (f7 (dT (d2 (d2 (d2 (aa 0) (dC (.int 0)) aP) (aa 1) oLt) (d2 (d2 (aa 0) (dC (.int 1)) aP) (aa 1) oLt) oEq)) (dT (d2 (au 2 eN (ai (aa 2) (ai (dC (.int 3)) af))) (dC (.int 0)) (oI fun i j => .bl (decide (j < i)))))) (aa 0)))) cC) (aG (pG (bA (aa 3)) [none,some 0] (bo 0) (dT (d2 (au 2 eN (ai (aa 1) (ai (dC (.int 2)) af))) (dC (.int 0)) oEq)) (aa 0))))))))))
theorem sub_snoc {α : Type} {zs ps:List α} {i:Nat} {x : α} (h:zs.Sublist (ps.take i)) (e:ps[i]? = some x):(zs ++ [x]).Sublist (ps.take (i + 1))/\zs.Sublist (ps.take (i + 1)):=by
 have:ps.take (i + 1)=ps.take i ++ [x]:=by rw[Xq,e];rfl
 rw[this]
 exact⟨h.append (List.Sublist.refl _),h.trans (List.sublist_append_left _ _)⟩
theorem OW {α : Type} {l:List α} {c : α} (h:l.Nodup) (hc:∀ x∈l,x=c):l.length <= 1:=by
 match l,h,hc with
 | [],_,_=>exact V6 _
 | [_],_,_=>exact uX _
 | x :: y :: r,h,hc =>
  have:=(WJ.mp h).1 y (UQ)
  exact absurd ((hc x UQ).trans (hc y (Vs _ UQ)).symm) this
theorem zE {n:Int} {o:OV} {ps:List (Int × Int)} {t:WT} {K:List D->aF->Prop} {rest:List (Option DV)} {ev:Option OV} {bz:aF->Prop} (hc:∀ sl o',bz ⟨sl,[some o',ev]⟩) (hw:ps.length <= 66) (P:a5 n o) (hn:n + 70 < 2 ^ 30)
  (ht:∀ (p:Int × Int) (i:Nat) (o':OV) (Q:Bool->aF->Prop),p∈ps->i <= 66->a5 (n + i) o'->(∀ b kE,a5 (n + i + 1) kE->Q b ⟨some (.p (cB p)) :: rest,[some kE,ev]⟩)->t ⟨some (.p (cB p)) :: rest,[some o',ev]⟩ Q)
  (hr:ff 2 rest rest=rest)
  (fin:∀ (zs:List (Int × Int)) o',zs.Sublist ps->a5 (n + ps.length) o'->K (zs.map cB) ⟨none :: rest,[some o',ev]⟩) :
  iL ⟨none :: rest,[some o,ev]⟩ bz (bo 0) t (aa 0) K (ps.map cB) [] ⟨none :: rest,[some o,ev]⟩:=by
 refine vO (fun i acc δ => ∃ (zs:List (Int × Int)) (o':OV),zs.Sublist (ps.take i)/\acc=zs.map cB/\a5 (n + i) o' /\ δ = ⟨none :: rest,[some o',ev]⟩) ⟨[],o,List.Sublist.refl _,rfl,P.mono (by omega),rfl⟩ ?_ ?_
 ·rintro j d acc δ L hj ⟨zs,o',hz,rfl,P',rfl⟩ hL
  rw[LR] at hj
  obtain⟨p,hp,rfl⟩:=UP.mp hj
  have U0:j < ps.length:=(oW.mp hp).1
  refine⟨hc _ _,?_⟩
  show t ⟨some (.p (cB p)) :: rest,[some o',ev]⟩ _
  refine ht p j o' _ (VA hp) (by omega) P' fun b kE mR => ?_
  have hlen:(zs.map cB).length < 1000:=by
   rw[oV]
   have:=hz.length_le
   rw[VM] at this;omega
  have P3:a5 (n + ((j + 1:Nat):Int)) kE:=mR.mono (by omega)
  cases b with
  | true =>
   rw[UO rfl]
   refine⟨hlen,hL _ _ ⟨zs ++ [p],kE,(sub_snoc hz hp).1,by rw[VC];rfl,P3,?_⟩⟩
   show (⟨none :: ff 2 rest rest,_⟩:aF)=_
   rw[hr];rfl
  | false =>
   rw[LX (by decide)]
   refine hL _ _ ⟨zs,kE,(sub_snoc hz hp).2,rfl,P3,?_⟩
   show (⟨none :: ff 2 rest rest,_⟩:aF)=_
   rw[hr];rfl
 ·rintro acc δ ⟨zs,o',hz,rfl,P',rfl⟩
  rw[oV] at P' hz
  rw[Wj (uX _)] at hz
  exact⟨hc _ _,fin zs o' hz P'⟩
theorem OX:∀ ys aj K',ys.length=3->zC ys aj K'->zD (bG aj.length K') ⟨ys.map some ++ List.replicate 4 none,aj.map some⟩:=by
 rintro ys aj K' - ⟨n,kind,many,o,rfl,rfl,P,hn,m1,d6,fin⟩
 obtain⟨mm,rfl⟩:∃ mm:Nat,many=mm:=⟨many.toNat,by omega⟩
 have zF:mm <= 12:=by omega
 unfold zD
 have bU:cZ mm (iF mm):=⟨fun p hp=>yG hp,Ee mm,Ef mm zF⟩
 refine aU fun N hN => ?_
 simp? only []
 subst hN
 refine aU fun N hN => ?_
 simp? only []
 refine⟨by omega,?_⟩
 refine kB (fun i δ => δ = ⟨[some (.o 0),some (.p (.int kind)),some (.p (.int mm)),some (.o 1),none,none,none],[some o,some (.lst ((iF i).map cB))]⟩) rfl ?_ ?_
 ·rintro j d δ L hj rfl hL
  obtain⟨hj,rfl⟩:=jF hj
  simp? only []
  have e:(0 + (j:Int))=j:=by omega
  rw[e]
  refine⟨by omega,?_⟩
  refine jJ (fun d=>match d with
   | .int a=>cB (a,j)
   | _ => .non) (by rw[ja];omega) trivial ?_ ?_
  ·intro d hd acc L' ha h
   obtain⟨i,hi⟩:=UM.mp hd
   obtain⟨hi,rfl⟩:=jF hi
   simp? only []
   exact⟨ha,h⟩
  ·have e2:(iF j).map cB ++ (bO 0 (j:Int).toNat).map (fun d=>match d with
    | .int a=>cB (a,j)
    | _ => .non)=(iF (j + 1)).map cB:=by
    show _=(iF j ++ _).map cB
    unfold bO
    rw[VC,Vz,Vz]
    congr 1
    refine Wm fun a _ => ?_
    simp[Function.comp]
   simp? only []
   have U1:=Ef j (by omega)
   refine⟨by rw[ja];omega,?_⟩
   rw[e2]
   exact hL _ rfl
 ·rintro δ rfl
  refine⟨trivial,?_⟩
  subst hN
  have eL:((mm:Int)).toNat=mm:=by omega
  rw[ja,eL]
  dsimp only
  have back:∀ (ps:List (Int × Int)) (o':OV) (sl:List (Option DV)) (m:List (Option OV)),cZ mm ps->a5 (n + 67) o'->gb 1 K' (.o (m.length + 1)) ⟨sl,some o' :: (m ++ [some (.lst (ps.map cB))])⟩:=fun ps o' sl m h1 h2=>by
   refine⟨[o'],rfl,rfl,?_⟩
   show if m.length + 1 < 1 then _ else _
   rw[LX (by omega)]
   have:(some o' :: (m ++ [some (OV.lst (ps.map cB))]))[m.length + 1]? = some (some (.lst (ps.map cB))):=by
    rw[Yb,Vu (uX _),Wa];rfl
   dsimp only
   rw[this]
   exact .inl (fin ps o' h1 h2)
  refine aU fun N hN => ?_
  simp? only [aH]
  split
  ·refine⟨by omega,?_⟩
   refine vO (fun i acc δ => ∃ (zs:List (Int × Int)) (o':OV),zs.length=i/\(∀ (q:Nat) (p:Int × Int),zs[q]? = some p->p.2=q + 1/\0 <= p.1/\p.1 < p.2)/\acc=zs.map cB/\a5 (n + i) o' /\ δ = ⟨[none,some (.o 0)],[some o',some (.lst ((iF mm).map cB))]⟩) ⟨[],o,rfl,fun q p e=>by simp at e,rfl,P.mono (by omega),rfl⟩ ?_ ?_
   ·rintro j d acc δ L hj ⟨zs,o',hz,hq,rfl,P',rfl⟩ hL
    obtain⟨hj,rfl⟩:=jF hj
    simp? only []
    refine⟨n + j,1 + j,o',rfl,rfl,P',by omega,by omega,by omega,fun r kE r0 r1 mR => ?_⟩
    simp? only []
    refine⟨by omega,hL _ _ ⟨zs ++ [(r,1 + (j:Int))],kE,by rw[DG,hz];rfl,fun q p e => ?_,by rw[VC];rfl,mR.mono (by omega),rfl⟩⟩
    by_cases c:q < zs.length
    ·rw[Vt c] at e
     exact hq q p e
    ·have hl:=(oW.mp e).1
     rw[DG,VH] at hl
     have:q=zs.length:=by omega
     subst this
     rw[Vu (uX _),Wa] at e
     cases (show some (r,1 + (j:Int))=some p by simpa using e)
     exact⟨by show 1 + (j:Int)=_;omega,r0,r1⟩
   ·rintro acc δ ⟨zs,o',hz,hq,rfl,P',rfl⟩
    rw[ja] at hz P'
    refine⟨trivial,?_⟩
    refine back zs o' _ [_] ⟨fun p hp => ?_,?_,by omega⟩ (P'.mono (by omega))
    ·obtain⟨q,Fs⟩:=UM.mp hp
     have:=hq q p Fs
     have hl:=(oW.mp Fs).1
     omega
    ·refine XQ.mpr fun i j hi hj g8 e => ?_
     have q1:=hq i _ (oU hi)
     have q2:=hq j _ (oU hj)
     rw[e] at q1
     omega
  subst hN
  refine aU fun N hN => ?_
  simp? only [aH]
  split
  ·clear hN
   refine⟨by omega,?_⟩
   refine jJ (fun d=>match d with
    | .int a=>cB (a,a + 1)
    | _ => .non) (by rw[ja];omega) trivial ?_ ?_
   ·intro d hd acc L' ha h
    obtain⟨i,hi⟩:=UM.mp hd
    obtain⟨hi,rfl⟩:=jF hi
    simp? only []
    exact⟨ha,h⟩
   ·simp? only []
    refine jg (fun d=>aH d (cB (0,mm - 1)) && decide ((2:Int) < mm)) id (by rw[oV];have:=bU.hV;omega) rfl ?_ ?_
    ·intro d hd acc L' ha h h'
     obtain⟨p,hp,rfl⟩:=My.mp hd
     simp only[cB] at h h'
     simp? only [cB]
     split
     ·rename_i q1
      split
      ·rename_i q2
       exact⟨ha,h (by rw[q1,q2];rfl)⟩
      ·rename_i q2
       exact h' (by rw[q1,Bool.not_eq_true _ |>.mp q2];rfl)
     ·rename_i q1
      exact h' (by rw[Bool.not_eq_true _ |>.mp q1];rfl)
    ·simp? only []
     have er:(bO 0 ((mm:Int) - 1).toNat).map (fun d=>match d with
       | D.int a=>cB (a,a + 1)
       | x=>D.non)=((List.range (mm - 1)).map fun i:Nat=>((i:Int),(i:Int) + 1)).map cB:=by
      unfold bO
      rw[Vz,Vz]
      have:((mm:Int) - 1).toNat=mm - 1:=by omega
      rw[this]
      refine Wm fun a _ => ?_
      simp[Function.comp]
     have ef:(((iF mm).map cB).filter fun d=>aH d (cB (0,mm - 1)) && decide ((2:Int) < mm))=((iF mm).filter fun p=>aH (cB p) (cB (0,mm - 1)) && decide ((2:Int) < mm)).map cB:=by
      rw[WH];rfl
     rw[er,WR,ef,<-VC]
     have hf:∀ p∈(iF mm).filter (fun p=>aH (cB p) (cB (0,mm - 1)) && decide ((2:Int) < mm)),p=(0,(mm:Int) - 1)/\(2:Int) < mm:=fun p hp=>by
      have:=(VR.mp hp).2
      simp[cB,aH,bM] at this
      obtain⟨a,b⟩:=p
      simp at this ⊢
      omega
     have h1:((iF mm).filter (fun p=>aH (cB p) (cB (0,mm - 1)) && decide ((2:Int) < mm))).length <= 1:=OW (bU.mB.sublist List.filter_sublist) fun p hp=>(hf p hp).1
     refine⟨by rw[ja,oV];omega,back _ o _ [_] ⟨fun p hp => ?_,?_,?_⟩ (P.mono (by omega))⟩
     ·rcases VO.mp hp with hp | hp
      ·obtain⟨i,hi,rfl⟩:=My.mp hp
       have:=VJ.mp hi
       exact⟨by omega,by omega,by show (i:Int) + 1 < mm;omega⟩
      ·exact bU.ends p (VR.mp hp).1
     ·refine W7.mpr ⟨?_,bU.mB.sublist List.filter_sublist,fun a ha b hb e => ?_⟩
      ·refine Xk.mpr (Yn.imp fun {a b} ne e=>ne ?_)
       have:=congrArg Prod.fst e
       exact ZJ this
      ·subst e
       obtain⟨i,hi,rfl⟩:=My.mp ha
       have:=hf _ hb
       have h2:=congrArg Prod.fst this.1
       have h3:=congrArg Prod.snd this.1
       simp at h2 h3
       omega
     ·rw[DG,oV,VL];omega
  subst hN
  refine aU fun N hN => ?_
  simp? only [aH]
  split
  ·exact⟨[o],rfl,rfl,.inl (fin _ _ bU (P.mono (by omega)))⟩
  subst hN
  refine aU fun N hN => ?_
  simp? only [aH]
  split
  ·refine zE (fun _ _=>rfl) bU.hV P (by omega) (fun p i o' Q hp hi P' hQ => ?_) rfl fun zs o' hz P' => ?_
   ·simp? only [aH]
    refine⟨n + i,4,o',rfl,rfl,P',by omega,by omega,by omega,fun r kE r0 r1 mR => ?_⟩
    simp? only []
    exact hQ _ _ mR
   ·exact back zs o' _ [_] (bU.sub hz) (P'.mono (by have:=bU.hV;omega))
  subst hN
  refine aU fun N hN => ?_
  simp? only [aH]
  split
  ·refine⟨n,mm + 1,o,rfl,rfl,P,by omega,by omega,by omega,fun half o1 r0 r1 P1 => ?_⟩
   simp? only []
   refine zE (n:=n + 1) (fun _ _=>rfl) bU.hV P1 (by omega) (fun p i o' Q hp hi P' hQ => ?_) rfl fun zs o' hz P' => ?_
   ·simp? only [aH,cB,dG,dH]
    split
    ·refine⟨n + 1 + i,3,o',rfl,rfl,P',by omega,by omega,by omega,fun r kE r0 r1 mR => ?_⟩
     simp? only []
     exact hQ _ _ mR
    ·exact hQ _ _ (P'.mono (by omega))
   ·exact back zs o' _ [_] (bU.sub hz) (P'.mono (by have:=bU.hV;omega))
  subst hN
  simp? only [aH]
  refine zE (fun _ _=>rfl) bU.hV P (by omega) (fun p i o' Q hp hi P' hQ => ?_) rfl fun zs o' hz P' => ?_
  ·simp? only [aH]
   refine⟨n + i,2,o',rfl,rfl,P',by omega,by omega,by omega,fun r kE r0 r1 mR => ?_⟩
   simp? only []
   exact hQ _ _ mR
  ·exact back zs o' _ [_] (bU.sub hz) (P'.mono (by have:=bU.hV;omega))
theorem Ft {α : Type}:∀ {l:List α} {j:Nat} (h:j < l.length),List.Perm (l[j] :: l.eraseIdx j) l
 | x :: r,0,h=>List.Perm.refl _
 | x :: r,j + 1,h=>by
  have hj:j < r.length:=by simpa using h
  show List.Perm (r[j] :: x :: r.eraseIdx j) (x :: r)
  exact (List.Perm.swap x r[j] _).trans ((Ft hj).cons x)
theorem Fu {α β : Type} (f : α -> β):∀ (l:List α) (j:Nat),(l.map f).eraseIdx j=(l.eraseIdx j).map f
 | [],_=>rfl
 | _ :: _,0=>rfl
 | x :: r,j + 1=>by
  show f x :: (r.map f).eraseIdx j=f x :: (r.eraseIdx j).map f
  rw[Fu f r j]
noncomputable def bE (y:Int × Int × Int):D := .tup [.int y.1,.int y.2.1,.int y.2.2]
noncomputable def aE (m:Int) (ys:List (Int × Int × Int)):D := .tup [.int m,.tup (ys.map bE)]
noncomputable def mS (y:Int × Int × Int):Int × Int:=(y.1,y.2.1)
theorem cZ.perm {many:Int} {ps qs:List (Int × Int)} (h:cZ many ps) (p:qs.Perm ps):cZ many qs :=
 ⟨fun x hx=>h.ends x (p.mem_iff.mp hx),p.nodup_iff.mpr h.mB,by rw[p.length_eq];exact h.hV⟩
noncomputable def zG:GD:=fun ys aj K=>∃ (n de most:Int) (o:OV),ys=[.o 0,.p (.int de),.p (.int most)]/\aj=[o]/\a5 n o/\n + 400 < 2 ^ 30/\1 <= de/\de <= 12/\0 <= most/\most <= 30 ∧
 ∀ m ws o',aC m ws->m <= de->(ws.length:Int) <= most->a5 (n + 300) o'->K (.p (aE m ws)) [o']
noncomputable def zH:WS:=(av (aD 3 (au 2 eN (ai (aa 0) (ai (dC (.int 8)) af)))) (av (aD 4 (au 2 eN (ai (aa 0) (ai (dC (.int 4)) af)))) (av (aD 5 (d2 (dC (.int 1)) (au 2 eN (ai (aa 0) (ai (aa 1) af))) bZ)) (av (aD 6 (tH 3 zC (ai (aa 0) (ai (aa 3) (ai (aa 5) af))))) (av (aD 7 (px af)) (av (c7 (jE (ai (dN (ai (aa 2) (ai (dN (ai (aa 6) af) cu) af)) tT) af)) (bo 8) (av (gK (t4 (aa 6) (ai (au 2 eN (ai (aa 0) (ai (dN (ai (aa 6) af) cu) af))) af)) (i_ 2 (eF (bo 9) (eF (bo 10) iJ)))) (av (aD 11 (d2 (bS (ai (dC (.int 7)) (ai (au 2 eN (ai (aa 0) (ai (dC (.int 3)) af))) (ai (d2 (d2 (dC (.int 10)) (dC (.int 9)) (c9 eU fun i j => .int (i ^ j.toNat))) (au 2 eN (ai (aa 0) (ai (dC (.int 2)) af))) (oI fun i j => .int (i - j))) (ai (au 2 eN (ai (aa 0) (ai (d2 (d2 (dC (.int 10)) (dC (.int 9)) (c9 eU fun i j => .int (i ^ j.toNat))) (dC (.int 1)) bZ) af))) af))))) (aa 4) aP)) (kg (ip (aa 7) (ai (dS (ai (aa 9) (ai (aa 10) (ai (aa 11) af)))) af)))))) (aG (dS (ai (aa 5) (ai (dN (ai (aa 7) af) vI) af))))))))))
theorem OY:∀ ys aj K',ys.length=3->zG ys aj K'->zH (bG aj.length K') ⟨ys.map some ++ List.replicate 9 none,aj.map some⟩:=by
 rintro ys aj K' - ⟨n,de,most,o,rfl,rfl,P,hn,h1,Fv,s0,U2,fin⟩
 unfold zH
 refine aU fun N hN => ?_
 simp? only []
 refine⟨n,8,o,rfl,rfl,P,by omega,by omega,by omega,fun kind o1 _ _ P1 => ?_⟩
 simp? only []
 subst hN
 refine aU fun N hN => ?_
 simp? only []
 refine⟨n + 1,4,o1,rfl,rfl,P1,by omega,by omega,by omega,fun dW o2 p0 p4 P2 => ?_⟩
 simp? only []
 subst hN
 refine aU fun N hN => ?_
 simp? only []
 refine⟨n + 1 + 1,de,o2,rfl,rfl,P2,by omega,by omega,by omega,fun mm o3 m0 mh P3 => ?_⟩
 simp? only []
 subst hN
 refine aU fun N hN => ?_
 simp? only []
 refine⟨n + 1 + 1 + 1,kind,1 + mm,o3,rfl,rfl,P3,by omega,by omega,by omega,fun ps o4 Fw P4 => ?_⟩
 simp? only []
 subst hN
 refine aU fun N hN => ?_
 simp? only []
 subst hN
 refine aU fun N hN => ?_
 have U3:=Fw.hV
 simp? only []
 refine⟨by omega,?_⟩
 have ek:(min most (ps.length:Int)).toNat=min most.toNat ps.length:=by omega
 rw[ek]
 generalize hk:min most.toNat ps.length=k
 refine kB (fun i δ => ∃ (qs:List (Int × Int)) (ws:List (Int × Int × Int)) (o':OV),qs.length + i=ps.length/\ws.length=i/\cZ (1 + mm) (ws.map mS ++ qs)/\(∀ y∈ws,0 <= y.2.2/\y.2.2 <= 1000000000)/\a5 (n + 70 + 4 * i) o' ∧
  δ = ⟨[some (.o 0),some (.p (.int de)),some (.p (.int most)),some (.p (.int kind)),some (.p (.int dW)),some (.p (.int (1 + mm))),some (.o 1),some (.o 2),none,none,none,none],[some o',some (.lst (qs.map cB)),some (.lst (ws.map bE))]⟩)
  ⟨ps,[],o4,by omega,rfl,Fw,fun y hy=>absurd hy VQ,P4.mono (by omega),rfl⟩ ?_ ?_
 ·rintro j d δ L hj ⟨qs,ws,o',hq,hw,hp,hy,P',rfl⟩ hL
  obtain⟨hj,rfl⟩:=jF hj
  have q0:0 < qs.length:=by omega
  have OZ:=hp.hV
  rw[DG,oV] at OZ
  refine⟨trivial,?_⟩
  simp only[bo,VT,VU]
  refine aU fun N2 dA => ?_
  simp? only []
  refine⟨n + 70 + 4 * j,qs.length,o',rfl,rfl,P',by omega,by omega,by omega,fun r o1 r0 r1 P1 => ?_⟩
  obtain⟨rn,rfl⟩:∃ rn:Nat,r=rn:=⟨r.toNat,by omega⟩
  have hr:rn < qs.length:=by omega
  have ix:seqIndex? (rn:Int) qs.length=some rn:=Nv hr
  have eq:(qs.map cB)[rn]? = some (.tup [.int qs[rn].1,.int qs[rn].2]):=by rw[LR,oU hr];rfl
  simp? only [ix,eq]
  refine⟨⟨by omega,by omega⟩,?_⟩
  subst dA
  refine aU fun N2 dA => ?_
  simp only[aD,d2,bS]
  refine vU fun K3 pY => ?_
  simp? only []
  subst pY
  refine vU fun K3 pY => ?_
  simp? only []
  refine⟨n + 70 + 4 * j + 1,3,o1,rfl,rfl,P1,by omega,by omega,by omega,fun a1 o2 U4 U5 P2 => ?_⟩
  simp? only []
  subst pY
  refine vU fun K3 pY => ?_
  simp? only []
  refine⟨⟨by decide,by decide,by decide⟩,n + 70 + 4 * j + 1 + 1,2,o2,rfl,rfl,P2,by omega,by omega,by omega,fun a2 o3 U6 U7 P3 => ?_⟩
  simp? only []
  subst pY
  refine vU fun K3 pY => ?_
  simp? only []
  refine⟨⟨by decide,by decide,by decide⟩,n + 70 + 4 * j + 1 + 1 + 1,10 ^ Int.toNat 9 + 1,o3,rfl,rfl,P3,by omega,by decide,by decide,fun a3 o4 U8 O0 P4 => ?_⟩
  simp? only []
  subst pY
  simp? only []
  have e9:(10:Int) ^ Int.toNat 9=1000000000:=by decide
  rw[e9] at O0 ⊢
  obtain⟨pr,O1,O3,O4⟩:∃ pr:Int,eC [D.int 7,D.int a1,D.int (1000000000 - a2),D.int a3] dW=some (.int pr)/\0 <= pr/\pr <= 1000000000:=by
   have:dW=0\/dW=1\/dW=2\/dW=3:=by omega
   rcases this with rfl | rfl | rfl | rfl
   ·exact⟨7,rfl,by omega,by omega⟩
   ·exact⟨a1,rfl,by omega,by omega⟩
   ·exact⟨1000000000 - a2,rfl,by omega,by omega⟩
   ·exact⟨a3,rfl,by omega,by omega⟩
  rw[O1]
  show N2 _
  subst dA
  simp? only []
  refine⟨by omega,hL _ ⟨qs.eraseIdx rn,ws ++ [(qs[rn].1,qs[rn].2,pr)],o4,?_,?_,?_,?_,P4.mono (by omega),?_⟩⟩
  ·rw[List.length_eraseIdx_of_lt hr];omega
  ·rw[DG,hw];rfl
  ·refine hp.perm ?_
   rw[VC,XE]
   refine List.Perm.append_left _ ?_
   exact Ft hr
  ·intro y vV
   rcases VO.mp vV with h | h
   ·exact hy y h
   ·rw[VI.mp h];exact⟨O3,O4⟩
  ·rw[VC,Fu];rfl
 ·rintro δ ⟨qs,ws,o',hq,hw,hp,hy,P',rfl⟩
  refine⟨trivial,?_⟩
  subst hN
  simp? only []
  rw[ja] at hw P'
  refine⟨[o'],rfl,rfl,?_⟩
  refine fin (1 + mm) ws o' ⟨by omega,by omega,by omega,fun y vV => ?_,?_⟩ (by omega) (by omega) (P'.mono (by omega))
  ·have:=hp.ends (mS y) (Wf _ (My.mpr ⟨y,vV,rfl⟩))
   have h2:=hy y vV
   simp only[mS] at this
   omega
  ·exact (W7.mp hp.mB).1
end LJ
namespace L2
open PySem PySem.Spec PyProof.Rows
variable [aM]
section
variable {X:Cx} {fa:WA}
end
end L2
namespace LJ
open PySem L2
variable [aM]
noncomputable def Fy:D->Bool
 | .int _=>true
 | _=>false
noncomputable def pZ:D->Int->Int->Bool
 | .int i,lo,hi=>decide (lo <= i) && decide (i <= hi)
 | _,_,_=>false
noncomputable def vW:D->Int->Bool
 | .tup ds,n=>(ds.length:Int) == n
 | _,_=>false
theorem gg {K:RV->List OV->Prop} {d:D} {sl:List (Option DV)} (h:K (.p d) []):gb 0 K (.p d) ⟨sl,[]⟩:=⟨[],rfl,rfl,h⟩
noncomputable def vX:GD:=fun ys aj K=>∃ d,ys=[.p d]/\aj=[]/\K (.p (.bl (Fy d))) []
noncomputable def zI:WS:=(aG (i9 (d1 (aa 0) (dU "int")) (vi (d1 (aa 0) (dU "bool")))))
theorem FA:∀ ys aj K',ys.length=1->vX ys aj K'->zI (bG aj.length K') ⟨ys.map some ++ List.replicate 0 none,aj.map some⟩:=by
 rintro ys aj K' - ⟨d,rfl,rfl,k⟩
 unfold zI
 simp? only []
 cases d<;>simp only[fM,c5]<;>exact gg k
noncomputable def lL:GD:=fun ys aj K=>∃ d lo hi,ys=[.p d,.p (.int lo),.p (.int hi)]/\aj=[]/\K (.p (.bl (pZ d lo hi))) []
noncomputable def zJ:WS:=(aG (i9 (au 1 vX (ai (aa 0) af)) (tR (aa 1) (aa 0) (aa 2) (oI fun i j => .bl (decide (i <= j))) (oI fun i j => .bl (decide (i <= j))))))
theorem FC:∀ ys aj K',ys.length=3->lL ys aj K'->zJ (bG aj.length K') ⟨ys.map some ++ List.replicate 0 none,aj.map some⟩:=by
 rintro ys aj K' - ⟨d,lo,hi,rfl,rfl,k⟩
 unfold zJ
 simp? only []
 refine⟨d,rfl,rfl,?_⟩
 cases d<;>simp? only [Fy,pZ] at k ⊢ <;> first | exact gg k | skip
 rename_i i
 by_cases c:lo <= i
 ·rw[LV c] at k ⊢
  simp only[Bool.true_and] at k
  exact gg k
 ·rw[DF c] at k ⊢
  simp only[Zz] at k
  exact gg k
noncomputable def vY:GD:=fun ys aj K=>∃ d n,ys=[.p d,.p (.int n)]/\aj=[]/\K (.p (.bl (vW d n))) []
noncomputable def zK:WS:=(aG (i9 (d1 (aa 0) (dU "tuple")) (d2 (dN (ai (aa 0) af) cu) (aa 1) oEq)))
theorem O5:∀ ys aj K',ys.length=2->vY ys aj K'->zK (bG aj.length K') ⟨ys.map some ++ List.replicate 0 none,aj.map some⟩:=by
 rintro ys aj K' - ⟨d,n,rfl,rfl,k⟩
 unfold zK
 simp? only []
 cases d<;>simp? only [fM,c5,vW,aH] at k ⊢ <;> exact gg k
noncomputable def zL:GD:=vX
noncomputable def FD:WS:=(aG (i9 (d1 (aa 0) (dU "int")) (vi (d1 (aa 0) (dU "bool")))))
theorem O6:∀ ys aj K',ys.length=1->zL ys aj K'->FD (bG aj.length K') ⟨ys.map some ++ List.replicate 0 none,aj.map some⟩:=FA
noncomputable def vZ:GD:=lL
noncomputable def FE:WS:=(aG (i9 (au 1 zL (ai (aa 0) af)) (tR (aa 1) (aa 0) (aa 2) (oI fun i j => .bl (decide (i <= j))) (oI fun i j => .bl (decide (i <= j))))))
theorem O7:∀ ys aj K',ys.length=3->vZ ys aj K'->FE (bG aj.length K') ⟨ys.map some ++ List.replicate 0 none,aj.map some⟩:=FC
end LJ
namespace L2
open PySem PySem.Spec PyProof.Rows
variable [aM]
noncomputable def FF:List D->(D->Prop)->Prop:=fun ds K=>∃ ps:List (Int × Int),ds=[.lst (ps.map fun p => .tup [.int p.1,.int p.2])]/\ps.length <= 30/\(∀ p∈ps,0 <= p.1/\p.1 < p.2/\p.2 < 12)/\ps.Nodup/\K (.int ps.length)
section
variable {X:Cx} {fa:WA}
theorem O8 {a:Expr} {p1 p2 q1 q2:Pos} (hc:X.calm=true) (hu:X.A.units + 64 < cLine) (tV:Gl X "len") (hl:X.mg "len" = none) (tW:bootBuiltins "len" = some (.builtin "len")) (mN:Gl X "set") (hr:X.mg "set" = none) (mO:bootBuiltins "set" = some (.type "set")) (ha:JA X [a] (bX fa))
  (he:starEach [a] X.env=[(false,eval a X.env)]:=by rfl) (tX:starEach [.Call (.Name "set" p2) [a] [] q2] X.env=[(false,eval (.Call (.Name "set" p2) [a] [] q2) X.env)]:=by rfl):JE X (.Call (.Name "len" p1) [.Call (.Name "set" p2) [a] [] q2] [] q1) (tD (dN fa FF)) :=
 (u9 (Nq) tV hl tW (j5 (nK (Nm hc hu) mN hr mO ha (he:=he)) bW) (he:=tX)).weak fun σ H Q h0_ => el7 h0_ fun F ad δ K S q k =>⟨F,ad,δ,_,S,q,fun xs δ1 h1 vs F1 aO H1 E1 S1 V1=>by
  obtain⟨ds,⟨ps,rfl,fH,bd,mB,h2⟩,pe⟩:=vd S1 V1 h1
  obtain⟨v,rfl,a,vs,rfl,g1,g2⟩:=cf pe
  obtain⟨as,rfl,hl,g⟩:=Fj g2
  refine⟨a,as,ps,rfl,bq.of g1,hl,fun i b k' e1 e2=>S1.sub _ _ (g i b k' e1 e2),bd,mB,fH,fun p hp=>⟨p,ps.length,rfl,bR,by omega,?_⟩⟩
  have s1:aJ H1 (upd H1 p (j6 p ps.length)):=cA hp
  exact k _ _ h2 _ _ _ _ (E1.trans (Ext.al S1 s1)) (S1.al s1) rfl⟩
end
end L2
namespace LJ
open PySem L2
variable [aM]
theorem v3 {i lo hi:Int} (h:lo <= i) (h':i <= hi):pZ (.int i) lo hi=true:=by
 show (decide (lo <= i) && decide (i <= hi))=true
 rw[LV h,LV h'];rfl
noncomputable def zM:GD:=fun ys aj K=>∃ m i j:Int,ys=[.p (.int m),.p (.int i),.p (.int j)]/\aj=[]/\0 <= i/\i < j/\j < m/\K (.p (.bl true)) []
noncomputable def zN:WS:=(aG (i9 (au 3 lL (ai (aa 1) (ai (dC (.int 0)) (ai (d2 (aa 0) (dC (.int 1)) (oI fun i j => .int (i - j))) af)))) (au 3 lL (ai (aa 2) (ai (d2 (aa 1) (dC (.int 1)) bZ) (ai (d2 (aa 0) (dC (.int 1)) (oI fun i j => .int (i - j))) af))))))
theorem O9:∀ ys aj K',ys.length=3->zM ys aj K'->zN (bG aj.length K') ⟨ys.map some ++ List.replicate 0 none,aj.map some⟩:=by
 rintro ys aj K' - ⟨m,i,j,rfl,rfl,h1,h2,h3,k⟩
 unfold zN
 simp? only []
 refine⟨.int i,0,m - 1,rfl,rfl,?_⟩
 rw[v3 h1 (by omega)]
 simp? only []
 refine⟨.int j,i + 1,m - 1,rfl,rfl,?_⟩
 rw[v3 (by omega) (by omega)]
 simp? only []
 exact gg k
structure FG (m:Int) (y:Int × Int × Int):Prop where
 low:0 <= y.1
 up:y.1 < y.2.1
 most:y.2.1 < m
 pr:0 <= y.2.2/\y.2.2 <= 1000000000
noncomputable def zO:GD:=fun ys aj K=>∃ m y,FG m y/\ys=[.p (.int m),.p (bE y)]/\aj=[]/\K (.p (.bl true)) []
noncomputable def zP:WS:=(av (bh (cR (dT (au 2 vY (ai (aa 1) (ai (dC (.int 3)) af))))) (aG (dC (.bl false))) cC) (aG (i9 (au 3 zM (ai (aa 0) (ai (d2 (aa 1) (dC (.int 0)) aP) (ai (d2 (aa 1) (dC (.int 1)) aP) af)))) (au 3 lL (ai (d2 (aa 1) (dC (.int 2)) aP) (ai (dC (.int 0)) (ai (dC (.int 1000000000)) af)))))))
theorem O_:∀ ys aj K',ys.length=2->zO ys aj K'->zP (bG aj.length K') ⟨ys.map some ++ List.replicate 0 none,aj.map some⟩:=by
 rintro ys aj K' - ⟨m,y,W,rfl,rfl,k⟩
 unfold zP
 refine aU fun N hN => ?_
 simp? only []
 refine⟨bE y,3,rfl,rfl,?_⟩
 rw[show vW (bE y) 3=true from rfl]
 simp? only []
 subst hN
 simp? only [bE,dG,dH,at2]
 refine⟨m,_,_,rfl,rfl,W.low,W.up,W.most,?_⟩
 simp? only []
 refine⟨_,0,1000000000,rfl,rfl,?_⟩
 rw[v3 W.pr.1 W.pr.2]
 simp? only []
 exact gg k
theorem aC.way {m:Int} {ws:List (Int × Int × Int)} (W:aC m ws) {y:Int × Int × Int} (h:y∈ws):FG m y :=
 let ⟨a,b,c,d,e⟩:=W.ends y h
 ⟨a,by omega,by omega,d,e⟩
noncomputable def zQ:GD:=fun ys aj K=>∃ m ws,aC m ws/\ys=[.p (.int m),.p (.tup (ws.map bE))]/\aj=[]/\K (.p (.bl true)) []
noncomputable def zR:WS:=(av (bh (i8 (cR (dT (d1 (aa 1) (dU "tuple")))) (dT (d2 (dN (ai (aa 1) af) cu) (dC (.int 30)) (oI fun i j => .bl (decide (j < i)))))) (aG (dC (.bl false))) cC) (av (bh (cR (dT (dN (ai (c8 (bA (aa 1)) [none,some 0] (bo 0) cq (au 2 zO (ai (aa 1) (ai (aa 0) af)))) af) mM))) (aG (dC (.bl false))) cC) (aG (d2 (dN (ai (c8 (bA (aa 1)) [none] (bo 0) cq (c_ (aa 0) dw (g6 (dC (.int 2))))) af) FF) (dN (ai (aa 1) af) cu) oEq))))
theorem Pa:∀ ys aj K',ys.length=2->zQ ys aj K'->zR (bG aj.length K') ⟨ys.map some ++ List.replicate 0 none,aj.map some⟩:=by
 rintro ys aj K' - ⟨m,ws,W,rfl,rfl,k⟩
 have jK:=W.fH
 have d6:=W.d6
 unfold zR
 refine aU fun N hN => ?_
 simp? only [fM,show c5 "tuple" "tuple" = true from rfl]
 rw[LX (by rw[DF (by omega)];decide)]
 subst hN
 refine aU fun N hN => ?_
 simp? only []
 refine jJ (fun _ => .bl true) (by rw[oV];omega) trivial ?_ ?_
 ·intro d hd acc L ha h
  obtain⟨y,hy,rfl⟩:=My.mp hd
  simp? only []
  refine⟨m,y,W.way hy,rfl,rfl,?_⟩
  simp? only []
  exact⟨ha,h⟩
 rw[show (ws.map bE).map (fun _=>D.bl true)=(ws.map fun _=>true).map D.bl by rw[Vz,Vz];rfl]
 simp? only [EV]
 rw[show (ws.map fun _=>true).all id=true from Wu.mpr fun b hb=>by obtain⟨_,_,rfl⟩:=My.mp hb;rfl]
 simp? only []
 subst hN
 simp? only []
 refine jJ (fun d=>match d with
  | .tup [a,b,_] => .tup [a,b]
  | _ => .non) (by rw[oV];omega) trivial ?_ ?_
 ·intro d hd acc L ha h
  obtain⟨y,hy,rfl⟩:=My.mp hd
  have ec:cutD [D.int y.1,D.int y.2.1,D.int y.2.2] none (some 2)=[D.int y.1,D.int y.2.1]:=by unfold cutD;rfl
  simp? only [bE,ec] at h ⊢
  exact⟨ha,h⟩
 simp? only []
 refine⟨ws.map mS,by rw[Vz,Vz];rfl,by rw[oV];exact jK,fun p hp => ?_,W.unlike,?_⟩
 ·obtain⟨y,hy,rfl⟩:=My.mp hp
  have Y:=W.way hy
  have:=Y.most
  exact⟨Y.low,Y.up,by show y.2.1 < 12;omega⟩
 rw[oV]
 simp? only [aH]
 exact gg k
noncomputable def zS:GD:=fun ys aj K=>∃ m ws,aC m ws/\ys=[.p (aE m ws)]/\aj=[]/\K (.p (.bl true)) []
noncomputable def zT:WS:=(av (bh (cR (dT (au 2 vY (ai (aa 0) (ai (dC (.int 2)) af))))) (aG (dC (.bl false))) cC) (aG (i9 (au 3 lL (ai (d2 (aa 0) (dC (.int 0)) aP) (ai (dC (.int 1)) (ai (dC (.int 12)) af)))) (au 2 zQ (ai (d2 (aa 0) (dC (.int 0)) aP) (ai (d2 (aa 0) (dC (.int 1)) aP) af))))))
theorem Pb:∀ ys aj K',ys.length=1->zS ys aj K'->zT (bG aj.length K') ⟨ys.map some ++ List.replicate 0 none,aj.map some⟩:=by
 rintro ys aj K' - ⟨m,ws,W,rfl,rfl,k⟩
 unfold zT
 refine aU fun N hN => ?_
 simp? only []
 refine⟨aE m ws,2,rfl,rfl,?_⟩
 rw[show vW (aE m ws) 2=true from rfl]
 simp? only []
 subst hN
 simp? only [aE,dG,dH]
 refine⟨.int m,1,12,rfl,rfl,?_⟩
 rw[v3 W.m1 W.d6]
 simp? only []
 refine⟨m,ws,W,rfl,rfl,?_⟩
 simp? only []
 exact gg k
noncomputable def aS (ns:List Int):D := .lst (ns.map D.int)
noncomputable def gN (fs:List Int) (i j:Nat):List Int:=fs.map fun x=>if x=max (fs.getD i 0) (fs.getD j 0) then min (fs.getD i 0) (fs.getD j 0) else x
theorem FH (fs:List Int) (i j:Nat):(gN fs i j).length=fs.length:=by unfold gN;rw[oV]
theorem ir {ns:List Int} {i:Nat} (h:i < ns.length):eC (ns.map D.int) (i:Int)=some (.int (ns.getD i 0)):=by
 refine mi ?_
 rw[LR,oU h,DD,oU h];rfl
theorem a7 {K:RV->List OV->Prop} {d:D} {sl:List (Option DV)} {mu:List (Option OV)} (h:K (.p d) []):gb 0 K (.p d) ⟨sl,mu⟩:=⟨[],rfl,rfl,h⟩
noncomputable def t_:GD:=fun ys aj K=>∃ (fs:List Int) (i j:Nat),ys=[.p (aS fs),.p (.int i),.p (.int j)]/\aj=[]/\i < fs.length/\j < fs.length/\fs.length <= 12/\K (.p (aS (gN fs i j))) []
noncomputable def zU:WS:=(av (aD 3 (dN (ai (d2 (aa 0) (aa 1) aP) (ai (d2 (aa 0) (aa 2) aP) af)) vJ)) (av (aD 4 (dN (ai (d2 (aa 0) (aa 1) aP) (ai (d2 (aa 0) (aa 2) aP) af)) tT)) (aG (c8 (bA (aa 0)) [none,some 4,some 3] (bo 0) cq (pz (dT (d2 (aa 0) (aa 2) oEq)) (aa 1) (aa 0))))))
theorem Pc:∀ ys aj K',ys.length=3->t_ ys aj K'->zU (bG aj.length K') ⟨ys.map some ++ List.replicate 2 none,aj.map some⟩:=by
 rintro ys aj K' - ⟨fs,i,j,rfl,rfl,hi,hj,Fv,k⟩
 have a1:=ir hi
 have a2:=ir hj
 unfold zU aS
 refine aU fun N hN => ?_
 simp? only [a1,a2]
 subst hN
 refine aU fun N hN => ?_
 simp? only [a1,a2]
 subst hN
 simp? only []
 refine jJ (fun d=>match d with
  | .int x => .int (if x=max (fs.getD i 0) (fs.getD j 0) then min (fs.getD i 0) (fs.getD j 0) else x)
  | _ => .non) (by rw[oV];omega) trivial ?_ ?_
 ·intro d hd acc L ha h
  obtain⟨x,_,rfl⟩:=My.mp hd
  simp? only []
  cases q:aH (.int x) (.int (max (fs.getD i 0) (fs.getD j 0)))
  ·have:¬ x=max (fs.getD i 0) (fs.getD j 0):=fun z=>by rw[z,lF] at q;cases q
   simp only[this,Xf] at h
   exact⟨ha,h⟩
  ·have:x=max (fs.getD i 0) (fs.getD j 0):=by simp only[aH] at q;exact WB q
   simp only[this,Yi] at h
   exact⟨ha,h⟩
 ·refine a7 ?_
  have e:(fs.map D.int).map (fun d=>match d with
   | .int x=>D.int (if x=max (fs.getD i 0) (fs.getD j 0) then min (fs.getD i 0) (fs.getD j 0) else x)
   | _ => .non)=(gN fs i j).map D.int:=by
   unfold gN
   rw[Vz,Vz];rfl
  rw[e]
  exact k
noncomputable def bD (ws:List (Int × Int × Int)) (n:Int):Nat × Nat:=((ws.getD n.toNat (0,0,0)).1.toNat,(ws.getD n.toNat (0,0,0)).2.1.toNat)
noncomputable def fD (ws:List (Int × Int × Int)) (fs:List Int) (ns:List Int):List Int:=ns.foldl (fun fs n=>gN fs (bD ws n).1 (bD ws n).2) fs
theorem zV (ws:List (Int × Int × Int)):∀ (ns:List Int) (fs:List Int),(fD ws fs ns).length=fs.length
 | [],fs=>rfl
 | n :: r,fs=>by
  show (fD ws (gN fs _ _) r).length=_
  rw[zV ws r,FH]
noncomputable def nV (m:Int) (ws:List (Int × Int × Int)) (ns:List Int):List Int:=fD ws (aL m.toNat) ns
noncomputable def Nums (ws:List (Int × Int × Int)) (ns:List Int):Prop:=∀ n∈ns,0 <= n/\n < (ws.length:Int)
theorem ji {m:Int} {ws:List (Int × Int × Int)} (W:aC m ws) {n:Int} (h0:0 <= n) (h1:n < (ws.length:Int)):∃ y,ws.getD n.toNat (0,0,0)=y/\y∈ws/\eC (ws.map bE) n=some (bE y)/\∃ i j:Nat,y.1=i/\y.2.1=j/\i < m.toNat/\j < m.toNat/\i < j:=by
 obtain⟨k,rfl⟩:∃ k:Nat,n=k:=⟨n.toNat,by omega⟩
 have hk:k < ws.length:=by omega
 refine⟨ws[k],?_,WK hk,mi ?_,?_⟩
 ·rw[LW,DD,oU hk];rfl
 ·rw[LR,oU hk];rfl
 ·obtain⟨a,b,c,_,_⟩:=W.ends _ (WK hk)
  exact⟨ws[k].1.toNat,ws[k].2.1.toNat,by omega,by omega,by omega,by omega,by omega⟩
noncomputable def qV:GD:=fun ys aj K=>∃ (m:Int) (ws:List (Int × Int × Int)) (ns:List Int),aC m ws/\Nums ws ns/\((ys=[.p (aE m ws),.p (aS ns)]/\aj=[]/\K (.p (aS (nV m ws ns))) [])\/(ys=[.p (aE m ws),.o 0]/\aj=[.lst (ns.map D.int)]/\K (.p (aS (nV m ws ns))) [.lst (ns.map D.int)]))
noncomputable def v5:WS:=(av (aD 2 (pP (ai (d2 (aa 0) (dC (.int 0)) aP) af))) (av (c7 (bA (aa 1)) (bo 3) (av (aD 4 (d2 (d2 (aa 0) (dC (.int 1)) aP) (aa 3) aP)) (aD 2 (au 3 t_ (ai (aa 2) (ai (d2 (aa 4) (dC (.int 0)) aP) (ai (d2 (aa 4) (dC (.int 1)) aP) af))))))) (aG (aa 2))))
theorem Pd:∀ ys aj K',ys.length=2->qV ys aj K'->v5 (bG aj.length K') ⟨ys.map some ++ List.replicate 3 none,aj.map some⟩:=by
 rintro ys aj K' - ⟨m,ws,ns,W,hn,h⟩
 have m1:=W.m1
 have d6:=W.d6
 have il:(aL m.toNat).length=m.toNat:=by unfold aL;simp
 have core:∀ (x:DV) (mu:List (Option OV)) (bz:aF->Prop) (K:KS),(∀ sl,bz ⟨sl,mu⟩)->(∀ fs,fs=nV m ws ns->K.nx ⟨[some (.p (aE m ws)),some x,some (.p (aS fs)),none,none],mu⟩)->(∀ k,x = .o k->k < mu.length) →
   jD ⟨[some (.p (aE m ws)),some x,some (.p (aS (aL m.toNat))),none,none],mu⟩ bz (bo 3) (av (aD 4 (d2 (d2 (aa 0) (dC (.int 1)) aP) (aa 3) aP)) (aD 2 (au 3 t_ (ai (aa 2) (ai (d2 (aa 4) (dC (.int 0)) aP) (ai (d2 (aa 4) (dC (.int 1)) aP) af)))))) K (ns.map D.int) ⟨[some (.p (aE m ws)),some x,some (.p (aS (aL m.toNat))),none,none],mu⟩:=by
  intro x mu bz K hc hK hx
  refine kB (fun i δ => δ = ⟨[some (.p (aE m ws)),some x,some (.p (aS (fD ws (aL m.toNat) (ns.take i)))),none,none],mu⟩) rfl ?_ ?_
  ·rintro j d δ L hj rfl hL
   rw[LR] at hj
   obtain⟨n,ua,rfl⟩:=UP.mp hj
   obtain⟨n0,n1⟩:=hn n (VA ua)
   obtain⟨y,ey,hy,ea,i,k,e1,e2,h1,h2,_⟩:=ji W n0 n1
   refine⟨hc _,?_⟩
   simp only[bo,VT,VU]
   refine aU fun N hN => ?_
   simp? only [dH,aE,ea]
   subst hN
   simp? only [dG,dH,bE]
   have hlen:(fD ws (aL m.toNat) (ns.take j)).length=m.toNat:=by rw[zV,il]
   refine⟨fD ws (aL m.toNat) (ns.take j),i,k,by rw[e1,e2],rfl,by omega,by omega,by omega,?_⟩
   have ej:gN (fD ws (aL m.toNat) (ns.take j)) i k=fD ws (aL m.toNat) (ns.take (j + 1)):=by
    have:ns.take (j + 1)=ns.take j ++ [n]:=by rw[Xq,ua];rfl
    rw[this]
    unfold fD
    rw[XH]
    show _=gN _ (bD ws n).1 (bD ws n).2
    have:bD ws n=(i,k):=by
     unfold bD
     rw[ey,e1,e2,LW,LW]
    rw[this]
   rw[ej]
   have eq:(aF.trim ⟨[some (.p (aE m ws)),some x,some (.p (aS (aL m.toNat))),none,none],mu⟩ ⟨[some (.p (aE m ws)),some x,some (.p (aS (fD ws (aL m.toNat) (ns.take (j + 1))))),some (.p (.int n)),some (.p (bE y))],mu⟩)=⟨[some (.p (aE m ws)),some x,some (.p (aS (fD ws (aL m.toNat) (ns.take (j + 1))))),none,none],mu⟩:=by
    unfold aF.trim
    rw[Yr]
    cases x with
    | p d=>rfl
    | o q =>
     have:=hx q rfl
     simp only[ff,tF,this,Yi]
   have:=hL _ rfl
   rw[<-eq] at this
   exact this
  ·rintro δ rfl
   rw[oV,Wj (uX _)]
   exact⟨hc _,hK _ rfl⟩
 have rg:bO 0 m.toNat=(aL m.toNat).map D.int:=jI m.toNat
 rcases h with⟨rfl,rfl,k⟩ | ⟨rfl,rfl,k⟩
 ·unfold v5
  refine aU fun N hN => ?_
  simp? only [dG,aE]
  refine⟨⟨by omega,by omega⟩,?_⟩
  subst hN
  rw[rg]
  refine aU fun N hN=>lK fun g' b' K2 hg hb' hK => ?_
  simp? only [aS]
  subst hg hb' hK
  refine core (.p (aS ns)) [] _ _ (fun _=>trivial) (fun fs e => ?_) (fun k z=>by cases z)
  subst e
  show N _
  subst hN
  simp? only []
  exact a7 k
 ·unfold v5
  refine aU fun N hN => ?_
  simp? only [dG,aE]
  refine⟨⟨by omega,by omega⟩,?_⟩
  subst hN
  rw[rg]
  refine aU fun N hN=>lK fun g' b' K2 hg hb' hK => ?_
  simp? only []
  subst hg hb' hK
  refine core (.o 0) [some (.lst (ns.map D.int))] _ _ (fun _=>rfl) (fun fs e => ?_) (fun k z=>by cases z;exact Nat.zero_lt_one)
  subst e
  show N _
  subst hN
  simp? only []
  exact⟨[.lst (ns.map D.int)],rfl,rfl,k⟩
theorem Pe (a b:Int):sortI [a,b]=[min a b,max a b]:=by
 refine (zh (as:=[min a b,max a b]) ?_ ?_).symm
 ·by_cases c:a <= b
  ·rw[Int.min_eq_left c,Int.max_eq_right c]
  ·rw[Int.min_eq_right (by omega),Int.max_eq_left (by omega)]
   exact List.Perm.swap ..
 ·refine List.Pairwise.cons (fun x hx => ?_) (List.pairwise_singleton _ _)
  rw[VI.mp hx];omega
noncomputable def zW:GD:=qV
noncomputable def v7:WS:=(av (aD 2 (pP (ai (d2 (aa 0) (dC (.int 0)) aP) af))) (av (c7 (bA (aa 1)) (bo 3) (av (gK (dN (ai (c8 (bA (c_ (d2 (d2 (aa 0) (dC (.int 1)) aP) (aa 3) aP) dw (g6 (dC (.int 2))))) [none,some 2] (bo 0) cq (d2 (aa 1) (aa 0) aP)) af) mL) (i_ 2 (eF (bo 4) (eF (bo 5) iJ)))) (aD 2 (c8 (bA (aa 2)) [none,some 4,some 5] (bo 0) cq (pz (dT (d2 (aa 0) (aa 2) oEq)) (aa 1) (aa 0)))))) (aG (aa 2))))
theorem Pf:∀ ys aj K',ys.length=2->zW ys aj K'->v7 (bG aj.length K') ⟨ys.map some ++ List.replicate 4 none,aj.map some⟩:=by
 rintro ys aj K' - ⟨m,ws,ns,W,hn,h⟩
 have m1:=W.m1
 have d6:=W.d6
 have il:(aL m.toNat).length=m.toNat:=by unfold aL;simp
 have core:∀ (x:DV) (mu:List (Option OV)) (bz:aF->Prop) (K:KS),(∀ sl,bz ⟨sl,mu⟩)->(∀ fs,fs=nV m ws ns->K.nx ⟨[some (.p (aE m ws)),some x,some (.p (aS fs)),none,none,none],mu⟩)->(∀ k,x = .o k->k < mu.length) →
   jD ⟨[some (.p (aE m ws)),some x,some (.p (aS (aL m.toNat))),none,none,none],mu⟩ bz (bo 3) (av (gK (dN (ai (c8 (bA (c_ (d2 (d2 (aa 0) (dC (.int 1)) aP) (aa 3) aP) dw (g6 (dC (.int 2))))) [none,some 2] (bo 0) cq (d2 (aa 1) (aa 0) aP)) af) mL) (i_ 2 (eF (bo 4) (eF (bo 5) iJ)))) (aD 2 (c8 (bA (aa 2)) [none,some 4,some 5] (bo 0) cq (pz (dT (d2 (aa 0) (aa 2) oEq)) (aa 1) (aa 0))))) K (ns.map D.int) ⟨[some (.p (aE m ws)),some x,some (.p (aS (aL m.toNat))),none,none,none],mu⟩:=by
  intro x mu bz K hc hK hx
  refine kB (fun i δ => δ = ⟨[some (.p (aE m ws)),some x,some (.p (aS (fD ws (aL m.toNat) (ns.take i)))),none,none,none],mu⟩) rfl ?_ ?_
  ·rintro j d δ L hj rfl hL
   rw[LR] at hj
   obtain⟨n,ua,rfl⟩:=UP.mp hj
   obtain⟨n0,n1⟩:=hn n (VA ua)
   obtain⟨y,ey,hy,ea,i,k,e1,e2,h1,h2,_⟩:=ji W n0 n1
   refine⟨hc _,?_⟩
   have hlen:(fD ws (aL m.toNat) (ns.take j)).length=m.toNat:=by rw[zV,il]
   have ej:gN (fD ws (aL m.toNat) (ns.take j)) i k=fD ws (aL m.toNat) (ns.take (j + 1)):=by
    have:ns.take (j + 1)=ns.take j ++ [n]:=by rw[Xq,ua];rfl
    rw[this]
    unfold fD
    rw[XH]
    show _=gN _ (bD ws n).1 (bD ws n).2
    have:bD ws n=(i,k):=by
     unfold bD
     rw[ey,e1,e2,LW,LW]
    rw[this]
   generalize U9:fD ws (aL m.toNat) (ns.take j)=fs at hlen ej
   have a1:=ir (ns:=fs) (i:=i) (by omega)
   have a2:=ir (ns:=fs) (i:=k) (by omega)
   simp only[bo,VT,VU]
   refine aU fun N hN => ?_
   have ec:cutD [D.int y.1,D.int y.2.1,D.int y.2.2] none (some 2)=[D.int i,D.int k]:=by rw[<-e1,<-e2];rfl
   simp? only [dH,aE,ea,bE,ec]
   refine L2.jJ (fun d=>match d with
    | .int z => .int (fs.getD z.toNat 0)
    | _ => .non) (by show 2 <= 1000;decide) trivial ?_ ?_
   ·intro d hd acc L' ha h'
    simp only[Vr,VQ,Ye] at hd
    rcases hd with rfl | rfl
    ·simp? only [aS,a1]
     simp only[LW] at h'
     exact⟨ha,h'⟩
    ·simp? only [aS,a2]
     simp only[LW] at h'
     exact⟨ha,h'⟩
   ·have es:intsOf [D.int (fs.getD i 0),D.int (fs.getD k 0)]=some [fs.getD i 0,fs.getD k 0]:=rfl
    simp? only [LW,mL,es,Pe]
    subst hN
    simp? only [aS]
    refine L2.jJ (fun d=>match d with
     | .int x => .int (if x=max (fs.getD i 0) (fs.getD k 0) then min (fs.getD i 0) (fs.getD k 0) else x)
     | _ => .non) (by rw[oV];omega) trivial ?_ ?_
    ·intro d hd acc L' ha h'
     obtain⟨z,_,rfl⟩:=My.mp hd
     simp? only []
     cases q:aH (.int z) (.int (max (fs.getD i 0) (fs.getD k 0)))
     ·have:¬ z=max (fs.getD i 0) (fs.getD k 0):=fun w=>by rw[w,lF] at q;cases q
      simp only[this,Xf] at h'
      exact⟨ha,h'⟩
     ·have:z=max (fs.getD i 0) (fs.getD k 0):=by simp only[aH] at q;exact WB q
      simp only[this,Yi] at h'
      exact⟨ha,h'⟩
    ·have e:(fs.map D.int).map (fun d=>match d with
      | .int x=>D.int (if x=max (fs.getD i 0) (fs.getD k 0) then min (fs.getD i 0) (fs.getD k 0) else x)
      | _ => .non)=(gN fs i k).map D.int:=by
      unfold gN
      rw[Vz,Vz];rfl
     rw[e,ej]
     have eq:(aF.trim ⟨[some (.p (aE m ws)),some x,some (.p (aS (aL m.toNat))),none,none,none],mu⟩ ⟨[some (.p (aE m ws)),some x,some (.p (aS (fD ws (aL m.toNat) (ns.take (j + 1))))),some (.p (.int n)),some (.p (.int (min (fs.getD i 0) (fs.getD k 0)))),some (.p (.int (max (fs.getD i 0) (fs.getD k 0))))],mu⟩)=⟨[some (.p (aE m ws)),some x,some (.p (aS (fD ws (aL m.toNat) (ns.take (j + 1))))),none,none,none],mu⟩:=by
      unfold aF.trim
      rw[Yr]
      cases x with
      | p d=>rfl
      | o q =>
       have:=hx q rfl
       simp only[ff,tF,this,Yi]
     have:=hL _ rfl
     rw[<-eq] at this
     exact this
  ·rintro δ rfl
   rw[oV,Wj (uX _)]
   exact⟨hc _,hK _ rfl⟩
 have rg:bO 0 m.toNat=(aL m.toNat).map D.int:=jI m.toNat
 rcases h with⟨rfl,rfl,k⟩ | ⟨rfl,rfl,k⟩
 ·unfold v7
  refine aU fun N hN => ?_
  simp? only [dG,aE]
  refine⟨⟨by omega,by omega⟩,?_⟩
  subst hN
  rw[rg]
  refine aU fun N hN=>lK fun g' b' K2 hg hb' hK => ?_
  simp? only [aS]
  subst hg hb' hK
  refine core (.p (aS ns)) [] _ _ (fun _=>trivial) (fun fs e => ?_) (fun k z=>by cases z)
  subst e
  show N _
  subst hN
  simp? only []
  exact a7 k
 ·unfold v7
  refine aU fun N hN => ?_
  simp? only [dG,aE]
  refine⟨⟨by omega,by omega⟩,?_⟩
  subst hN
  rw[rg]
  refine aU fun N hN=>lK fun g' b' K2 hg hb' hK => ?_
  simp? only []
  subst hg hb' hK
  refine core (.o 0) [some (.lst (ns.map D.int))] _ _ (fun _=>rfl) (fun fs e => ?_) (fun k z=>by cases z;exact Nat.zero_lt_one)
  subst e
  show N _
  subst hN
  simp? only []
  exact⟨[.lst (ns.map D.int)],rfl,rfl,k⟩
noncomputable def qW:GD:=fun ys aj K=>∃ (m:Int) (ws:List (Int × Int × Int)),aC m ws/\ys=[.p (aE m ws)]/\aj=[]/\K (.n ((aL ws.length).map D.int)) []
noncomputable def zX:WS:=(aG (zo (ai (dN (ai (d2 (aa 0) (dC (.int 1)) aP) af) cu) af)))
theorem Pg:∀ ys aj K',ys.length=1->qW ys aj K'->zX (bG aj.length K') ⟨ys.map some ++ List.replicate 0 none,aj.map some⟩:=by
 rintro ys aj K' - ⟨m,ws,W,rfl,rfl,k⟩
 have:=W.fH
 unfold zX
 simp? only [dH,aE]
 refine⟨⟨by omega,by omega⟩,[],rfl,rfl,.inl ?_⟩
 rw[LW,jI]
 exact k
theorem p8 {n:Nat} {z:Int} (h:z∈aL n):0 <= z/\z < (n:Int):=by
 unfold aL at h
 obtain⟨i,hi,rfl⟩:=My.mp h
 have:=VJ.mp hi
 simp;omega
theorem FI (n:Nat):(aL n).Nodup:=by
 unfold aL
 refine Xk.mpr (Yn.imp fun {a b} ne e=>ne ?_)
 exact ZJ e
theorem qX {H:Hp} {a:Addr} {o:HO} (h:H a=none):aJ H (upd H a o):=fun b u e=>by rw[aX (cY e h)];exact e
structure v8 (H:Hp) (p c:Addr) (at_ z:Int):Prop where
 lst:H p=some (.lst [.ref c,.int at_,.int z])
 cells:∃ ns:List Int,H c=some (.lst (ns.map V.int))/\ns.length <= 63
 pos:0 <= at_
theorem v8.ne {H:Hp} {p c:Addr} {k z:Int} (P:v8 H p c k z):c≠p:=by
 obtain⟨ns,h,_⟩:=P.cells
 intro e
 subst e
 rw[P.lst] at h
 have h':=VE h
 injection h' with qE
 cases ns with
 | nil=>cases qE
 | cons n r=>injection qE with h1 _;cases h1
theorem Ph {ns:List Int} {k:Int} (h0:0 <= k) (h1:k < (ns.length:Int)):∃ n,eC (ns.map V.int) k=some (.int n):=by
 obtain⟨i,rfl⟩:∃ i:Nat,k=i:=⟨k.toNat,by omega⟩
 have hi:i < ns.length:=by omega
 refine⟨ns[i],mi ?_⟩
 rw[LR,oU hi];rfl
noncomputable def FJ (K:PySem.W.Frag):Sp:=fun vs H Q _=>∃ (a:Addr) (ns:List Int),vs=[.ref a]/\bq K H a (ns.map V.int)/\ns.length <= 63/\∀ (p c:Addr) (H':Hp),aJ H H'->H p=none->v8 H' p c 0 0->Q (.ref p) H'
noncomputable def v9 (K:PySem.W.Frag):Sp:=fun vs H Q _=>∃ (a:Addr) (ns:List Int),vs=[.ref a]/\bq K H a (ns.map V.int)/\ns.length <= 63/\aM.ok H/\∀ H',Q (.bl true) H'
theorem zY (ns:List Int) (lo hi:Option Int):cL (ns.map V.int) lo hi=((ns.drop (HT.a8 ns.length 0 lo)).take (HT.a8 ns.length ns.length hi - HT.a8 ns.length 0 lo)).map V.int:=by
 unfold cL
 rw[oV,ZK,List.map_drop]
theorem Pj {H:Hp} {p c a:Addr} {n:Nat} (hT:aM.ok H) (N:v8 H p c 0 0):∃ (F:Hp) (ns:List Int),ns.length <= 63/\SR F [p] ⟨none :: some (.o 0) :: List.replicate n none,[some (.lst [.lst (ns.map D.int),.int 0,.int 0])]⟩ (some (.ref a) :: some (.ref p) :: List.replicate n none) H:=by
 obtain⟨ns,hc,hn⟩:=N.cells
 have ne:=N.ne
 refine⟨upd (fun _=>none) c (.lst (ns.map V.int)),ns,hn,⟨fun b o e => ?_,fun b ⟨k,ov,e1,e2⟩ => ?_,rfl,fun k l a ov ow e1 e2 _ _ => ?_,fun k ov e => ?_,fun i x e => ?_,by simp,hT,fun b hb=>by
  obtain⟨ps,q⟩:=aM.tb hT hb
  rw[aX fun z=>by subst z;rw[hc] at q;cases q]⟩⟩
 ·by_cases z:b=c
  ·subst z;rw[bR] at e;cases e;exact hc
  ·rw[aX z] at e;cases e
 ·cases k with
  | zero=>cases (show some p=some b by simpa using e1);rw[aX (XC ne)]
  | succ k=>simp at e1
 ·cases k with
  | zero =>
   cases l with
   | zero=>rfl
   | succ l=>simp at e2
  | succ k=>simp at e1
 ·cases k with
  | zero =>
   cases (show OV.lst [.lst (ns.map D.int),.int 0,.int 0]=ov by simpa using e)
   refine⟨p,_,rfl,N.lst,_,rfl,?_⟩
   refine .cons ?_ (.cons rfl (.cons rfl .nil))
   simp only[Is]
   exact⟨c,_,rfl,bR,ku⟩
  | succ k=>simp at e
 ·cases i with
  | zero=>simp at e
  | succ i =>
   cases i with
   | zero =>
    cases (show DV.o 0=x by simpa using e)
    exact⟨_,rfl,p,rfl,rfl⟩
   | succ i =>
    exfalso
    have e:(List.replicate n (none:Option DV))[i]? = some (some x):=by simpa using e
    rw[X_] at e
    split at e<;>cases e
theorem Pk {B:WS} {F:Hp} {ad:List Addr} {δ : aF} {σ : St} {H:Hp} {Q:VK} (S:SR F ad δ σ H) (h:B ⟨fun _=>False,fun x _=>x = .p (.bl true),fun _=>False,fun _=>False⟩ δ) (q:∀ H',Q (.bl true) H'):dr B { nx:=fun _ H'=>Q .non H',rt:=Q } σ H :=
 ⟨F,ad,δ,_,S,h,⟨fun δ' h=>h.elim,fun δ' h=>h.elim,fun δ' h=>h.elim,fun x δ' h v F' aK σ' H' E' S' V=>by
  have h:x = .p (.bl true):=h
  subst h
  have V:v = .bl true:=V
  subst V
  exact q H',trivial⟩⟩
end LJ
namespace L2
open PySem PySem.Spec PyProof.Rows
noncomputable def zZ (Ts:List (Addr × Array Value)) (H:Hp):Prop:=∀ b,(∃ ps,Ts.lookup b=some ps/\H b=some (.tbl ps))\/(Ts.lookup b=none/\(H b=none\/∃ o xs,H b=some (.frz o (.lst xs))))
theorem Pl {P:Program} {w:World} {K:PySem.W.Frag} {mg mb:Str->Option Value} {CX:iU} {k:Nat} {fa a:Addr} {fd:FuncData} {x:Str} {sp:Sp} {s₁ : Shared} {vs:List Value} {ns:List Int} (Ts:List (Addr × Array Value))
  (hT:∀ b ps,Ts.lookup b=some ps->s₁.heap.get? b=some { cls := .none,data := .fields ps }/\isCodeTable s₁.heap b/\K.lookup b=none)
  (KX:K.In s₁.heap) (ub:s₁.heap.Ns mainGlobals mg) (hb:s₁.heap.Ns builtinsNs mb) (Pm:∀ x:Str,x ≠ "__name__" -> mb x=bootBuiltins x) (z0:s₁.heap.NoLimit) (hg:s₁.gens = #[])
  (ha:s₁.heap.get? a=some { cls := .type "list",data := .seq vs.toArray }) (hi:IntsAre vs ns) (hl:ns.length <= sizeLine) (hr:bg k callerA)
  (hB:∃ bm ob,mg "__builtins__" = some (.ref bm)/\bm≠builtinsNs/\s₁.heap.get? bm=some ob/\ob.cls = .type "module" /\ ob.dict=some builtinsNs/\ob.data = .plain)
  (F:∀ base:Heap,K.In base->base.Ns mainGlobals mg->(∀ b ps,Ts.lookup b=some ps->base.BuiltinsAt mg b)->cK P w K mg base CX k fa fd [x] sp) (uc:∀ (s:Shared) (u:Value),BindsTo s fd ⟨[u],[]⟩ [(x,u)])
  (nH:∀ H:Hp,zZ Ts H->bq K H a (ns.map V.int)->sp [.ref a] H (fun v _=>v = .bl true) fun _ _ _=>False)
  (z4:∀ H e s',CX [] H s₁ (fun _ _ _=>False) e s'->False) :
  codeAny (model P w) callerA (.call (.ref fa) ⟨[.ref a],[]⟩) (fun r s'=>r = .ok (.ret (.bool true))/\OldK s₁.heap s'.heap/\s'.os=s₁.os/\AllBare s'.gens) s₁ := by
 have rv:=DC hi
 have z5:=hi.length
 have aT:Ts.lookup a=none:=by
  cases q:Ts.lookup a with
  | none=>rfl
  | some ps =>
   have:=(hT a ps q).1
   rw[ha] at this
   have z:=congrArg Obj.cls (VE this)
   cases (show Value.type "list" = Value.none from z)
 have core:∀ H:Hp,zZ Ts H->bq K H a (ns.map V.int)->dg P w H s₁.heap->(∀ b,Ts.lookup b=none->H b≠none->b=a)->(H a≠none->K.lookup a=none) →
   codeAny (model P w) callerA (.call (.ref fa) ⟨[.ref a],[]⟩) (fun r s'=>r = .ok (.ret (.bool true))/\OldK s₁.heap s'.heap/\s'.os=s₁.os/\AllBare s'.gens) s₁ := by
  intro H hO hS aN hA hK
  have gh:∀ {b:Addr} {o:Obj},s₁.heap.get? b=some o->H b=none->(fw s₁.heap H).get? b=some o:=fun e n=>JP e n
  have l7:∀ {b:Addr} {o:Obj} {es:Array DictEntry} {ep:Nat},s₁.heap.get? b=some o->o.data = .dict es ep->H b=none:=fun {b o es ep} e d=>by
   cases q:H b with
   | none=>rfl
   | some u =>
    cases t:Ts.lookup b with
    | some ps =>
     have:=(hT b ps t).1
     rw[e] at this;cases this
     cases d
    | none =>
     have e':b=a:=hA b t (by rw[q];simp)
     subst e'
     rw[ha] at e;cases e
     have d':Data.seq vs.toArray _=Data.dict es ep:=d
     cases d'
  have v_:∀ {b:Addr} {m:Str->Option Value},s₁.heap.Ns b m->(fw s₁.heap H).Ns b m:=fun {b m} ⟨o,es,ep,e,d,r⟩=>⟨o,es,ep,gh e (l7 e d),d,r⟩
  have FK:K.In (fw s₁.heap H):=fun b o e=>gh (KX b o e) (by
   cases q:H b with
   | none=>rfl
   | some u =>
    cases t:Ts.lookup b with
    | some ps=>rw[(hT b ps t).2.2] at e;cases e
    | none =>
     have e':b=a:=hA b t (by rw[q];simp)
     subst e'
     rw[hK (by rw[q];simp)] at e;cases e)
  have Pn:∀ b ps,Ts.lookup b=some ps->(fw s₁.heap H).BuiltinsAt mg b:=fun b ps t=>by
   obtain⟨bm,ob,b1,b2,b3,b4,b5,b6⟩:=hB
   refine⟨bm,ob,b1,b2,fun z => ?_,fun z => ?_,gh b3 ?_,b4,b5,b6⟩
   ·obtain⟨o,es,ep,e1,e2,_⟩:=ub
    rw[z,e1] at b3;cases b3
    rw[e2] at b6;cases b6
   ·have:=(hT b ps t).1
    rw[z,this] at b3;cases b3
    cases b6
   ·cases q:H bm with
    | none=>rfl
    | some u =>
     cases t':Ts.lookup bm with
     | some Po =>
      have:=(hT bm Po t').1
      rw[b3] at this;cases this
      cases b6
     | none =>
      have e':bm=a:=hA bm t' (by rw[q];simp)
      rw[e',ha] at b3;cases b3
      cases b6
  have hM:Mod K mg (fw s₁.heap H):=⟨FK,v_ ub,⟨mb,v_ hb,Pm⟩,let ⟨mc,h1,h2⟩:=z0; ⟨mc,v_ h1,h2⟩⟩
  have e0:l5 P w K mg (fw s₁.heap H) callerA [] s₁ H:=⟨rfl,hM,fun b o e=>JQ e,Zf (JO _ _),trivial,fun b hb=>absurd (show b∈([]:List Addr) from hb) (by simp),aN,.of_eq hg⟩
  refine YB ((F _ FK (v_ ub) Pn).run callerA [] s₁ H ⟨[.ref a],[]⟩ [.ref a] [.ref a] _ _ hr e0 (uc s₁ (.ref a)) (.cons rfl .nil) (nH H hO hS)) fun r s' h => ?_
  cases r with
  | error e=>exact (z4 H e s' h).elim
  | ok fl =>
   cases fl with
   | next=>exact False.elim h
   | brk=>exact False.elim h
   | cont=>exact False.elim h
   | ret u =>
    obtain⟨v,H',os,bare,un,ud,r',q⟩:=h
    have q':v = .bl true:=q
    subst q'
    obtain rfl:u=Value.bool true:=r'
    have all:∀ b o,s₁.heap.get? b=some o->asItWas s₁.heap s'.heap b o/\∃ o',s'.heap.get? b=some o':=fun b o e=>by
     rcases hO b with⟨ps,t,z⟩ | ⟨t,z | ⟨ob,xs,z⟩⟩
     ·obtain⟨more,z2⟩:=un.fu b ps z
      have e2:s'.heap.get? b=some { cls := .none,data := .fields (ps ++ more) }:=ud b _ z2
      have e1:=(hT b ps t).1
      rw[e] at e1;cases e1
      exact⟨.inr (.inl ⟨(hT b ps t).2.1,rfl,ps,more,rfl,e2⟩),_,e2⟩
     ·have e2:=un.keep b o e z (by intro z;exact absurd (show b∈([]:List Addr) from z) (by simp)) (by simp)
      exact⟨.inl e2,_,e2⟩
     ·have z2:=un.ft b ob _ z
      obtain⟨e1,_⟩:=aN b _ z
      obtain⟨e2,_⟩:=ud b _ z2
      rw[e] at e1;cases e1
      exact⟨.inl e2,_,e2⟩
    exact⟨rfl,⟨fun b o e=>(all b o e).1,fun b o e=>(all b o e).2⟩,os,bare⟩
 have nW:∀ (H:Hp) b ps,Ts.lookup b=some ps->aQ P w H s₁.heap b (.tbl ps):=fun H b ps t=>(hT b ps t).1
 cases hk:K.lookup a with
 | some o =>
  have e:=KX a o hk
  rw[ha] at e
  cases e
  have hv:∀ b,(fun b=>(Ts.lookup b).map HO.tbl:Hp) b=(Ts.lookup b).map HO.tbl:=fun _=>rfl
  refine core (fun b=>(Ts.lookup b).map HO.tbl) (fun b => ?_) (.inr ⟨_,vs.toArray,_,hk,rfl,rfl,rfl,by rw[sD,z5];exact hl,by simpa using rv⟩) (fun b u z => ?_) (fun b t z => ?_) fun z => ?_
  ·cases t:Ts.lookup b with
   | some ps=>exact .inl ⟨ps,rfl,by show (Ts.lookup b).map HO.tbl=_;rw[t];rfl⟩
   | none=>exact .inr ⟨rfl,.inl (by show (Ts.lookup b).map HO.tbl=_;rw[t];rfl)⟩
  ·obtain⟨ps,t,rfl⟩:=UP.mp (show (Ts.lookup b).map HO.tbl=some u from z)
   exact nW _ b ps t
  ·exact absurd (show (Ts.lookup b).map HO.tbl=none by rw[t];rfl) z
  ·exact absurd (show (Ts.lookup a).map HO.tbl=none by rw[aT];rfl) z
 | none =>
  refine core (fun b=>if b=a then some (.frz { cls := .type "list",data := .seq vs.toArray } (.lst (ns.map V.int))) else (Ts.lookup b).map HO.tbl) (fun b => ?_) (.inl (.inr ⟨{ cls := .type "list",data := .seq vs.toArray },UO rfl⟩)) (fun b u z => ?_) (fun b t z => ?_) fun _=>hk
  ·by_cases hb:b=a
   ·subst hb
    exact .inr ⟨aT,.inr ⟨_,_,UO rfl⟩⟩
   ·cases t:Ts.lookup b with
    | some ps=>exact .inl ⟨ps,rfl,(LX hb).trans (by rw[t];rfl)⟩
    | none=>exact .inr ⟨rfl,.inl ((LX hb).trans (by rw[t];rfl))⟩
  ·by_cases hb:b=a
   ·have z':=(UO hb).symm.trans z
    cases z'
    subst hb
    exact⟨ha,by rw[oV];exact hl,vs,_,rv,ha⟩
   ·have z':=(LX hb).symm.trans z
    obtain⟨ps,t,rfl⟩:=UP.mp z'
    exact nW _ b ps t
  ·by_cases hb:b=a
   ·exact hb
   ·exact absurd ((LX hb).trans (by rw[t];rfl)) z
theorem Pp {l:PySem.W.OpenLaw} {n k:Nat} {q:Program} {loose:List Str} {XP:(Str->Option Value)->Heap->Prop} {YP:World->Heap->Prop} {d:DefRec} {K:World->PySem.W.Frag} {CX:World->iU} {sp:World->Sp} {x:Str} {Ts:World->List (Addr × Array Value)}
  (hn:l.most=some n) (Pq:n <= sizeLine) (sG:d.params.defaults=[]) (hr:bg k callerA)
  (hY:∀ (w:World) (h:Heap),YP w h->(K w).In h)
  (hT:∀ (w:World) (h:Heap),YP w h->∀ b ps,(Ts w).lookup b=some ps->h.get? b=some { cls := .none,data := .fields ps }/\isCodeTable h b/\(K w).lookup b=none)
  (F:∀ (w:World) (mg:Str->Option Value) (fa:Addr) (h:Heap),(K w).In h->h.Ns mainGlobals mg->mg d.name=some (.ref fa) →
   ∃ fd:FuncData,(∀ (s:Shared) (u:Value),BindsTo s fd ⟨[u],[]⟩ [(x,u)]) ∧
    ∀ base:Heap,(K w).In base->base.Ns mainGlobals mg->(∀ b ps,(Ts w).lookup b=some ps->base.BuiltinsAt mg b)->cK l.prog w (K w) mg base (CX w) k fa fd [x] (sp w))
  (nH:∀ (w:World) (H:Hp) (a:Addr) (ns:List Int),ns.length <= n->zZ (Ts w) H->bq (K w) H a (ns.map V.int)->sp w [.ref a] H (fun v _=>v = .bl true) fun _ _ _=>False)
  (z4:∀ (w:World) (H:Hp) (s:Shared) (e:Value) (s':Shared),CX w [] H s (fun _ _ _=>False) e s'->False) :
  PySem.W.WalkO q loose XP YP l.row.toRowW d [] (fun f vs=>PySem.call f vs):=by
 refine Att.gD hn sG fun w s₀ s₁ mg mb fa o pm cd doc a vs ns G Y ho hd eT ml oT hints hlen hg => ?_
 have KX:=hY w _ Y
 obtain⟨fd,hb,hF⟩:=F w mg fa _ KX G.T.g ml
 exact Pl (Ts w) (hT w _ Y) KX G.T.g G.T.b G.T.builtins G.T.nolimit hg oT hints (V_ hlen Pq) hr G.T.bmain hF hb (fun H hO hS=>nH w H a ns hlen hO hS) fun H e s'=>z4 w H s₁ e s'
section
variable {X:Cx} {pins:List (Addr × Obj)} {σ : St} {H:Hp} {s:Shared} {h':Heap}
theorem Inv.grow {T c f:Addr} {ps more:Array Value} {oc of:HO} {t':Nat} (I:Inv X pins σ H s) (hT:H T=some (.tbl ps)) (k:∀ b u,b≠T->s.heap.get? b=some u->h'.get? b=some u) (FL:h'.get? T=some { cls := .none,data := .fields (ps ++ more) })
  (hc:s.heap.objs.size <= c) (hf:s.heap.objs.size <= f) (z6:c≠f) (Pr:∀ H2,aQ X.prog X.w H2 h' c oc) (Pt:∀ H2,aQ X.prog X.w H2 h' f of) :
  Inv X pins σ (upd (upd (upd H T (.tbl (ps ++ more))) c oc) f of) { s with heap:=h',toks:=t' }:=by
 have tl:T < s.heap.objs.size:=(I.aN T _ hT).lt
 have cT:c≠T:=XN (Vw tl hc)
 have fT:f≠T:=XN (Vw tl hf)
 have U_:H c=none:=I.aN.fresh hc
 have FN:H f=none:=I.aN.fresh hf
 have old:∀ b,b < s.heap.objs.size->b≠T->upd (upd (upd H T (.tbl (ps ++ more))) c oc) f of b=H b:=fun b hb nT=>by
  rw[aX (Vx (Vw hb hf)),aX (Vx (Vw hb hc)),aX nT]
 have atT:upd (upd (upd H T (.tbl (ps ++ more))) c oc) f of T=some (.tbl (ps ++ more)):=by
  rw[aX (XC fT),aX (XC cT),bR]
 have lt:∀ b u,H b=some u->b < s.heap.objs.size:=fun b u e=>(I.aN b u e).lt
 have dB:∀ b u,H b=some u->(∀ qs,u ≠ .tbl qs)->upd (upd (upd H T (.tbl (ps ++ more))) c oc) f of b=some u:=fun b u e n=>by
  rw[old b (lt b u e) (fun z=>by subst z;rw[hT] at e;cases e;exact n _ rfl)];exact e
 refine I.un (t':=t') ⟨fun b o e n _ _=>k b o (fun z=>by subst z;rw[hT] at n;cases n) e,fun b o e n _ _=>⟨o.slots,k b o (fun z=>by subst z;rw[hT] at n;cases n) e⟩,fun b o e n _ => ?_,fun b o e _ => ?_,fun b xs e=>dB b _ e (fun _ z=>by cases z),fun b o u e=>dB b _ e (fun _ z=>by cases z),fun b qs e => ?_⟩ fun b u e => ?_
 ·rw[old b (UL e) (fun z=>by subst z;rw[hT] at n;cases n)];exact n
 ·by_cases z:b=T
  ·subst z;exact⟨_,FL⟩
  ·exact⟨o,k b o z e⟩
 ·by_cases z:b=T
  ·subst z;rw[hT] at e;cases e;exact⟨more,atT⟩
  ·exact⟨#[],by rw[old b (lt b _ e) z,e];simp⟩
 ·by_cases z1:b=f
  ·subst z1;rw[bR] at e;cases e;exact Pt _
  ·rw[aX z1] at e
   by_cases z2:b=c
   ·subst z2;rw[bR] at e;cases e;exact Pr _
   ·rw[aX z2] at e
    by_cases z3:b=T
    ·subst z3;rw[bR] at e;cases e;exact FL
    ·rw[aX z3] at e
     refine aQ.fq (I.aN b u e) (fun d v hd q => ?_) (fun d q=>dB d _ q (fun _ z=>by cases z)) (fun d xs q=>dB d _ q (fun _ z=>by cases z))
     ·refine k d v (fun y => ?_) q
      subst y
      rcases hd with y | y
      ·exact z3 y.symm
      ·rw[hT] at y;cases y
noncomputable def kF (c:Addr) (q:Str):HO := .ext fun h=>∃ o vs tq,h.get? c=some o/\o.data = .fields vs/\vs[1]? = some (.str q tq)
theorem Pu {P:Program} {w:World} {H:Hp} {h:Heap} {c:Addr} {q:Str} (e:h.CodeRec (.ref c) q):aQ P w H h c (kF c q):=by
 obtain⟨c',o,vs,tq,z,ho,hd,hq⟩:=e
 cases z
 exact⟨⟨o,vs,tq,ho,hd,hq⟩,⟨o,ho⟩,fun h1 h2 ⟨o,vs,tq,e1,e2,e3⟩ k=>⟨o,vs,tq,k o e1,e2,e3⟩⟩
theorem Pw {P:Program} {w:World} {H:Hp} {h:Heap} {c:Addr} {q:Str} (x:aQ P w H h c (kF c q)):h.CodeRec (.ref c) q:=by
 obtain⟨⟨o,vs,tq,ho,hd,hq⟩,_⟩:=x
 exact⟨c,o,vs,tq,rfl,ho,hd,hq⟩
end
end L2
namespace L2
open PySem PySem.Spec PyProof.Rows PySem.W
section
variable {X:Cx} {pins:List (Addr × Obj)} {σ : St} {H:Hp} {s:Shared} {params:Arguments} {body:Expr} {scope:Scope} {pos:Pos} {gO:List (Str × Addr)} {cc T:Addr} {ps:Array Value} {E:Value->Shared->Prop} {Q:Value->Shared->Prop}
noncomputable def gP (f:Addr) (name qual:Str) (params:Arguments) (body:Expr) (scope:Scope) (gO:List (Str × Addr)) (pm cd:Value):HO := .ext fun h=>∃ ue,h.get? f=some { cls := .type "function",data := .func (kla_fn name qual params body scope gO pm cd ue) }
noncomputable def dE (H:Hp) (T:Addr) (pos:Pos) (qual:Str):Prop:=∃ ps,H T=some (.tbl ps)/\TriplesOk ps.toList/\(codeAmong pos ps.toList=none\/∃ c,codeAmong pos ps.toList=some (.ref c)/\H c=some (kF c qual))
theorem FO (I:Inv X pins σ H s) (hT:dE H T pos (X.env.qual ++ "<lambda>")) (z7:defaultsOf params X.env=([],[])) (ly:closureFor scope X.env=pure gO) (fO:X.env.code = .ref cc) (C:CodeHd s.heap cc T) (Px:mainGlobals≠T) (hg:s.heap.Ns mainGlobals X.mg) (hb:s.heap.BuiltinsAt X.mg T)
  (h:∀ f H' s' c,Inv X pins σ H' s'->dE H' T pos (X.env.qual ++ "<lambda>")->(∀ b o,H b=some o->b≠T->H' b=some o)->H f=none->H' f=some (gP f "<lambda>" (X.env.qual ++ "<lambda>") params body scope gO ((X.mg "__name__").getD .none) (.ref c))->H' c=some (kF c (X.env.qual ++ "<lambda>"))->Q (.ref f) s') :
  wpAny (model X.prog X.w) X.A (eval (.Lambda params body scope pos) X.env) Q E s:=by
 obtain⟨ps,hP,ht,hf⟩:=hT
 have z8:s.heap.get? T=some { cls := .none,data := .fields ps }:=I.aN T _ hP
 refine kla_eval z7 ?_
 rcases hf with FP | ⟨c,hf,wa⟩
 ·refine kla_makeFunction ly I.ok.glob hg fO C z8 ht FP Px hb fun c' ue h' tk hx wb d3 z9 Py => ?_
  have hsz:s.heap.objs.size <= h'.objs.size:=WM (YF wb d3)
  have tl:T < s.heap.objs.size:=UL z8
  have Pz:T≠h'.objs.size:=Vx (Vw tl hsz)
  have PB:T≠c':=Vx (Vw tl wb)
  have z6:c'≠h'.objs.size:=Vx d3
  have FQ:(ps ++ #[rawInt pos.line,rawInt pos.col,Value.ref c']).toList=ps.toList ++ [rawInt pos.line,rawInt pos.col,Value.ref c']:=by simp
  have atT:upd (upd (upd H T (.tbl (ps ++ #[rawInt pos.line,rawInt pos.col,.ref c']))) c' (kF c' (X.env.qual ++ "<lambda>"))) h'.objs.size (gP h'.objs.size "<lambda>" (X.env.qual ++ "<lambda>") params body scope gO ((X.mg "__name__").getD .none) (.ref c')) T=some (.tbl (ps ++ #[rawInt pos.line,rawInt pos.col,.ref c'])):=by
   rw[aX Pz,aX PB,bR]
  have atC:upd (upd (upd H T (.tbl (ps ++ #[rawInt pos.line,rawInt pos.col,.ref c']))) c' (kF c' (X.env.qual ++ "<lambda>"))) h'.objs.size (gP h'.objs.size "<lambda>" (X.env.qual ++ "<lambda>") params body scope gO ((X.mg "__name__").getD .none) (.ref c')) c'=some (kF c' (X.env.qual ++ "<lambda>")):=by
   rw[aX z6,bR]
  refine h h'.objs.size _ _ c' (I.grow (t':=tk) (oc:=kF c' (X.env.qual ++ "<lambda>")) (of:=gP h'.objs.size "<lambda>" (X.env.qual ++ "<lambda>") params body scope gO ((X.mg "__name__").getD .none) (.ref c')) hP (fun b u nb e=>qt _ (hx b u nb e)) (qt _ Py) wb hsz z6 (fun _=>Pu (z9.push _)) fun _ => ?_) ⟨_,atT,?_,.inr ⟨c',?_,atC⟩⟩ (fun b o e nb => ?_) (I.aN.fresh hsz) bR atC
  ·exact⟨⟨ue,Vq _ rfl⟩,⟨_,Vq _ rfl⟩,fun h1 h2 ⟨v,e⟩ k=>⟨v,k _ e⟩⟩
  ·rw[FQ];exact TriplesOk_snoc _ _ _ _ ht
  ·rw[FQ];exact codeAmong_snoc _ ht FP
  ·have bl:b < s.heap.objs.size:=(I.aN b o e).lt
   rw[aX (Vx (Vw bl hsz)),aX (Vx (Vw bl wb)),aX nb];exact e
 ·refine kla_makeFunctionHit ly I.ok.glob hg fO C z8 ht hf hb fun ue h' tk hk hsz => ?_
  have hn:H h'.objs.size=none:=I.aN.fresh hsz
  refine h h'.objs.size _ _ c (I.laid (a:=h'.objs.size) (o:=gP h'.objs.size "<lambda>" (X.env.qual ++ "<lambda>") params body scope gO ((X.mg "__name__").getD .none) (.ref c)) (t':=tk) (fun b u e=>qt _ (hk b u e)) hsz ?_) ⟨ps,?_,ht,.inr ⟨c,hf,?_⟩⟩ (fun b o e _ => ?_) hn bR ?_
  ·exact⟨⟨ue,Vq _ rfl⟩,⟨_,Vq _ rfl⟩,fun h1 h2 ⟨v,e⟩ k=>⟨v,k _ e⟩⟩
  ·rw[aX (cY hP hn)];exact hP
  ·rw[aX (cY wa hn)];exact wa
  ·rw[aX (cY e hn)];exact e
  ·rw[aX (cY wa hn)];exact wa
end
structure LD where
 A:Around
 cl:List (Str × Addr)
 f:Addr
 cd:Value
 s:Shared
 H:Hp
@[reducible] noncomputable def mT (X:Cx) (qual:Str) (scope:Scope) (Nb:List Str) (d:LD):Cx where
 prog:=X.prog
 w:=X.w
 K:=X.K
 mg:=X.mg
 base:=X.base
 A:=d.A.deeper (envX qual scope d.s.heap.objs.size d.f d.cd d.cl)
 N:=Nb
 s₀ := d.s
 H₀ := d.H
 env:=envX qual scope d.s.heap.objs.size d.f d.cd d.cl
 outer:=X.stack
 stack:=envX qual scope d.s.heap.objs.size d.f d.cd d.cl :: X.stack
 ex:=[]
 fn:=fun _=>false
 calm:=true
 pn:=[]
 xe:=fun _ _=>False
noncomputable def uf (N:List Str) (uY scope:Scope) (x:Str) (Nb:List Str) (cp:List (Option Nat)):Bool :=
 lr N uY scope (x :: Nb) (none :: cp) && (scope.names.all fun y=>decide (y.2 ≠ .cell)) && decide (scope.names.lookup x=some .local) && cp.all (·.isSome)
section
variable {X:Cx} {pins:List (Addr × Obj)} {σ : St} {H:Hp} {s:Shared} {params:Arguments} {body:Expr} {scope:Scope} {cl:List (Str × Addr)} {E:Value->Shared->Prop} {Q:VK} {name qual x:Str} {f c:Addr} {pm:Value} {A:Around} {v:V} {u:Value} {Nb:List Str} {cp:List (Option Nat)} {t:TE}
theorem FR (I:Inv X pins σ H s) (hf:H f=some (gP f name qual params body scope cl pm (.ref c))) (hc:H c=some (kF c qual)) (hA:A.frames=some X.stack) (hh:A.handled=none) (hd:A.depth < recursionLimit)
  (hk:scope.kind = .function) (ho:uf X.N X.env.scope scope x Nb cp=true) (PD:scope.isCoroutine=false) (z_:scope.isGenerator=false)
  (mU:∀ y c,cl.lookup y=some c->X.env.cells.lookup y=some c) (qY:∀ y∈scope.names,y.2 = .free->∃ c,cl.lookup y.1=some c)
  (hb:∀ (ct:Value),bindArgs (kla_fn name qual params body scope cl pm (.ref c) ct) ⟨[u],[]⟩=pure [(x,u)]) (r:RelV v u)
  (J:JE (mT X qual scope (x :: Nb) ⟨A,cl,f,.ref c,s,H⟩) body t) (h:t (some v :: gU cp σ) H Q):wpAny (model X.prog X.w) A (call (.ref f) [u]) (EP X pins σ Q) E s:=by
 unfold uf at ho
 simp only[VY,Wu,Wz] at ho
 obtain⟨⟨⟨ho,FT⟩,hx⟩,cps⟩:=ho
 have S:=x0v hk ho
 obtain⟨⟨ct,PH⟩,_⟩:=I.aN f _ hf
 have eT:=Pw (I.aN c _ hc)
 refine wpAny_call (kla_callFunE hd PH rfl PD z_ rfl eT ?_)
 rw[hb ct]
 refine xR (wpAny_newFunctionEnv (fun y hy=>FT y hy) (fun y hy=>by rw[VI.mp hy];exact hx) (fun h₁ ub sM => ?_) hk)
 have ug:∀ b o,s.heap.get? b=some o->h₁.get? b=some o:=fun b o e=>sM.extBut b o (Vx (UL e)) (qt _ e)
 refine⟨I.nolimit.keeps ug,?_⟩
 have e0:=I.so
 show codeAny _ _ (.expr body (envX qual scope s.heap.objs.size f (.ref c) cl)) _ _
 have l7:∀ b:Addr,b∉(mT X qual scope (x :: Nb) ⟨A,cl,f,.ref c,s,H⟩).ex:=fun b z=>absurd (show b∈([]:List Addr) from z) (by simp)
 have mem:∀ {y:Str} {k:NameKind},scope.names.lookup y=some k->(y,k)∈scope.names:=fun e=>Wk e
 have I1:Inv (mT X qual scope (x :: Nb) ⟨A,cl,f,.ref c,s,H⟩) [] (some v :: gU cp σ) H { s with heap:=h₁,toks:=s.toks + [(x,u)].length }:=by
  refine⟨⟨e0.mod,hk,rfl,rfl,uX _,fun y z d h1 h2=>I.ok.inj y z d (mU y d h1) (mU z d h2),fun y hy => ?_,fun y d z _=>(by cases z),fun _=>hh,Around.frames_deeper hA,.inr ⟨rfl,rfl⟩,fun b z=>absurd z (l7 b),e0.bs,e0.nB,fun b _ _=>l7 b,fun b z=>absurd z (l7 b),e0.eg,e0.oy⟩,
   rfl,e0.bare,Un.kept ug,⟨_,ub,fun i y w h1 h2 h3 => ?_⟩,fun y d hy => ?_,e0.aN.fresh (uX _),fun y d hy=>I.cz y d (mU y d hy),fun p hp=>absurd (show p∈([]:List (Addr × Obj)) from hp) (by simp),e0.aN.kept ug,?_⟩
  ·have hy:scope.names.lookup y=some .cell\/scope.names.lookup y=some .free:=hy
   rcases hy with hy | hy
   ·exact absurd rfl (FT _ (mem hy))
   ·exact qY _ (mem hy) rfl
  ·cases i with
   | zero =>
    cases (show some x=some y by simpa using h1)
    cases (show v=w by simpa using h2)
    exact⟨u,r,.inl ⟨hx,by simp⟩⟩
   | succ j =>
    have h1:Nb[j]? = some y:=by simpa using h1
    have h2:(gU cp σ)[j]? = some (some w):=by simpa using h2
    unfold gU at h2
    rw[LR] at h2
    obtain⟨o,q1,q2⟩:=UP.mp h2
    match o,q2 with
    | none,q2=>cases q2
    | some i',q2 =>
     have q2:(σ[i']?).join=some w:=q2
     obtain⟨n1,n2⟩:=S.sH (j + 1) i' y (by simpa using q1) (by simpa using h1)
     have hs : σ[i']? = some (some w):=by
      cases q : σ[i']? with
      | none=>rw[q] at q2;cases q2
      | some z=>rw[q] at q2;cases (show z=some w from q2);rfl
     have kd:=S.free _ (mem n2) rfl
     obtain⟨m,hn,hl⟩:=I.loc
     obtain⟨u',rv,lk⟩:=hl i' y w n1 hs (by rcases kd with z | z;exact .inr (.inl z);exact .inr (.inr z))
     refine⟨u',rv,?_⟩
     rcases lk with⟨z,_⟩ | ⟨_,d,e1,o,e2,e3⟩
     ·rcases kd with k | k<;>(rw[show X.env.kindOf y=some .local from z] at k;cases k)
     ·obtain⟨d',e4⟩:=qY _ (mem n2) rfl
      have:=mU _ _ e4
      rw[e1] at this;cases this
      exact .inr ⟨.inr n2,d,e4,o,ug _ _ e2,e3⟩
  ·obtain⟨z,o,e2,e3⟩:=I.cell y d (mU y d hy)
   exact⟨z,o,ug _ _ e2,e3⟩
  ·have:=S.len
   show (some v :: gU cp σ).length=(x :: Nb).length
   unfold gU
   rw[DE,oV]
   simpa using this
 refine kla_codeExpr (Ww (J.out [] _ _ H Q I1 h) (fun u' s' hs => ?_) fun e s' hs=>hs.elim)
 obtain⟨w,H',J',rv,q⟩:=hs
 exact I.after ⟨w,H',J'.os,J'.bare,J'.base,J'.aN,rv,q⟩
end
noncomputable def iu (h:Heap) (k:LK) (v:Value):Prop:=∃ a o xs n,v = .ref a/\h.get? a=some o/\o.cls = .type "tuple" /\ o.data = .seq xs n/\IntsAre xs.toList k
section
variable {prog:Program} {w:World} {A:Around} {E:Value->Shared->Prop} {s:Shared} {Q:Bool->Shared->Prop}
theorem FU {fin:Bool}:∀ {us ws:List Value} {ks ls:LK} (i:Nat),IntsAre us ks->IntsAre ws ls->fin=decide (us.length < ws.length)->Q (HT.lexLt ks ls) s->KatLex prog w A true fin Q (us.zip ws) i s
 | _,_,_,_,i,.nil,.nil,hf,h=>by
  rw[XD]
  subst hf
  exact h
 | _,_,_,_,i,.nil,.cons m u r,hf,h=>by
  rw[XD]
  have:fin=true:=by rw[hf];simp
  subst this
  exact h
 | _,_,_,_,i,.cons n t r,.nil,hf,h=>by
  rw[YI]
  have:fin=false:=by rw[hf];simp
  subst this
  exact h
 | _,_,_,_,i,.cons n t r,.cons m u r',hf,h=>by
  rw[Wr]
  refine kat_cons (YY (kat_go (fun e => ?_) fun e => ?_))
  ·have e:n=m:=WB e
   subst e
   rw[HT.l9,UO rfl] at h
   exact kat_yes (FU (i + 1) r r' (by rw[hf];simp) h)
  ·have e:¬ n=m:=fun z=>by subst z;simp at e
   rw[HT.l9,LX e] at h
   refine kat_no ?_
   cases q:(true && i == 0) with
   | true=>exact oneLt_int h
   | false=>exact kat_one _ _ (Yy h)
theorem FV {k l:LK} {x y:Value} (hx:iu s.heap k x) (hy:iu s.heap l y) (h:Q (HT.lexLt k l) s):wpAny (model prog w) A (keyLt' (tuples' true) x y) Q E s:=by
 obtain⟨a,o,xs,n,rfl,h1,_,h2,h3⟩:=hx
 obtain⟨b,o',ys,n',rfl,g1,_,g2,g3⟩:=hy
 exact kat_lt h1 h2 g1 g2 (FU 0 h3 g3 (by rw[UN,UN]) h)
theorem FW {h:Heap}:∀ {keys:List Value} {ks:List LK},(∀ k∈ks,k≠[])->keys.length=ks.length->(∀ (i:Nat) (k:LK) (v:Value),ks[i]? = some k->keys[i]? = some v->iu h k v)->∃ fs,KatTups h keys fs/\fs.length=keys.length/\∀ v∈fs,∃ n t,v=Value.int n t
 | [],[],_,_,_=>⟨[],.nil,rfl,fun v hv=>nomatch hv⟩
 | [],_ :: _,_,hl,_=>by simp at hl
 | _ :: _,[],_,hl,_=>by simp at hl
 | v :: keys,k :: ks,ib,hl,ht=>by
  obtain⟨fs,t,hf,hi⟩:=FW (h:=h) (keys:=keys) (ks:=ks) (fun k hk=>ib k (Vs _ hk)) (by simpa using hl) fun i k v e1 e2=>ht (i + 1) k v (by simpa using e1) (by simpa using e2)
  obtain⟨a,o,xs,n,rfl,h1,hc,h2,h3⟩:=ht 0 k v rfl rfl
  have hk:=ib k UQ
  generalize hx:xs.toList=xl at h3
  cases h3 with
  | nil=>exact absurd rfl hk
  | cons m t' r =>
   have h0:xs[0]? = some (.int m t'):=by rw[<-VX,hx];rfl
   refine⟨.int m t' :: fs,.cons h1 hc h2 h0 t,by rw[DE,DE,hf],fun v hv => ?_⟩
   rcases Vr.mp hv with rfl | hv
   ·exact⟨m,t',rfl⟩
   ·exact hi v hv
theorem FX {M:Model} {keys:List Value} {ks:List LK} {Q:SortKind->Shared->Prop} (h0:0 < keys.length) (ib:∀ k∈ks,k≠[]) (hl:keys.length=ks.length) (ht:∀ (i:Nat) (k:LK) (v:Value),ks[i]? = some k->keys[i]? = some v->iu s.heap k v) (h:Q (tuples' true) s) :
  wpAny M A (keyKind' keys.toArray) Q E s:=by
 obtain⟨fs,t,hf,hi⟩:=FW ib hl ht
 refine kat_kind (T := .type "int") t (by omega) (fun v hv => ?_) (by decide) ?_
 ·obtain⟨n,t',rfl⟩:=hi v hv
  exact .now
 ·exact h
theorem getD_some {α : Type} {l:List α} {i:Nat} {d : α} (h:i < l.length):l[i]? = some (l.getD i d):=by
 rw[oU h,DD,oU h];rfl
theorem PJ {a kS:Addr} {e1:Nat} {vs keys:List Value} {ks:List LK} {P:PySem.Fin->Shared->Prop} (hv:keys.length=vs.length) (gX:vs.length < 64) (ib:∀ k∈ks,k≠[]) (hl:keys.length=ks.length) (ht:∀ (i:Nat) (k:LK) (v:Value),ks[i]? = some k->keys[i]? = some v->iu s.heap k v)
  (fin:∀ st (p:Array Nat),(arrOf st).map (·.2)=List.toArray (p.toList.map fun i=>vs.getD i Value.none)->failedOf st=none->cD vs.length p->Up (fun i=>ks.getD i []) p vs.length->wpAny (model prog w) A (ksk_tail a false e1 (.ref kS) st) P E s) :
  wpAny (model prog w) A (ksk_end a false vs.toArray e1 (.ref kS) (List.toArray keys)) P E s:=by
 unfold ksk_end
 try dsimp only
 simp only[VW,Xf]
 by_cases h2:vs.toArray.size < 2
 ·rw[UO h2,UO h2]
  refine mq (xR ?_)
  rw[StateT.run_pure]
  refine mq (xR ?_)
  try dsimp only
  rw[sD] at h2
  refine fin _ (List.range vs.length).toArray ?_ rfl ⟨Zo _⟩ fun i j g8 hj => ?_
  ·have Aa:arrOf (SortSt.mk' general' (keys.toArray.zip vs.toArray) #[] 7 none)=(List.toArray (List.range vs.length)).map (kas_item (keys.toArray.zip vs.toArray)):=by
    have e:=kas_range (keys.toArray.zip vs.toArray)
    rw[show (keys.toArray.zip vs.toArray).size=vs.length by simp[hv]] at e
    rw[e]
   exact kat_snds hv Aa
  ·have:i=j:=by omega
   subst this
   exact kle_refl _
 ·rw[LX h2,LX h2]
  rw[sD] at h2
  refine mq (FX (by omega) ib hl ht ?_)
  refine mq (Ww (kat_run (κ := tuples' true) (E:=E) (Q:=fun fK s'=>s'=s/\∃ p:Array Nat,arrOf fK=p.map (kas_item (keys.toArray.zip vs.toArray))/\failedOf fK=none/\cD vs.length p/\Up (fun i=>ks.getD i []) p vs.length)
   (G:=fun p s'=>s'=s/\cD vs.length p/\Up (fun i=>ks.getD i []) p vs.length) hv (by omega) gX (fun p fK s' a1 a2 a3 a4=>⟨a4.1,p,a2,a3,a4.2.1,a4.2.2⟩) ?_) ?_ fun _ _ x=>x)
  ·refine Ff (k:=fun i=>ks.getD i []) (I:=fun s'=>s'=s) (fun i j C s' hi hj e hC => ?_) (by omega) rfl fun p s' a1 a2 a3=>⟨a3,a1,a2⟩
   subst e
   exact FV (ht i _ _ (getD_some (by omega)) (getD_some (by omega))) (ht j _ _ (getD_some (by omega)) (getD_some (by omega))) (hC _ rfl)
  ·rintro ⟨⟨⟩,fK⟩ s' ⟨rfl,p,a1,a2,a3,a4⟩
   try dsimp only
   exact fin fK p (kat_snds hv a1) a2 a3 a4
end
theorem a9.at {X:Cx} {pins:List (Addr × Obj)} {H H':Hp} {b:Addr} (f:a9 X pins H b) (h:H' b=none):a9 X pins H' b:=⟨h,f.2⟩
section
variable {X:Cx} {pins:List (Addr × Obj)} {σ : St} {H:Hp} {s:Shared} {A:Around} {E:Value->Shared->Prop} {a:Addr} {vs:List Value} {f:Value}
theorem Inv.bV {h':Heap} {t':Nat} {b:Addr} (I:Inv X pins σ H s) (fb:a9 X pins H b) (k:∀ c o,c≠b->s.heap.get? c=some o->h'.get? c=some o):Inv X pins σ H { s with heap:=h',toks:=t' } :=
 I.turned k fb.1 fb.2.1 fb.2.2.2.1 fb.2.2.2.2.1 fb.2.2.2.2.2
theorem Inv.cX {b:Addr} {o:Obj} (I:Inv X pins σ H s) (fb:a9 X pins H b) (e:s.heap.get? b=some o) (hc:∀ v,o.data ≠ .cell v):Inv X ((b,o) :: pins) σ H s :=
 I.eJ fun p hp=>by
  rcases Vr.mp hp with rfl | hp
  ·exact⟨e,fb.1,fb.2.1,fb.2.2.1,hc⟩
  ·exact I.pin p (LU _ hp)
theorem Inv.bF {p:Addr × Obj} (I:Inv X (p :: pins) σ H s):Inv X pins σ H s:=I.eJ fun q hq=>I.pin q (LU _ (Vs _ hq))
theorem a9.cons {b:Addr} {p:Addr × Obj} (f:a9 X pins H b) (n:p.1≠b):a9 X (p :: pins) H b :=
 ⟨f.1,f.2.1,f.2.2.1,f.2.2.2.1,f.2.2.2.2.1,fun q hq=>by
  rcases VO.mp hq with z | z
  ·exact f.2.2.2.2.2 q (Wf _ z)
  ·rcases Vr.mp z with rfl | z
   ·exact n
   ·exact f.2.2.2.2.2 q (LU _ z)⟩
theorem lM {c:String} {xs:Array Value} {n:Nat}:∀ v,(seqObj c xs n).data ≠ .cell v:=fun v z=>by cases z
theorem PK {P:List V->Hp->Prop} {n0:Nat} {R:PySem.Fin->Shared->Prop} (I:Inv X pins σ H s) (fa:a9 X pins H a) (ha:s.heap.get? a=some (seqObj "list" vs.toArray n0)) (gX:vs.length < 64) (p0:P [] H)
  (iw:∀ (bf:List (Addr × Obj)) (v:Value) (ah:List V) (H':Hp) (s':Shared),vs[ah.length]? = some v->Inv X bf σ H' s'->P ah H'->wpAny (model X.prog X.w) A (call f [v]) (EP X bf σ fun k ie=>P (ah ++ [k]) ie) (fun _ _=>False) s')
  (fin:∀ ah H',ah.length=vs.length->P ah H'->∃ ks:List LK,ks.length=vs.length/\(∀ k∈ks,k≠[])/\(∀ (i:Nat) (k:LK),ks[i]? = some k->∃ t,ah[i]? = some (.ref t)/\H' t=some (.tup (k.map V.int))) ∧
   ∀ (p:Array Nat) (s':Shared) (c:Nat),cD vs.length p->Up (fun i=>ks.getD i []) p vs.length->Inv X pins σ H' s'->a9 X pins H' a->s'.heap.get? a=some (seqObj "list" (List.toArray (p.toList.map fun i=>vs.getD i Value.none)) c)->R (.done (.ret .none)) s') :
  wpAny (model X.prog X.w) A (ksk_tree a f false) R E s:=by
 unfold ksk_tree
 refine mq (listItems_at ha rfl ?_)
 refine mq (XX ha rfl ?_ (by rw[sD,Wg];omega) (V6 _))
 have sb:=VF s.heap a (Obj.mapSeq fun _=>(#[]:Array Value))
 obtain⟨e1,jy⟩:∃ e1,(s.heap.update a (Obj.mapSeq fun _=>(#[]:Array Value))).get? a=some (seqObj "list" #[] e1):=⟨_,Xd ha fun _ => #[]⟩
 have I1:Inv X pins σ H { s with heap:=s.heap.update a (Obj.mapSeq fun _=>(#[]:Array Value)) }:=I.bV (t':=s.toks) fa fun c o n e=>(sb.2 c n).trans e
 refine mq (seqEpoch_at jy rfl ?_)
 refine mq (wpAny_newTuple ?_ (by show vs.length <= _;rw[Wg];omega))
 refine mq (XY ?_ (V6 _))
 refine VG ?_
 generalize PL:s.heap.update a (Obj.mapSeq fun _=>(#[]:Array Value))=g0 at jy I1
 show wpAny _ _ (ksk_rest a f false vs.toArray e1 (.ref (g0.push (seqObj "tuple" vs.toArray 0)).objs.size)) R E { s with heap:=(g0.push (seqObj "tuple" vs.toArray 0)).push (seqObj "list" #[] 0) }
 have I2:Inv X pins σ H { s with heap:=(g0.push (seqObj "tuple" vs.toArray 0)) }:=I1.kept (h':=g0.push (seqObj "tuple" vs.toArray 0)) (t':=s.toks) fun b u e=>qt _ e
 have dI:(g0.push (seqObj "tuple" vs.toArray 0)).get? a=some (seqObj "list" #[] e1):=qt _ jy
 generalize g0.push (seqObj "tuple" vs.toArray 0)=g1 at I2 dI
 have fk:a9 X pins H g1.objs.size:=I2.eu (uX _) (I2.aN.fresh (uX _))
 have I3:Inv X pins σ H { s with heap:=g1.push (seqObj "list" #[] 0) }:=I2.kept (h':=g1.push (seqObj "list" #[] 0)) (t':=s.toks) fun b u e=>qt _ e
 have uh:g1.objs.size≠a:=XN (UL dI)
 have I4:=(I3.cX fk (Vq _ rfl) lM).cX (fa.cons (p:=(g1.objs.size,seqObj "list" #[] 0)) uh) (qt _ dI) lM
 generalize g1.objs.size=kS at I4 uh fk
 unfold ksk_rest
 refine mq (Ze ?_)
 first
  | rw[List.forIn_toArray]
  | (rw[<-YE];simp only[List.toList_toArray])
  | rw[<-YE]
 refine mq (ksk_fold (fun i s'=>∃ H' ah ks e,Inv X ((a,seqObj "list" #[] e1) :: (kS,seqObj "list" (List.toArray ks) e) :: pins) σ H' s'/\P ah H'/\Vals ah ks/\ah.length=i) vs 0 _ ⟨H,[],[],0,I4,p0,.nil,rfl⟩ ?step ?done)
 case step =>
  rintro j x s' hx ⟨H',ah,ks,e,J,pk,rv,hl⟩
  rw[VZ] at hl
  have hj:j < vs.length:=(oW.mp hx).1
  refine mq (wpAny_attempt (Ww (iw _ x ah H' s' (by rw[hl];exact hx) J pk) (fun u s2 hs => ?_) fun _ _ z=>z.elim))
  obtain⟨k,H2,J2,r2,p2⟩:=hs
  try dsimp only
  have pa:=J2.pin (a,seqObj "list" #[] e1) (LU _ (.head _))
  have jj:=J2.pin (kS,seqObj "list" (List.toArray ks) e) (LU _ (.tail _ (.head _)))
  have lk:ks.length=j:=by rw[<-rv.length];exact hl
  refine mq (XX jj.1 rfl ?_ (by rw[sD,Wg];omega) (V_ (Zf (Zk ..)) (by rw[sD,Wg];omega)))
  have s1:=VF s2.heap kS (Obj.mapSeq (·.push u))
  have ea:(List.toArray ks).push u=List.toArray (ks ++ [u]):=by simp
  obtain⟨c2,eK⟩:∃ c2,(s2.heap.update kS (Obj.mapSeq (·.push u))).get? kS=some (seqObj "list" (List.toArray (ks ++ [u])) c2):=⟨_,by rw[<-ea];exact Xd jj.1 (·.push u)⟩
  have J3:=J2.bF.bF
  have J4:Inv X pins σ H2 { s2 with heap:=s2.heap.update kS (Obj.mapSeq (·.push u)) }:=J3.bV (t':=s2.toks) (fk.at jj.2.1) fun c o n e=>(s1.2 c n).trans e
  refine xR ⟨rfl,H2,ah ++ [k],ks ++ [u],c2,?_,p2,rv.append (.cons r2 .nil),by rw[DG,hl,VZ];rfl⟩
  exact (J4.cX (fk.at jj.2.1) eK lM).cX ((fa.at pa.2.1).cons uh) ((s1.2 a uh.symm).trans pa.1) lM
 case done =>
  rintro s' ⟨H',ah,ks,e,J,pk,rv,hl⟩
  rw[VZ] at hl
  have pa:=J.pin (a,seqObj "list" #[] e1) (LU _ (.head _))
  have jj:=J.pin (kS,seqObj "list" (List.toArray ks) e) (LU _ (.tail _ (.head _)))
  have lk:ks.length=vs.length:=by rw[<-rv.length];exact hl
  obtain⟨kk,k1,k2,k3,k4⟩:=fin ah H' hl pk
  try dsimp only
  refine mq (listItems_at jj.1 rfl ?_)
  refine PJ (ks:=kk) lk gX k2 (by rw[lk,k1]) (fun i k v e1 e2 => ?_) fun st p p9 hf hp up => ?_
  ·obtain⟨t,e3,e4⟩:=k3 i k e1
   obtain⟨u,e5,e6⟩:=rv.get e3
   rw[e2] at e5;cases e5
   cases e6
   obtain⟨aq,r',it,_⟩:=J.tuple (bB.of e4)
   obtain⟨o,o1,o2,n,o3⟩:=it
   exact⟨t,o,_,n,rfl,o1,o2,o3,by simpa using intsAre_of r'⟩
  ·have hz:(p.toList.map fun i=>vs.getD i Value.none).length=vs.length:=by rw[oV,UN,hp.size]
   unfold ksk_tail
   try dsimp only
   rw[p9]
   refine mq (XX jj.1 rfl ?_ (by rw[sD,Wg];omega) (V6 _))
   refine mq (Xt ?_)
   have s1:=VF s'.heap kS (Obj.mapSeq fun _=>(#[]:Array Value))
   have na:(s'.heap.update kS (Obj.mapSeq fun _=>(#[]:Array Value))).get? a=some (seqObj "list" #[] e1):=(s1.2 a uh.symm).trans pa.1
   refine mq (seqEpoch_at na rfl ?_)
   simp only[VW,Xf]
   refine mq (XX na rfl ?_ (V6 _) (V_ (Zf (by rw[sD,hz])) (by rw[Wg];omega)))
   rw[hf]
   simp only[bne_self_eq_false,VW,Xf]
   have J1:Inv X pins σ H' { s' with heap:=s'.heap.update kS (Obj.mapSeq fun _=>(#[]:Array Value)) }:=J.bF.bF.bV (t':=s'.toks) (fk.at jj.2.1) fun c o n e=>(s1.2 c n).trans e
   have s2:=VF (s'.heap.update kS (Obj.mapSeq fun _=>(#[]:Array Value))) a (Obj.mapSeq fun _=>List.toArray (p.toList.map fun i=>vs.getD i Value.none))
   have J2:Inv X pins σ H' { s' with heap:=(s'.heap.update kS (Obj.mapSeq fun _=>(#[]:Array Value))).update a (Obj.mapSeq fun _=>List.toArray (p.toList.map fun i=>vs.getD i Value.none)) }:=J1.bV (t':=s'.toks) (fa.at pa.2.1) fun c o n e=>(s2.2 c n).trans e
   obtain⟨c2,eK⟩:∃ c2,((s'.heap.update kS (Obj.mapSeq fun _=>(#[]:Array Value))).update a (Obj.mapSeq fun _=>List.toArray (p.toList.map fun i=>vs.getD i Value.none))).get? a=some (seqObj "list" (List.toArray (p.toList.map fun i=>vs.getD i Value.none)) c2):=⟨_,Xd na fun _=>List.toArray (p.toList.map fun i=>vs.getD i Value.none)⟩
   exact xR (k4 p _ c2 hp up J2 (fa.at pa.2.1) eK)
end
section
variable {prog:Program} {w:World} {A:Around} {E:Value->Shared->Prop} {s:Shared}
theorem PM {Q:List Value->Shared->Prop} {r:Addr} {a b c:Int} {t u v:Tok} {n:Nat} (hh:A.handled=none) (hr:IsRange s.heap r a b c t u v) (p_:Builtin.Range.small a b c=true)
  (hn:Builtin.Range.rangeSize a b c=n) (hlen:n <= 2 ^ 24)
  (hQ:∀ h' tk cy,(∀ b o,s.heap.get? b=some o->h'.get? b=some o)->ItemsOf (fun i v=>∃ t,v = .int (a + i * c) t) cy n->Q cy.toList { s with heap:=h',toks:=tk }):wpAny (model prog w) A (collect (.ref r)) Q E s:=by
 have key:∀ R:Result->Shared->Prop,(∀ h' tk cy c',(∀ b o,s.heap.get? b=some o->h'.get? b=some o)->h'.get? s.heap.objs.size=some { cls := .type "list",dict:=none,data := .seq cy c',slots := #[] }->ItemsOf (fun i v=>∃ t,v = .int (a + i * c) t) cy n->R (.ok (.ret (.ref s.heap.objs.size))) { s with heap:=h',toks:=tk })->codeAny (model prog w) A (.builtin "proto.collect" ⟨[.ref r],[]⟩) R s:=by
  intro R hR
  refine WN F.entry_proto_collect ?_
  rw[Wq F.plain_proto_collect _]
  show wpAny _ A.in1 (newList [] >>= fun l=>again (.builtin "list.__iadd__" ⟨[l,.ref r],[]⟩)) _ _ s
  refine mq (V7 ?_)
  refine xR ⟨WY F.plain_list_iadd _,WN F.entry_list_iadd ?_⟩
  rw[Wq F.plain_list_iadd _]
  show wpAny _ A.in1 (Builtin.List.listExtendWith (.ref s.heap.objs.size) (.ref r) (.ref s.heap.objs.size)) _ _ _
  have PN:(s.heap.push { cls := .type "list",data := .seq ([]:List Value).toArray }).get? s.heap.objs.size=some { cls := .type "list",data := .seq #[] 0 }:=Vq _ rfl
  refine wpAny_extend_range (R:=R) (s:={ s with heap:=s.heap.push { cls := .type "list",data := .seq ([]:List Value).toArray } }) hh (qt _ hr) p_ hn hlen s.heap.objs.size (.ref s.heap.objs.size) 0 PN fun h' tk cy c' hk iN qa => ?_
  exact hR h' tk cy c' (fun b o e=>hk b o (Vx (UL e)) (qt _ e)) iN qa
 unfold collect
 refine mq (wpAny_runValue (key _ fun h' tk cy c' hk iN qa => ?_))
 show wpAny _ A (load s.heap.objs.size >>= _) _ _ _
 refine mq (wpAny_load iN ?_)
 exact xR (hQ h' tk cy hk qa)
end
section
variable {X:Cx} {pins:List (Addr × Obj)} {σ : St} {H:Hp} {s:Shared} {E:Value->Shared->Prop}
theorem Inv.nX {a:Addr} {o:HO} (I:Inv X pins σ H s) (fa:a9 X pins H a) (ha:X.s₀.heap.objs.size <= a) (new:aQ X.prog X.w (upd H a o) s.heap a o):Inv X pins σ (upd H a o) s:=by
 obtain⟨f0,f1,f2,_,f4,f5⟩:=fa
 have ne:∀ {b u},H b=some u->b≠a:=fun e z=>by rw[z,f0] at e;cases e
 refine⟨I.ok,I.os,I.bare,⟨I.base.keep,I.base.slot,fun b u e n hx => ?_,I.base.there,fun b xs e => ?_,fun b u v e => ?_,fun b ps e => ?_⟩,I.loc,I.cell,?_,fun x c e => ?_,fun p hp => ?_,fun b u e => ?_,I.len⟩
 ·rw[aX (Vx (Vw (UL e) ha))];exact I.base.free b u e n hx
 ·have:=I.base.eS b xs e
  rw[aX (ne this)];exact this
 ·have:=I.base.ft b u v e
  rw[aX (ne this)];exact this
 ·obtain⟨more,this⟩:=I.base.fu b ps e
  exact⟨more,by rw[aX (ne this)];exact this⟩
 ·rw[aX (XC f1)];exact I.free
 ·rw[aX (f4 x c e)];exact I.cz x c e
 ·obtain⟨e1,e2,e3⟩:=I.pin p hp
  exact⟨e1,by rw[aX (f5 p hp)];exact e2,e3⟩
 ·by_cases z:b=a
  ·subst z;rw[bR] at e;cases e;exact new
  ·rw[aX z] at e
   refine (I.aN b u e).fq (fun c v _ q=>q) (fun c q => ?_) fun c xs q => ?_
   ·rw[aX (ne q)];exact q
   ·rw[aX (ne q)];exact q
theorem FY {xs:List V} {vs:List Value} (r:Vals xs vs) {p:List Nat} (hp:∀ i∈p,i < vs.length):Vals (p.map fun i=>xs.getD i .non) (p.map fun i=>vs.getD i Value.none):=by
 induction p with
 | nil=>exact .nil
 | cons i q ih =>
  refine .cons ?_ (ih fun j hj=>hp j (Vs _ hj))
  have hi:=hp i UQ
  obtain⟨u,e1,e2⟩:=r.get (getD_some (l:=xs) (d:=V.non) (by rw[r.length];exact hi))
  have:=getD_some (l:=vs) (d:=Value.none) hi
  rw[this] at e1;cases e1
  exact e2
theorem cD.mem {n:Nat} {p:Array Nat} (h:cD n p) {i:Nat} (hi:i∈p.toList):i < n:=by
 have:=(XM.mp h.perm).mem_iff.mp hi
 simpa using this
theorem PQ {l q:Addr} {P:List V->Hp->Prop} {xs:List V} {Q:Value->Shared->Prop} (I:Inv X pins σ H s)
  (col:∀ Q':List Value->Shared->Prop,(∀ h' tk vs,(∀ b o,s.heap.get? b=some o->h'.get? b=some o)->Vals xs vs->Q' vs { s with heap:=h',toks:=tk })->wpAny (model X.prog X.w) X.A.in1 (collect (.ref l)) Q' E s)
  (gX:xs.length < 64) (p0:P [] H)
  (iw:∀ (bf:List (Addr × Obj)) (x:V) (u:Value) (ah:List V) (H':Hp) (s':Shared),xs[ah.length]? = some x->RelV x u->Inv X bf σ H' s'->P ah H'->wpAny (model X.prog X.w) X.A.in1.in1 (call (.ref q) [u]) (EP X bf σ fun k ie=>P (ah ++ [k]) ie) (fun _ _=>False) s')
  (fin:∀ ah H',ah.length=xs.length->P ah H'->∃ ks:List LK,ks.length=xs.length/\(∀ k∈ks,k≠[])/\(∀ (i:Nat) (k:LK),ks[i]? = some k->∃ t,ah[i]? = some (.ref t)/\H' t=some (.tup (k.map V.int))) ∧
   ∀ (p:Array Nat) (s':Shared) (a:Addr),cD xs.length p->Up (fun i=>ks.getD i []) p xs.length->H' a=none->Inv X pins σ (upd H' a (.lst (p.toList.map fun i=>xs.getD i .non))) s'->Q (.ref a) s') :
  wpAny (model X.prog X.w) X.A (call (.builtin "sorted") [.ref l] [(Str.ofString "key",.ref q)]) Q E s:=by
 refine call_function_entry_kw kind_sorted plain_sorted entry_sorted (ksk_s1 _ _) ?_
 unfold Builtin.«sorted»
 refine mq (m:=checkCount "sorted" 1 1 _) (xR ?_)
 refine mq (col _ fun h' tk vs kp rv => ?_)
 have lv:vs.length=xs.length:=rv.length.symm
 refine mq (XY ?_ (by rw[Wg];omega))
 have I1:Inv X pins σ H { s with heap:=h',toks:=tk }:=I.kept kp
 have fa:a9 X pins H h'.objs.size:=I1.eu (uX _) (I1.aN.fresh (uX _))
 have Ab:X.s₀.heap.objs.size <= h'.objs.size:=I1.sz
 have I2:Inv X pins σ H { s with heap:=h'.push (seqObj "list" vs.toArray 0),toks:=tk }:=I1.kept (h':=h'.push (seqObj "list" vs.toArray 0)) (t':=tk) fun b u e=>qt _ e
 have oA:(h'.push (seqObj "list" vs.toArray 0)).get? h'.objs.size=some (seqObj "list" vs.toArray 0):=Vq _ rfl
 refine mq (VG (wpAny_call_entry_kw slot_list_sort ⟨_,oA,rfl⟩ entry_list_sort ?body (ksk_l1 _ _)))
 case body =>
  show wpAny (model X.prog X.w) X.A.in1.in1 (Builtin.«list.sort» ⟨[.ref h'.objs.size],[(Str.ofString "key",.ref q)]⟩) _ _ _
  rw[ksk_t1]
  refine PK (P:=P) I2 fa oA (by omega) p0 (fun bf v ah H' s' hv J pk => ?_) fun ah H' hl pk => ?_
  ·have hi:ah.length < xs.length:=by rw[<-lv];exact (oW.mp hv).1
   obtain⟨u,e1,e2⟩:=rv.get (oU hi)
   rw[hv] at e1;cases e1
   exact iw bf _ v ah H' s' (oU hi) e2 J pk
  ·obtain⟨ks,k1,k2,k3,k4⟩:=fin ah H' (by omega) pk
   refine⟨ks,by omega,k2,k3,fun p s' c hp up J fj e=>⟨_,rfl,?_⟩⟩
   rw[lv] at hp up
   refine xR ⟨_,rfl,k4 p s' h'.objs.size hp up fj.1 (J.nX fj Ab ?_)⟩
   have hz:(p.toList.map fun i=>xs.getD i V.non).length=xs.length:=by rw[oV,UN,hp.size]
   exact⟨by rw[hz,Wg];omega,_,c,FY rv fun i hi=>by rw[lv];exact hp.mem hi,e⟩
end
theorem ae.at {H:Hp} {ds:List D} {vs:List V} {i:Nat} {d:D} {v:V} (h:ae H ds vs) (e1:ds[i]? = some d) (e2:vs[i]? = some v):Is H d v:=by
 obtain⟨d',e3,h'⟩:=h.get e2
 rw[e1] at e3;cases e3
 exact h'
theorem ae.qb {H:Hp}:∀ {ds:List D} {vs:List V},vs.length=ds.length->(∀ (i:Nat) (d:D),ds[i]? = some d->∃ v,vs[i]? = some v/\Is H d v)->ae H ds vs
 | [],[],_,_ => .nil
 | [],_ :: _,h,_=>by simp at h
 | _ :: _,[],h,_=>by simp at h
 | d :: ds,v :: vs,h,g=>by
  obtain⟨v',e,h1⟩:=g 0 d rfl
  cases (show some v=some v' from e)
  exact .cons h1 (ae.qb (by simpa using h) fun i d e=>by simpa using g (i + 1) d (by simpa using e))
structure kG where
 T:Addr
 pos:Pos
 qual:Str
theorem dE.same {H H':Hp} {T:Addr} {pos:Pos} {q:Str} (h:dE H T pos q) (s:aJ H H'):dE H' T pos q:=by
 obtain⟨ps,e,t,c⟩:=h
 exact⟨ps,s _ _ e,t,c.imp id fun ⟨c,e1,e2⟩=>⟨c,e1,s _ _ e2⟩⟩
theorem dE.keep {H H':Hp} {T T':Addr} {pos:Pos} {q:Str} (h:dE H T pos q) (ne:T≠T') (hT:∃ ps,H T'=some (.tbl ps)) (s:∀ b o,H b=some o->b≠T'->H' b=some o):dE H' T pos q:=by
 obtain⟨ps,e,t,c⟩:=h
 refine⟨ps,s _ _ e ne,t,c.imp id fun ⟨c,e1,e2⟩=>⟨c,e1,s _ _ e2 fun z => ?_⟩⟩
 obtain⟨qs,hT⟩:=hT
 rw[z,hT] at e2;cases e2
theorem dE.put {H:Hp} {T a:Addr} {pos:Pos} {q:Str} {o o':HO} (h:dE H T pos q) (ha:H a=some o) (hk:(∃ vs,o = .lst vs)\/∃ ws,o = .dK ws):dE (upd H a o') T pos q:=by
 obtain⟨ps,e,t,c⟩:=h
 have ne:∀ {b u},H b=some u->(∀ vs,u ≠ .lst vs)->(∀ ws,u ≠ .dK ws)->b≠a:=fun {b u} e n1 n2 z=>by
  subst z
  rw[ha] at e;cases e
  rcases hk with⟨_,z⟩ | ⟨_,z⟩
  ·exact n1 _ z
  ·exact n2 _ z
 refine⟨ps,by rw[aX (ne e (fun _ z=>by cases z) fun _ z=>by cases z)];exact e,t,c.imp id fun ⟨c,e1,e2⟩=>⟨c,e1,?_⟩⟩
 rw[aX (ne e2 (fun _ z=>by cases z) fun _ z=>by cases z)];exact e2
@[reducible] noncomputable def mV (ls:List kG):aM where
 ad:=ls.map (·.T)
 ok:=fun H=>∀ l∈ls,dE H l.T l.pos l.qual
 same:=fun h s l hl=>(h l hl).same s
 put:=fun h ha hk l hl=>(h l hl).put ha hk
 tb:=fun h ha=>by
  obtain⟨l,hl,rfl⟩:=My.mp ha
  obtain⟨ps,e,_⟩:=h l hl
  exact⟨ps,e⟩
variable [aM]
structure Ac (T:Addr) (pos:Pos) (q:Str):Prop where
 mem:T∈aM.ad
 get:∀ H:Hp,aM.ok H->dE H T pos q
 put:∀ H H':Hp,aM.ok H->dE H' T pos q->(∀ b o,H b=some o->b≠T->H' b=some o)->aM.ok H'
omit [aM] in
theorem PR {ls:List kG} {l:kG} (hl:l∈ls) (nd:∀ a∈ls,∀ b∈ls,a.T=b.T->a=b):@Ac (mV ls) l.T l.pos l.qual:=by
 letI:aM:=mV ls
 refine⟨Wb hl,fun H h=>h l hl,fun H H' h t k l' iK => ?_⟩
 by_cases z:l'.T=l.T
 ·rw[nd _ iK _ hl z];exact t
 ·obtain⟨ps,e,_⟩:=h l hl
  exact (h l' iK).keep z ⟨ps,e⟩ k
structure PU (X:Cx) (T:Addr):Prop where
 code:∃ cc,X.env.code = .ref cc/\CodeHd X.base cc T
 ng:mainGlobals≠T
 blt:X.base.BuiltinsAt X.mg T
section
variable {F H H':Hp} {ad:List Addr} {δ : aF} {σ : St}
theorem SR.ui (S:SR F ad δ σ H) (k:∀ b o,H b=some o->b∉aM.ad->H' b=some o) (tk:aM.ok H'):SR (Nw F H H') ad δ σ H':=by
 have sm:=Nw.same (H':=H') S.sub
 have nF:∀ {a o},F a=some o->a∉aM.ad:=fun {a o} e t=>by rw[S.nt a t] at e;cases e
 have nO:∀ {i a ov},ad[i]? = some a -> δ.mu[i]? = some (some ov)->a∉aM.ad:=fun {i a ov} e1 e2 t=>by
  obtain⟨a',o,e3,e4,h⟩:=S.mu i ov e2
  rw[e1] at e3;cases e3
  obtain⟨ps,q⟩:=aM.tb S.tab t
  rw[e4] at q;cases q
  rcases h.kind with⟨_,z⟩ | ⟨_,z⟩<;>cases z
 refine⟨fun a o e => ?_,fun a l => ?_,S.cb,S.inj,fun i ov e => ?_,fun i x e => ?_,S.len,tk,fun a ha => ?_⟩
 ·unfold Nw at e
  cases q:H a with
  | none=>rw[q] at e;exact e
  | some u=>rw[q] at e;exact k a o (S.sub a o e) (nF e)
 ·obtain⟨i,ov,e1,e2⟩:=l
  obtain⟨a',o,e3,e4,_⟩:=S.mu i ov e2
  rw[e1] at e3;cases e3
  unfold Nw;rw[e4];exact S.off a ⟨i,ov,e1,e2⟩
 ·obtain⟨a,o,e1,e2,h⟩:=S.mu i ov e
  exact⟨a,o,e1,k a o e2 (nO e1 e),h.same sm⟩
 ·obtain⟨v,e1,h⟩:=S.sl i x e
  refine⟨v,e1,?_⟩
  cases x with
  | p d=>exact Is.same sm h
  | o k=>exact h
 ·obtain⟨ps,q⟩:=aM.tb S.tab ha
  unfold Nw;rw[q];exact S.nt a ha
theorem Ext.ui (S:SR F ad δ σ H) (k:∀ b o,H b=some o->b∉aM.ad->H' b=some o) (tk:aM.ok H'):Ext F ad δ.mu H (Nw F H H') ad δ.mu H' where
 same:=Nw.same S.sub
 new:=fun a o e=>by
  unfold Nw at e
  cases q:H a with
  | none=>exact .inr (.inl rfl)
  | some u=>rw[q] at e;exact .inl e
 keep:=fun a o e _ t=>k a o e t
 pre:=fun _ _ e=>e
 b7:=fun _ l => .inl l
 iG:=fun a o e=>by
  by_cases t:a∈aM.ad
  ·obtain⟨ps,q⟩:=aM.tb tk t
   exact⟨_,q⟩
  ·exact⟨o,k a o e t⟩
theorem SR.nY {sl:List (Option DV)} {mu:List (Option OV)} {τ : St} {d:D} {v:V} (S:SR F ad ⟨sl,mu⟩ τ H) (h:Is F d v):SR F ad ⟨some (.p d) :: sl,mu⟩ (some v :: τ) H:=by
 refine⟨S.sub,S.off,S.cb,S.inj,S.mu,fun i x e => ?_,by have:=S.len;simp only[DE];exact congrArg (· + 1) this,S.tab,S.nt⟩
 cases i with
 | zero=>cases (show some (some (DV.p d))=some (some x) from e);exact⟨v,rfl,h⟩
 | succ i=>exact S.sl i x e
theorem Ext.iO {F' H':Hp} {aK:List Addr} {cH:List (Option OV)} {a:Addr} {o:HO} (S:SR F ad δ σ H) (e:Ext F ad δ.mu H F' aK cH H') (h:H a=some o) (n1:∀ vs,o ≠ .lst vs) (n2:∀ ws,o ≠ .dK ws) (n3:∀ ps,o ≠ .tbl ps):H' a=some o:=by
 refine e.keep a o h (fun ⟨i,ov,e1,e2⟩ => ?_) fun t => ?_
 ·obtain⟨a',u,e3,e4,q⟩:=S.mu i ov e2
  rw[e1] at e3;cases e3
  rw[h] at e4;cases e4
  rcases q.kind with⟨_,z⟩ | ⟨_,z⟩
  ·exact n1 _ z
  ·exact n2 _ z
 ·obtain⟨ps,q⟩:=aM.tb S.tab t
  rw[h] at q;exact n3 _ (VE q)
end
noncomputable def FZ (cp:List (Option Nat)) (fb:WE) (δ : aF) (ds:List D) (key:D->LK):Prop :=
 ∀ d∈ds,key d≠[]/\fb ⟨some (.p d) :: cU cp δ.sl,δ.mu⟩ fun y δ'=>y = .p (.tup ((key d).map D.int)) /\ δ'.mu = δ.mu
noncomputable def sortBy (cp:List (Option Nat)) (fb:WE) (δ : aF) (ds:List D) (K:List D->Prop):Prop :=
 ds.length < 64/\∃ key:D->LK,FZ cp fb δ ds key/\∀ out:List D,out.Perm ds->(out.map key).Pairwise kle->K out
section
variable {X:Cx} {params:Arguments} {body:Expr} {scope:Scope} {cF:Pos} {x:Str} {Nb:List Str} {cp:List (Option Nat)} {fb:WE} {T:Addr}
structure d9 (X:Cx) (params:Arguments) (body:Expr) (scope:Scope) (cF:Pos) (T:Addr) (x:Str) (Nb:List Str) (cp:List (Option Nat)) (fb:WE):Prop where
 env:PU X T
 tbl:Ac T cF (X.env.qual ++ "<lambda>")
 F0:defaultsOf params X.env=([],[])
 kind:scope.kind = .function
 names:uf X.N X.env.scope scope x Nb cp=true
 co:scope.isCoroutine=false
 gen:scope.isGenerator=false
 bind:∀ (cl:List (Str × Addr)) (pm cd ct u:Value),bindArgs (kla_fn "<lambda>" (X.env.qual ++ "<lambda>") params body scope cl pm cd ct) ⟨[u],[]⟩=pure [(x,u)]
 room:∃ k,bg (k + 3) X.A/\∀ d:LD,bg k (d.A.deeper (envX (X.env.qual ++ "<lambda>") scope d.s.heap.objs.size d.f d.cd d.cl))->JE (mT X (X.env.qual ++ "<lambda>") scope (x :: Nb) d) body (tD fb)
theorem PV {pins:List (Addr × Obj)} {σ : St} {H:Hp} {s:Shared} {E:Value->Shared->Prop} {l:Addr} {F:Hp} {ad:List Addr} {δ : aF} {ds:List D} {xs:List V} {eV pos:Pos} {Q:VK} (L:d9 X params body scope cF T x Nb cp fb)
  (I:Inv X pins σ H s) (S:SR F ad δ σ H) (hx:ae F ds xs)
  (col:∀ (s:Shared) (H':Hp),Inv X pins σ H' s->(∀ b o,H b=some o->b∉aM.ad->H' b=some o)->∀ Q':List Value->Shared->Prop,(∀ h' tk vs,(∀ b o,s.heap.get? b=some o->h'.get? b=some o)->Vals xs vs->Q' vs { s with heap:=h',toks:=tk })->wpAny (model X.prog X.w) X.A.in1 (collect (.ref l)) Q' E s)
  (hs:sortBy cp fb δ ds fun out=>∀ a F' H' us,Ext F ad δ.mu H F' ad δ.mu H'->SR F' ad δ σ H'->H' a=none->ae F' out us->Q (.ref a) (upd H' a (.lst us))) :
  wpAny (model X.prog X.w) X.A (evalAll ((backToKw pos (keywordEach [⟨some "key",.Lambda params body scope cF,eV⟩] X.env)).map (·.2))) (fun ah s₂ => wpAny (model X.prog X.w) X.A (call (.builtin "sorted") [.ref l] (((backToKw pos (keywordEach [⟨some "key",.Lambda params body scope cF,eV⟩] X.env)).filterMap (·.1)).zip ah)) (EP X pins σ Q) E s₂) E s:=by
 obtain⟨gX,key,hk,K⟩:=hs
 obtain⟨k,kH,J⟩:=L.room
 obtain⟨cc,fO,hC⟩:=L.env.code
 show wpAny _ _ (evalAll [do let v <- eval (.Lambda params body scope cF) X.env;standAt pos;pure v]) _ _ _
 refine evalAll_cons (mq ?_)
 have qc:=L.names
 unfold uf at qc
 simp only[VY,Wu,Wz] at qc
 have SC:=x0v L.kind qc.1.1.1
 obtain⟨cl,ly,mU,qY⟩:=xU (scope:=scope) (env:=X.env) fun y hy e=>I.ok.has y.1 (SC.free y hy e)
 refine FO I (L.tbl.get H S.tab) L.F0 ly fO (hC.keeps I.bk) L.env.ng (I.mod.glob.keeps I.bk) (L.env.blt.keeps I.bk) fun f H1 s1 c I1 t1 k1 FN hf hc => ?_
 refine mq (XA (xR ?_))
 refine evalAll_nil ?_
 show wpAny _ _ (call (.builtin "sorted") [.ref l] [(Str.ofString "key",.ref f)]) _ _ _
 have kT:∀ b o,H b=some o->b∉aM.ad->H1 b=some o:=fun b o e t=>k1 b o e fun z=>t (by rw[z];exact L.tbl.mem)
 have iR:=L.tbl.put H H1 S.tab t1 k1
 have S1:=S.ui kT iR
 have E1:=Ext.ui S kT iR
 have lx:=hx.length
 refine PQ (xs:=xs) (P:=fun ah H'=>∃ F',Ext F ad δ.mu H F' ad δ.mu H'/\SR F' ad δ σ H'/\H' f=some (gP f "<lambda>" (X.env.qual ++ "<lambda>") params body scope cl ((X.mg "__name__").getD .none) (.ref c))/\H' c=some (kF c (X.env.qual ++ "<lambda>"))/\∀ (i:Nat) (d:D) (kv:V),ds[i]? = some d->ah[i]? = some kv->Is F' (.tup ((key d).map D.int)) kv)
  I1 (col s1 H1 I1 kT) (by omega) ⟨_,E1,S1,hf,hc,fun i d kv _ e=>by simp at e⟩ (fun bf v u ah H' s' hv rv I' ⟨F',E',S',nZ,gz,n6⟩ => ?_) fun ah H' hl ⟨F',E',S',nZ,gz,n6⟩ => ?_
 ·have hi:ah.length < ds.length:=by rw[<-lx];exact (oW.mp hv).1
  have hd:=oU hi
  have Ad:Is F' ds[ah.length] v:=ae.at (hx.same E'.same) hd hv
  obtain⟨PX,Ae⟩:=hk _ (WK hi)
  have r2:bg (k + 1) X.A.in1.in1:=(bg.in1 (bg.in1 (k:=k + 2) kH))
  refine FR I' nZ gz (by rw[show X.A.in1.in1.frames=X.A.frames from rfl];exact I'.ok.frames) r2.hd r2.depth L.kind L.names L.co L.gen mU qY (fun ct=>L.bind cl _ _ ct u) rv (J ⟨X.A.in1.in1,cl,f,.ref c,s',H'⟩ (r2.deeper _)) ?_
  refine⟨F',ad,_,_,(S'.pF (cp:=cp)).nY Ad,Ae,fun y δ' ⟨ey,em⟩ w F2 bK H2 E2 S2 V2 => ?_⟩
  subst ey
  have ea:bK=ad:=by
   have l2:bK.length=ad.length:=by rw[S2.cb,em,S'.cb]
   refine Xe fun i => ?_
   by_cases hi:i < ad.length
   ·rw[oU hi];exact E2.pre i _ (oU hi)
   ·rw[VN (by omega),VN (by omega)]
  subst ea
  obtain⟨w_,cH⟩ := δ'
  have em:cH = δ.mu:=em
  subst em
  refine⟨F2,E'.trans E2,SR.back S' E2 S2,E2.iO S' nZ (fun _ z=>by cases z) (fun _ z=>by cases z) (fun _ z=>by cases z),E2.iO S' gz (fun _ z=>by cases z) (fun _ z=>by cases z) (fun _ z=>by cases z),fun i d kv e1 e2 => ?_⟩
  by_cases mP:i < ah.length
  ·rw[Vt mP] at e2
   exact Is.same E2.same (n6 i d kv e1 e2)
  ·have:i=ah.length:=by
    have:=(oW.mp e2).1
    rw[DG,VH] at this
    omega
   subst this
   rw[Vu (uX _),Wa] at e2
   cases (show some w=some kv from e2)
   rw[hd] at e1;cases e1
   exact V2
 ·refine⟨ds.map key,by rw[oV];omega,fun k eX => ?_,fun i k' e => ?_,fun p s' a hp up ha I' => ?_⟩
  ·obtain⟨d,hd,rfl⟩:=My.mp eX
   exact (hk d hd).1
  ·rw[LR] at e
   obtain⟨d,hd,rfl⟩:=UP.mp e
   have hi:i < ah.length:=by rw[hl,lx];exact (oW.mp hd).1
   have is:=n6 i d _ hd (oU hi)
   simp only[Is] at is
   obtain⟨t,us,e1,e2,e3⟩:=is
   refine⟨t,by rw[oU hi,e1],?_⟩
   rw[<-lG e3];exact S'.sub _ _ e2
  ·have pm:(p.toList.map fun i=>ds.getD i .non).Perm ds:=by
    have h1:=(XM.mp hp.perm).map fun i=>ds.getD i .non
    have h2:(List.range xs.length).map (fun i=>ds.getD i D.non)=ds:=by
     refine Xe fun i => ?_
     rw[LR]
     by_cases hi:i < ds.length
     ·rw[Wv (by omega),Zj,oU hi,DD,oU hi];rfl
     ·rw[VN (by rw[VL];omega),VN (by omega)];rfl
    rw[show (List.range xs.length).toArray.toList=List.range xs.length from rfl,h2] at h1
    exact h1
   refine⟨.ref a,_,I',rfl,K _ pm ?_ a _ _ _ E' S' ha ?_⟩
   ·rw[Vz,XQ]
    intro i j hi hj g8
    rw[oV,UN,hp.size] at hi hj
    have:=up i j (WM g8) hj
    unfold KA at this
    rw[Xa,Xa]
    have gp:∀ {i:Nat} (h:i < p.toList.length),p.getD i 0=p.toList[i]:=fun {i} h=>by
     have h':i < p.size:=by rw[<-UN];exact h
     simp[Array.getD,h']
    have gk:∀ {i:Nat},i < ds.length->(ds.map key).getD i []=key (ds.getD i .non):=fun {i} h=>by
     rw[DD,LR,oU h,DD,oU h];rfl
    have pi:=hp.lt hi
    have pj:=hp.lt hj
    dsimp only at this
    rw[gk (by omega),gk (by omega),gp (by rw[UN,hp.size];exact hi),gp (by rw[UN,hp.size];exact hj)] at this
    exact this
   ·refine ae.qb ?_ fun i d e => ?_
    ·rw[oV,oV]
    ·rw[LR] at e ⊢
     obtain⟨z,e1,rfl⟩:=UP.mp e
     rw[e1]
     have hz:=hp.mem (VA e1)
     refine⟨_,rfl,ae.at (hx.same E'.same) (getD_some (by omega)) (getD_some (by omega))⟩
end
structure gi (mg:Str->Option Value) (base:Heap) (fd:FuncData) (T:Addr) (pos:Pos) (q:Str):Prop where
 code:∃ cc,fd.code = .ref cc/\CodeHd base cc T
 ng:mainGlobals≠T
 blt:base.BuiltinsAt mg T
 tbl:Ac T pos q
theorem gE.Af {P:Program} {w:World} {K:PySem.W.Frag} {mg:Str->Option Value} {base:Heap} {x qual:Str} {st:Stmt} {f:Addr} {fd:FuncData} {N ps:List Str} {k:Nat} {G:GD} (F:gE K x qual st f fd) (S:l6 N ps (cM st))
  (dj:∀ (a_:Value) (A:Around) (outer:List Env) (s:Shared) (H:Hp) (E:XK),fd.code=a_->bg k (A.deeper (envOfC qual (cM st) s.heap.objs.size f a_)) →
   ∃ B:WS,dP (eB fL P w K mg base N qual (cM st) f a_ A outer s H E).jR (fZ st) (dr B)/\∀ ys aj K',ys.length=ps.length->G ys aj K'->B (bG aj.length K') ⟨ys.map some ++ List.replicate (N.length - ps.length) none,aj.map some⟩) :
  cK P w K mg base fL (k + 1) f fd ps (mI G ps.length):=by
 obtain⟨oc,od,kV,doc,pm,an,a_,ct,l8,rfl,lk,eT⟩:=F.ex
 refine C9 lk eT S (fun vs H Q E h=>h.1) fun A outer s H vs Q E hr h => ?_
 obtain⟨hl,Fz,ad,ys,aj,K',S0,g,kk⟩:=h
 obtain⟨B,jb,hb⟩:=dj a_ A outer s H E rfl hr
 have hy:ys.length=ps.length:=by
  have:=S0.len
  rw[oV] at this
  rw[<-hl,this];show _=(ys.map some).length;rw[oV]
 refine⟨_,jb.out.jR,Fz,ad,⟨ys.map some ++ List.replicate (N.length - ps.length) none,aj.map some⟩,bG aj.length K',by rw[<-hl];exact S0.start,hb ys aj K' hy g,⟨fun δ' h F' aK σ' H' E' S' => ?_,fun δ' h=>h.elim,fun δ' h=>h.elim,fun y δ' h v F' aK σ' H' E' S' V => ?_,trivial⟩⟩
 ·exact vt (σ' := σ') S0 E' S' (x := .p .non) (v := .non) rfl h kk
 ·exact vt (σ' := σ') S0 E' S' V h kk
section
variable {X:Cx} {params:Arguments} {body a e:Expr} {scope:Scope} {cF p1 p2 q1 q2 eV:Pos} {x:Str} {Nb:List Str} {cp:List (Option Nat)} {fb f:WE} {fa:WA} {T:Addr}
noncomputable def Ag (fa:WA) (cp:List (Option Nat)) (fb:WE):WE:=fun δ K=>fa δ fun xs δ1=>match xs with
 | [.p (.int j)]=>(0 <= j/\j <= 60)/\sortBy cp fb δ1 (bO 0 j.toNat) fun out=>K (.o δ1.mu.length) ⟨δ1.sl,δ1.mu ++ [some (.lst out)]⟩
 | _=>False
theorem PY (L:d9 X params body scope cF T x Nb cp fb) (hc:X.calm=true) (uj:Gl X "sorted") (hs:X.mg "sorted" = none) (uk:bootBuiltins "sorted" = some (.builtin "sorted")) (mN:Gl X "range") (hr:X.mg "range" = none) (mO:bootBuiltins "range" = some (.type "range")) (ha:JA X [a] (bX fa))
  (he:starEach [a] X.env=[(false,eval a X.env)]) (M:aF->List D->Prop)
  {pins:List (Addr × Obj)} {s:Shared} {σ : St} {H:Hp} {Q:VK} {F:Hp} {ad:List Addr} {δ : aF} (I:Inv X pins σ H s) (S:SR F ad δ σ H)
  (q:fa δ fun xs δ1=>match xs with
   | [.p (.int j)]=>(0 <= j/\j <= 60)/\sortBy cp fb δ1 (bO 0 j.toNat) (M δ1)
   | _=>False)
  (fin:∀ δ1 out,M δ1 out->∀ a F' aK H' us,Ext F ad δ.mu H F' aK δ1.mu H'->SR F' aK δ1 σ H'->H' a=none->ae F' out us->Q (.ref a) (upd H' a (.lst us))) :
  wpAny (model X.prog X.w) X.A (eval (.Call (.Name "sorted" p1) [.Call (.Name "range" p2) [a] [] q2] [⟨some "key",.Lambda params body scope cF,eV⟩] q1) X.env) (EP X pins σ Q) X.xe s:=by
 refine Xv (lU I uj hs uk ?_)
 refine callWith_kw ?_
 refine aZ ((j5 (nK yH mN hr mO ha (he:=he)) bW).out q1 pins s σ H (fun vs H2=>∃ (r:Addr) (j:Int) (F1:Hp) (aO:List Addr) (δ1:aF) (H1:Hp),vs=[.ref r]/\H2=upd H1 r (.rng 0 j)/\H1 r=none/\Ext F ad δ.mu H F1 aO δ1.mu H1/\SR F1 aO δ1 σ H1/\(0 <= j/\j <= 60)/\sortBy cp fb δ1 (bO 0 j.toNat) (M δ1)) I ?_) fun us s1 Ah => ?_
 ·refine⟨F,ad,δ,_,S,q,fun xs δ1 h1 vs F1 aO H1 E1 S1 V1 => ?_⟩
  split at h1
  ·rename_i j
   obtain⟨v,r,e,W1,W2⟩:=V1
   have W2:r=[]:=W2
   have W1:v = .int j:=W1
   subst W2 W1 e
   exact⟨j,rfl,fun rr tY=>⟨rr,j,F1,aO,δ1,H1,rfl,rfl,tY,E1,S1,h1.1,h1.2⟩⟩
  ·exact h1.elim
 ·obtain⟨vs,H2,I2,r2,r,j,F1,aO,δ1,H1,ev,eH,PZ,E1,S1,hj,wc⟩:=Ah
  subst ev eH
  obtain⟨u,rfl,rx⟩:=vals1 r2
  cases rx
  have sm:aJ H1 (upd H1 r (.rng 0 j)):=cA PZ
  have S2:=S1.al sm
  have E2:=Ext.al S1 sm
  obtain⟨n,rfl⟩:∃ n:Nat,j=n:=⟨j.toNat,by omega⟩
  rw[LW,jI] at wc
  refine PV L I2 S2 (ds:=(aL n).map D.int) (xs:=(aL n).map V.int) ku (fun s' H' I' kp Q' hQ => ?_) ?_
  ·have P0:H' r=some (.rng 0 (n:Int)):=kp r _ bR fun t=>by
    obtain⟨ps,z⟩:=aM.tb S2.tab t
    rw[bR] at z;cases z
   obtain⟨t,u,v,e⟩:=(show ∃ t u v,s'.heap.get? r=some { cls := .type "range",data := .fields #[.int 0 t,.int (n:Int) u,.int 1 v] } from I'.aN r _ P0)
   have hsz:Builtin.Range.rangeSize 0 (n:Int) 1=n:=by rw[rangeSize_one];split<;>omega
   refine PM (n:=n) (by rw[X7];exact I'.ok.hd hc) e (small_one (by omega) (by omega) (by omega) (by omega)) hsz (by omega) fun h' tk acc P9 it=>hQ h' tk _ P9 ?_
   refine yI ?_ fun i u e => ?_
   ·rw[UN,it.1,aL,oV,VL]
   ·rw[VX] at e
    obtain⟨t',e2⟩:=it.2 i u e
    have hi:i < n:=by rw[<-it.1];exact (XI.mp e).1
    refine⟨t',e2.trans ?_⟩
    rw[aL,DD,LR,Wv hi]
    show Value.int (0 + (i:Int) * 1) t'=Value.int (i:Int) t'
    rw[Zc,Int.mul_one]
  ·obtain⟨gX,key,hk,hK⟩:=wc
   exact⟨gX,key,hk,fun out pm pw a F' H' us E' S' hn is=>fin δ1 out (hK out pm pw) a F' aO H' us ((E1.trans E2).trans E') S' hn is⟩
theorem P_ (L:d9 X params body scope cF T x Nb cp fb) (hc:X.calm=true) (uj:Gl X "sorted") (hs:X.mg "sorted" = none) (uk:bootBuiltins "sorted" = some (.builtin "sorted")) (mN:Gl X "range") (hr:X.mg "range" = none) (mO:bootBuiltins "range" = some (.type "range")) (ha:JA X [a] (bX fa))
  (he:starEach [a] X.env=[(false,eval a X.env)]:=by rfl):JE X (.Call (.Name "sorted" p1) [.Call (.Name "range" p2) [a] [] q2] [⟨some "key",.Lambda params body scope cF,eV⟩] q1) (tD (Ag fa cp fb)) :=
 ⟨fun pins s σ H Q I h0_ => el7 h0_ fun F ad δ K S q k =>PY L hc uj hs uk mN hr mO ha he (fun δ1 out=>K (.o δ1.mu.length) ⟨δ1.sl,δ1.mu ++ [some (OV.lst out)]⟩) I S q fun δ1 out hM a F' aK H' us E' S' hn is=>by
  have oi:eE F' (.lst out) (.lst us):=⟨us,rfl,is⟩
  exact k _ _ hM _ _ _ _ (E'.trans (Ext.own S' hn)) (S'.own hn oi) (vS S')⟩
end
end L2
namespace L2
open PySem PySem.Spec PyProof.Rows PySem.W
theorem we:∀ {k l:LK} (n m:Int),k.length=l.length->HT.lexLt (k ++ [n]) (l ++ [m])=if k=l then decide (n < m) else HT.lexLt k l
 | [],[],n,m,_=>by
  show (if n=m then HT.lexLt [] [] else decide (n < m))=_
  rw[UO rfl]
  by_cases h:n=m
  ·rw[UO h];subst h;simp[HT.lexLt]
  ·rw[LX h]
 | [],_ :: _,_,_,h=>by simp at h
 | _ :: _,[],_,_,h=>by simp at h
 | a :: k,b :: l,n,m,h=>by
  rw[Y2,Y2,HT.l9,HT.l9,we n m (by simpa using h)]
  by_cases e:a=b
  ·subst e
   rw[UO rfl,UO rfl]
   by_cases e2:k=l
   ·subst e2;rw[UO rfl,UO rfl]
   ·rw[LX e2,LX fun z=>e2 (List.cons.inj z).2]
  ·rw[LX e,LX e,LX fun z=>e (List.cons.inj z).1]
noncomputable def kI (h:Heap) (L:Nat) (k:LK) (v:Value):Prop:=∃ a o xs n b kb m t,v = .ref a/\h.get? a=some o/\o.cls = .type "tuple" /\ o.data = .seq xs n/\xs.toList=[.ref b,.int m t]/\iu h kb (.ref b)/\kb.length=L/\k=kb ++ [m]
section
variable {prog:Program} {w:World} {A:Around} {E:Value->Shared->Prop} {s:Shared} {Q:Bool->Shared->Prop}
theorem Ai:∀ {us:List Value} {ns:List Int},IntsAre us ns->ItemsAre (intKind prog w) ns us
 | _,_,.nil => .nil
 | _,_,.cons n t r => .cons (intKind_is ..) (Ai r)
theorem Qa {L:Nat} {k l:LK} {x y:Value} (hu:A.units < cLine) (hx:kI s.heap L k x) (hy:kI s.heap L l y) (h:Q (HT.lexLt k l) s):wpAny (model prog w) A (keyLt' (tuples' false) x y) Q E s:=by
 obtain⟨a,o,xs,n,b,kb,m,t,rfl,h1,_,h2,h3,⟨b',ob,bs,nb,eb,g1,gc,g2,g3⟩,hL,rfl⟩:=hx
 obtain⟨a',o',Qb,n',c,kc,m',t',rfl,mw,_,f6,F7,⟨c',oc,cs,nc,ec,f1,fc,f2,f3⟩,dX,rfl⟩:=hy
 cases eb
 cases ec
 have hz:xs.size=2:=by rw[<-UN,h3];rfl
 have Qc:Qb.size=2:=by rw[<-UN,F7];rfl
 rw[we m m' (by rw[hL,dX])] at h
 have k1:IsTupleKey (intKind prog w) s.heap kb b:=⟨ob,bs,nb,g1,gc,g2,Ai g3⟩
 have k2:IsTupleKey (intKind prog w) s.heap kc c:=⟨oc,cs,nc,f1,fc,f2,Ai f3⟩
 refine kat_lt h1 h2 mw f6 ?_
 rw[h3,F7,hz,Qc,Wr,Wr,XD]
 refine kat_cons (wpAny_eqBool_tuple hu k1 k2 (kat_go (fun e => ?_) fun e => ?_))
 ·have e:kb=kc:=by simpa using e
  rw[UO e] at h
  refine kat_yes (kat_cons (YY (kat_go (fun e2 => ?_) fun e2 => ?_)))
  ·have e2:m=m':=WB e2
   subst e2
   refine kat_yes (kat_nil ?_)
   simpa using h
  ·exact kat_no (kat_one _ _ (Yy h))
 ·have e:¬ kb=kc:=by simpa using e
  rw[LX e] at h
  exact kat_no (kat_one _ _ (HT.xw ⟨ob,g1,gc,nb,g2⟩ ⟨oc,f1,fc,nc,f2⟩ g3 f3 hu h))
theorem Qd {M:Model} {L:Nat} {vs:List Value} {ks:List LK} {Q:SortKind->Shared->Prop} (h0:0 < vs.length) (hl:vs.length=ks.length) (ht:∀ (i:Nat) (k:LK) (v:Value),ks[i]? = some k->vs[i]? = some v->kI s.heap L k v) (h:Q (tuples' false) s) :
  wpAny M A (keyKind' vs.toArray) Q E s:=by
 have key:∀ (vs:List Value) (ks:List LK),vs.length=ks.length->(∀ (i:Nat) (k:LK) (v:Value),ks[i]? = some k->vs[i]? = some v->kI s.heap L k v)->∃ fs,KatTups s.heap vs fs/\fs.length=vs.length/\∀ v∈fs,Looks M s.heap (typeOf v) (.type "tuple"):=by
  intro vs
  induction vs with
  | nil=>exact fun ks _ _=>⟨[],.nil,rfl,fun v hv=>nomatch hv⟩
  | cons v vs ih =>
   intro ks hl ht
   match ks,hl,ht with
   | k :: ks,hl,ht =>
    obtain⟨fs,t,hf,hi⟩:=ih ks (by simpa using hl) fun i k v e1 e2=>ht (i + 1) k v (by simpa using e1) (by simpa using e2)
    obtain⟨a,o,xs,n,b,kb,m,t',rfl,h1,hc,h2,h3,⟨b',ob,bs,nb,eb,g1,gc,g2,g3⟩,_⟩:=ht 0 k v rfl rfl
    cases eb
    have h0:xs[0]? = some (.ref b):=by rw[<-VX,h3];rfl
    refine⟨.ref b :: fs,.cons h1 hc h2 h0 t,by rw[DE,DE,hf],fun v hv => ?_⟩
    rcases Vr.mp hv with rfl | hv
    ·rw[<-gc];exact (Looks.ld g1).andThen .now
    ·exact hi v hv
 obtain⟨fs,t,hf,hi⟩:=key vs ks hl ht
 exact kat_kind (T := .type "tuple") t (by omega) hi (by decide) h
end
section
variable {X:Cx} {pins:List (Addr × Obj)} {σ : St} {H:Hp} {s:Shared} {A:Around} {E:Value->Shared->Prop} {a:Addr} {vs:List Value} {ks:List LK} {κ : SortKind}
theorem Qe {n0:Nat} {R:PySem.Fin->Shared->Prop} (I:Inv X pins σ H s) (fa:a9 X pins H a) (ha:s.heap.get? a=some (seqObj "list" vs.toArray n0)) (gX:vs.length < 64)
  (kind:∀ s':Shared,Inv X pins σ H s'->2 <= vs.length->∀ Q:SortKind->Shared->Prop,Q κ s'->wpAny (model X.prog X.w) A (keyKind' vs.toArray) Q E s')
  (ask:∀ s':Shared,Inv X pins σ H s'->∀ (i j:Nat) (C:Bool->Shared->Prop),i < vs.length->j < vs.length->C (HT.lexLt (ks.getD i []) (ks.getD j [])) s'->wpAny (model X.prog X.w) A (keyLt' κ (vs.getD i Value.none) (vs.getD j Value.none)) C (fun _ _=>False) s')
  (fin:∀ (p:Array Nat) (s':Shared) (c:Nat),cD vs.length p->Up (fun i=>ks.getD i []) p vs.length->Inv X pins σ H s'->s'.heap.get? a=some (seqObj "list" (List.toArray (p.toList.map fun i=>vs.getD i Value.none)) c)->R (.done (.ret .none)) s') :
  wpAny (model X.prog X.w) A (Builtin.«list.sort» ⟨[.ref a],[]⟩) R E s:=by
 have sb:=VF s.heap a (Obj.mapSeq fun _=>(#[]:Array Value))
 obtain⟨e1,jy⟩:∃ e1,(s.heap.update a (Obj.mapSeq fun _=>(#[]:Array Value))).get? a=some (seqObj "list" #[] e1):=⟨_,Xd ha fun _ => #[]⟩
 have I1:Inv X pins σ H { s with heap:=s.heap.update a (Obj.mapSeq fun _=>(#[]:Array Value)) }:=I.bV (t':=s.toks) fa fun c o n e=>(sb.2 c n).trans e
 rw[list_sort_plain]
 refine mq (listItems_at ha rfl ?_)
 refine mq (XX ha rfl ?_ (by rw[sD,Wg];omega) (V6 _))
 refine mq (seqEpoch_at jy rfl ?_)
 refine mq (wpAny_newTuple ?_ (by show vs.length <= _;rw[Wg];omega))
 refine mq (XY ?_ (V6 _))
 refine VG ?_
 generalize PL:s.heap.update a (Obj.mapSeq fun _=>(#[]:Array Value))=g0 at jy I1 sb
 show wpAny (model X.prog X.w) A _ R E { s with heap:=(g0.push (seqObj "tuple" vs.toArray 0)).push (seqObj "list" #[] 0) }
 have I2:Inv X pins σ H { s with heap:=(g0.push (seqObj "tuple" vs.toArray 0)).push (seqObj "list" #[] 0) }:=I1.kept (h':=(g0.push (seqObj "tuple" vs.toArray 0)).push (seqObj "list" #[] 0)) (t':=s.toks) fun b u e=>qt _ (qt _ e)
 have dI:((g0.push (seqObj "tuple" vs.toArray 0)).push (seqObj "list" #[] 0)).get? a=some (seqObj "list" #[] e1):=qt _ (qt _ jy)
 have kp:∀ b o,b≠a->s.heap.get? b=some o->((g0.push (seqObj "tuple" vs.toArray 0)).push (seqObj "list" #[] 0)).get? b=some o:=fun b o n e=>qt _ (qt _ ((sb.2 b n).trans e))
 generalize (g0.push (seqObj "tuple" vs.toArray 0)).push (seqObj "list" #[] 0)=g1 at I2 dI kp
 dsimp only
 have tail:∀ (st:SortSt) (p:Array Nat),(arrOf st).map (·.2)=List.toArray (p.toList.map fun i=>vs.getD i Value.none)->failedOf st=none->cD vs.length p->Up (fun i=>ks.getD i []) p vs.length->wpAny (model X.prog X.w) A (do
   let touched:=(<- seqEpoch a) != e1
   Builtin.List.listUpdate (.ref a) fun _=>(arrOf st).map (·.2)
   if let some e:=failedOf st then rule "list.sort.comparison-raised";throw e
   if touched then rule "list.sort.modified";raiseError "ValueError" "list modified during sort"
   ret .none) R E { s with heap:=g1 }:=by
  intro st p p9 hf hp up
  have hz:(p.toList.map fun i=>vs.getD i Value.none).length=vs.length:=by rw[oV,UN,hp.size]
  rw[p9]
  have s2:=VF g1 a (Obj.mapSeq fun _=>List.toArray (p.toList.map fun i=>vs.getD i Value.none))
  obtain⟨c2,eK⟩:∃ c2,(g1.update a (Obj.mapSeq fun _=>List.toArray (p.toList.map fun i=>vs.getD i Value.none))).get? a=some (seqObj "list" (List.toArray (p.toList.map fun i=>vs.getD i Value.none)) c2):=⟨_,Xd dI fun _=>List.toArray (p.toList.map fun i=>vs.getD i Value.none)⟩
  have J:Inv X pins σ H { s with heap:=g1.update a (Obj.mapSeq fun _=>List.toArray (p.toList.map fun i=>vs.getD i Value.none)) }:=I2.bV (h':=g1.update a (Obj.mapSeq fun _=>List.toArray (p.toList.map fun i=>vs.getD i Value.none))) (t':=s.toks) fa fun c o n e=>(s2.2 c n).trans e
  refine mq (seqEpoch_at dI rfl ?_)
  refine mq (XX dI rfl ?_ (V6 _) (V_ (Zf (by rw[sD,hz])) (by rw[Wg];omega)))
  rw[hf]
  simp only[bne_self_eq_false,VW,Xf]
  exact xR (fin p _ c2 hp up J eK)
 by_cases h2:vs.toArray.size < 2
 ·rw[UO h2,UO h2]
  refine mq (xR ?_)
  rw[StateT.run_pure]
  refine mq (xR ?_)
  rw[sD] at h2
  refine tail (SortSt.mk' general' (vs.toArray.zip vs.toArray) #[] 7 none) (List.range vs.length).toArray ?_ rfl ⟨Zo _⟩ fun i j g8 hj => ?_
  ·have Aa:arrOf (SortSt.mk' general' (vs.toArray.zip vs.toArray) #[] 7 none)=(List.toArray (List.range vs.length)).map (kas_item (vs.toArray.zip vs.toArray)):=by
    have e:=kas_range (vs.toArray.zip vs.toArray)
    rw[show (vs.toArray.zip vs.toArray).size=vs.length by simp] at e
    rw[e]
   exact kat_snds rfl Aa
  ·have:i=j:=by omega
   subst this
   exact kle_refl _
 ·rw[LX h2,LX h2]
  rw[sD] at h2
  refine mq (kind _ I2 (by omega) _ ?_)
  refine mq (Ww (kat_run (κ := κ) (E:=E) (Q:=fun fK s'=>s'={ s with heap:=g1 }/\∃ p:Array Nat,arrOf fK=p.map (kas_item (vs.toArray.zip vs.toArray))/\failedOf fK=none/\cD vs.length p/\Up (fun i=>ks.getD i []) p vs.length)
   (G:=fun p s'=>s'={ s with heap:=g1 }/\cD vs.length p/\Up (fun i=>ks.getD i []) p vs.length) rfl (by omega) gX (fun p fK s' a1 a2 a3 a4=>⟨a4.1,p,a2,a3,a4.2.1,a4.2.2⟩) ?_) ?_ fun _ _ x=>x)
  ·refine Ff (k:=fun i=>ks.getD i []) (I:=fun s'=>s'={ s with heap:=g1 }) (fun i j C s' hi hj e hC => ?_) (by omega) rfl fun p s' a1 a2 a3=>⟨a3,a1,a2⟩
   subst e
   exact ask _ I2 i j C hi hj (hC _ rfl)
  ·rintro ⟨⟨⟩,fK⟩ s' ⟨rfl,p,a1,a2,a3,a4⟩
   exact tail fK p (kat_snds rfl a1) a2 a3 a4
theorem F8 {l:Addr} {xs:List V} {Q:Value->Shared->Prop} (I:Inv X pins σ H s)
  (col:∀ Q':List Value->Shared->Prop,(∀ h' tk vs,(∀ b o,s.heap.get? b=some o->h'.get? b=some o)->Vals xs vs->Q' vs { s with heap:=h',toks:=tk })->wpAny (model X.prog X.w) X.A.in1 (collect (.ref l)) Q' E s) (gX:xs.length < 64)
  (kind:∀ (s':Shared) (vs:List Value),Vals xs vs->Inv X pins σ H s'->2 <= vs.length->∀ Q:SortKind->Shared->Prop,Q κ s'->wpAny (model X.prog X.w) X.A.in1.in1 (keyKind' vs.toArray) Q E s')
  (ask:∀ (s':Shared) (vs:List Value),Vals xs vs->Inv X pins σ H s'->∀ (i j:Nat) (C:Bool->Shared->Prop),i < vs.length->j < vs.length->C (HT.lexLt (ks.getD i []) (ks.getD j [])) s'->wpAny (model X.prog X.w) X.A.in1.in1 (keyLt' κ (vs.getD i Value.none) (vs.getD j Value.none)) C (fun _ _=>False) s')
  (fin:∀ (p:Array Nat) (s':Shared) (a:Addr),cD xs.length p->Up (fun i=>ks.getD i []) p xs.length->H a=none->Inv X pins σ (upd H a (.lst (p.toList.map fun i=>xs.getD i .non))) s'->Q (.ref a) s') :
  wpAny (model X.prog X.w) X.A (call (.builtin "sorted") [.ref l]) Q E s:=by
 refine Calls.call_function_entry kind_sorted plain_sorted entry_sorted (args_sorted1 _) ?_
 unfold Builtin.«sorted»
 refine mq (m:=checkCount "sorted" 1 1 _) (xR ?_)
 refine mq (col _ fun h' tk aq kp rv => ?_)
 have lv:aq.length=xs.length:=rv.length.symm
 refine mq (XY ?_ (by rw[Wg];omega))
 have I1:Inv X pins σ H { s with heap:=h',toks:=tk }:=I.kept kp
 have fa:a9 X pins H h'.objs.size:=I1.eu (uX _) (I1.aN.fresh (uX _))
 have Ab:X.s₀.heap.objs.size <= h'.objs.size:=I1.sz
 have I2:Inv X pins σ H { s with heap:=h'.push (seqObj "list" aq.toArray 0),toks:=tk }:=I1.kept (h':=h'.push (seqObj "list" aq.toArray 0)) (t':=tk) fun b u e=>qt _ e
 have oA:(h'.push (seqObj "list" aq.toArray 0)).get? h'.objs.size=some (seqObj "list" aq.toArray 0):=Vq _ rfl
 refine mq (VG (Xp slot_list_sort ⟨_,oA,rfl⟩ entry_list_sort ?body (args_list_sort _)))
 case body =>
  refine Qe (κ := κ) (ks:=ks) I2 fa oA (by omega) (fun s' J h2 Q' hq=>kind s' aq rv J h2 Q' hq) (fun s' J i j C hi hj hC=>ask s' aq rv J i j C hi hj hC) fun p s' c hp up J e=>⟨_,rfl,?_⟩
  rw[lv] at hp up
  refine xR ⟨_,rfl,fin p s' h'.objs.size hp up fa.1 (J.nX fa Ab ?_)⟩
  have hz:(p.toList.map fun i=>xs.getD i V.non).length=xs.length:=by rw[oV,UN,hp.size]
  exact⟨by rw[hz,Wg];omega,_,c,FY rv fun i hi=>by rw[lv];exact hp.mem hi,e⟩
end
noncomputable def Aj (ds:List D) (key:D->LK):Prop :=
 (∀ d∈ds,key d≠[]/\d = .tup ((key d).map D.int))\/∃ L:Nat,∀ d∈ds,∃ (k:LK) (n:Int),k.length=L/\d = .tup [.tup (k.map D.int),.int n]/\key d=k ++ [n]
noncomputable def qZ:List D->(D->Prop)->Prop
 | [.lst ds],K=>ds.length < 64/\∃ key:D->LK,Aj ds key/\∀ out:List D,out.Perm ds->(out.map key).Pairwise kle->K (.lst out)
 | [.tup ds],K=>ds.length < 64/\∃ key:D->LK,Aj ds key/\∀ out:List D,out.Perm ds->(out.map key).Pairwise kle->K (.lst out)
 | _,_=>False
theorem Qf {ds:List D} {key:D->LK} {p:Array Nat} {n:Nat} (hn:ds.length=n) (hp:cD n p) (up:Up (fun i=>(ds.map key).getD i []) p n):(p.toList.map fun i=>ds.getD i .non).Perm ds/\((p.toList.map fun i=>ds.getD i .non).map key).Pairwise kle:=by
 subst hn
 constructor
 ·have h1:=(XM.mp hp.perm).map fun i=>ds.getD i D.non
  have h2:(List.range ds.length).map (fun i=>ds.getD i D.non)=ds:=by
   refine Xe fun i => ?_
   rw[LR]
   by_cases hi:i < ds.length
   ·rw[Wv hi,Zj,oU hi,DD,oU hi];rfl
   ·rw[VN (by rw[VL];omega),VN (by omega)];rfl
  rw[show (List.range ds.length).toArray.toList=List.range ds.length from rfl,h2] at h1
  exact h1
 ·rw[Vz,XQ]
  intro i j hi hj g8
  rw[oV,UN,hp.size] at hi hj
  have:=up i j (WM g8) hj
  unfold KA at this
  rw[Xa,Xa]
  have gp:∀ {i:Nat} (h:i < p.toList.length),p.getD i 0=p.toList[i]:=fun {i} h=>by
   have h':i < p.size:=by rw[<-UN];exact h
   simp[Array.getD,h']
  have gk:∀ {i:Nat},i < ds.length->(ds.map key).getD i []=key (ds.getD i .non):=fun {i} h=>by
   rw[DD,LR,oU h,DD,oU h];rfl
  have pi:=hp.lt hi
  have pj:=hp.lt hj
  dsimp only at this
  rw[gk pi,gk pj,gp (by rw[UN,hp.size];exact hi),gp (by rw[UN,hp.size];exact hj)] at this
  exact this
theorem Qg {F:Hp} {ds:List D} {xs:List V} {p:List Nat} (h:ae F ds xs) (hp:∀ i∈p,i < ds.length):ae F (p.map fun i=>ds.getD i .non) (p.map fun i=>xs.getD i .non):=by
 refine ae.qb (by rw[oV,oV]) fun i d e => ?_
 rw[LR] at e ⊢
 obtain⟨z,e1,rfl⟩:=UP.mp e
 rw[e1]
 have hz:=hp z (VA e1)
 exact⟨_,rfl,ae.at h (getD_some hz) (getD_some (by rw[h.length];exact hz))⟩
section
variable [aM] {X:Cx}
theorem wg {pins:List (Addr × Obj)} {σ : St} {H F:Hp} {s:Shared} {k:LK} {v:V} {u:Value} (I:Inv X pins σ H s) (sub:aJ F H) (h:Is F (.tup (k.map D.int)) v) (r:RelV v u):iu s.heap k u:=by
 simp only[Is] at h
 obtain⟨a,us,rfl,e,i⟩:=h
 cases r
 rw[lG i] at e
 obtain⟨aq,rv,⟨o,o1,o2,n,o3⟩,_⟩:=I.tuple (bB.of (sub _ _ e))
 exact⟨a,o,_,n,rfl,o1,o2,o3,by simpa using intsAre_of rv⟩
theorem Ak {pins:List (Addr × Obj)} {σ : St} {H F:Hp} {s:Shared} {k:LK} {m:Int} {v:V} {u:Value} (I:Inv X pins σ H s) (sub:aJ F H) (h:Is F (.tup [.tup (k.map D.int),.int m]) v) (r:RelV v u):kI s.heap k.length (k ++ [m]) u:=by
 simp only[Is,ae] at h
 obtain⟨a,us,rfl,e,v1,r1,rfl,h1,v2,r2,rfl,h2,rfl⟩:=h
 cases r
 obtain⟨aq,rv,⟨o,o1,o2,n,o3⟩,_⟩:=I.tuple (bB.of (sub _ _ e))
 have h2:v2 = .int m:=h2
 subst h2
 have mw:Is F (.tup (k.map D.int)) v1:=by simp only[Is];exact h1
 cases rv with
 | cons q1 rv =>
  cases rv with
  | cons q2 rv =>
   cases rv
   have t1:=wg I sub mw q1
   obtain⟨b,_,_,_,rfl,_⟩:=id t1
   obtain⟨t,rfl⟩:=q2
   exact⟨a,o,_,n,b,k,m,t,rfl,o1,o2,o3,rfl,t1,rfl,rfl⟩
theorem F9 {pins:List (Addr × Obj)} {σ : St} {H F:Hp} {s:Shared} {E:Value->Shared->Prop} {l:Addr} {ds:List D} {us:List V} {key:D->LK} {Q:Value->Shared->Prop} (hu:X.A.units + 64 < cLine) (I:Inv X pins σ H s) (sub:aJ F H) (hl:H l=some (.lst us)\/H l=some (.tup us)) (hi:ae F ds us) (gX:ds.length < 64) (sh:Aj ds key)
  (fin:∀ (out:List D) (ws:List V) (a:Addr) (s':Shared),out.Perm ds->(out.map key).Pairwise kle->ae F out ws->H a=none->Inv X pins σ (upd H a (.lst ws)) s'->Q (.ref a) s'):wpAny (model X.prog X.w) X.A (call (.builtin "sorted") [.ref l]) Q E s:=by
 have col:∀ Q':List Value->Shared->Prop,(∀ h' tk vs,(∀ b o,s.heap.get? b=some o->h'.get? b=some o)->Vals us vs->Q' vs { s with heap:=h',toks:=tk })->wpAny (model X.prog X.w) X.A.in1 (collect (.ref l)) Q' E s:=fun Q' hQ=>by
  rcases hl with hl | hl
  ·obtain⟨aq,rv,pl,hz⟩:=I.list (bq.of hl)
   obtain⟨o,o1,o2,n,o3⟩:=pl.isList
   exact wpAny_collect_seq l (.inl rfl) o1 o2 o3 (fun h' kp=>hQ h' s.toks _ kp (by simpa using rv)) (by rw[sD,<-rv.length];exact hz)
  ·obtain⟨aq,rv,⟨o,o1,o2,n,o3⟩,hz⟩:=I.tuple (bB.of hl)
   exact wpAny_collect_seq l (.inr rfl) o1 o2 o3 (fun h' kp=>hQ h' s.toks _ kp (by simpa using rv)) (by rw[sD,<-rv.length];exact hz)
 have lu:=hi.length
 have Qh:X.A.in1.in1.units < cLine:=by show X.A.units + 1 + 1 < cLine;omega
 have gk:∀ {i:Nat},i < ds.length->(ds.map key).getD i []=key (ds.getD i .non):=fun {i} h=>by
  rw[DD,LR,oU h,DD,oU h];rfl
 have isAt:∀ {i:Nat},i < ds.length->∀ {vs:List Value},Vals us vs->∃ v,Is F (ds.getD i .non) v/\RelV v (vs.getD i Value.none):=fun {i} h {vs} rv=>by
  obtain⟨u,e1,e2⟩:=rv.get (getD_some (l:=us) (d:=V.non) (i:=i) (by omega))
  have:=getD_some (l:=vs) (d:=Value.none) (i:=i) (by rw[<-rv.length];omega)
  rw[this] at e1;cases e1
  exact⟨_,ae.at hi (getD_some h) (getD_some (by omega)),e2⟩
 have mem:∀ {i:Nat},i < ds.length->ds.getD i .non∈ds:=fun {i} h=>VA (getD_some h)
 have ke:∀ {i:Nat} {k:LK},(ds.map key)[i]? = some k->i < ds.length/\k=key (ds.getD i .non):=fun {i k} e=>by
  have h:i < ds.length:=by have:=(oW.mp e).1;rwa [oV] at this
  refine⟨h,?_⟩
  have:=getD_some (l:=ds.map key) (d:=[]) (i:=i) (by rw[oV];exact h)
  rw[e,gk h] at this
  exact VE this
 have ve:∀ {i:Nat} {v:Value} {vs:List Value},vs[i]? = some v->v=vs.getD i Value.none:=fun {i v vs} e=>by
  rw[DD,e];rfl
 have kD:∀ (p:Array Nat) (s':Shared) (a:Addr),cD us.length p->Up (fun i=>(ds.map key).getD i []) p us.length->H a=none->Inv X pins σ (upd H a (.lst (p.toList.map fun i=>us.getD i .non))) s'->Q (.ref a) s':=fun p s' a hp up ha J=>by
  obtain⟨o1,o2⟩:=Qf lu.symm hp up
  exact fin _ _ a s' o1 o2 (Qg hi fun i d5=>by rw[<-lu];exact hp.mem d5) ha J
 rcases sh with sh | ⟨L,sh⟩
 ·refine F8 (κ := tuples' true) (ks:=ds.map key) I col (by omega) (fun s' vs rv J h2 Q' hq => ?_) (fun s' vs rv J i j C d5 mC hC => ?_) kD
  ·refine FX (ks:=ds.map key) (by omega) (fun k hk => ?_) (by rw[oV,<-rv.length];omega) (fun i k v e1 e2 => ?_) hq
   ·obtain⟨d,hd,rfl⟩:=My.mp hk
    exact (sh d hd).1
   ·obtain⟨h,rfl⟩:=ke e1
    obtain⟨w,i1,r1⟩:=isAt h rv
    rw[(sh _ (mem h)).2] at i1
    rw[<-ve e2] at r1
    exact wg J sub i1 r1
  ·rw[<-rv.length] at d5 mC
   rw[gk (by omega),gk (by omega)] at hC
   obtain⟨w,i1,r1⟩:=isAt (i:=i) (by omega) rv
   obtain⟨w',i2,r2⟩:=isAt (i:=j) (by omega) rv
   rw[(sh _ (mem (by omega))).2] at i1 i2
   exact FV (wg J sub i1 r1) (wg J sub i2 r2) hC
 ·refine F8 (κ := tuples' false) (ks:=ds.map key) I col (by omega) (fun s' vs rv J h2 Q' hq => ?_) (fun s' vs rv J i j C d5 mC hC => ?_) kD
  ·refine Qd (L:=L) (ks:=ds.map key) (by omega) (by rw[oV,<-rv.length];omega) (fun i k v e1 e2 => ?_) hq
   obtain⟨h,rfl⟩:=ke e1
   obtain⟨w,i1,r1⟩:=isAt h rv
   obtain⟨k,n,hk,e3,e4⟩:=sh _ (mem h)
   rw[e3] at i1
   rw[<-ve e2] at r1
   rw[e4,<-hk]
   exact Ak J sub i1 r1
  ·rw[<-rv.length] at d5 mC
   rw[gk (by omega),gk (by omega)] at hC
   obtain⟨w,i1,r1⟩:=isAt (i:=i) (by omega) rv
   obtain⟨w',i2,r2⟩:=isAt (i:=j) (by omega) rv
   obtain⟨k,n,hk,e3,e4⟩:=sh _ (mem (i:=i) (by omega))
   obtain⟨k',n',eX,Qi,Qj⟩:=sh _ (mem (i:=j) (by omega))
   rw[e3] at i1
   rw[Qi] at i2
   rw[e4,Qj] at hC
   have t1:=Ak J sub i1 r1
   have t2:=Ak J sub i2 r2
   rw[hk] at t1
   rw[eX] at t2
   exact Qa Qh t1 t2 hC
theorem F_ (hu:X.A.units + 64 < cLine):b8 X (.builtin "sorted") qZ:=by
 rintro pins s σ H xs us Q I r ⟨F,ds,K,sub,rd,q,md⟩
 unfold qZ at q
 split at q
 ·rename_i es
  obtain⟨gX,key,sh,hK⟩:=q
  obtain⟨v,rfl,a,vs,rfl,h1,h2⟩:=cf rd
  obtain⟨u,rfl,rx⟩:=vals1 r
  cases rx
  exact F9 hu I sub (.inl h1) h2 gX sh fun out ws b s' o1 o2 o3 hb J=>⟨.ref b,_,J,rfl,md _ _ _ (hK out o1 o2) (cA hb) (lH sub hb o3)⟩
 ·rename_i es
  obtain⟨gX,key,sh,hK⟩:=q
  obtain⟨v,rfl,h⟩:=cf rd
  have h:Is F (.tup es) v:=h
  simp only[Is] at h
  obtain⟨a,vs,rfl,h1,h2⟩:=h
  obtain⟨u,rfl,rx⟩:=vals1 r
  cases rx
  exact F9 hu I sub (.inr (sub _ _ h1)) h2 gX sh fun out ws b s' o1 o2 o3 hb J=>⟨.ref b,_,J,rfl,md _ _ _ (hK out o1 o2) (cA hb) (lH sub hb o3)⟩
 ·exact q.elim
end
end L2
namespace LJ
open PySem L2 PySem.W
theorem Qk {ls:List kG} {b:Addr} {ps:Array Value}:(ls.map fun l=>(l.T,(#[]:Array Value))).lookup b=some ps->(∃ l∈ls,l.T=b)/\ps = #[]:=by
 induction ls with
 | nil=>intro h;cases h
 | cons l ls ih =>
  intro h
  rw[Vy,VB] at h
  cases q:b == l.T with
  | true =>
   rw[q] at h
   exact⟨⟨l,UQ,(WB q).symm⟩,(VE h).symm⟩
  | false =>
   rw[q] at h
   obtain⟨⟨l',h1,h2⟩,h3⟩:=ih h
   exact⟨⟨l',Vs _ h1,h2⟩,h3⟩
theorem Al {ls:List kG} {l:kG} (h:l∈ls):(ls.map fun l=>(l.T,(#[]:Array Value))).lookup l.T=some #[]:=by
 induction ls with
 | nil=>cases h
 | cons l' ls ih =>
  rw[Vy,VB]
  cases q:l.T == l'.T with
  | true=>rfl
  | false =>
   rcases Vr.mp h with rfl | h
   ·simp at q
   ·exact ih h
theorem Ql {l:OpenLaw} {q:Program} {loose:List Str} {XP:(Str->Option Value)->Heap->Prop} {d:DefRec} {K:Params->Frag} {as:List Addr} {e:∀ P,as=(K P).map (·.1)} {ts:List Addr} {kk:Nat} (ls:List kG) (Qm:ls.map (·.T)=ts) (hn:l.most=some 63) (sG:d.params.defaults=[]) (hr:bg kk callerA)
  (eT:∀ (w:World) (h:Heap),(K w.params).In h->∀ t∈ls,∃ cc,CodeHd h cc t.T) (Qn:∀ P,noTabs (K P)=true)
  (F:∀ (w:World) (mg:Str->Option Value) (fa:Addr) (h:Heap),(K w.params).In h->h.Ns mainGlobals mg->mg d.name=some (.ref fa) →
   ∃ fd:FuncData,(∀ (s:Shared) (u:Value),BindsTo s fd ⟨[u],[]⟩ [("script",u)])/\∀ base:Heap,(K w.params).In base->base.Ns mainGlobals mg->(∀ t∈ls,base.BuiltinsAt mg t.T)->cK l.prog w (K w.params) mg base fL kk fa fd ["script"] (@v9 (mV ls) (K w.params))) :
  WalkO q loose XP (kmHook K as e ts).says l.row.toRowW d [] (fun f vs=>PySem.call f vs) :=
 L2.Pp (n:=63) (k:=kk) (x := "script") (K:=fun w=>K w.params) (CX:=fun _=>fL) (sp:=fun w=>@v9 (mV ls) (K w.params)) (Ts:=fun _=>ls.map fun l=>(l.T,#[])) hn (by decide) sG hr (fun w h Y=>km_in_of Y)
  (fun w h Y b ps hl=>by
   obtain⟨⟨t,ht,rfl⟩,rfl⟩:=Qk hl
   have e1:h.get? t.T=some (tabObj #[]):=km_tabs_of Y t.T (by rw[<-Qm];exact Wb ht)
   refine⟨e1,?_,?_⟩
   ·obtain⟨cc,o,vs,_,_,_,_,_,_,_,c1,c2,c3,c4,_⟩:=eT w h (km_in_of Y) t ht
    exact⟨cc,o,vs,c1,c2,c3,c4⟩
   ·cases z:(K w.params).lookup t.T with
    | none=>rfl
    | some o =>
     have e2:=km_in_of Y t.T o z
     rw[e1] at e2;cases e2
     have h2:=Wu.mp (Qn w.params) (t.T,tabObj #[]) (mem_of_lookupK z)
     exact absurd (show false=true from h2) Vv)
  (fun w mg fa h KX G ml=>by
   obtain⟨fd,hb,hF⟩:=F w mg fa h KX G ml
   exact⟨fd,hb,fun base k1 k2 k3=>hF base k1 k2 fun t ht=>k3 t.T #[] (Al ht)⟩)
  (fun w H a ns hl hO hS=>by
   letI:aM:=mV ls
   refine⟨a,ns,rfl,hS,hl,fun t ht => ?_,fun _=>rfl⟩
   rcases hO t.T with⟨ps,z1,z2⟩ | ⟨z1,_⟩
   ·rw[Al ht] at z1;cases z1
    exact⟨#[],z2,trivial,.inl rfl⟩
   ·rw[Al ht] at z1;cases z1)
  fun _ _ _ _ _ z=>z
end LJ
namespace LJ
open PySem L2
variable [aM]
noncomputable def wj:GD:=fun ys aj K=>∃ (m:Int) (ws:List (Int × Int × Int)),aC m ws/\ys=[.p (aE m ws)]/\aj=[]/\K (.p .non) []
noncomputable def Am:WS:=(bh (cR (dT (au 1 zS (ai (aa 0) af)))) pB cC)
theorem Qo:∀ ys aj K',ys.length=1->wj ys aj K'->Am (bG aj.length K') ⟨ys.map some ++ List.replicate 0 none,aj.map some⟩:=by
 rintro ys aj K' - ⟨m,ws,W,rfl,rfl,k⟩
 unfold Am
 simp? only []
 refine⟨m,ws,W,rfl,rfl,?_⟩
 simp? only []
 exact a7 k
noncomputable def um:GD:=fun ys aj K=>∃ y:Int × Int × Int,ys=[.p (bE y)]/\aj=[]/\K (.p (.tup [.int y.2.2,.int y.1,.int y.2.1])) []
noncomputable def Ao:WS:=(aG (dS (ai (d2 (aa 0) (dC (.int 2)) aP) (ai (d2 (aa 0) (dC (.int 0)) aP) (ai (d2 (aa 0) (dC (.int 1)) aP) af)))))
theorem Qp:∀ ys aj K',ys.length=1->um ys aj K'->Ao (bG aj.length K') ⟨ys.map some ++ List.replicate 0 none,aj.map some⟩:=by
 rintro ys aj K' - ⟨y,rfl,rfl,k⟩
 unfold Ao
 simp? only [bE,dG,dH,at2]
 exact a7 k
noncomputable def bw (ws:List (Int × Int × Int)) (n:Int):LK:=[(ws.getD n.toNat (0,0,0)).2.2,(ws.getD n.toNat (0,0,0)).1,(ws.getD n.toNat (0,0,0)).2.1]
structure bt (ws:List (Int × Int × Int)) (ns:List Int):Prop where
 perm:ns.Perm (aL ws.length)
 up:(ns.map (bw ws)).Pairwise kle
theorem bt.nums {ws:List (Int × Int × Int)} {ns:List Int} (h:bt ws ns):Nums ws ns:=fun n hn=>p8 (h.perm.mem_iff.mp hn)
theorem bt.len {ws:List (Int × Int × Int)} {ns:List Int} (h:bt ws ns):ns.length=ws.length:=by rw[h.perm.length_eq];unfold aL;simp
theorem Ap {m:Int} {ws:List (Int × Int × Int)} (W:aC m ws) {a b:Int} (ha:0 <= a/\a < (ws.length:Int)) (hb:0 <= b/\b < (ws.length:Int)) (e:bw ws a=bw ws b):a=b:=by
 obtain⟨i,rfl⟩:∃ i:Nat,a=i:=⟨a.toNat,by omega⟩
 obtain⟨j,rfl⟩:∃ j:Nat,b=j:=⟨b.toNat,by omega⟩
 have hi:i < ws.length:=by omega
 have hj:j < ws.length:=by omega
 unfold bw at e
 rw[LW,LW,DD,oU hi,DD,oU hj] at e
 simp only[Option.getD_some,Zp,and_true] at e
 have q:(ws.map fun y=>(y.1,y.2.1))[i]'(by rw[oV];exact hi)=(ws.map fun y=>(y.1,y.2.1))[j]'(by rw[oV];exact hj):=by
  rw[Xa,Xa,e.2.1,e.2.2]
 have:=(Yq W.unlike).mp q
 rw[this]
theorem Qq {out:List D} {l:List Int} (h:out.Perm (l.map D.int)):∃ ns:List Int,out=ns.map D.int/\ns.Perm l:=by
 refine⟨out.map fun d=>match d with
  | .int n=>n
  | _=>0,?_,?_⟩
 ·rw[Vz]
  refine (WR out).symm.trans (Wm fun d hd => ?_)
  obtain⟨n,_,rfl⟩:=My.mp (h.mem_iff.mp hd)
  rfl
 ·have:=h.map fun d=>match d with
   | .int n=>n
   | _=>0
  rw[Vz] at this
  exact this.trans (Zq ((Wm fun n _=>rfl).trans (WR l)))
noncomputable def Aq:GD:=fun ys aj K=>∃ (m:Int) (ws:List (Int × Int × Int)),aC m ws/\ys=[.p (aE m ws)]/\aj=[]/\∀ ns,bt ws ns->K (.n (ns.map D.int)) []
noncomputable def Ar:WS:=(av (kg (au 1 wj (ai (aa 0) af))) (av (aD 1 (d2 (aa 0) (dC (.int 1)) aP)) (aG (Ag (ai (dN (ai (aa 1) af) cu) af) [some 1] (au 1 um (ai (d2 (aa 1) (aa 0) aP) af))))))
theorem Qr:∀ ys aj K',ys.length=1->Aq ys aj K'->Ar (bG aj.length K') ⟨ys.map some ++ List.replicate 1 none,aj.map some⟩:=by
 rintro ys aj K' - ⟨m,ws,W,rfl,rfl,k⟩
 have jK:=W.fH
 unfold Ar
 refine aU fun N hN => ?_
 simp? only []
 refine⟨m,ws,W,rfl,rfl,?_⟩
 simp? only []
 subst hN
 refine aU fun N hN => ?_
 simp? only [dH,aE]
 subst hN
 simp? only [Ag]
 refine⟨⟨by omega,by omega⟩,by rw[ja];omega,fun d=>match d with
  | .int n=>bw ws n
  | _=>[],fun d hd => ?_,fun out pm pw => ?_⟩
 ·obtain⟨i,hi⟩:=UM.mp hd
  obtain⟨hi,rfl⟩:=jF hi
  have e0:(0 + (i:Int))=i:=by omega
  rw[e0]
  obtain⟨y,ey,hy,ea,_⟩:=ji W (n:=(i:Int)) (by omega) (by omega)
  refine⟨(by intro z;cases z),?_⟩
  simp? only [ea]
  refine⟨y,rfl,rfl,?_⟩
  simp? only []
  unfold bw
  rw[ey]
  rfl
 ·rw[LW,jI] at pm
  obtain⟨ns,rfl,pn⟩:=Qq pm
  refine⟨[],rfl,rfl,.inl (k ns ⟨pn,?_⟩)⟩
  rw[Vz] at pw
  exact pw
noncomputable def mW:GD:=fun ys aj K=>∃ (m:Int) (ws:List (Int × Int × Int)) (n:Int),aC m ws/\(0 <= n/\n < (ws.length:Int))/\ys=[.p (aE m ws),.p (.int n)]/\aj=[]/\K (.p (.tup ((bw ws n).map D.int))) []
noncomputable def As:WS:=(av (gK (d2 (d2 (aa 0) (dC (.int 1)) aP) (aa 1) aP) (i_ 3 (eF (bo 2) (eF (bo 3) (eF (bo 4) iJ))))) (aG (dS (ai (aa 4) (ai (aa 2) (ai (aa 3) af))))))
theorem Qs:∀ ys aj K',ys.length=2->mW ys aj K'->As (bG aj.length K') ⟨ys.map some ++ List.replicate 3 none,aj.map some⟩:=by
 rintro ys aj K' - ⟨m,ws,n,W,⟨n0,n1⟩,rfl,rfl,k⟩
 obtain⟨y,ey,hy,ea,_⟩:=ji W n0 n1
 unfold As
 simp? only [dH,aE,ea,bE]
 unfold bw at k
 rw[ey] at k
 exact a7 k
noncomputable def Au:GD:=fun ys aj K=>∃ (m:Int) (ws:List (Int × Int × Int)),aC m ws/\ys=[.p (aE m ws)]/\aj=[]/\∀ ns,bt ws ns->K (.p (aS ns)) []
noncomputable def Av:WS:=(aG (c8 (bA (dN (ai (c8 (jE (ai (dN (ai (d2 (aa 0) (dC (.int 1)) aP) af) cu) af)) [none,some 0] (bo 0) cq (dS (ai (au 2 mW (ai (aa 1) (ai (aa 0) af))) (ai (aa 0) af)))) af) qZ)) [none] (bo 0) cq (d2 (aa 0) (dC (.int 1)) aP)))
noncomputable def eG (ws:List (Int × Int × Int)) (n:Int):D := .tup [.tup ((bw ws n).map D.int),.int n]
theorem Ga {a b:LK} {n m:Int} (hl:a.length=b.length) (h:kle (a ++ [n]) (b ++ [m])):kle a b:=by
 unfold kle at h ⊢
 rw[we _ _ hl.symm] at h
 by_cases e:b=a
 ·rw[e];exact pU a
 ·rw[LX e] at h;exact h
theorem Qt:∀ ys aj K',ys.length=1->Au ys aj K'->Av (bG aj.length K') ⟨ys.map some ++ List.replicate 0 none,aj.map some⟩:=by
 rintro ys aj K' - ⟨m,ws,W,rfl,rfl,k⟩
 have jK:=W.fH
 unfold Av
 simp? only [dH,aE]
 refine⟨by omega,?_⟩
 rw[LW,jI]
 refine L2.jJ (fun d=>match d with
  | .int n=>eG ws n
  | _ => .non) (by rw[oV];unfold aL;rw[oV,VL];omega) trivial ?_ ?_
 ·intro d hd acc L ha h
  obtain⟨n,hn,rfl⟩:=My.mp hd
  obtain⟨n0,n1⟩:=p8 hn
  simp? only []
  refine⟨m,ws,n,W,⟨n0,n1⟩,rfl,rfl,?_⟩
  simp? only []
  exact⟨ha,h⟩
 ·have e:((aL ws.length).map D.int).map (fun d=>match d with
   | .int n=>eG ws n
   | _ => .non)=(aL ws.length).map (eG ws):=by rw[Vz];rfl
  have il:(aL ws.length).length=ws.length:=by unfold aL;simp
  rw[e]
  simp? only [qZ]
  refine⟨by omega,fun d=>match d with
   | .tup [.tup ks,.int n]=>(match intsOf ks with
    | some l=>l ++ [n]
    | none=>[])
   | _=>[],.inr ⟨3,fun d hd => ?_⟩,fun out pm pw => ?_⟩
  ·obtain⟨n,_,rfl⟩:=My.mp hd
   refine⟨bw ws n,n,rfl,rfl,?_⟩
   show (match intsOf ((bw ws n).map D.int) with
    | some l=>l ++ [n]
    | none=>[])=_
   rw[jG]
  ·have hex:∃ ns:List Int,out=ns.map (eG ws)/\ns.Perm (aL ws.length):=by
    refine⟨out.map fun d=>match d with
     | .tup [_,.int n]=>n
     | _=>0,?_,?_⟩
    ·rw[Vz]
     refine (WR out).symm.trans (Wm fun d hd => ?_)
     obtain⟨n,_,rfl⟩:=My.mp (pm.mem_iff.mp hd)
     rfl
    ·have:=pm.map fun d=>match d with
      | .tup [_,.int n]=>n
      | _=>0
     rw[Vz] at this
     exact this.trans (Zq ((Wm fun n _=>rfl).trans (WR _)))
   obtain⟨ns,rfl,pn⟩:=hex
   have ol:ns.length=ws.length:=by rw[pn.length_eq,il]
   have up:bt ws ns:=by
    refine⟨pn,?_⟩
    rw[Vz] at pw
    rw[Xk] at pw ⊢
    refine pw.imp fun {a b} h => ?_
    have h:kle ((match intsOf ((bw ws a).map D.int) with
     | some l=>l ++ [a]
     | none=>[])) ((match intsOf ((bw ws b).map D.int) with
     | some l=>l ++ [b]
     | none=>[])):=h
    rw[jG,jG] at h
    exact Ga rfl h
   refine L2.jJ (fun d=>match d with
    | .tup [_,n]=>n
    | _ => .non) (by rw[oV];omega) trivial ?_ ?_
   ·intro d hd acc L ha h
    obtain⟨n,_,rfl⟩:=My.mp hd
    simp? only [eG,dH]
    exact⟨ha,h⟩
   ·have e:(ns.map (eG ws)).map (fun d=>match d with
     | .tup [_,n]=>n
     | _ => .non)=ns.map D.int:=by rw[Vz];rfl
    rw[e]
    exact a7 (k ns up)
end LJ
namespace L2
open PySem PySem.Spec PyProof.Rows
variable [aM]
noncomputable def bJ (ah:List (Key × D)) (k:Key):Option D:=(ah.find? fun kv=>decide (kv.1=k)).map (·.2)
noncomputable def putD (ah:List (Key × D)) (k:Key) (d:D):List (Key × D) :=
 if (ah.any fun kv=>decide (kv.1=k))=true then ah.map (fun kv=>if kv.1=k then (kv.1,d) else kv) else ah ++ [(k,d)]
theorem eW.val {F:Hp} (k:Key):∀ {fy:List (Key × D)} {ws:List (Key × V)},eW F fy ws->(bJ fy k=none/\dq ws k=none)\/∃ d v,bJ fy k=some d/\dq ws k=some v/\Is F d v
 | [],_,h=>by have h:_=[]:=h;subst h;exact .inl ⟨rfl,rfl⟩
 | kd :: r,_,⟨v,t,e,h1,h2⟩=>by
  subst e
  by_cases c:kd.1=k
  ·refine .inr ⟨kd.2,v,?_,u5 c,h1⟩
   unfold bJ;rw[List.find?_cons_of_pos (by simpa using c)];rfl
  ·rw[u6 c]
   have e:bJ (kd :: r) k=bJ r k:=by unfold bJ;rw[List.find?_cons_of_neg (by simpa using c)]
   rw[e]
   exact eW.val k h2
theorem eW.length {F:Hp}:∀ {fy:List (Key × D)} {ws:List (Key × V)},eW F fy ws->ws.length=fy.length
 | [],_,h=>by have h:_=[]:=h;subst h;rfl
 | kd :: r,_,⟨v,t,e,h1,h2⟩=>by subst e;rw[DE,DE,h2.length]
theorem eW.any {F:Hp} (k:Key):∀ {fy:List (Key × D)} {ws:List (Key × V)},eW F fy ws->(ws.any fun kv=>decide (kv.1=k))=fy.any fun kv=>decide (kv.1=k)
 | [],_,h=>by have h:_=[]:=h;subst h;rfl
 | kd :: r,_,⟨v,t,e,h1,h2⟩=>by subst e;rw[W9,W9,h2.any k]
theorem eW.ic {F:Hp} (k:Key) {d:D} {v:V} (hd:Is F d v):∀ {fy:List (Key × D)} {ws:List (Key × V)},eW F fy ws->eW F (fy.map fun kv=>if kv.1=k then (kv.1,d) else kv) (ws.map fun kv=>if kv.1=k then (kv.1,v) else kv)
 | [],_,h=>by have h:_=[]:=h;subst h;rfl
 | kd :: r,_,⟨u,t,e,h1,h2⟩=>by
  subst e
  by_cases c:kd.1=k
  ·rw[Vy,Vy,UO c,UO c]
   exact⟨v,_,rfl,hd,h2.ic k hd⟩
  ·rw[Vy,Vy,LX c,LX c]
   exact⟨u,_,rfl,h1,h2.ic k hd⟩
theorem eW.snoc {F:Hp} {k:Key} {d:D} {v:V} (hd:Is F d v):∀ {fy:List (Key × D)} {ws:List (Key × V)},eW F fy ws->eW F (fy ++ [(k,d)]) (ws ++ [(k,v)])
 | [],_,h=>by have h:_=[]:=h;subst h;exact⟨v,[],rfl,hd,rfl⟩
 | kd :: r,_,⟨u,t,e,h1,h2⟩=>by subst e;exact⟨u,_,rfl,h1,h2.snoc hd⟩
theorem eW.put {F:Hp} {fy:List (Key × D)} {ws:List (Key × V)} {k:Key} {d:D} {v:V} (h:eW F fy ws) (hd:Is F d v):eW F (putD fy k d) (putK ws k v):=by
 unfold putD putK
 rw[h.any k]
 split
 ·exact h.ic k hd
 ·exact h.snoc hd
noncomputable def dY (x:DV) (δ : aF) (K:Nat->List (Key × D)->Prop):Prop:=match x with
 | .o k=>match δ.mu[k]? with
  | some (some (.dct ah))=>K k ah
  | _=>False
 | _=>False
theorem q9 {F H:Hp} {ad:List Addr} {δ : aF} {σ : St} {x:DV} {v:V} {K:Nat->List (Key × D)->Prop} (S:SR F ad δ σ H) (V1:e_ F ad x v) (h:dY x δ K):∃ k ah a ws,x = .o k/\K k ah/\v = .ref a/\ad[k]? = some a/\H a=some (.dK ws)/\eW F ah ws /\ δ.mu[k]? = some (some (.dct ah)):=by
 unfold dY at h
 split at h
 ·rename_i k
  split at h
  ·rename_i ah e
   obtain⟨a,e1,rfl⟩:=V1
   obtain⟨a',o,e2,e3,ws,rfl,h4⟩:=S.mu k _ e
   rw[e1] at e2;cases e2
   exact⟨k,ah,a,ws,rfl,h,rfl,e1,e3,h4,e⟩
  ·exact h.elim
 ·exact h.elim
noncomputable def eI (x:DV) (P:Int->Prop):Prop:=match x with
 | .p (.int i)=>P i
 | _=>False
theorem uo {F:Hp} {ad:List Addr} {x:DV} {v:V} {P:Int->Prop} (hv:e_ F ad x v) (h:eI x P):∃ i,v=kV (.inl i)/\P i:=by
 unfold eI at h
 split at h
 ·rename_i i;exact⟨i,hv,h⟩
 ·exact h.elim
noncomputable def kJ (neg:Bool) (fi fo:WE):WE:=fun δ K=>fi δ fun x δ1=>fo δ1 fun y δ2=>eI x fun i=>dY y δ2 fun _ ah=>K (.p (.bl (neg != (bJ ah (.inl i)).isSome))) δ2
noncomputable def qd (fo fi:WE):WE:=fun δ K=>fo δ fun x δ1=>fi δ1 fun y δ2=>eI y fun i=>dY x δ2 fun _ ah=>match bJ ah (.inl i) with
 | some d=>K (.p d) δ2
 | none=>False
noncomputable def Aw (fo fi fe:WE):WE:=fun δ K=>fo δ fun x δ1=>dY x δ1 fun _ _=>fi δ1 fun y δ2=>fe δ2 fun z δ3=>eI y fun i=>dY x δ3 fun _ ah=>match bJ ah (.inl i) with
 | some d=>K (.p d) δ3
 | none=>K z δ3
noncomputable def wk (fv fo fi:WE):WS:=fun K δ => fv δ fun z δ1=>fo δ1 fun x δ2=>fi δ2 fun y δ3=>lz z δ3 fun d δ4=>eI y fun i=>dY x δ4 fun k ah=>ah.length < 1000/\K.nx ⟨δ4.sl,δ4.mu.set k (some (.dct (putD ah (.inl i) d)))⟩
noncomputable def Ax (fk fv:WE):WE:=fun δ K=>fk ⟨δ.sl,δ.mu ++ [some (.dct [])]⟩ fun x δ1=>fv δ1 fun y δ2=>lz y δ2 fun d δ3=>eI x fun i=>dY (.o δ.mu.length) δ3 fun _ ah=>ah=[]/\K (.o δ.mu.length) ⟨δ3.sl,δ3.mu.set δ.mu.length (some (.dct [(.inl i,d)]))⟩
section
variable {X:Cx} {o i e v:Expr} {fo fi fv fk fe:WE} {pos:Pos}
theorem Qu {neg:Bool} (td:TE) (hn:∀ σ H (Q:VK),(tD fi σ H fun y H1=>tD fo σ H1 fun x H2=>∃ a o,x = .ref a/\dO H2 a y o/\Q (.bl (neg != o.isSome)) H2)->td σ H Q):∀ σ H Q,tD (kJ neg fi fo) σ H Q->td σ H Q:=fun σ H Q h0_ => el7 h0_ fun F ad δ K S q k =>hn σ H Q ⟨F,ad,δ,_,S,q,fun x δ1 h1 v F1 aO H1 E1 S1 V1=>⟨F1,aO,δ1,_,S1,h1,fun y δ2 h2 u F2 bK H2 E2 S2 V2=>by
  obtain⟨i,rfl,h3⟩:=uo (V1.ext E2) h2
  obtain⟨k0,ah,a,ws,rfl,h4,rfl,e1,e2,i1,m1⟩:=q9 S2 V2 h3
  refine⟨a,_,rfl,dO.k e2,?_⟩
  have es:(dq ws (Sum.inl i:Key)).isSome=(bJ ah (.inl i)).isSome:=by
   rcases i1.val (.inl i) with⟨z1,z2⟩ | ⟨d,v,z1,z2,_⟩
   ·rw[z1,z2];rfl
   ·rw[z1,z2];rfl
  rw[es]
  exact k _ _ h4 _ _ _ _ (E1.trans E2) S2 rfl⟩⟩
theorem Qv {t:TE} {f:WE} (h:∀ σ H Q,tD f σ H Q->t σ H Q):∀ σ H Q,cP (dT f) σ H Q->tB t σ H Q:=fun σ H Q h0_ => el7 h0_ fun F ad δ K S q k =>h σ H _ ⟨F,ad,δ,_,S,q,fun x δ1 h1 v F1 aO H1 E1 S1 V1=>by
  obtain⟨b,rfl,h2⟩:=s_ V1 h1
  exact⟨b,rfl,k _ _ h2 _ _ _ E1 S1⟩⟩
theorem Qw (hu:X.A.units + 64 < cLine) (hi:JE X i (tD fi)) (ho:JE X o (tD fo)) (hm:behindInMarks .NotIn o=false:=by rfl):JT X (.Compare i [.NotIn] [o] pos) (cP (dT (kJ true fi fo))) :=
 (MP (Nc (by omega) hi ho) hm).weak (Qv (Qu (yh (tD fi) (tD fo)) fun σ H Q h=>by simp only[Bool.true_bne] at h;exact h))
theorem Gb (hu:X.A.units + 64 < cLine) (ho:JE X o (tD fo)) (hi:JE X i (tD fi)) (hs:my i:=by intro _ _;rfl):JE X (.Subscript o i pos) (tD (qd fo fi)) :=
 (Na (by omega) ho hi hs).weak fun σ H Q h0_ => el7 h0_ fun F ad δ K S q k =>⟨F,ad,δ,_,S,q,fun x δ1 h1 v F1 aO H1 E1 S1 V1=>⟨F1,aO,δ1,_,S1,h1,fun y δ2 h2 u F2 bK H2 E2 S2 V2=>by
  obtain⟨i,rfl,h3⟩:=uo V2 h2
  obtain⟨k0,ah,a,ws,rfl,h4,rfl,e1,e2,i1,m1⟩:=q9 S2 (V1.ext E2) h3
  rcases i1.val (.inl i) with⟨z1,z2⟩ | ⟨d,v,z1,z2,z3⟩
  ·rw[z1] at h4;exact h4.elim
  ·rw[z1] at h4
   exact⟨a,v,rfl,by rw[<-z2];exact dO.k e2,k _ _ h4 _ _ _ _ (E1.trans E2) S2 z3⟩⟩⟩
theorem Qx {apos:Pos} (hu:X.A.units + 64 < cLine) (ho:JE X o (tD fo)) (hi:JE X i (tD fi)) (he:JE X e (tD fe)) (m:M2 X o "get" apos i e pos:=by exact⟨rfl,rfl,rfl,rfl⟩):JE X (.Call (.Attribute o "get" apos) [i,e] [] pos) (tD (Aw fo fi fe)) :=
 (Ng (by omega) ho hi he m).weak fun σ H Q h0_ => el7 h0_ fun F ad δ K S q k =>⟨F,ad,δ,_,S,q,fun x δ1 h1 v F1 aO H1 E1 S1 V1=>by
  obtain⟨k0,ah,a,ws,rfl,h2,rfl,e1,e2,i1,m1⟩:=q9 S1 V1 h1
  refine⟨a,rfl,.inl ⟨ws,.inl e2⟩,F1,aO,δ1,_,S1,h2,fun y δ2 h3 u F2 bK H2 E2 S2 V2=>⟨F2,bK,δ2,_,S2,h3,fun z δ3 h4 w F3 pH H3 E3 S3 V3 => ?_⟩⟩
  obtain⟨i,rfl,h5⟩:=uo V2 h4
  obtain⟨k1,bP,b,Va,ek,h6,eb,f1,f2,j1,n1⟩:=q9 S3 ((V1.ext E2).ext E3) h5
  cases ek
  cases eb
  refine⟨_,dO.k f2,?_⟩
  rcases j1.val (.inl i) with⟨z1,z2⟩ | ⟨d,v,z1,z2,z3⟩
  ·rw[z1] at h6
   rw[z2]
   exact k _ _ h6 _ _ _ _ ((E1.trans E2).trans E3) S3 V3
  ·rw[z1] at h6
   rw[z2]
   exact k _ _ h6 _ _ _ _ ((E1.trans E2).trans E3) S3 z3⟩
theorem Qy [lB] {pos':Pos} (hu:X.A.units + 64 < cLine) (ho:JE X o (tD fo)) (hi:JE X i (tD fi)) (hv:JE X v (tD fv)) (hs:swapsWith v (some (.Subscript o i pos')) pos.line X.env=pure false:=by rfl):JS X (.Assign [.Subscript o i pos'] v pos) (dr (wk fv fo fi)) :=
 (Nd (by omega) ho hi hv hs).weak fun D σ H h0_ => el7 h0_ fun F ad δ K S q k =>⟨F,ad,δ,_,S,q,fun z δ1 h1 w F1 aO H1 E1 S1 V1=>⟨F1,aO,δ1,_,S1,h1,fun x δ2 h2 u F2 bK H2 E2 S2 V2=>⟨F2,bK,δ2,_,S2,h2,fun y δ3 h3 t F3 pH H3 E3 S3 V3=>by
  obtain⟨d,δ4,F4,h4,E4,S4,i4⟩:=qF S3 ((V1.ext E2).ext E3) h3
  obtain⟨i,rfl,h5⟩:=uo V3 h4
  obtain⟨k0,ah,a,ws,rfl,h6,rfl,e1,e2,i1,m1⟩:=q9 S4 ((V2.ext E3).ext E4) h5
  have oi:eE F4 (.dct (putD ah (.inl i) d)) (.dK (putK ws (.inl i) w)):=⟨_,rfl,i1.put i4⟩
  refine⟨a,_,rfl,j4.k e2 (qu (by rw[i1.length];exact WM h6.1)),?_⟩
  exact k.nx _ h6.2 _ _ _ _ ((((E1.trans E2).trans E3).trans E4).trans (Ext.put S4 m1 e1)) (S4.put m1 e1 oi)⟩⟩⟩
theorem Qz (hk:JE X i (tD fk)) (hv:JE X v (tD fv)):JE X (.Dict [some i] [v] pos) (tD (Ax fk fv)) :=
 (Nf (MF hk.out hv.out ME) rfl rfl (by simp) (by simp)).weak fun σ H Q ⟨F,ad,δ,K,S,q,k⟩ p hp=>by
  have oi:eE F (.dct []) (.dK []):=⟨[],rfl,rfl⟩
  have lp:(ad ++ [p])[δ.mu.length]? = some p:=by rw[<-S.cb,Vu (uX _),Wa];rfl
  refine⟨F,ad ++ [p],_,_,S.own hp oi,q,fun x δ1 h1 u F1 aO H1 E1 S1 V1=>⟨F1,aO,δ1,_,S1,h1,fun y δ2 h2 w F2 bK H2 E2 S2 V2 => ?_⟩⟩
  obtain⟨d,δ3,F3,h3,E3,S3,i3⟩:=qF S2 V2 h2
  obtain⟨i,rfl,h4⟩:=uo V1 h3
  have Az:=(E1.trans E2).trans E3
  have Vp:e_ F3 bK (.o δ.mu.length) (.ref p):=⟨p,Az.pre _ _ lp,rfl⟩
  obtain⟨k0,ah,a,ws,ek,⟨h5,h6⟩,ea,e1,e2,i1,m1⟩:=q9 S3 Vp h4
  cases ek
  cases ea
  subst h5
  have QA:ws=[]:=i1
  subst QA
  have oj:eE F3 (.dct [(.inl i,d)]) (.dK [((Sum.inl i:Key),w)]):=⟨_,rfl,w,[],rfl,i3,rfl⟩
  refine⟨e2,[(.inl i,w)],rfl,by simp,?_⟩
  exact k _ _ h6 _ _ _ _ (((Ext.own S hp).trans Az).trans (Ext.put S3 m1 e1)) (S3.put m1 e1 oj) ⟨p,Az.pre _ _ lp,rfl⟩
end
noncomputable def mX (δ0:aF) (t:WT) (b:WS) (K:KS):Nat->aF->Prop
 | 0,_=>False
 | n + 1,δ => t δ fun bb δ1=>if bb=true then b { nx:=fun δ2=>mX δ0 t b K n (δ0.trim δ2),ct:=fun δ2=>mX δ0 t b K n (δ0.trim δ2),bk:=K.nx,rt:=K.rt } δ1 else K.nx δ1
noncomputable def Gd (t:WT) (b:WS):WS:=fun K δ => ∃ n,mX δ t b K n δ
theorem QB [lB] {X:Cx} {c:Expr} {body:List Stmt} {t:WT} {b:WS} {pos:Pos} (hp:PassesOwn (model X.prog X.w) X.A X.env X.xe) (hc:JT X c (cP t)) (hb:dP X body (dr b)):JS X (.While c body [] pos) (dr (Gd t b)) :=
 (M3 hp hc hb).weak fun D σ H ⟨F,ad,δ,K,S,⟨n,q⟩,k⟩=>by
 refine⟨fun m σ' H'=>∃ F' aK δ',Ext F ad δ.mu H F' aK δ'.mu H'/\SR F' aK δ' σ' H'/\mX δ t b K m δ',⟨n,F,ad,δ,.refl,S,q⟩,?_⟩
 rintro m σ' H' ⟨F',aK,δ',E',S',h⟩
 cases m with
 | zero=>exact h.elim
 | succ m =>
  refine⟨F',aK,δ',_,S',h,fun bb δ1 h1 F1 aO H1 E1 S1 => ?_⟩
  have E2:=E'.trans E1
  cases bb with
  | false =>
   dsimp only at h1 ⊢
   rw[LX Vv] at h1 ⊢
   exact k.nx _ h1 _ _ _ _ E2 S1
  | true =>
   dsimp only at h1 ⊢
   rw[UO rfl] at h1 ⊢
   refine⟨fun σ2 H2=>∃ F2 bK δ2,Ext F ad δ.mu H F2 bK δ2.mu H2/\SR F2 bK δ2 σ2 H2/\mX δ t b K m δ2,fun σ2 H2 ⟨F2,bK,δ2,e1,e2,e3⟩=>⟨m,by omega,F2,bK,δ2,e1,e2,e3⟩,?_⟩
   refine⟨F1,aO,δ1,_,S1,h1,⟨fun δ2 h2 F2 bK σ2 H2 X2 S2=>⟨F2,_,_,(E2.trans X2).trim S.cb,S2.trim,h2⟩,k.nx.ext E2,fun δ2 h2 F2 bK σ2 H2 X2 S2=>⟨F2,_,_,(E2.trans X2).trim S.cb,S2.trim,h2⟩,(k.ext E2).rt,(k.ext E2).kp⟩⟩
end L2
namespace LJ
open PySem L2
variable [aM]
theorem AA {ah:List (Key × D)} {k l:Key} {d:D} (h:bJ ah k=none):bJ (putD ah k d) l=if l=k then some d else bJ ah l:=by
 have na:(ah.any fun kv=>decide (kv.1=k))=false:=by
  cases q:ah.any fun kv=>decide (kv.1=k) with
  | false=>rfl
  | true =>
   obtain⟨kv,h1,h2⟩:=Ys.mp q
   unfold bJ at h
   rw[Option.map_eq_none_iff] at h
   exact absurd h2 (List.find?_eq_none.mp h kv h1)
 unfold putD
 rw[na,LX Vv]
 unfold bJ
 rw[List.find?_append]
 cases q:ah.find? fun kv=>decide (kv.1=l) with
 | some kv =>
  have e:=Zi q
  have e:kv.1=l:=by simpa using e
  rw[LX]
  ·rfl
  ·intro z
   subst z
   have hm:=List.mem_of_find?_eq_some q
   have:=Xh.mp na kv hm
   exact this (by simpa using e)
 | none =>
  by_cases c:l=k
  ·subst c
   rw[UO rfl]
   simp
  ·rw[LX c]
   simp[show ¬ k=l from fun z=>c z.symm]
end LJ
namespace L2
open PySem PySem.Spec PyProof.Rows PySem.W
section
open PySem.SeqAt
open PySem.AutoSeq1 (wpAny_loadPart')
open PySem.MeetsSeq PySem.MeetsSeq2 PySem.MeetsSeq3
end
section
variable {prog:Program} {w:World} {A:Around} {E:Value->Shared->Prop} {s:Shared} {Q:Bool->Shared->Prop}
end
section
variable [aM] {X:Cx}
end
end L2
namespace LJ
open PySem L2
variable [aM]
end LJ
namespace L2
open PySem
variable [aM]
section
variable {F F' H H':Hp} {ad aK:List Addr} {δ δ':aF} {σ σ':St}
end
section
variable {X:Cx} {AB k_ jT lW:Stmt} {i n:Nat} {G:GD} {fa:WA} {t:WT} {B:TS} {E:XK}
end
end L2
namespace LJ
open PySem L2
variable [aM]
noncomputable def jk (p q:Int) (fs:List Int):List Int:=fs.map fun x=>if x=p then q else x
theorem AD {p q x y:Int}:(if x=p then q else x)=(if y=p then q else y)↔x=y\/((x=p\/x=q)/\(y=p\/y=q)):=by
 by_cases h1:x=p<;>by_cases h2:y=p
 ·rw[UO h1,UO h2];constructor<;>intro h<;>omega
 ·rw[UO h1,LX h2];constructor<;>intro h<;>omega
 ·rw[LX h1,UO h2];constructor<;>intro h<;>omega
 ·rw[LX h1,LX h2];constructor<;>intro h<;>omega
theorem q_ {f:Int->Int} {fs:List Int} {i:Nat} (h:i < fs.length):(fs.map f).getD i 0=f (fs.getD i 0):=by
 rw[DD,LR,oU h,DD,oU h];rfl
noncomputable def Part (n:Nat) (fs gs:List Int):Prop:=fs.length=n/\gs.length=n/\∀ i j,i < n->j < n->(fs.getD i 0=fs.getD j 0↔gs.getD i 0=gs.getD j 0)
theorem Part.merge {n i j:Nat} {fs gs:List Int} {p q r s:Int} (h:Part n fs gs) (hi:i < n) (hj:j < n) (e1:(p=fs.getD i 0/\q=fs.getD j 0)\/(p=fs.getD j 0/\q=fs.getD i 0)) (e2:(r=gs.getD i 0/\s=gs.getD j 0)\/(r=gs.getD j 0/\s=gs.getD i 0)):Part n (jk p q fs) (jk r s gs):=by
 obtain⟨h1,h2,h3⟩:=h
 refine⟨by unfold jk;rw[oV,h1],by unfold jk;rw[oV,h2],fun k l hk hl => ?_⟩
 unfold jk
 rw[q_ (by omega),q_ (by omega),q_ (by omega),q_ (by omega),AD,AD]
 have a:=h3 k l hk hl
 have b:=h3 k i hk hi
 have c:=h3 k j hk hj
 have d:=h3 l i hl hi
 have e:=h3 l j hl hj
 have f1:(fs.getD k 0=p\/fs.getD k 0=q)↔(fs.getD k 0=fs.getD i 0\/fs.getD k 0=fs.getD j 0):=by rcases e1 with⟨rfl,rfl⟩ | ⟨rfl,rfl⟩;rfl;exact Or.comm
 have f2:(fs.getD l 0=p\/fs.getD l 0=q)↔(fs.getD l 0=fs.getD i 0\/fs.getD l 0=fs.getD j 0):=by rcases e1 with⟨rfl,rfl⟩ | ⟨rfl,rfl⟩;rfl;exact Or.comm
 have f3:(gs.getD k 0=r\/gs.getD k 0=s)↔(gs.getD k 0=gs.getD i 0\/gs.getD k 0=gs.getD j 0):=by rcases e2 with⟨rfl,rfl⟩ | ⟨rfl,rfl⟩;rfl;exact Or.comm
 have f4:(gs.getD l 0=r\/gs.getD l 0=s)↔(gs.getD l 0=gs.getD i 0\/gs.getD l 0=gs.getD j 0):=by rcases e2 with⟨rfl,rfl⟩ | ⟨rfl,rfl⟩;rfl;exact Or.comm
 rw[f1,f2,f3,f4,a,b,c,d,e]
theorem Ge (fs:List Int) (i j:Nat):gN fs i j=jk (max (fs.getD i 0) (fs.getD j 0)) (min (fs.getD i 0) (fs.getD j 0)) fs:=rfl
theorem Gf (a b:Int):(max a b=a/\min a b=b)\/(max a b=b/\min a b=a):=by
 by_cases h:a <= b
 ·exact .inr ⟨Int.max_eq_right h,Int.min_eq_left h⟩
 ·exact .inl ⟨Int.max_eq_left (by omega),Int.min_eq_right (by omega)⟩
noncomputable def jm (ws:List (Int × Int × Int)) (st:List Int × List Int) (n:Int):List Int × List Int :=
 if st.2.getD (bD ws n).1 0=st.2.getD (bD ws n).2 0 then st else (st.1 ++ [n],gN st.2 (bD ws n).1 (bD ws n).2)
noncomputable def fE (ws:List (Int × Int × Int)) (fs ns:List Int):List Int × List Int:=ns.foldl (jm ws) ([],fs)
noncomputable def jL (m:Int) (ws:List (Int × Int × Int)) (ns:List Int):List Int:=sortI (fE ws (aL m.toNat) ns).1
noncomputable def kK (ws:List (Int × Int × Int)) (us:List Int) (st:List Int × List Int) (n:Int):List Int × List Int :=
 if n∈us/\st.2.getD (bD ws n).1 0≠st.2.getD (bD ws n).2 0 then (st.1 ++ [n],jk (st.2.getD (bD ws n).2 0) (st.2.getD (bD ws n).1 0) st.2) else st
noncomputable def kL (ws:List (Int × Int × Int)) (us fs ns:List Int):List Int × List Int:=ns.foldl (kK ws us) ([],fs)
theorem QC (ws:List (Int × Int × Int)) (st:List Int × List Int) (n:Int):(jm ws st n).2.length=st.2.length:=by
 unfold jm
 split
 ·rfl
 ·exact FH _ _ _
theorem QD (ws:List (Int × Int × Int)) (us:List Int) (st:List Int × List Int) (n:Int):(kK ws us st n).2.length=st.2.length:=by
 unfold kK
 split
 ·unfold jk;rw[oV]
 ·rfl
theorem AE (ws:List (Int × Int × Int)):∀ (ns:List Int) (st:List Int × List Int),∃ l,(ns.foldl (jm ws) st).1=st.1 ++ l/\l.Sublist ns/\(ns.foldl (jm ws) st).2.length=st.2.length
 | [],st=>⟨[],by simp,.slnil,rfl⟩
 | n :: r,st=>by
  obtain⟨l,h1,h2,h3⟩:=AE ws r (jm ws st n)
  rw[Xx]
  rw[QC] at h3
  unfold jm at h1 h3 ⊢
  split at h1
  ·rename_i q
   rw[UO q] at h3 ⊢
   exact⟨l,h1,h2.cons _,h3⟩
  ·rename_i q
   rw[LX q] at h3 ⊢
   exact⟨n :: l,by rw[h1,XE];rfl,h2.cons₂ _,h3⟩
theorem Gg (ws:List (Int × Int × Int)) (us:List Int):∀ (ns:List Int) (st:List Int × List Int),∃ l,(ns.foldl (kK ws us) st).1=st.1 ++ l/\l.Sublist ns/\(ns.foldl (kK ws us) st).2.length=st.2.length
 | [],st=>⟨[],by simp,.slnil,rfl⟩
 | n :: r,st=>by
  obtain⟨l,h1,h2,h3⟩:=Gg ws us r (kK ws us st n)
  rw[Xx]
  rw[QD] at h3
  unfold kK at h1 h3 ⊢
  split at h1
  ·rename_i q
   rw[UO q] at h3 ⊢
   exact⟨n :: l,by rw[h1,XE];rfl,h2.cons₂ _,h3⟩
  ·rename_i q
   rw[LX q] at h3 ⊢
   exact⟨l,h1,h2.cons _,h3⟩
theorem AF {m:Int} {ws:List (Int × Int × Int)} (W:aC m ws) {us:List Int}:∀ {ns:List Int} {acc fs gs:List Int},(∀ n∈ns,(0 <= n/\n < (ws.length:Int))/\n∈us)->Part m.toNat fs gs->(ns.foldl (jm ws) (acc,fs)).1=(ns.foldl (kK ws us) (acc,gs)).1
 | [],acc,fs,gs,_,_=>rfl
 | n :: r,acc,fs,gs,hn,hp=>by
  obtain⟨⟨n0,n1⟩,nu⟩:=hn n UQ
  obtain⟨y,ey,hy,ea,i,j,e1,e2,h1,h2,_⟩:=ji W n0 n1
  have en:bD ws n=(i,j):=by unfold bD;rw[ey,e1,e2,LW,LW]
  have hr:∀ n∈r,(0 <= n/\n < (ws.length:Int))/\n∈us:=fun x hx=>hn x (Vs _ hx)
  rw[Xx,Xx]
  unfold jm kK
  rw[en]
  dsimp only
  by_cases q:fs.getD i 0=fs.getD j 0
  ·rw[UO q,LX fun z=>z.2 ((hp.2.2 i j h1 h2).mp q)]
   exact AF W hr hp
  ·rw[LX q,UO ⟨nu,fun z=>q ((hp.2.2 i j h1 h2).mpr z)⟩]
   rw[Ge]
   exact AF W hr (hp.merge h1 h2 (Gf _ _) (.inr ⟨rfl,rfl⟩))
theorem g9 {a b:Int}:aH (.int a) (.int b)=decide (a=b):=by
 cases q:aH (.int a) (.int b)
 ·exact (DF fun z=>by rw[z,lF] at q;cases q).symm
 ·simp only[aH] at q
  exact (LV (WB q)).symm
noncomputable def AG:GD:=fun ys aj K=>∃ (m:Int) (ws:List (Int × Int × Int)),aC m ws/\ys=[.p (aE m ws)]/\aj=[]/\∀ ns,bt ws ns->K (.n ((jL m ws ns).map D.int)) []
noncomputable def AH:WS:=(av (aD 1 (au 1 Aq (ai (aa 0) af))) (av (aD 2 (px af)) (av (aD 3 (au 2 qV (ai (aa 0) (ai (aa 2) af)))) (av (c7 (bA (aa 1)) (bo 4) (av (aD 5 (d2 (d2 (aa 0) (dC (.int 1)) aP) (aa 4) aP)) (bh (dT (d2 (d2 (aa 3) (d2 (aa 5) (dC (.int 0)) aP) aP) (d2 (aa 3) (d2 (aa 5) (dC (.int 1)) aP) aP) je)) (av (kg (ip (aa 2) (ai (aa 4) af))) (aD 3 (au 3 t_ (ai (aa 3) (ai (d2 (aa 5) (dC (.int 0)) aP) (ai (d2 (aa 5) (dC (.int 1)) aP) af)))))) cC))) (aG (vQ (ai (aa 2) af) vR))))))
theorem QE:∀ ys aj K',ys.length=1->AG ys aj K'->AH (bG aj.length K') ⟨ys.map some ++ List.replicate 5 none,aj.map some⟩:=by
 rintro ys aj K' - ⟨m,ws,W,rfl,rfl,k⟩
 have jK:=W.fH
 have m1:=W.m1
 have d6:=W.d6
 unfold AH
 refine aU fun N hN => ?_
 simp? only []
 refine⟨m,ws,W,rfl,rfl,fun ns ho => ?_⟩
 simp? only []
 subst hN
 refine aU fun N hN => ?_
 simp? only []
 subst hN
 refine aU fun N hN => ?_
 simp? only []
 refine⟨m,ws,[],W,fun n hn=>absurd hn VQ,.inr ⟨rfl,rfl,?_⟩⟩
 simp? only []
 subst hN
 refine aU fun N hN=>lK fun g' b' K2 hg hb' hK => ?_
 simp? only []
 subst hg hb' hK
 have il:(aL m.toNat).length=m.toNat:=by unfold aL;simp
 have hlen:=ho.len
 have inv:∀ i,(fE ws (aL m.toNat) (ns.take i)).2.length=m.toNat/\(fE ws (aL m.toNat) (ns.take i)).1.length <= 30:=fun i=>by
  obtain⟨l,h1,h2,h3⟩:=AE ws (ns.take i) ([],aL m.toNat)
  refine⟨h3.trans il,?_⟩
  have:(fE ws (aL m.toNat) (ns.take i)).1=l:=h1
  rw[this]
  have:=h2.length_le
  rw[VM] at this
  omega
 refine kB (fun i δ => δ = ⟨[some (.p (aE m ws)),some (.p (.lst (ns.map D.int))),some (.o 0),some (.p (aS (fE ws (aL m.toNat) (ns.take i)).2)),none,none],[some (.lst ((fE ws (aL m.toNat) (ns.take i)).1.map D.int))]⟩) rfl ?_ ?_
 ·rintro i d δ L hi rfl hL
  rw[LR] at hi
  obtain⟨n,uq,rfl⟩:=UP.mp hi
  obtain⟨n0,n1⟩:=ho.nums n (VA uq)
  obtain⟨y,ey,hy,ea,a,b,e1,e2,h1,h2,_⟩:=ji W n0 n1
  have en:bD ws n=(a,b):=by unfold bD;rw[ey,e1,e2,LW,LW]
  obtain⟨hf,hl⟩:=inv i
  have step:fE ws (aL m.toNat) (ns.take (i + 1))=jm ws (fE ws (aL m.toNat) (ns.take i)) n:=by
   have:ns.take (i + 1)=ns.take i ++ [n]:=by rw[Xq,uq];rfl
   rw[this]
   unfold fE
   rw[XH];rfl
  have dX:=hL _ rfl
  rw[step] at dX
  generalize fE ws (aL m.toNat) (ns.take i)=st at hf hl dX
  obtain⟨acc,fs⟩:=st
  dsimp only at hf hl dX ⊢
  unfold jm at dX
  rw[en] at dX
  dsimp only at dX
  refine⟨trivial,?_⟩
  simp only[bo,VT,VU]
  refine aU fun N2 dA => ?_
  simp? only [dH,aE,ea]
  subst dA
  have a1:=ir (ns:=fs) (i:=a) (by omega)
  have a2:=ir (ns:=fs) (i:=b) (by omega)
  refine gf fun Ay Bn hA hB => ?_
  simp? only [dG,dH,bE,e1,e2,aS,a1,a2,g9]
  by_cases q:fs.getD a 0=fs.getD b 0
  ·rw[LV q]
   simp? only []
   subst hB
   rw[UO q] at dX
   simp? only []
   exact dX
  ·rw[DF q]
   simp? only []
   subst hA
   rw[LX q] at dX
   refine aU fun N2 dA => ?_
   simp? only []
   refine⟨by omega,?_⟩
   subst dA
   simp? only [dG,dH]
   refine⟨fs,a,b,rfl,rfl,by omega,by omega,by omega,?_⟩
   simp? only []
   rw[VC] at dX
   exact dX
 ·rintro δ rfl
  refine⟨trivial,?_⟩
  obtain⟨hf,hl⟩:=inv ns.length
  rw[oV,Wj (uX _)] at *
  show N _
  subst hN
  simp? only [vR,jG]
  exact⟨by omega,[],rfl,rfl,.inl (k ns ho)⟩
noncomputable def AI (m:Int) (ws:List (Int × Int × Int)) (us ns:List Int):List Int:=sortI (kL ws us (aL m.toNat) ns).1
noncomputable def ur:GD:=fun ys aj K=>∃ (m:Int) (ws:List (Int × Int × Int)) (us:List Int),aC m ws/\ys=[.p (aE m ws),.p (aS us)]/\aj=[]/\∀ ns,bt ws ns->K (.p (aS (AI m ws us ns))) []
noncomputable def AJ:WS:=(av (aD 2 (pP (ai (d2 (aa 0) (dC (.int 0)) aP) af))) (av (aD 3 (px af)) (av (c7 (bA (au 1 Au (ai (aa 0) af))) (bo 4) (av (gK (c8 (bA (c_ (d2 (d2 (aa 0) (dC (.int 1)) aP) (aa 4) aP) dw (g6 (dC (.int 2))))) [none,some 2] (bo 0) cq (d2 (aa 1) (aa 0) aP)) (i_ 2 (eF (bo 5) (eF (bo 6) iJ)))) (bh (f7 (dT (d2 (aa 4) (aa 1) (fA false))) (dT (d2 (aa 5) (aa 6) je))) (av (aD 2 (c8 (bA (aa 2)) [none,some 5,some 6] (bo 0) cq (pz (dT (d2 (aa 0) (aa 2) oEq)) (aa 1) (aa 0)))) (kg (ip (aa 3) (ai (aa 4) af)))) cC))) (aG (dN (ai (aa 3) af) mL)))))
theorem QF {us:List Int} {n:Int}:((us.map D.int).any fun e=>aH e (.int n))=decide (n∈us):=by
 cases q:(us.map D.int).any fun e=>aH e (.int n)
 ·refine (DF fun z => ?_).symm
  have:=Xh.mp q (.int n) (Wb z)
  exact this (lF _)
 ·obtain⟨e,he,h⟩:=Ys.mp q
  obtain⟨z,hz,rfl⟩:=My.mp he
  rw[g9] at h
  rw[<-We h]
  exact (LV hz).symm
theorem Gh:∀ us:List Int,bH (us.map D.int) <= 55
 | []=>by simp[bH]
 | n :: r=>by
  have:=Gh r
  simp only[Vy,bH,dep]
  omega
theorem QG:∀ ys aj K',ys.length=2->ur ys aj K'->AJ (bG aj.length K') ⟨ys.map some ++ List.replicate 5 none,aj.map some⟩:=by
 rintro ys aj K' - ⟨m,ws,us,W,rfl,rfl,k⟩
 have jK:=W.fH
 have m1:=W.m1
 have d6:=W.d6
 have il:(aL m.toNat).length=m.toNat:=by unfold aL;simp
 unfold AJ
 refine aU fun N hN => ?_
 simp? only [dG,aE]
 refine⟨⟨by omega,by omega⟩,?_⟩
 subst hN
 rw[jI]
 refine aU fun N hN => ?_
 simp? only []
 subst hN
 refine aU fun N hN=>lK fun g' b' K2 hg hb' hK => ?_
 simp? only []
 refine⟨m,ws,W,rfl,rfl,fun ns ho => ?_⟩
 simp? only [aS]
 subst hg hb' hK
 have hlen:=ho.len
 have inv:∀ i,(kL ws us (aL m.toNat) (ns.take i)).2.length=m.toNat/\(kL ws us (aL m.toNat) (ns.take i)).1.length <= 30:=fun i=>by
  obtain⟨l,h1,h2,h3⟩:=Gg ws us (ns.take i) ([],aL m.toNat)
  refine⟨h3.trans il,?_⟩
  have:(kL ws us (aL m.toNat) (ns.take i)).1=l:=h1
  rw[this]
  have:=h2.length_le
  rw[VM] at this
  omega
 refine kB (fun i δ => δ = ⟨[some (.p (aE m ws)),some (.p (aS us)),some (.p (aS (kL ws us (aL m.toNat) (ns.take i)).2)),some (.o 0),none,none,none],[some (.lst ((kL ws us (aL m.toNat) (ns.take i)).1.map D.int))]⟩) rfl ?_ ?_
 ·rintro i d δ L hi rfl hL
  rw[LR] at hi
  obtain⟨n,uq,rfl⟩:=UP.mp hi
  obtain⟨n0,n1⟩:=ho.nums n (VA uq)
  obtain⟨y,ey,hy,ea,a,b,e1,e2,h1,h2,_⟩:=ji W n0 n1
  have en:bD ws n=(a,b):=by unfold bD;rw[ey,e1,e2,LW,LW]
  obtain⟨hf,hl⟩:=inv i
  have step:kL ws us (aL m.toNat) (ns.take (i + 1))=kK ws us (kL ws us (aL m.toNat) (ns.take i)) n:=by
   have:ns.take (i + 1)=ns.take i ++ [n]:=by rw[Xq,uq];rfl
   rw[this]
   unfold kL
   rw[XH];rfl
  have dX:=hL _ rfl
  rw[step] at dX
  generalize kL ws us (aL m.toNat) (ns.take i)=st at hf hl dX
  obtain⟨acc,fs⟩:=st
  dsimp only at hf hl dX ⊢
  unfold kK at dX
  rw[en] at dX
  dsimp only at dX
  refine⟨trivial,?_⟩
  simp only[bo,VT,VU]
  have a1:=ir (ns:=fs) (i:=a) (by omega)
  have a2:=ir (ns:=fs) (i:=b) (by omega)
  refine aU fun N2 dA => ?_
  have ec:cutD [D.int y.1,D.int y.2.1,D.int y.2.2] none (some 2)=[D.int a,D.int b]:=by rw[<-e1,<-e2];rfl
  simp? only [dH,aE,ea,bE,ec]
  refine L2.jJ (fun d=>match d with
   | .int z => .int (fs.getD z.toNat 0)
   | _ => .non) (by show 2 <= 1000;decide) trivial ?_ ?_
  ·intro d hd acc L' ha h'
   simp only[Vr,VQ,Ye] at hd
   rcases hd with rfl | rfl
   ·simp? only [aS,a1]
    simp only[LW] at h'
    exact⟨ha,h'⟩
   ·simp? only [aS,a2]
    simp only[LW] at h'
    exact⟨ha,h'⟩
  ·simp? only [LW]
   subst dA
   refine gf fun Ay Bn hA hB => ?_
   simp? only [aS,QF,g9]
   refine⟨Gh us,?_⟩
   by_cases q1:n∈us
   ·rw[LV q1]
    simp? only []
    by_cases q:fs.getD a 0=fs.getD b 0
    ·rw[LV q]
     simp? only []
     subst hB
     rw[LX fun z=>z.2 q] at dX
     simp? only []
     exact dX
    ·rw[DF q]
     simp? only []
     subst hA
     rw[UO ⟨q1,q⟩] at dX
     refine aU fun N2 dA => ?_
     simp? only [aS]
     refine L2.jJ (fun d=>match d with
      | .int x => .int (if x=fs.getD b 0 then fs.getD a 0 else x)
      | _ => .non) (by rw[oV];omega) trivial ?_ ?_
     ·intro d hd acc L' ha h'
      obtain⟨z,_,rfl⟩:=My.mp hd
      dsimp only at h'
      simp? only [g9]
      by_cases qz:z=fs.getD b 0
      ·rw[LV qz]
       simp? only []
       rw[UO qz] at h'
       exact⟨ha,h'⟩
      ·rw[DF qz]
       simp? only []
       rw[LX qz] at h'
       exact⟨ha,h'⟩
     ·have e:(fs.map D.int).map (fun d=>match d with
       | .int x=>D.int (if x=fs.getD b 0 then fs.getD a 0 else x)
       | _ => .non)=(jk (fs.getD b 0) (fs.getD a 0) fs).map D.int:=by
       unfold jk
       rw[Vz,Vz];rfl
      rw[e]
      simp? only []
      subst dA
      simp? only []
      rw[VC] at dX
      exact⟨by omega,dX⟩
   ·rw[DF q1]
    simp? only []
    subst hB
    rw[LX fun z=>q1 z.1] at dX
    simp? only []
    exact dX
 ·rintro δ rfl
  refine⟨trivial,?_⟩
  obtain⟨hf,hl⟩:=inv ns.length
  rw[oV,Wj (uX _)] at *
  show N _
  subst hN
  simp? only [mL,jG]
  exact⟨by omega,[],rfl,rfl,k ns ho⟩
theorem AK {m:Int} {ws:List (Int × Int × Int)} (W:aC m ws) {ns:List Int} (ho:bt ws ns):jL m ws ns=AI m ws (aL ws.length) ns:=by
 unfold jL AI fE kL
 rw[AF W (us:=aL ws.length) (fun n hn=>⟨ho.nums n hn,ho.perm.mem_iff.mp hn⟩) ⟨by unfold aL;simp,by unfold aL;simp,fun _ _ _ _=>ZT⟩]
end LJ
namespace LJ
open PySem L2
noncomputable abbrev Wy:=Int × Int × Int
noncomputable def wm (S:Wy->Prop) (a b:Int):Prop:=∃ w,S w/\((w.1=a/\w.2.1=b)\/(w.1=b/\w.2.1=a))
inductive ay (S:Wy->Prop) (a:Int):Int->Prop
 | rf:ay S a a
 | st {b c:Int}:ay S a b->wm S b c->ay S a c
section
variable {S S':Wy->Prop} {a b c:Int}
theorem wm.symm (h:wm S a b):wm S b a:=let ⟨w,h1,h2⟩:=h; ⟨w,h1,h2.symm⟩
theorem ay.trans (h:ay S a b) (h':ay S b c):ay S a c:=by
 induction h' with
 | rf=>exact h
 | st _ e ih=>exact .st ih e
theorem ay.symm (h:ay S a b):ay S b a:=by
 induction h with
 | rf=>exact .rf
 | st _ e ih=>exact (ay.st .rf e.symm).trans ih
theorem ay.bind (h:ay S a b) (k:∀ w,S w->ay S' w.1 w.2.1):ay S' a b:=by
 induction h with
 | rf=>exact .rf
 | st _ e ih =>
  obtain⟨w,h1,h2⟩:=e
  rcases h2 with⟨rfl,rfl⟩ | ⟨rfl,rfl⟩
  ·exact ih.trans (k w h1)
  ·exact ih.trans (k w h1).symm
theorem ay.one {w:Wy} (h:S w):ay S w.1 w.2.1 := .st .rf ⟨w,h,.inl ⟨rfl,rfl⟩⟩
theorem ay.mono (h:ay S a b) (k:∀ w,S w->S' w):ay S' a b:=h.bind fun w hw => .one (k w hw)
theorem ay.none (h:ay S a b) (k:∀ w,¬ S w):a=b:=by
 cases h with
 | rf=>rfl
 | st _ e=>obtain⟨w,h1,_⟩:=e;exact absurd h1 (k w)
theorem ay.add {w:Wy} (k:∀ v,S' v↔S v\/v=w):ay S' a b↔ay S a b\/(ay S a w.1/\ay S w.2.1 b)\/(ay S a w.2.1/\ay S w.1 b):=by
 constructor
 ·intro h
  induction h with
  | rf=>exact .inl .rf
  | st _ e ih =>
   rename_i b c _
   obtain⟨v,h1,h2⟩:=e
   rcases (k v).mp h1 with h1 | rfl
   ·have e':ay S b c := .st .rf ⟨v,h1,h2⟩
    rcases ih with i | ⟨i,j⟩ | ⟨i,j⟩
    ·exact .inl (i.trans e')
    ·exact .inr (.inl ⟨i,j.trans e'⟩)
    ·exact .inr (.inr ⟨i,j.trans e'⟩)
   ·rcases h2 with⟨rfl,rfl⟩ | ⟨rfl,rfl⟩
    ·rcases ih with i | ⟨i,j⟩ | ⟨i,j⟩
     ·exact .inr (.inl ⟨i,.rf⟩)
     ·exact .inr (.inl ⟨i,.rf⟩)
     ·exact .inl i
    ·rcases ih with i | ⟨i,j⟩ | ⟨i,j⟩
     ·exact .inr (.inr ⟨i,.rf⟩)
     ·exact .inl i
     ·exact .inr (.inr ⟨i,.rf⟩)
 ·have up:∀ {x y},ay S x y->ay S' x y:=fun h=>h.mono fun v hv=>(k v).mpr (.inl hv)
  have o:ay S' w.1 w.2.1 := .one ((k w).mpr (.inr rfl))
  rintro (h | ⟨h,h'⟩ | ⟨h,h'⟩)
  ·exact up h
  ·exact ((up h).trans o).trans (up h')
  ·exact ((up h).trans o.symm).trans (up h')
end
variable [aM]
noncomputable def bj (n:Nat) (fs:List Int) (S:Wy->Prop):Prop:=fs.length=n/\∀ i j:Nat,i < n->j < n->(fs.getD i 0=fs.getD j 0↔ay S i j)
theorem Gi {n i:Nat} (h:i < n):(aL n).getD i 0=i:=by
 unfold aL
 rw[DD,LR,Wv h];rfl
theorem bj.start (n:Nat):bj n (aL n) (fun _=>False):=by
 refine⟨by unfold aL;simp,fun i j hi hj => ?_⟩
 rw[Gi hi,Gi hj]
 exact⟨fun e=>by rw[e];exact .rf,fun h=>h.none fun _ z=>z⟩
theorem bj.join {n i j:Nat} {fs:List Int} {S S':Wy->Prop} {w:Wy} {p q:Int} (h:bj n fs S) (hi:i < n) (hj:j < n) (e1:w.1=i) (e2:w.2.1=j) (k:∀ v,S' v↔S v\/v=w) (pq:(p=fs.getD i 0/\q=fs.getD j 0)\/(p=fs.getD j 0/\q=fs.getD i 0)):bj n (jk p q fs) S':=by
 refine⟨by unfold jk;rw[oV,h.1],fun x y hx hy => ?_⟩
 unfold jk
 rw[q_ (by rw[h.1];exact hx),q_ (by rw[h.1];exact hy),AD,ay.add k,e1,e2,<-h.2 x y hx hy,<-h.2 x i hx hi,<-h.2 x j hx hj,<-h.2 j y hj hy,<-h.2 i y hi hy]
 rcases pq with⟨rfl,rfl⟩ | ⟨rfl,rfl⟩
 ·constructor
  ·rintro (h | ⟨h1 | h1,h2 | h2⟩)
   ·exact .inl h
   ·exact .inl (h1.trans h2.symm)
   ·exact .inr (.inl ⟨h1,h2.symm⟩)
   ·exact .inr (.inr ⟨h1,h2.symm⟩)
   ·exact .inl (h1.trans h2.symm)
  ·rintro (h | ⟨h1,h2⟩ | ⟨h1,h2⟩)
   ·exact .inl h
   ·exact .inr ⟨.inl h1,.inr h2.symm⟩
   ·exact .inr ⟨.inr h1,.inl h2.symm⟩
 ·constructor
  ·rintro (h | ⟨h1 | h1,h2 | h2⟩)
   ·exact .inl h
   ·exact .inl (h1.trans h2.symm)
   ·exact .inr (.inr ⟨h1,h2.symm⟩)
   ·exact .inr (.inl ⟨h1,h2.symm⟩)
   ·exact .inl (h1.trans h2.symm)
  ·rintro (h | ⟨h1,h2⟩ | ⟨h1,h2⟩)
   ·exact .inl h
   ·exact .inr ⟨.inr h1,.inl h2.symm⟩
   ·exact .inr ⟨.inl h1,.inr h2.symm⟩
theorem bj.fq {n i j:Nat} {fs:List Int} {S S':Wy->Prop} {w:Wy} (h:bj n fs S) (hi:i < n) (hj:j < n) (e1:w.1=i) (e2:w.2.1=j) (k:∀ v,S' v↔S v\/v=w) (e:fs.getD i 0=fs.getD j 0):bj n fs S':=by
 refine⟨h.1,fun x y hx hy=>(h.2 x y hx hy).trans ?_⟩
 have ij:=(h.2 i j hi hj).mp e
 rw[ay.add k,e1,e2]
 exact⟨.inl,fun z=>z.elim id fun z=>z.elim (fun ⟨a,b⟩=>(a.trans ij).trans b) fun ⟨a,b⟩=>(a.trans ij.symm).trans b⟩
noncomputable def ax (ws:List Wy) (n:Int):Wy:=ws.getD n.toNat (0,0,0)
theorem QH {m:Int} {ws:List Wy} (W:aC m ws):∀ (ns:List Int),Nums ws ns->ns.Nodup->bj m.toNat (fE ws (aL m.toNat) ns).2 (fun v=>∃ k∈ns,v=ax ws k) ∧
  ∀ n,n∈(fE ws (aL m.toNat) ns).1↔∃ as bs,ns=as ++ n :: bs/\¬ ay (fun v=>∃ k∈as,v=ax ws k) (ax ws n).1 (ax ws n).2.1:=by
 intro ns
 have rev:∀ (rs:List Int),Nums ws rs.reverse->rs.reverse.Nodup->bj m.toNat (fE ws (aL m.toNat) rs.reverse).2 (fun v=>∃ k∈rs.reverse,v=ax ws k) ∧
  ∀ n,n∈(fE ws (aL m.toNat) rs.reverse).1↔∃ as bs,rs.reverse=as ++ n :: bs/\¬ ay (fun v=>∃ k∈as,v=ax ws k) (ax ws n).1 (ax ws n).2.1:=by
  intro rs
  induction rs with
  | nil =>
   intro _ _
   refine⟨?_,fun n=>⟨fun h=>absurd h VQ,fun ⟨as,bs,e,_⟩ => ?_⟩⟩
   ·refine⟨(bj.start _).1,fun i j hi hj=>((bj.start _).2 i j hi hj).trans ⟨fun h=>h.mono fun _ z=>z.elim,fun h=>h.mono fun v ⟨k,hk,_⟩=>absurd hk VQ⟩⟩
   ·exact absurd e (by simp)
  | cons r rs ih =>
   intro hn nd
   rw[XF] at hn nd ⊢
   have lP:Nums ws rs.reverse:=fun x hx=>hn x (Wf _ hx)
   have QI:=(W7.mp nd).1
   obtain⟨mk,mem⟩:=ih lP QI
   obtain⟨r0,r1⟩:=hn r (LU _ UQ)
   obtain⟨y,ey,hy,_,i,j,e1,e2,h1,h2,_⟩:=ji W r0 r1
   have ew:ax ws r=y:=ey
   have en:bD ws r=(i,j):=by unfold bD;rw[ey,e1,e2,LW,LW]
   have step:fE ws (aL m.toNat) (rs.reverse ++ [r])=jm ws (fE ws (aL m.toNat) rs.reverse) r:=by unfold fE;rw[XH];rfl
   have kS:∀ v,(∃ k∈rs.reverse ++ [r],v=ax ws k)↔(∃ k∈rs.reverse,v=ax ws k)\/v=ax ws r:=fun v=>by
    constructor
    ·rintro ⟨k,hk,rfl⟩
     rcases VO.mp hk with hk | hk
     ·exact .inl ⟨k,hk,rfl⟩
     ·rw[VI.mp hk];exact .inr rfl
    ·rintro (⟨k,hk,rfl⟩ | rfl)
     ·exact⟨k,Wf _ hk,rfl⟩
     ·exact⟨r,LU _ UQ,rfl⟩
   have split:∀ n (P:List Int->Prop),(∃ as bs,rs.reverse ++ [r]=as ++ n :: bs/\P as)↔(∃ as bs,rs.reverse=as ++ n :: bs/\P as)\/(n=r/\P rs.reverse):=fun n P=>by
    constructor
    ·rintro ⟨as,bs,e,hp⟩
     rcases List.eq_nil_or_concat bs with rfl | ⟨Gj,z,rfl⟩
     ·have:=List.append_inj' e rfl
      obtain⟨rfl,e3⟩:=this
      cases e3
      exact .inr ⟨rfl,hp⟩
     ·have e':rs.reverse ++ [r]=(as ++ n :: Gj) ++ [z]:=by rw[e];simp
      obtain⟨e3,_⟩:=List.append_inj' e' rfl
      exact .inl ⟨as,Gj,e3,hp⟩
    ·rintro (⟨as,bs,e,hp⟩ | ⟨rfl,hp⟩)
     ·exact⟨as,bs ++ [r],by rw[e];simp,hp⟩
     ·exact⟨rs.reverse,[],rfl,hp⟩
   rw[step]
   unfold jm
   rw[en]
   dsimp only
   have Gk:=mk.2 i j h1 h2
   by_cases q:(fE ws (aL m.toNat) rs.reverse).2.getD i 0=(fE ws (aL m.toNat) rs.reverse).2.getD j 0
   ·rw[UO q]
    refine⟨mk.fq (w:=ax ws r) h1 h2 (by rw[ew];exact e1) (by rw[ew];exact e2) kS q,fun n => ?_⟩
    rw[split n (fun as=>¬ ay (fun v=>∃ k∈as,v=ax ws k) (ax ws n).1 (ax ws n).2.1),mem n]
    refine⟨.inl,fun z=>z.elim id fun ⟨e,hc⟩ => ?_⟩
    subst e
    rw[ew,e1,e2] at hc
    exact absurd (Gk.mp q) hc
   ·rw[LX q]
    refine⟨?_,fun n => ?_⟩
    ·dsimp only
     rw[Ge]
     exact mk.join (w:=ax ws r) h1 h2 (by rw[ew];exact e1) (by rw[ew];exact e2) kS (Gf _ _)
    ·rw[split n (fun as=>¬ ay (fun v=>∃ k∈as,v=ax ws k) (ax ws n).1 (ax ws n).2.1)]
     dsimp only
     rw[VO,mem n,VI]
     refine or_congr ZT ⟨fun e=>⟨e,?_⟩,fun h=>h.1⟩
     subst e
     rw[ew,e1,e2]
     exact fun z=>q (Gk.mpr z)
 intro hn nd
 have:=rev ns.reverse (by rw[Yt];exact hn) (by rw[Yt];exact nd)
 rw[Yt] at this
 exact this
noncomputable def g_ (w:Wy):LK:=[w.2.2,w.1,w.2.1]
noncomputable def eO (v w:Wy):Prop:=HT.lexLt (g_ v) (g_ w)=true
noncomputable def fP (ws:List Wy) (w:Wy):Prop:=w∈ws/\¬ ay (fun v=>v∈ws/\eO v w) w.1 w.2.1
theorem Gm (ws:List Wy) (n:Int):bw ws n=g_ (ax ws n):=rfl
theorem qe {ws:List Wy} {n:Int} (h0:0 <= n) (h1:n < (ws.length:Int)):ax ws n∈ws:=by
 unfold ax
 exact VA (getD_some (by omega))
theorem mY {ws:List Wy} {w:Wy} (h:w∈ws):∃ n:Int,(0 <= n/\n < (ws.length:Int))/\ax ws n=w:=by
 obtain⟨i,hi⟩:=UM.mp h
 have hl:=(oW.mp hi).1
 refine⟨i,⟨by omega,by omega⟩,?_⟩
 unfold ax
 rw[LW,DD,hi];rfl
theorem Gn {a b:LK} (h:kle a b) (n:a≠b):HT.lexLt a b=true:=by
 cases q:HT.lexLt a b with
 | true=>rfl
 | false=>exact absurd (t5 q h) n
theorem QJ {m:Int} {ws:List Wy} (W:aC m ws) {ns:List Int} (ho:bt ws ns) {n:Int}:n∈jL m ws ns↔(0 <= n/\n < (ws.length:Int))/\fP ws (ax ws n):=by
 have nd:ns.Nodup:=ho.perm.nodup_iff.mpr (FI _)
 unfold jL
 rw[(sortI_perm _).mem_iff,(QH W ns ho.nums nd).2 n]
 have before:∀ as bs,ns=as ++ n :: bs->∀ v,(∃ k∈as,v=ax ws k)↔(v∈ws/\eO v (ax ws n)):=fun as bs e v=>by
  have up:=ho.up
  rw[e,VC,Vy,List.pairwise_append,WJ] at up
  obtain⟨_,⟨u2,_⟩,u3⟩:=up
  have hn:n∈ns:=by rw[e];exact LU _ UQ
  have nn:=ho.nums n hn
  rw[e] at nd
  have QK:=W7.mp nd
  constructor
  ·rintro ⟨k,hk,rfl⟩
   have eX:k∈ns:=by rw[e];exact Wf _ hk
   have kn:=ho.nums k eX
   refine⟨qe kn.1 kn.2,Gn (u3 _ (Wb hk) _ UQ) fun z => ?_⟩
   have:=Ap W kn nn z
   subst this
   exact QK.2.2 k hk k UQ rfl
  ·rintro ⟨hv,d3⟩
   obtain⟨k,kn,rfl⟩:=mY hv
   have hk:k∈ns:=ho.perm.mem_iff.mpr (by
    unfold aL
    exact My.mpr ⟨k.toNat,VJ.mpr (by omega),by simp;omega⟩)
   rw[e] at hk
   rcases VO.mp hk with hk | hk
   ·exact⟨k,hk,rfl⟩
   ·exfalso
    rcases Vr.mp hk with rfl | hk
    ·have:HT.lexLt (g_ (ax ws k)) (g_ (ax ws k))=true:=d3
     rw[pU] at this;cases this
    ·have:=u2 _ (Wb hk)
     have h2:HT.lexLt (bw ws k) (bw ws n)=true:=d3
     unfold kle at this
     rw[this] at h2;cases h2
 constructor
 ·rintro ⟨as,bs,e,hc⟩
  have nn:=ho.nums n (by rw[e];exact LU _ UQ)
  exact⟨nn,qe nn.1 nn.2,fun z=>hc (z.mono fun v hv=>(before as bs e v).mpr hv)⟩
 ·rintro ⟨nn,_,hc⟩
  have hn:n∈ns:=ho.perm.mem_iff.mpr (by
   unfold aL
   exact My.mpr ⟨n.toNat,VJ.mpr (by omega),by simp;omega⟩)
  obtain⟨as,bs,e⟩:=List.append_of_mem hn
  exact⟨as,bs,e,fun z=>hc (z.mono fun v hv=>(before as bs e v).mp hv)⟩
theorem QL {m:Int} {ws:List Wy} {ns:List Int} (ho:bt ws ns):(jL m ws ns).Nodup:=by
 unfold jL
 refine (sortI_perm _).nodup_iff.mpr ?_
 obtain⟨l,h1,h2,_⟩:=AE ws ns ([],aL m.toNat)
 have:(fE ws (aL m.toNat) ns).1=l:=h1
 rw[this]
 exact (ho.perm.nodup_iff.mpr (FI _)).sublist h2
theorem QM {m:Int} {ws:List Wy} (W:aC m ws):ws.Nodup:=by
 have:=W.unlike
 unfold List.Nodup at this ⊢
 rw[Xk] at this
 exact this.imp fun {a b} h e=>h (by rw[e])
noncomputable def fF (ws:List Wy) (w:Wy):Nat:=ws.countP fun v=>HT.lexLt (g_ v) (g_ w)
theorem Gp {α : Type} {p q : α -> Bool} {x : α}:∀ {l:List α},(∀ y∈l,p y=true->q y=true)->x∈l->q x=true->p x=false->l.countP p < l.countP q
 | y :: l,h,hx,h1,h2=>by
  have le:l.countP p <= l.countP q:=List.countP_mono_left fun z hz=>h z (Vs _ hz)
  rw[Xn,Xn]
  rcases Vr.mp hx with rfl | hx
  ·rw[h1,h2];simp;omega
  ·have:=Gp (fun z hz=>h z (Vs _ hz)) hx h1 h2
   have hy:=h y UQ
   cases q1:p y with
   | false=>simp;split<;>omega
   | true=>rw[hy q1];simp;omega
theorem n8 {ws:List Wy} {u v:Wy} (hu:u∈ws) (h:eO u v):fF ws u < fF ws v :=
 Gp (fun y _ hy=>qR hy h) hu h (pU _)
theorem AL {ws:List Wy}:∀ (k:Nat) (v:Wy),v∈ws->fF ws v <= k->ay (fun u=>fP ws u/\(eO u v\/u=v)) v.1 v.2.1
 | k,v,hv,hk=>by
  by_cases t:fP ws v
  ·exact .one ⟨t,.inr rfl⟩
  ·have c:ay (fun u=>u∈ws/\eO u v) v.1 v.2.1:=WU fun z=>t ⟨hv,z⟩
   refine c.bind fun u hu => ?_
   have lt:=n8 hu.1 hu.2
   match k,hk with
   | 0,hk=>omega
   | k + 1,hk =>
    refine (AL k u hu.1 (by omega)).mono fun x hx=>⟨hx.1,.inl ?_⟩
    rcases hx.2 with h | rfl
    ·exact qR h hu.2
    ·exact hu.2
theorem rh (n:Nat):(aL n).length=n:=by unfold aL;simp
theorem QN {m:Int} {ws:List Wy} (W:aC m ws) {n:Int} (h0:0 <= n) (h1:n < (ws.length:Int)):∃ i k:Nat,bD ws n=(i,k)/\(ax ws n).1=i/\(ax ws n).2.1=k/\i < m.toNat/\k < m.toNat:=by
 obtain⟨y,ey,hy,_,i,k,e1,e2,h1,h2,_⟩:=ji W h0 h1
 refine⟨i,k,?_,by unfold ax;rw[ey];exact e1,by unfold ax;rw[ey];exact e2,h1,h2⟩
 unfold bD
 rw[ey,e1,e2,LW,LW]
theorem Gq {m:Int} {ws:List Wy} (W:aC m ws):∀ (ns fs:List Int) (S:Wy->Prop),Nums ws ns->bj m.toNat fs S->bj m.toNat (fD ws fs ns) (fun v=>S v\/∃ k∈ns,v=ax ws k)
 | [],fs,S,_,h=>by
  have:(fun v=>S v\/∃ k∈([]:List Int),v=ax ws k)=S:=funext fun v=>propext (by simp)
  rw[this];exact h
 | n :: ns,fs,S,hn,h=>by
  have b:=hn n (UQ ..)
  obtain⟨i,k,e,e1,e2,h1,h2⟩:=QN W b.1 b.2
  have step:bj m.toNat (gN fs i k) (fun v=>S v\/v=ax ws n):=by
   refine bj.join (w:=ax ws n) (p:=max (fs.getD i 0) (fs.getD k 0)) (q:=min (fs.getD i 0) (fs.getD k 0)) h h1 h2 e1 e2 (fun v=>ZT) ?_
   omega
  have:=Gq W ns _ _ (fun x hx=>hn x (Vs _ hx)) step
  have eq:(fun v=>(S v\/v=ax ws n)\/∃ k∈ns,v=ax ws k)=(fun v=>S v\/∃ k∈n :: ns,v=ax ws k):=funext fun v=>propext (by
   constructor
   ·rintro ((h | h) | ⟨k,hk,h⟩)
    ·exact .inl h
    ·exact .inr ⟨n,UQ,h⟩
    ·exact .inr ⟨k,Vs _ hk,h⟩
   ·rintro (h | ⟨k,hk,h⟩)
    ·exact .inl (.inl h)
    ·rcases Vr.mp hk with rfl | hk
     ·exact .inl (.inr h)
     ·exact .inr ⟨k,hk,h⟩)
  rw[eq] at this
  show bj _ (fD ws (gN fs (bD ws n).1 (bD ws n).2) ns) _
  rw[e]
  exact this
noncomputable def dF (ws:List Wy) (ns:List Int):Wy->Prop:=fun v=>∃ k∈ns,v=ax ws k
theorem AM {m:Int} {ws:List Wy} (W:aC m ws) {ns:List Int} (hn:Nums ws ns):bj m.toNat (nV m ws ns) (dF ws ns):=by
 have:=Gq W ns _ _ hn (bj.start m.toNat)
 have eq:(fun v=>False\/∃ k∈ns,v=ax ws k)=dF ws ns:=funext fun v=>propext (by unfold dF;simp)
 rw[eq] at this
 exact this
open Classical in
noncomputable def cls (n:Nat) (S:Wy->Prop) (h:Int):List Int:=(aL n).filter fun x=>decide (ay S h x)
theorem b9 {n:Nat} {x:Int}:x∈aL n↔0 <= x/\x < n:=by
 unfold aL
 constructor
 ·intro h
  obtain⟨k,hk,rfl⟩:=My.mp h
  have:=VJ.mp hk
  omega
 ·intro h
  exact My.mpr ⟨x.toNat,VJ.mpr (by omega),by omega⟩
open Classical in
theorem mZ {n:Nat} {S:Wy->Prop} {h x:Int}:x∈cls n S h↔(0 <= x/\x < n)/\ay S h x:=by
 unfold cls
 rw[VR,b9,Wz]
theorem uu:∀ a b:List Int,bM (a.map D.int) (b.map D.int)=decide (a=b)
 | [],[]=>by simp[bM]
 | [],_ :: _=>by simp[bM]
 | _ :: _,[]=>by simp[bM]
 | x :: a,y :: b=>by
  rw[Vy,Vy]
  simp only[bM]
  rw[g9,uu a b]
  by_cases e:x=y<;>by_cases e2:a=b<;>simp[e,e2]
theorem Gr (a b:List Int):aH (aS a) (aS b)=decide (a=b):=by
 unfold aS
 simp only[aH]
 exact uu a b
theorem jM:∀ us:List Int,bH (us.map D.int)=0
 | []=>by simp[bH]
 | u :: r=>by rw[Vy];simp only[bH,dep];rw[jM r];rfl
theorem jn (l:List Int) (x:Int):((l.map D.int).any fun e=>aH e (.int x))=decide (x∈l):=by
 rw[List.any_map]
 cases q:decide (x∈l) with
 | true=>exact Ys.mpr ⟨x,We q,lF _⟩
 | false =>
  refine Xh.mpr fun y hy => ?_
  show ¬ aH (.int y) (.int x)=true
  rw[g9]
  intro z
  have:=We z
  subst this
  exact of_decide_eq_false q hy
end LJ
namespace HT
open PySem PySem.Spec PyProof.Rows
theorem Gs (A:Around) (s:Shared) (a:Int) (t:Tok) (c:Int) (u:Tok) (prog:Program) (w:World) (E:Value->Shared->Prop) (Q:Value->Shared->Prop) (h:Q (.bool (decide (c < a))) s) :
  wpAny (model prog w) A (richCompare .Gt (.int a t) (.int c u)) Q E s :=
 (PyProof.Rows.gt_int h:wpAny (model prog w) A (compareOp .Gt (.int a t) (.int c u)) Q E s)
section
open PySem.SeqAt
open PySem.AutoSeq1 (wpAny_loadPart')
open PySem.MeetsSeq PySem.MeetsSeq2 PySem.MeetsSeq3
theorem QO (l b:Addr) (items aI:Array Value) (n n2:Nat) (dd gR:Option Addr) (sl gT:Array (Option Value)) (ns ms:List Int) (hi:IntsAre items.toList ns) (hj:IntsAre aI.toList ms) :
  Meets (Builtin.«tuple.__gt__» ⟨[.ref l,.ref b],[]⟩)
   (fun _ R s=>s.heap.get? l=some { cls := .type "tuple",dict:=dd,data := .seq items n,slots:=sl }/\s.heap.get? b=some { cls := .type "tuple",dict:=gR,data := .seq aI n2,slots:=gT } ∧
    R (.ok (.ret (.bool (lexLt ms ns)))) s) :=
 .of_wp fun prog w A R s h=>by
  obtain⟨hp,g,d,tk,os⟩:=s;obtain⟨hl,hb,h⟩:=h
  have f2:=XU
  have z1:items.size=ns.length:=by rw[<-hi.length];simp
  have z2:aI.size=ms.length:=by rw[<-hj.length];simp
  wp_walk using VS hl,VS hb,Yo _ (fun rest b s'=>b.1=none/\s'=⟨hp,g,d,tk,os⟩/\∃ (vs ws:List Value) (e8 iV:List Int),rest=vs.zip ws ∧
   IntsAre vs e8/\IntsAre ws iV/\e8.length + aI.size=iV.length + items.size/\R (.ok (.ret (.bool (lexLt iV e8)))) ⟨hp,g,d,tk,os⟩) _
  case turn =>
   rintro ⟨y,x⟩ rest b s' ⟨hb',rfl,vs,ws,e8,iV,hz,oN,l_,hlen,hR⟩
   cases oN with
   | nil=>rw[XD] at hz;cases hz
   | cons a t oO =>
    cases l_ with
    | nil=>rw[YI] at hz;cases hz
    | cons c u oP =>
     rw[Wr] at hz
     injection hz with sv gC
     injection sv with hy hx
     subst hy hx
     rw[l9] at hR
     simp only[DE] at hlen
     obtain⟨e,he,h9⟩:=xv A.in1 ⟨hp,g,d,tk,os⟩ a t c u
     refine mq (he prog w _ _ ?_)
     cases e with
     | true =>
      rw[UO (h9.mp rfl).symm] at hR
      wp_walk
      exact⟨rfl,rfl,_,_,_,_,gC,oO,oP,by omega,hR⟩
     | false =>
      rw[LX (fun q=>absurd (h9.mpr q.symm) Vv)] at hR
      have sx:=Gs A.in1 ⟨hp,g,d,tk,os⟩ a t c u prog w
      wp_walk using sx
      exact⟨_,rfl,by simpa using hR⟩
  case fin =>
   rintro ⟨b1,b2⟩ s' ⟨hb',rfl,vs,ws,e8,iV,hz,oN,l_,hlen,hR⟩
   simp only at hb'
   subst hb'
   have hv:lexLt iV e8=decide (aI.size < items.size):=by
    cases oN with
    | nil =>
     cases l_ with
     | nil =>
      simp only[WD] at hlen
      rw[C_]
      exact (DF (by omega)).symm
     | cons c u hw =>
      simp only[WD,DE] at hlen
      rw[Dd]
      exact (DF (by omega)).symm
    | cons a t hv =>
     cases l_ with
     | nil =>
      simp only[WD,DE] at hlen
      rw[Dc]
      exact (LV (by omega)).symm
     | cons c u hw =>
      rw[Wr] at hz
      cases hz
   rw[hv] at hR
   wp_walk
   exact⟨_,rfl,by simpa [Builtin.Tuple.tupleCompareSizes] using hR⟩
  case h =>
   exact⟨rfl,rfl,items.toList,aI.toList,ns,ms,rfl,hi,hj,by omega,h⟩
end
section
variable {prog:Program} {w:World} {A:Around} {E:Value->Shared->Prop} {s:Shared}
theorem Gu {l b:Addr} {items aI:Array Value} {ns ms:List Int} {Q:Value->Shared->Prop} (hl:IsTup s.heap l items) (hb:IsTup s.heap b aI) (hi:IntsAre items.toList ns) (hj:IntsAre aI.toList ms)
  (hu:A.units < cLine) (h:Q (.bool (lexLt ms ns)) s):wpAny (model prog w) A (compareOp .Gt (.ref l) (.ref b)) Q E s:=by
 obtain⟨⟨cls,dd,data,sl⟩,ho,hc,n,hd⟩:=id hl
 obtain⟨⟨ma,gR,data2,gT⟩,dI,eK,n2,hd2⟩:=id hb
 simp only at hc hd eK hd2
 subst hc hd eK hd2
 exact Yg (op := .Gt) ⟨_,ho,rfl⟩ ⟨_,dI,rfl⟩ PySem.F.slot_tuple_gt Zg (Y4 _ _) (QO l b items aI n n2 dd gR sl gT ns ms hi hj)
  ⟨ho,dI,show Value.bool (lexLt ms ns)≠Value.notImplemented/\Q (.bool (lexLt ms ns)) s from ⟨(fun x=>nomatch x),h⟩⟩ hu
end
end HT
namespace L2
open PySem PySem.Spec PyProof.Rows PySem.W
noncomputable def fG:Bool->String
 | false => "min"
 | true => "max"
noncomputable def kM:Bool->String
 | false => "min.loop"
 | true => "max.loop"
noncomputable def AN:Bool->CmpOp
 | false => .Lt
 | true => .Gt
noncomputable def QP:String->CmpOp->Builtin:=(fun (f:String->CmpOp->Builtin) (_:f "min" .Lt=Builtin.«min.loop»)=>f) _ rfl
noncomputable def QQ:String->Builtin:=(fun (f:String->Builtin) (_:f "min" = Builtin.«min»)=>f) _ rfl
theorem wo (mx:Bool):entryFor table (kM mx)=some (QP (fG mx) (AN mx)):=by cases mx;exact PySem.F.entry_min_loop;exact PySem.F.entry_max_loop
theorem Gv (mx:Bool):entryFor table (fG mx)=some (QQ (fG mx)):=by cases mx;exact PySem.F.entry_min;exact PySem.F.entry_max
theorem Gw (mx:Bool):builtinKind (fG mx)=none:=by cases mx;exact PySem.F.kind_min;exact PySem.F.kind_max
theorem Gx (mx:Bool):plainId (fG mx)=true:=by cases mx;exact PySem.F.plain_min;exact PySem.F.plain_max
theorem jN (mx:Bool):plainId (kM mx)=true:=by cases mx;exact PySem.F.plain_min_loop;exact PySem.F.plain_max_loop
noncomputable def jo:Bool->LK->LK->Prop
 | false,a,b=>kle a b
 | true,a,b=>kle b a
noncomputable def uv:Bool->LK->LK->Bool
 | false,a,b=>HT.lexLt a b
 | true,a,b=>HT.lexLt b a
theorem wq (mx:Bool) (a:LK):jo mx a a:=by cases mx<;>exact kle_refl _
theorem Gy {mx:Bool} {a b c:LK} (h:uv mx a b=true) (k:jo mx b c):jo mx a c:=by
 cases mx
 ·exact kle_trans (qT h) k
 ·exact kle_trans k (qT h)
theorem Gz {mx:Bool} {a b:LK} (h:¬ uv mx a b=true):jo mx b a:=by cases mx<;>exact Bool.eq_false_iff.mpr h
theorem GA {prog:Program} {w:World} {A:Around} {E:Value->Shared->Prop} {s:Shared} {mx:Bool} {l b:Addr} {items aI:Array Value} {ns ms:List Int} {Q:Value->Shared->Prop} (hl:IsTup s.heap l items) (hb:IsTup s.heap b aI) (hi:IntsAre items.toList ns) (hj:IntsAre aI.toList ms)
  (hu:A.units < cLine) (h:Q (.bool (uv mx ns ms)) s):wpAny (model prog w) A (richCompare (AN mx) (.ref l) (.ref b)) Q E s:=by
 cases mx
 ·exact HT.xw hl hb hi hj hu h
 ·exact HT.Gu hl hb hi hj hu h
theorem QR (mx:Bool) (a v d:Value):argsOk (fG mx) ⟨[a],[(Str.ofString "key",v),(Str.ofString "default",d)]⟩:=by cases mx<;>(unfold argsOk;kernel_rfl)
section
variable {X:Cx} {pins:List (Addr × Obj)} {σ : St} {H:Hp} {s:Shared} {E:Value->Shared->Prop} {l q I S:Addr} {P:List V->Hp->Prop} {xs:List V} {d:Value} {R:Result->Shared->Prop}
noncomputable def QS (mx:Bool) (kf:Nat->LK) (xs ah:List V) (fQ:Array Value):Prop :=
 (ah=[]/\fQ = #[])\/∃ (b:Nat) (x:V) (vb:Value) (t:Addr),b < ah.length/\xs[b]? = some x/\RelV x vb/\ah[b]? = some (.ref t)/\fQ = #[vb,.ref t]/\∀ j,j < ah.length->jo mx (kf b) (kf j)
theorem QT (mx:Bool) (kf:Nat->LK) (hh:X.A.handled=none) (hu:X.A.units + 1 < cLine) (kN:l≠I) (kO:S≠I) (fI:∀ H',H' I=none->a9 X pins H' I) (fS:∀ H',H' S=none->a9 X pins H' S)
  (hl:∀ ah H',P ah H'->H' l=some (.lst xs)) (hP:∀ ah H',P ah H'->∀ i,i < ah.length->∃ t,ah[i]? = some (.ref t)/\H' t=some (.tup ((kf i).map V.int)))
  (iw:∀ (bf:List (Addr × Obj)) (x:V) (u:Value) (ah:List V) (H':Hp) (s':Shared),xs[ah.length]? = some x->RelV x u->Inv X bf σ H' s'->P ah H'->wpAny (model X.prog X.w) X.A.in1 (call (.ref q) [u]) (EP X bf σ fun k ie=>P (ah ++ [k]) ie) (fun _ _=>False) s')
  (fin:∀ ah H' s',ah.length=xs.length->P ah H'->Inv X pins σ H' s'->(xs=[]->R (.ok (.ret d)) s')/\∀ (b:Nat) (x:V) (u:Value),xs[b]? = some x->RelV x u->(∀ j,j < xs.length->jo mx (kf b) (kf j))->R (.ok (.ret u)) s') :
  ∀ (r:Nat) (ah:List V) (H':Hp) (s':Shared) (fQ:Array Value) (c:Nat) (oI:Obj),ah.length + r=xs.length->Inv X ((S,seqObj "list" fQ c) :: (I,oI) :: pins) σ H' s'->P ah H'->oI.cls = .type "list_iterator" -> oI.data = .fields #[.ref l,.int ah.length 0]->QS mx kf xs ah fQ →
   codeAny (model X.prog X.w) X.A (.builtin (kM mx) ⟨[.ref I,.ref q,.ref S],[(Str.ofString "default",d)]⟩) R s':=by
 have cO:(toString (fG mx) ++ toString ".loop" : String)=kM mx:=by cases mx<;>decide
 intro r
 induction r with
 | zero =>
  intro ah H' s' fQ c oI hr J pk lg qf hb
  have pS:=J.pin (S,seqObj "list" fQ c) (LU _ (.head _))
  have pI:=J.pin (I,oI) (LU _ (.tail _ (.head _)))
  have Jn:=J.bF.bF
  obtain⟨aq,rv,pl,_⟩:=Jn.list (bq.of (hl ah H' pk))
  have lv:aq.length=xs.length:=rv.length.symm
  have AO:ah.length=aq.length:=by omega
  refine WN (wo mx) ?_
  rw[Wq (jN mx) _]
  show wpAny _ X.A.in1 (seqItems? (.ref S) >>= _) _ _ _
  refine mq (Xo pS.1 rfl ?_)
  show wpAny _ X.A.in1 (tryCatch (pyNext (.ref I)) _ >>= _) _ _ _
  have W:=Yp (prog:=X.prog) (w:=X.w) (A:=X.A.in1) hh I l kN aq.toArray
  refine mq (Xr (W.done _ _ _ ⟨⟨oI,pI.1,lg,by rw[qf,sD,<-AO]⟩,XZ pl⟩ fun h' iS eX => ?_))
  have J1:Inv X pins σ H' { s' with heap:=h',toks:=iS }:=Jn.bV (fI H' pI.2.1) fun c o n e=>eX c o (by simpa using n) e
  have iN:=eX S _ (by simpa using kO) pS.1
  rcases hb with⟨uw,rfl⟩ | ⟨b,x,vb,t,hb,hx,rx,ht,rfl,best⟩
  ·refine mq (Ze (xR ?_))
   refine (fin ah H' _ (by omega) pk J1).1 ?_
   cases xs with
   | nil=>rfl
   | cons _ _=>rw[uw] at hr;simp at hr
  ·have s1:=VF h' S (Obj.mapSeq fun _=>(#[]:Array Value))
   show wpAny _ X.A.in1 (updateSeq S (fun _ => #[]) >>= _) _ _ _
   refine mq (Xz iN rfl (mq (Xt (xR ?_))))
   exact (fin ah H' _ (by omega) pk (J1.bV (fS H' pS.2.1) fun c o n e=>(s1.2 c n).trans e)).2 b x vb hx rx fun j hj=>best j (by omega)
 | succ r ih =>
  intro ah H' s' fQ c oI hr J pk lg qf hb
  have pS:=J.pin (S,seqObj "list" fQ c) (LU _ (.head _))
  have pI:=J.pin (I,oI) (LU _ (.tail _ (.head _)))
  have Jn:=J.bF.bF
  obtain⟨aq,rv,pl,_⟩:=Jn.list (bq.of (hl ah H' pk))
  have lv:aq.length=xs.length:=rv.length.symm
  have d3:ah.length < aq.length:=by omega
  refine WN (wo mx) ?_
  rw[Wq (jN mx) _]
  show wpAny _ X.A.in1 (seqItems? (.ref S) >>= _) _ _ _
  refine mq (Xo pS.1 rfl ?_)
  show wpAny _ X.A.in1 (tryCatch (pyNext (.ref I)) _ >>= _) _ _ _
  have W:=Yp (prog:=X.prog) (w:=X.w) (A:=X.A.in1) hh I l kN aq.toArray
  refine mq (Xr (W.item ah.length _ _ _ (by rw[sD];exact d3) ⟨⟨oI,pI.1,lg,qf⟩,XZ pl⟩ fun v h' iS hv qg eX => ?_))
  have hv:aq[ah.length]? = some v:=by simpa using hv
  obtain⟨jq,m8,kP,jr⟩:=id qg.1
  have hi:ah.length < xs.length:=by omega
  obtain⟨u,e1,rx⟩:=rv.get (oU hi)
  rw[hv] at e1
  cases e1
  have hx:=oU hi
  generalize xs[ah.length]=x at hx rx
  have iN:=eX S _ (by simpa using kO) pS.1
  have nI:∀ z,jq.data ≠ .cell z:=fun z e=>by rw[jr] at e;cases e
  have J1:Inv X pins σ H' { s' with heap:=h',toks:=iS }:=Jn.bV (fI H' pI.2.1) fun c o n e=>eX c o (by simpa using n) e
  have J2:=(J1.cX (fI H' pI.2.1) m8 nI).cX ((fS H' pS.2.1).cons (p:=(I,jq)) kO.symm) iN lM
  show wpAny _ X.A.in1 (tryCatch (holding [v] (call (.ref q) [v])) _ >>= _) _ _ _
  refine mq (Xr (VG (Ww (iw _ x v ah H' _ hx rx J2 pk) (fun kv s2 he => ?_) fun _ _ hF=>hF.elim)))
  obtain⟨kx,H2,J3,rk,jj⟩:=he
  obtain⟨t2,et,jP⟩:=hP _ H2 jj ah.length (by rw[DG];exact W_ _)
  have ek:kx = .ref t2:=by
   rw[Vu (uX _),Wa] at et
   simpa using et
  subst ek
  cases rk
  have qS:=J3.pin (S,seqObj "list" fQ c) (LU _ (.head _))
  have qI:=J3.pin (I,jq) (LU _ (.tail _ (.head _)))
  have Jm:=J3.bF.bF
  have GB:(ah ++ [V.ref t2]).length + r=xs.length:=by rw[DG,VH];omega
  have ux:jq.data = .fields #[.ref l,.int ((ah ++ [V.ref t2]).length:Nat) 0]:=by rw[jr,DG];rfl
  have put:∀ (b:Nat),b < ah.length + 1->b=ah.length->(∀ j,j < ah.length + 1->jo mx (kf b) (kf j))->codeAny (model X.prog X.w) X.A (.builtin (kM mx) ⟨[.ref I,.ref q,.ref S],[(Str.ofString "default",d)]⟩) R { s2 with heap:=s2.heap.update S (Obj.mapSeq fun _ => #[v,.ref t2]) }:=fun b hb eb best=>by
   subst eb
   have s1:=VF s2.heap S (Obj.mapSeq fun _ => #[v,Value.ref t2])
   obtain⟨c2,eK⟩:∃ c2,(s2.heap.update S (Obj.mapSeq fun _ => #[v,Value.ref t2])).get? S=some (seqObj "list" #[v,.ref t2] c2):=⟨_,Xd qS.1 fun _ => #[v,Value.ref t2]⟩
   have J4:Inv X pins σ H2 { s2 with heap:=s2.heap.update S (Obj.mapSeq fun _ => #[v,Value.ref t2]) }:=Jm.bV (t':=s2.toks) (fS H2 qS.2.1) fun c o n e=>(s1.2 c n).trans e
   have J5:=(J4.cX (fI H2 qI.2.1) ((s1.2 I kO.symm).trans qI.1) nI).cX ((fS H2 qS.2.1).cons (p:=(I,jq)) kO.symm) eK lM
   refine ih _ H2 _ _ c2 jq GB J5 jj kP ux (.inr ⟨ah.length,x,v,t2,by rw[DG];exact W_ _,hx,rx,et,rfl,fun j hj=>best j (by rw[DG] at hj;exact hj)⟩)
  rcases hb with⟨uw,rfl⟩ | ⟨b,y,vb,t,hb,hy,ry,ht,rfl,best⟩
  ·show wpAny _ X.A.in1 (updateSeq S (fun _ => #[v,.ref t2]) >>= _) _ _ _
   refine mq (Xz qS.1 rfl ?_)
   rw[cO]
   refine xR ⟨WY (jN mx) _,put ah.length (W_ _) rfl fun j hj => ?_⟩
   rw[uw] at hj ⊢
   have:j=0:=by simp at hj;omega
   subst this
   exact wq _ _
  ·obtain⟨t',GC,QU⟩:=hP _ H2 jj b (by rw[DG];omega)
   rw[Vt hb,ht] at GC
   cases GC
   obtain⟨i1,r1,uy,_⟩:=Jm.tuple (bB.of jP)
   obtain⟨i2,r2,uz,_⟩:=Jm.tuple (bB.of QU)
   show wpAny _ X.A.in1 (tryCatch (holding [v,.ref t2] (richCompare _ (.ref t2) (.ref t) >>= _)) _ >>= _) _ _ _
   refine mq (Xr (VG (mq ?_)))
   refine GA (A:=X.A.in1) (mx:=mx) (ns:=kf ah.length) (ms:=kf b) uy uz (by simpa using intsAre_of r1) (by simpa using intsAre_of r2) hu ?_
   refine mq (VG (Wx ?_))
   refine mq (Xt (xR ?_))
   split
   ·rename_i hq
    refine mq (Xz qS.1 rfl (mq (Xt ?_)))
    rw[cO]
    refine xR ⟨WY (jN mx) _,put ah.length (W_ _) rfl fun j hj => ?_⟩
    by_cases e:j=ah.length
    ·subst e;exact wq _ _
    ·exact Gy hq (best j (by omega))
   ·rename_i hq
    refine mq (Xt ?_)
    rw[cO]
    refine xR ⟨WY (jN mx) _,ih _ H2 _ _ c jq GB J3 jj kP ux (.inr ⟨b,y,vb,t,by rw[DG];omega,hy,ry,by rw[Vt hb];exact ht,rfl,fun j hj => ?_⟩)⟩
    by_cases e:j=ah.length
    ·subst e;exact Gz hq
    ·exact best j (by rw[DG,VH] at hj;omega)
theorem QV (mx:Bool) {Q:Value->Shared->Prop} (kf:Nat->LK) (J:Inv X pins σ H s) (hh:X.A.handled=none) (hu:X.A.units + 1 < cLine) (p0:P [] H)
  (hl:∀ ah H',P ah H'->H' l=some (.lst xs)) (hP:∀ ah H',P ah H'->∀ i,i < ah.length->∃ t,ah[i]? = some (.ref t)/\H' t=some (.tup ((kf i).map V.int)))
  (iw:∀ (bf:List (Addr × Obj)) (x:V) (u:Value) (ah:List V) (H':Hp) (s':Shared),xs[ah.length]? = some x->RelV x u->Inv X bf σ H' s'->P ah H'->wpAny (model X.prog X.w) X.A.in1 (call (.ref q) [u]) (EP X bf σ fun k ie=>P (ah ++ [k]) ie) (fun _ _=>False) s')
  (fin:∀ ah H' s',ah.length=xs.length->P ah H'->Inv X pins σ H' s'->(xs=[]->Q d s')/\∀ (b:Nat) (x:V) (u:Value),xs[b]? = some x->RelV x u->(∀ j,j < xs.length->jo mx (kf b) (kf j))->Q u s') :
  wpAny (model X.prog X.w) X.A (call (.builtin (fG mx)) [.ref l] [(Str.ofString "key",.ref q),(Str.ofString "default",d)]) Q E s:=by
 have cO:(toString (fG mx) ++ toString ".loop" : String)=kM mx:=by cases mx<;>decide
 obtain⟨aq,rv,pl,_⟩:=J.list (bq.of (hl _ _ p0))
 have qJ:=PlainL.lt pl
 refine kmk_tree (Gw mx) (Gx mx) (Gv mx) (QR _ _ _ _) ?_
 show wpAny _ X.A.in1 (Builtin.Builtins.bindParams (fG mx) ["key", "default"] 0 ⟨[],[(Str.ofString "key",.ref q),(Str.ofString "default",d)]⟩ >>= _) _ _ s
 refine mq (wpAny_of_eq (show Builtin.Builtins.bindParams (fG mx) ["key", "default"] 0 ⟨[],[(Str.ofString "key",.ref q),(Str.ofString "default",d)]⟩=pure [some (.ref q),some d] from rfl) ?_)
 refine mq (xR ?_)
 refine mq (Xg (XZ pl) ?_)
 refine mq (XY ?_ (V6 _))
 rw[cO]
 refine xR ⟨WY (jN mx) _,?_⟩
 have J1:Inv X pins σ H { s with heap:=s.heap.push { cls := .type "list_iterator",data := .fields #[.ref l,.int 0 0] } }:=J.kept (h':=s.heap.push { cls := .type "list_iterator",data := .fields #[.ref l,.int 0 0] }) (t':=s.toks) fun b u e=>qt _ e
 have gI:(s.heap.push { cls := .type "list_iterator",data := .fields #[.ref l,.int 0 0] }).get? s.heap.objs.size=some { cls := .type "list_iterator",data := .fields #[.ref l,.int 0 0] }:=Vq _ rfl
 have hS:(s.heap.push { cls := .type "list_iterator",data := .fields #[.ref l,.int 0 0] }).objs.size≠s.heap.objs.size:=fun z=>WC _ (Nat.lt_of_lt_of_eq (UL gI) z)
 have fI:∀ H',H' s.heap.objs.size=none->a9 X pins H' s.heap.objs.size:=fun H' e=>J.eu (uX _) e
 have uA:H s.heap.objs.size=none:=J.aN.fresh (uX _)
 have kN:l≠s.heap.objs.size:=Vx qJ
 generalize s.heap.objs.size=I at gI hS fI uA kN
 generalize s.heap.push { cls := .type "list_iterator",data := .fields #[.ref l,.int 0 0] }=g1 at J1 gI hS
 have fS:∀ H',H' g1.objs.size=none->a9 X pins H' g1.objs.size:=fun H' e=>J1.eu (uX _) e
 have AQ:H g1.objs.size=none:=J1.aN.fresh (uX _)
 have J2:Inv X pins σ H { s with heap:=g1.push (seqObj "list" #[] 0) }:=J1.kept (h':=g1.push (seqObj "list" #[] 0)) (t':=s.toks) fun b u e=>qt _ e
 have J3:=(J2.cX (fI H uA) (qt _ gI) (fun z e=>by cases e)).cX ((fS H AQ).cons (p:=(I,_)) hS.symm) (Vq _ rfl) lM
 exact QT mx kf hh hu kN hS fI fS hl hP iw fin xs.length [] H _ #[] 0 _ (by simp) J3 p0 rfl rfl (.inl ⟨rfl,rfl⟩)
end
variable [aM]
noncomputable def m9 (mx:Bool) (cp:List (Option Nat)) (fb:WE) (δ : aF) (ds:List D) (K:D->Prop):Prop :=
 ∃ key:D->LK,FZ cp fb δ ds key/\(ds=[]->K .non)/\∀ d∈ds,(∀ e∈ds,jo mx (key d) (key e))->K d
noncomputable def kQ (mx:Bool) (cp:List (Option Nat)) (fb:WE) (x:DV) (δ : aF) (K:D->Prop):Prop:=∃ ds,x = .p (.lst ds)/\m9 mx cp fb δ ds K
theorem QW {mx:Bool} {cp:List (Option Nat)} {fb:WE} {x:DV} {δ : aF} {K:D->Prop} (h:kQ mx cp fb x δ K):∃ ds,x = .p (.lst ds)/\m9 mx cp fb δ ds K:=h
noncomputable def uB (mx:Bool) (f:WE) (cp:List (Option Nat)) (fb:WE):WE:=fun δ K=>f δ fun x δ1=>kQ mx cp fb x δ1 fun d=>K (.p d) δ1
noncomputable def wt (mx:Bool):Str:=Str.ofString (fG mx)
section
variable {X:Cx} {params:Arguments} {body:Expr} {scope:Scope} {cF:Pos} {x:Str} {Nb:List Str} {cp:List (Option Nat)} {fb:WE} {T:Addr}
theorem QX {mx:Bool} {pins:List (Addr × Obj)} {σ : St} {H:Hp} {s:Shared} {E:Value->Shared->Prop} {l:Addr} {F:Hp} {ad:List Addr} {δ : aF} {ds:List D} {xs:List V} {eV kR pos j p2} {Q:VK} (L:d9 X params body scope cF T x Nb cp fb) (hu:X.A.units + 64 < cLine)
  (I:Inv X pins σ H s) (S:SR F ad δ σ H) (hl:F l=some (.lst xs)) (hx:ae F ds xs)
  (hs:m9 mx cp fb δ ds fun d=>∀ v F' H',Ext F ad δ.mu H F' ad δ.mu H'->SR F' ad δ σ H'->Is F' d v->Q v H') :
  wpAny (model X.prog X.w) X.A (evalAll ((backToKw pos (keywordEach [⟨some "key",.Lambda params body scope cF,eV⟩,⟨some "default",.Constant .none j p2,kR⟩] X.env)).map (·.2))) (fun ah s₂ => wpAny (model X.prog X.w) X.A (call (.builtin (fG mx)) [.ref l] (((backToKw pos (keywordEach [⟨some "key",.Lambda params body scope cF,eV⟩,⟨some "default",.Constant .none j p2,kR⟩] X.env)).filterMap (·.1)).zip ah)) (EP X pins σ Q) E s₂) E s:=by
 obtain⟨key,hk,K0,K⟩:=hs
 obtain⟨k,kH,J⟩:=L.room
 obtain⟨cc,fO,hC⟩:=L.env.code
 show wpAny _ _ (evalAll [do let v <- eval (.Lambda params body scope cF) X.env;standAt pos;pure v,do let v <- eval (.Constant .none j p2) X.env;standAt pos;pure v]) _ _ _
 refine evalAll_cons (mq ?_)
 have qc:=L.names
 unfold uf at qc
 simp only[VY,Wu,Wz] at qc
 have SC:=x0v L.kind qc.1.1.1
 obtain⟨cl,ly,mU,qY⟩:=xU (scope:=scope) (env:=X.env) fun y hy e=>I.ok.has y.1 (SC.free y hy e)
 refine FO I (L.tbl.get H S.tab) L.F0 ly fO (hC.keeps I.bk) L.env.ng (I.mod.glob.keeps I.bk) (L.env.blt.keeps I.bk) fun f H1 s1 c I1 t1 k1 FN hf hc => ?_
 refine mq (XA (xR ?_))
 refine evalAll_cons (mq (xR ?_))
 refine mq (XA (xR ?_))
 refine evalAll_nil ?_
 show wpAny _ _ (call (.builtin (fG mx)) [.ref l] [(Str.ofString "key",.ref f),(Str.ofString "default",.none)]) _ _ _
 have kT:∀ b o,H b=some o->b∉aM.ad->H1 b=some o:=fun b o e t=>k1 b o e fun z=>t (by rw[z];exact L.tbl.mem)
 have iR:=L.tbl.put H H1 S.tab t1 k1
 have S1:=S.ui kT iR
 have E1:=Ext.ui S kT iR
 have lx:=hx.length
 have r1:bg (k + 2) X.A.in1:=bg.in1 (k:=k + 2) kH
 have gd:∀ {i:Nat} {d:D},ds[i]? = some d->ds.getD i .non=d:=fun {i d} e=>by rw[DD,e];rfl
 refine QV mx (l:=l) (xs:=xs) (d := .none) (fun i=>key (ds.getD i .non)) (P:=fun ah H'=>∃ F',Ext F ad δ.mu H F' ad δ.mu H'/\SR F' ad δ σ H'/\H' f=some (gP f "<lambda>" (X.env.qual ++ "<lambda>") params body scope cl ((X.mg "__name__").getD .none) (.ref c))/\H' c=some (kF c (X.env.qual ++ "<lambda>"))/\ah.length <= ds.length/\∀ (i:Nat) (d:D) (kv:V),ds[i]? = some d->ah[i]? = some kv->Is F' (.tup ((key d).map D.int)) kv)
  I1 r1.hd (by omega) ⟨_,E1,S1,hf,hc,V6 _,fun i d kv _ e=>by simp at e⟩ (fun ah H' ⟨F',E',S',_⟩=>S'.sub _ _ (E'.same _ _ hl)) (fun ah H' ⟨F',E',S',nZ,gz,hle,n6⟩ i hi => ?_) (fun bf v u ah H' s' hv rv I' ⟨F',E',S',nZ,gz,hle,n6⟩ => ?_) fun ah H' s' iK ⟨F',E',S',nZ,gz,hle,n6⟩ I'=>⟨fun h0 => ?_,fun b y u hy ry best => ?_⟩
 ·have hd:=oU (show i < ds.length by omega)
  have is:=n6 i _ _ hd (oU hi)
  simp only[Is] at is
  obtain⟨t,us,e1,e2,e3⟩:=is
  refine⟨t,by rw[oU hi,e1],?_⟩
  rw[gd hd,<-lG e3];exact S'.sub _ _ e2
 ·have hi:ah.length < ds.length:=by rw[<-lx];exact (oW.mp hv).1
  have hd:=oU hi
  have Ad:Is F' ds[ah.length] v:=ae.at (hx.same E'.same) hd hv
  obtain⟨PX,Ae⟩:=hk _ (WK hi)
  refine FR I' nZ gz (by rw[show X.A.in1.frames=X.A.frames from rfl];exact I'.ok.frames) r1.hd (bg.depth (r1.mono (by omega:k + 1 <= k + 2))) L.kind L.names L.co L.gen mU qY (fun ct=>L.bind cl _ _ ct u) rv (J ⟨X.A.in1,cl,f,.ref c,s',H'⟩ ((r1.mono (by omega:k + 1 <= k + 2)).deeper _)) ?_
  refine⟨F',ad,_,_,(S'.pF (cp:=cp)).nY Ad,Ae,fun y δ' ⟨ey,em⟩ w F2 bK H2 E2 S2 V2 => ?_⟩
  subst ey
  have ea:bK=ad:=by
   have l2:bK.length=ad.length:=by rw[S2.cb,em,S'.cb]
   refine Xe fun i => ?_
   by_cases hi:i < ad.length
   ·rw[oU hi];exact E2.pre i _ (oU hi)
   ·rw[VN (by omega),VN (by omega)]
  subst ea
  obtain⟨w_,cH⟩ := δ'
  have em:cH = δ.mu:=em
  subst em
  refine⟨F2,E'.trans E2,SR.back S' E2 S2,E2.iO S' nZ (fun _ z=>by cases z) (fun _ z=>by cases z) (fun _ z=>by cases z),E2.iO S' gz (fun _ z=>by cases z) (fun _ z=>by cases z) (fun _ z=>by cases z),by rw[DG,VH];exact hi,fun i d kv e1 e2 => ?_⟩
  by_cases mP:i < ah.length
  ·rw[Vt mP] at e2
   exact Is.same E2.same (n6 i d kv e1 e2)
  ·have:i=ah.length:=by
    have:=(oW.mp e2).1
    rw[DG,VH] at this
    omega
   subst this
   rw[Vu (uX _),Wa] at e2
   cases (show some w=some kv from e2)
   rw[hd] at e1;cases e1
   exact V2
 ·have QY:ds=[]:=Wd.mp (by rw[<-lx,h0];rfl)
  exact⟨.non,H',I',rfl,K0 QY _ F' H' E' S' (by simp only[Is])⟩
 ·have hb:b < ds.length:=by rw[<-lx];exact (oW.mp hy).1
  have hd:=oU hb
  refine⟨y,H',I',ry,K ds[b] (WK hb) (fun e he => ?_) _ F' H' E' S' (ae.at (hx.same E'.same) hd hy)⟩
  obtain⟨j,hj,rfl⟩:=List.mem_iff_getElem.mp he
  have:=best j (by omega)
  rw[gd hd,gd (oU hj)] at this
  exact this
variable {e:Expr} {f:WE} {p1 q1 eV kR:Pos}
theorem GF {j p2} (mx:Bool) (L:d9 X params body scope cF T x Nb cp fb) (hu:X.A.units + 64 < cLine) (uj:Gl X (wt mx)) (hs:X.mg (wt mx)=none) (uk:bootBuiltins (wt mx)=some (.builtin (fG mx))) (ha:JA X [e] (bX (ai f af)))
  (he:starEach [e] X.env=[(false,eval e X.env)]:=by rfl):JE X (.Call (.Name (wt mx) p1) [e] [⟨some "key",.Lambda params body scope cF,eV⟩,⟨some "default",.Constant .none j p2,kR⟩] q1) (tD (uB mx f cp fb)) :=
 ⟨fun pins s σ H Q I h0_ => el7 h0_ fun F ad δ K S q k =>by
  refine Xv (lU I uj hs uk ?_ (hn:=by cases mx<;>decide) (hd:=by cases mx<;>decide))
  refine callWith_kw ?_ (he:=by rw[he];rfl) (hplain:=by rw[he];rfl)
  refine aZ (ha.out q1 pins s σ H (fun vs H1=>∃ (l:Addr) (F1:Hp) (aO:List Addr) (δ1:aF) (ds:List D) (us:List V),vs=[.ref l]/\F1 l=some (.lst us)/\ae F1 ds us/\Ext F ad δ.mu H F1 aO δ1.mu H1/\SR F1 aO δ1 σ H1/\m9 mx cp fb δ1 ds fun d=>K (.p d) δ1) I ?_) fun us s1 Ah => ?_
  ·refine⟨F,ad,δ,fun xs δ1=>match xs with
    | [x]=>kQ mx cp fb x δ1 fun d=>K (.p d) δ1
    | _=>False,S,q,fun xs δ1 h1 vs F1 aO H1 E1 S1 V1 => ?_⟩
   cases xs with
   | nil=>exact h1.elim
   | cons x xs =>
    cases xs with
    | cons _ _=>exact h1.elim
    | nil =>
     obtain⟨v,r,rfl,W1,W2⟩:=V1
     have W2:r=[]:=W2
     subst W2
     obtain⟨ds,rfl,h2⟩:=QW h1
     have W1:Is F1 (.lst ds) v:=W1
     simp only[Is] at W1
     obtain⟨a,us,rfl,g1,g2⟩:=W1
     exact⟨a,F1,aO,δ1,ds,us,rfl,g1,g2,E1,S1,h2⟩
  ·obtain⟨vs,H1,I1,r1,l,F1,aO,δ1,ds,ws,ev,hl,hi,E1,S1,wc⟩:=Ah
   subst ev
   obtain⟨u,rfl,rx⟩:=vals1 r1
   cases rx
   refine QX L hu I1 S1 hl hi ?_
   obtain⟨key,hk,K0,hK⟩:=wc
   exact⟨key,hk,fun h0 v F' H' E' S' is=>k _ _ (K0 h0) _ _ _ _ (E1.trans E') S' is,fun d hd hb v F' H' E' S' is=>k _ _ (hK d hd hb) _ _ _ _ (E1.trans E') S' is⟩⟩
end
end L2
namespace LJ
open PySem L2
variable [aM]
noncomputable def uC:D->D
 | .tup [.int i,_] => .int i
 | _ => .non
noncomputable def uD (p:Int->Bool):D->Bool
 | .tup [.int i,_]=>p i
 | _=>false
theorem AR (p:Int->Bool):∀ (ds:List D) (i:Nat),((lD i ds).filter (uD p)).map uC=((List.range' i ds.length).filter fun k:Nat=>p k).map fun k:Nat=>D.int k
 | [],_=>rfl
 | d :: r,i=>by
  have ih:=AR p r (i + 1)
  show (((D.tup [.int i,d]) :: lD (i + 1) r).filter _).map _=_
  rw[DE,List.range'_succ,List.filter_cons,List.filter_cons]
  show (if p i=true then _ else _:List D).map _=_
  cases q:p i with
  | true=>simp only[Yi,Vy,ih];rfl
  | false=>simp only[VW,Xf,ih]
noncomputable def fR (l:List Int) (y:Wy):Bool:=decide (y.1∈l) != decide (y.2.1∈l)
noncomputable def iP (ws:List Wy) (l:List Int):List Int:=(aL ws.length).filter fun n=>fR l (ax ws n)
noncomputable def AS:GD:=fun ys aj K=>∃ (y:Wy) (l:List Int),ys=[.p (bE y),.p (aS l)]/\aj=[]/\K (.p (.bl (fR l y))) []
noncomputable def AU:WS:=(aG (d2 (d2 (d2 (aa 0) (dC (.int 0)) aP) (aa 1) (fA false)) (d2 (d2 (aa 0) (dC (.int 1)) aP) (aa 1) (fA false)) je))
theorem QZ:∀ ys aj K',ys.length=2->AS ys aj K'->AU (bG aj.length K') ⟨ys.map some ++ List.replicate 0 none,aj.map some⟩:=by
 rintro ys aj K' - ⟨y,l,rfl,rfl,k⟩
 unfold AU
 simp? only [bE,aS,dG,dH]
 have d0:=jM l
 refine⟨by omega,by omega,?_⟩
 rw[jn,jn]
 unfold fR at k
 generalize decide (y.1∈l)=p at k
 generalize decide (y.2.1∈l)=q at k
 cases p<;>cases q<;>exact a7 k
noncomputable def AV:GD:=fun ys aj K=>∃ (m:Int) (ws:List Wy) (l:List Int),aC m ws/\ys=[.p (aE m ws),.p (aS l)]/\aj=[]/\K (.p (aS (iP ws l))) []
noncomputable def AW:WS:=(aG (c8 (kr (ai (d2 (aa 0) (dC (.int 1)) aP) af)) [none,none,some 1] (i_ 2 (eF (bo 0) (eF (bo 1) iJ))) (dT (au 2 AS (ai (aa 1) (ai (aa 2) af)))) (aa 0)))
theorem Q0:∀ ys aj K',ys.length=2->AV ys aj K'->AW (bG aj.length K') ⟨ys.map some ++ List.replicate 0 none,aj.map some⟩:=by
 rintro ys aj K' - ⟨m,ws,l,W,rfl,rfl,k⟩
 have jK:=W.fH
 unfold AW
 simp? only [aE,dH]
 refine jg (uD fun i=>fR l (ax ws i)) uC (by rw[qK,oV];omega) trivial ?_ ?_
 ·intro d hd acc L' ha h1 h2
  obtain⟨z,hz⟩:=UM.mp hd
  obtain⟨e,z1,z2⟩:=qL hz
  rw[LR] at z1
  obtain⟨y,z3,rfl⟩:=UP.mp z1
  rw[VZ] at z2
  subst z2
  have ew:ax ws (z:Int)=y:=by unfold ax;rw[LW,DD,z3];rfl
  simp only[uD,uC] at h1 h2
  rw[ew] at h1 h2
  simp? only []
  refine⟨y,l,rfl,rfl,?_⟩
  simp? only []
  cases q:fR l y with
  | true=>simp? only [];exact⟨ha,h1 q⟩
  | false=>simp? only [];exact h2 q
 ·have e:=AR (fun i=>fR l (ax ws i)) (ws.map bE) 0
  have e2:(iP ws l).map D.int=((List.range' 0 (ws.map bE).length).filter fun k:Nat=>fR l (ax ws k)).map fun k:Nat=>D.int k:=by
   unfold iP aL
   rw[WH,Vz,oV,<-List.range_eq_range']
   rfl
  rw[<-e2] at e
  rw[e]
  exact a7 k
noncomputable def AX:GD:=fun ys aj K=>∃ (m:Int) (ws:List Wy) (ns:List Int),aC m ws/\Nums ws ns/\ys=[.p (aE m ws),.p (aS ns)]/\aj=[]/\(ns=[]->K (.p .non) [])/\∀ n∈ns,(∀ e∈ns,kle (bw ws n) (bw ws e))->K (.p (.int n)) []
noncomputable def AY:WS:=(aG (uB false (aa 1) [some 0] (au 1 um (ai (d2 (d2 (aa 1) (dC (.int 1)) aP) (aa 0) aP) af))))
theorem Q1:∀ ys aj K',ys.length=2->AX ys aj K'->AY (bG aj.length K') ⟨ys.map some ++ List.replicate 0 none,aj.map some⟩:=by
 rintro ys aj K' - ⟨m,ws,ns,W,hn,rfl,rfl,k0,k⟩
 unfold AY
 simp? only [uB,kQ,aE,aS]
 refine⟨ns.map D.int,rfl,fun d=>match d with
  | .int n=>bw ws n
  | _=>[],fun d hd => ?_,fun h0 => ?_,fun d hd best => ?_⟩
 ·obtain⟨n,h,rfl⟩:=My.mp hd
  obtain⟨n0,n1⟩:=hn n h
  obtain⟨y,ey,hy,ea,_⟩:=ji W n0 n1
  refine⟨(by intro z;cases z),?_⟩
  simp? only [dH,ea]
  refine⟨y,rfl,rfl,?_⟩
  simp? only []
  unfold bw
  rw[ey]
  rfl
 ·exact a7 (k0 (XT.mp h0))
 ·obtain⟨n,h,rfl⟩:=My.mp hd
  exact a7 (k n h fun e he=>best _ (My.mpr ⟨e,he,rfl⟩))
theorem Q2 {ws:List Wy} {l:List Int}:Nums ws (iP ws l):=fun n h=>p8 (VR.mp h).1
theorem Q3 {ws:List Wy} {l:List Int}:(iP ws l).length <= ws.length:=by
 unfold iP
 have:=Ym (fun n=>fR l (ax ws n)) (aL ws.length)
 rw[rh] at this
 exact this
theorem AZ {ws:List Wy} {us:List Int} (hu:Nums ws us) (nd:us.Nodup):us.length <= ws.length:=by
 have h:us.Subset (aL ws.length):=fun n h=>by
  have:=hu n h
  exact b9.mpr this
 have:=Xs nd h
 rw[rh] at this
 exact this
end LJ
namespace L2
open PySem PySem.Spec PyProof.Rows PySem.W
section
variable {X:Cx}
end
variable [aM] {X:Cx}
end L2
namespace LJ
open PySem L2
variable [aM]
noncomputable def Indep (A:Wy->Prop):Prop:=∀ a,A a->¬ ay (fun v=>A v/\v≠a) a.1 a.2.1
omit [aM] in
theorem Indep.add {A B:Wy->Prop} {w:Wy} (h:Indep A) (k:∀ v,B v↔A v\/v=w) (n:¬ ay A w.1 w.2.1):Indep B:=by
 intro a ha c
 rcases (k a).mp ha with ha | rfl
 ·have aw:a≠w:=fun e=>n (by rw[<-e];exact .one ha)
  have c':ay (fun v=>(A v/\v≠a)\/v=w) a.1 a.2.1:=c.mono fun v hv=>by
   rcases (k v).mp hv.1 with z | z
   ·exact .inl ⟨z,hv.2⟩
   ·exact .inr z
  have m:∀ {x y:Int},ay (fun v=>A v/\v≠a) x y->ay A x y:=fun z=>z.mono fun v hv=>hv.1
  rcases (ay.add fun v=>ZT).mp c' with z | ⟨z1,z2⟩ | ⟨z1,z2⟩
  ·exact h a ha z
  ·exact n (((m z1).symm.trans (.one ha)).trans (m z2).symm)
  ·exact n (((m z2).trans (ay.one ha).symm).trans (m z1))
 ·exact n (c.mono fun v hv=>by
   rcases (k v).mp hv.1 with z | z
   ·exact z
   ·exact absurd z hv.2)
theorem qh {m:Int} {ws:List Wy} (W:aC m ws) {u v:Wy} (hu:u∈ws) (hv:v∈ws) (ne:u≠v):eO u v\/eO v u:=by
 by_cases c:eO u v
 ·exact .inl c
 ·refine .inr ?_
  have c:kle (g_ v) (g_ u):=by
   unfold kle
   cases q:HT.lexLt (g_ u) (g_ v) with
   | false=>rfl
   | true=>exact absurd q c
  refine Gn c fun e=>ne ?_
  obtain⟨a1,a2,a3⟩:=u
  obtain⟨b1,b2,b3⟩:=v
  unfold g_ at e
  simp only[Zp,and_true] at e
  obtain⟨e1,e2,e3⟩:=e
  subst e1 e2 e3
  rfl
theorem A0 {m:Int} {ws:List Wy} (W:aC m ws):Indep (fP ws):=by
 have key:∀ k,Indep fun u=>fP ws u/\fF ws u < k:=by
  intro k
  induction k with
  | zero=>intro a ha;omega
  | succ k ih =>
   by_cases e:∃ w,fP ws w/\fF ws w=k
   ·obtain⟨w,tw,cw⟩:=e
    refine ih.add (w:=w) (fun v => ?_) fun c => ?_
    ·constructor
     ·rintro ⟨tv,cv⟩
      by_cases z:v=w
      ·exact .inr z
      ·refine .inl ⟨tv,?_⟩
       rcases qh W tv.1 tw.1 z with y | y
       ·have:=n8 tv.1 y;omega
       ·have:=n8 tw.1 y;omega
     ·rintro (⟨tv,cv⟩ | rfl)
      ·exact⟨tv,by omega⟩
      ·exact⟨tw,by omega⟩
    ·refine tw.2 (c.mono fun v hv=>⟨hv.1.1,?_⟩)
     by_cases z:v=w
     ·subst z;omega
     ·rcases qh W hv.1.1 tw.1 z with y | y
      ·exact y
      ·have:=n8 tw.1 y;omega
   ·have eq:(fun u=>fP ws u/\fF ws u < k + 1)=fun u=>fP ws u/\fF ws u < k:=funext fun u=>propext ⟨fun ⟨a,b⟩=>⟨a,by
     by_cases z:fF ws u=k
     ·exact absurd ⟨u,a,z⟩ e
     ·omega⟩,fun ⟨a,b⟩=>⟨a,by omega⟩⟩
    rw[eq];exact ih
 have eq:(fun u=>fP ws u/\fF ws u < ws.length + 1)=fP ws:=funext fun u=>propext ⟨fun h=>h.1,fun h=>⟨h,by
  have:=List.countP_le_length (p:=fun v=>HT.lexLt (g_ v) (g_ u)) (l:=ws)
  unfold fF;omega⟩⟩
 have:=key (ws.length + 1)
 rw[eq] at this
 exact this
theorem rj {m:Int} {ws:List Wy} (W:aC m ws) {a b:Int} (ha:0 <= a/\a < (ws.length:Int)) (hb:0 <= b/\b < (ws.length:Int)) (e:ax ws a=ax ws b):a=b:=by
 have nd:=QM W
 unfold ax at e
 have h1:a.toNat < ws.length:=by omega
 have h2:b.toNat < ws.length:=by omega
 rw[DD,DD,oU h1,oU h2] at e
 have:=(Yq (h₀ := h1) (h₁ := h2) nd).mp (by simpa using e)
 omega
theorem b_ {ws:List Wy} {l:List Int} {n:Int}:n∈iP ws l↔(0 <= n/\n < (ws.length:Int))/\fR l (ax ws n)=true:=by
 unfold iP
 rw[VR,b9]
noncomputable def below (ws:List Wy) (g:Wy):Wy->Prop:=fun v=>v∈ws/\eO v g
noncomputable def qi (ws:List Wy) (g:Wy):Wy->Prop:=fun v=>fP ws v/\v≠g
structure bT (ws:List Wy) (g:Wy) (a b:Int):Prop where
 mem:g∈ws
 up:ay (fun v=>below ws g v\/v=g) a b
 dn:¬ ay (below ws g) a b
theorem A2 {v:Wy} (h:eO v v):False:=by
 unfold eO at h
 rw[pU] at h
 cases h
theorem A3 {u v w:Wy} (h:eO u v) (h':eO v w):eO u w:=qR h h'
theorem Q4 {u v:Wy} (h:eO u v) (h':eO v u):False:=A2 (A3 h h')
theorem GG {m:Int} {ws:List Wy} (W:aC m ws) {u v:Wy} (hu:u∈ws) (hv:v∈ws):eO u v↔fF ws u < fF ws v:=by
 refine⟨n8 hu,fun h => ?_⟩
 by_cases e:u=v
 ·subst e;omega
 ·rcases qh W hu hv e with z | z
  ·exact z
  ·have:=n8 hv z;omega
theorem Q5 {m:Int} {ws:List Wy} (W:aC m ws) {u v:Wy} (hu:u∈ws) (hv:v∈ws) (h:fF ws u=fF ws v):u=v:=by
 by_cases e:u=v
 ·exact e
 ·rcases qh W hu hv e with z | z
  ·have:=n8 hu z;omega
  ·have:=n8 hv z;omega
theorem GH {m:Int} {ws:List Wy} (W:aC m ws) {a b:Int} (ne:a≠b):∀ k,ay (fun v=>v∈ws/\fF ws v < k) a b->∃ g,bT ws g a b
 | 0,c=>absurd (c.none fun v hv=>by omega) ne
 | k + 1,c=>by
  by_cases d:ay (fun v=>v∈ws/\fF ws v < k) a b
  ·exact GH W ne k d
  ·by_cases e:∃ w,w∈ws/\fF ws w=k
   ·obtain⟨w,hw,cw⟩:=e
    refine⟨w,hw,c.mono fun v hv => ?_,fun z=>d (z.mono fun v hv=>⟨hv.1,by have:=(GG W hv.1 hw).mp hv.2;omega⟩)⟩
    by_cases q:fF ws v < k
    ·exact .inl ⟨hv.1,(GG W hv.1 hw).mpr (by omega)⟩
    ·exact .inr (Q5 W hv.1 hw (by omega))
   ·exact absurd (c.mono fun v hv=>⟨hv.1,by
     by_cases q:fF ws v=k
     ·exact absurd ⟨v,hv.1,q⟩ e
     ·omega⟩) d
theorem Q6 (ws:List Wy) (w:Wy):fF ws w < ws.length + 1:=by
 have:=List.countP_le_length (p:=fun v=>HT.lexLt (g_ v) (g_ w)) (l:=ws)
 unfold fF;omega
theorem wu {m:Int} {ws:List Wy} (W:aC m ws) {a b:Int} (ne:a≠b) (c:ay (fun v=>v∈ws) a b):∃ g,bT ws g a b :=
 GH W ne (ws.length + 1) (c.mono fun v hv=>⟨hv,Q6 ws v⟩)
theorem bT.all {ws:List Wy} {g:Wy} {a b:Int} (h:bT ws g a b):ay (fun v=>v∈ws) a b:=h.up.mono fun v hv=>hv.elim (fun z=>z.1) fun z=>z ▸ h.mem
theorem bT.n9 {ws:List Wy} {g:Wy} {a b:Int} (h:bT ws g a b):(ay (below ws g) a g.1/\ay (below ws g) g.2.1 b)\/(ay (below ws g) a g.2.1/\ay (below ws g) g.1 b):=by
 rcases (ay.add fun v=>ZT).mp h.up with z | z
 ·exact absurd z h.dn
 ·exact z
theorem bT.tree {ws:List Wy} {g:Wy} {a b:Int} (h:bT ws g a b):fP ws g:=by
 refine⟨h.mem,fun c=>h.dn ?_⟩
 rcases h.n9 with⟨p,q⟩ | ⟨p,q⟩
 ·exact (p.trans c).trans q
 ·exact (p.trans c.symm).trans q
theorem GI {ws:List Wy} {g:Wy} {a b:Int} (h:ay (below ws g) a b):ay (fun v=>fP ws v/\eO v g) a b :=
 h.bind fun u hu=>(AL _ u hu.1 (uX _)).mono fun x hx=>⟨hx.1,hx.2.elim (fun z=>A3 z hu.2) fun z=>z ▸ hu.2⟩
theorem wx {ws:List Wy} {g:Wy} {a b:Int} (h:ay (below ws g) a b):ay (qi ws g) a b :=
 (GI h).mono fun v hv=>⟨hv.1,fun e=>A2 (e ▸ hv.2)⟩
theorem Q7 {ws:List Wy} {a b:Int} (h:ay (fun v=>v∈ws) a b):ay (fP ws) a b :=
 h.bind fun u hu=>(AL _ u hu (uX _)).mono fun x hx=>hx.1
theorem bT.parts {m:Int} {ws:List Wy} (W:aC m ws) {g:Wy} {a b:Int} (h:bT ws g a b):¬ ay (qi ws g) a b:=fun c=>by
 refine A0 W g h.tree ?_
 rcases h.n9 with⟨p,q⟩ | ⟨p,q⟩
 ·exact ((wx p).symm.trans c).trans (wx q).symm
 ·exact ((wx q).trans c.symm).trans (wx p)
theorem bT.top {m:Int} {ws:List Wy} (W:aC m ws) {g t:Wy} {a b:Int} (h:bT ws g a b) (ht:fP ws t) (p:¬ ay (qi ws t) a b):eO t g\/t=g:=by
 by_cases e:t=g
 ·exact .inr e
 ·rcases qh W ht.1 h.mem e with z | z
  ·exact .inl z
  ·refine absurd (h.up.bind fun u hu => ?_) p
   rcases hu with hu | rfl
   ·exact (ay.mono (GI (ay.one hu))) fun v hv=>⟨hv.1,fun e=>by subst e;exact Q4 hv.2 z⟩
   ·exact .one ⟨h.tree,fun x=>e x.symm⟩
noncomputable def A4:GD:=fun ys aj K=>∃ (m:Int) (ws:List Wy) (ns:List Int),aC m ws/\Nums ws ns/\ys=[.p (aE m ws),.p (aS ns)]/\aj=[]/\(ns=[]->K (.p .non) [])/\∀ n∈ns,(∀ e∈ns,kle (bw ws e) (bw ws n))->K (.p (.int n)) []
noncomputable def A5:WS:=(aG (uB true (aa 1) [some 0] (au 1 um (ai (d2 (d2 (aa 1) (dC (.int 1)) aP) (aa 0) aP) af))))
theorem Q8:∀ ys aj K',ys.length=2->A4 ys aj K'->A5 (bG aj.length K') ⟨ys.map some ++ List.replicate 0 none,aj.map some⟩:=by
 rintro ys aj K' - ⟨m,ws,ns,W,hn,rfl,rfl,k0,k⟩
 unfold A5
 simp? only [uB,kQ,aE,aS]
 refine⟨ns.map D.int,rfl,fun d=>match d with
  | .int n=>bw ws n
  | _=>[],fun d hd => ?_,fun h0 => ?_,fun d hd best => ?_⟩
 ·obtain⟨n,h,rfl⟩:=My.mp hd
  obtain⟨n0,n1⟩:=hn n h
  obtain⟨y,ey,hy,ea,_⟩:=ji W n0 n1
  refine⟨(by intro z;cases z),?_⟩
  simp? only [dH,ea]
  refine⟨y,rfl,rfl,?_⟩
  simp? only []
  unfold bw
  rw[ey]
  rfl
 ·exact a7 (k0 (XT.mp h0))
 ·obtain⟨n,h,rfl⟩:=My.mp hd
  exact a7 (k n h fun e he=>best _ (My.mpr ⟨e,he,rfl⟩))
noncomputable def lN (us:List Int) (g:Int):List Int:=us.filter fun n=>decide (n≠g)
open Classical in
noncomputable def qj (ws:List Wy) (us:List Int) (g one other:Int):Bool := !decide (ay (dF ws (lN us g)) one other)
noncomputable def n_ (ws:List Wy) (us:List Int) (one other:Int):List Int:=us.filter fun n=>qj ws us n one other
noncomputable def A6:GD:=fun ys aj K=>∃ (m:Int) (ws:List Wy) (us:List Int) (g:Int) (i j:Nat),aC m ws/\Nums ws us/\us.length <= 900/\i < m.toNat/\j < m.toNat/\ys=[.p (aE m ws),.p (aS us),.p (.int g),.p (.int i),.p (.int j)]/\aj=[]/\K (.p (.bl (qj ws us g i j))) []
noncomputable def A7:WS:=(av (aD 5 (au 2 qV (ai (aa 0) (ai (c8 (bA (aa 1)) [none,some 2] (bo 0) (dT (d2 (aa 0) (aa 1) je)) (aa 0)) af)))) (aG (d2 (d2 (aa 5) (aa 3) aP) (d2 (aa 5) (aa 4) aP) je)))
open Classical in
theorem Q9:∀ ys aj K',ys.length=5->A6 ys aj K'->A7 (bG aj.length K') ⟨ys.map some ++ List.replicate 1 none,aj.map some⟩:=by
 rintro ys aj K' - ⟨m,ws,us,g,i,j,W,hu,ul,hi,hj,rfl,rfl,k⟩
 unfold A7
 refine aU fun N hN => ?_
 rw[show aS us = .lst (us.map D.int) from rfl]
 simp? only []
 refine L2.jg (fun d=>match d with
  | .int n=>decide (n≠g)
  | _=>false) id (by rw[oV];omega) trivial ?_ ?_
 ·intro d hd acc L' ha h1 h2
  obtain⟨n,lP,rfl⟩:=My.mp hd
  dsimp only at h1 h2
  simp? only []
  rw[g9]
  by_cases c:n=g
  ·rw[LV c]
   simp? only []
   exact h2 (DF fun z=>z c)
  ·rw[DF c]
   simp? only []
   exact⟨ha,h1 (LV c)⟩
 have e:((us.map D.int).filter fun d=>match d with
  | .int n=>decide (n≠g)
  | _=>false).map id=(lN us g).map D.int:=by
  rw[WR,WH];rfl
 rw[e]
 have su:Nums ws (lN us g):=fun n h=>hu n (VR.mp h).1
 simp? only []
 refine⟨m,ws,lN us g,W,su,.inl ⟨rfl,rfl,?_⟩⟩
 have mo:=AM W su
 unfold qj at k
 generalize nV m ws (lN us g)=fs at mo
 have a1:=ir (ns:=fs) (i:=i) (by rw[mo.1];exact hi)
 have a2:=ir (ns:=fs) (i:=j) (by rw[mo.1];exact hj)
 simp? only []
 subst hN
 simp? only [aS,a1,a2]
 rw[g9]
 have:decide (fs.getD i 0=fs.getD j 0)=@decide (ay (dF ws (lN us g)) i j) (Classical.propDecidable _):=by
  by_cases c:fs.getD i 0=fs.getD j 0
  ·rw[LV c,LV ((mo.2 i j hi hj).mp c)]
  ·rw[DF c,DF fun z=>c ((mo.2 i j hi hj).mpr z)]
 rw[this]
 exact a7 k
end LJ
namespace L2
open PySem PySem.Spec PyProof.Rows PySem.W
section
variable {X:Cx} {pins:List (Addr × Obj)} {σ : St} {H:Hp} {s:Shared} {E:Value->Shared->Prop} {l I S:Addr} {ts:List Addr} {d:Value} {R:Result->Shared->Prop}
end
variable [aM]
noncomputable def tupI (k:LK):D := .tup (k.map D.int)
theorem GJ {F:Hp}:∀ {ks:List LK} {us:List V},ae F (ks.map tupI) us->∃ ts:List Addr,us=ts.map V.ref/\ts.length=ks.length/\∀ (i:Nat) (t:Addr),ts[i]? = some t->F t=some (.tup ((ks.getD i []).map V.int))
 | [],us,h=>by
  have:=h.length
  exact⟨[],Wd.mp this,rfl,fun i t e=>by simp at e⟩
 | k :: ks,us,h=>by
  cases us with
  | nil=>have:=h.length;cases this
  | cons u us =>
   have h1:Is F (tupI k) u:=ae.at h (i:=0) rfl rfl
   have h2:ae F (ks.map tupI) us:=vA 1 h
   obtain⟨ts,rfl,e1,e2⟩:=GJ h2
   unfold tupI at h1
   simp only[Is] at h1
   obtain⟨t,ws,rfl,g1,g2⟩:=h1
   rw[lG g2] at g1
   refine⟨t :: ts,rfl,by rw[DE,DE,e1],fun i t' e => ?_⟩
   cases i with
   | zero=>cases (show some t=some t' from e);exact g1
   | succ i=>exact e2 i t' e
section
variable {X:Cx} {e:Expr} {f:WE} {p1 q1 kR:Pos}
end
end L2
namespace LJ
open PySem L2
variable [aM]
structure bQ (ws:List Wy) (fo:List Int):Prop where
 nd:fo.Nodup
 mem:∀ n,n∈fo↔(0 <= n/\n < (ws.length:Int))/\fP ws (ax ws n)
theorem wy {m:Int} {ws:List Wy} (W:aC m ws) {os:List Int} (ho:bt ws os):bQ ws (jL m ws os):=⟨QL ho,fun n=>QJ W ho⟩
theorem bQ.nums {ws:List Wy} {fo:List Int} (F:bQ ws fo):Nums ws fo:=fun n h=>((F.mem n).mp h).1
theorem bQ.len {ws:List Wy} {fo:List Int} (F:bQ ws fo):fo.length <= ws.length:=AZ F.nums F.nd
theorem GK {S S':Wy->Prop} {a b:Int} (h:∀ v,S v↔S' v):ay S a b↔ay S' a b:=⟨fun c=>c.mono fun v hv=>(h v).mp hv,fun c=>c.mono fun v hv=>(h v).mpr hv⟩
theorem bQ.kU {ws:List Wy} {fo:List Int} (F:bQ ws fo) (v:Wy):dF ws fo v↔fP ws v :=
 ⟨by rintro ⟨k,hk,rfl⟩;exact ((F.mem k).mp hk).2,fun h=>by obtain⟨n,hn,rfl⟩:=mY h.1;exact⟨n,(F.mem n).mpr ⟨hn,h⟩,rfl⟩⟩
theorem bQ.conn {ws:List Wy} {fo:List Int} (F:bQ ws fo) {a b:Int}:ay (dF ws fo) a b↔ay (fun v=>v∈ws) a b :=
 (GK F.kU).trans ⟨fun c=>c.mono fun v hv=>hv.1,Q7⟩
theorem bQ.A8 {m:Int} {ws:List Wy} (W:aC m ws) {fo:List Int} (F:bQ ws fo) {g:Int} (hg:0 <= g/\g < (ws.length:Int)) (v:Wy):dF ws (lN fo g) v↔qi ws (ax ws g) v:=by
 constructor
 ·rintro ⟨k,hk,rfl⟩
  obtain⟨h1,h2⟩:=VR.mp hk
  exact⟨((F.mem k).mp h1).2,fun e=>We h2 (rj W ((F.mem k).mp h1).1 hg e)⟩
 ·rintro ⟨h1,h2⟩
  obtain⟨n,hn,rfl⟩:=mY h1.1
  exact⟨n,VR.mpr ⟨(F.mem n).mpr ⟨hn,h1⟩,LV fun e=>h2 (by rw[e])⟩,rfl⟩
theorem wz {m:Int} {ws:List Wy} (W:aC m ws) {fo:List Int} (F:bQ ws fo) {n a b:Int}:n∈n_ ws fo a b↔((0 <= n/\n < (ws.length:Int))/\fP ws (ax ws n))/\¬ ay (qi ws (ax ws n)) a b:=by
 unfold n_
 rw[VR,F.mem]
 refine and_congr_right fun h => ?_
 unfold qj
 rw[XG,decide_eq_false_iff_not,GK (F.A8 W h.1)]
theorem rp {ws:List Wy} {a b:Int} (h:kle (bw ws a) (bw ws b)):¬ eO (ax ws b) (ax ws a):=fun z=>by
 unfold kle at h
 rw[Gm,Gm] at h
 unfold eO at z
 rw[h] at z
 cases z
theorem bT.kW {m:Int} {ws:List Wy} (W:aC m ws) {fo:List Int} (F:bQ ws fo) {n a b:Int} (hn:0 <= n/\n < (ws.length:Int)) (h:bT ws (ax ws n) a b):n∈n_ ws fo a b:=(wz W F).mpr ⟨⟨hn,h.tree⟩,h.parts W⟩
theorem Q_ {m:Int} {ws:List Wy} (W:aC m ws) {fo:List Int} (F:bQ ws fo) {n a b:Int} (ne:a≠b) (c:ay (fun v=>v∈ws) a b) (h:n∈n_ ws fo a b) (best:∀ e∈n_ ws fo a b,kle (bw ws e) (bw ws n)):bT ws (ax ws n) a b:=by
 obtain⟨g,hg⟩:=wu W ne c
 obtain⟨k,hk,rfl⟩:=mY hg.mem
 obtain⟨h1,h2⟩:=(wz W F).mp h
 rcases hg.top W h1.2 h2 with z | z
 ·exact absurd z (rp (best k (hg.kW W F hk)))
 ·rw[z];exact hg
theorem bT.one {m:Int} {ws:List Wy} (W:aC m ws) {g h:Wy} {a b:Int} (p:bT ws g a b) (q:bT ws h a b):g=h:=by
 rcases p.top W q.tree (q.parts W) with y | y
 ·rcases q.top W p.tree (p.parts W) with z | z
  ·exact absurd (A3 y z) fun w=>A2 w
  ·exact z
 ·exact y.symm
noncomputable def iy (many:Int):Int->List Int->Bool
 | _,[]=>true
 | lo,x :: r=>(decide (lo <= x) && decide (x <= many - 1)) && iy many (x + 1) r
noncomputable def A9:GD:=fun ys aj K=>∃ (l:List Int) (m:Int),ys=[.p (aS l),.p (.int m)]/\aj=[]/\K (.p (.bl (iy m 0 l))) []
noncomputable def A_:WS:=(av (bh (cR (dT (d1 (aa 0) (dU "list")))) (aG (dC (.bl false))) cC) (av (aD 2 (dC (.int 0))) (av (c7 (bA (aa 0)) (bo 3) (av (bh (cR (dT (au 3 lL (ai (aa 3) (ai (aa 2) (ai (d2 (aa 1) (dC (.int 1)) (oI fun i j => .int (i - j))) af)))))) (aG (dC (.bl false))) cC) (aD 2 (d2 (aa 3) (dC (.int 1)) bZ)))) (aG (dC (.bl true))))))
theorem Ra:∀ ys aj K',ys.length=2->A9 ys aj K'->A_ (bG aj.length K') ⟨ys.map some ++ List.replicate 2 none,aj.map some⟩:=by
 rintro ys aj K' - ⟨l,m,rfl,rfl,k⟩
 unfold A_
 rw[show aS l = .lst (l.map D.int) from rfl]
 refine aU fun N hN => ?_
 simp? only [fM,c5,Bool.true_or]
 subst hN
 refine aU fun N hN => ?_
 simp? only []
 subst hN
 refine aU fun N hN => ?_
 refine lK fun g' b' K2 hg hb' hK => ?_
 simp? only []
 subst hg hb' hK
 refine kB (fun i δ => ∃ lo:Int,iy m 0 l=iy m lo (l.drop i) /\ δ = ⟨[some (.p (.lst (l.map D.int))),some (.p (.int m)),some (.p (.int lo)),none],[]⟩) ⟨0,rfl,rfl⟩ ?_ ?_
 ·rintro j d δ L hj ⟨lo,e,rfl⟩ hL
  rw[LR] at hj
  obtain⟨x,hx,rfl⟩:=UP.mp hj
  obtain⟨mC,ex⟩:=oW.mp hx
  rw[WW mC,ex,show iy m lo (x :: l.drop (j + 1))=((decide (lo <= x) && decide (x <= m - 1)) && iy m (x + 1) (l.drop (j + 1))) from rfl] at e
  refine⟨trivial,?_⟩
  simp only[bo,VT,VU]
  refine aU fun N2 dA => ?_
  refine gf fun A1 B1 hA hB => ?_
  simp? only []
  refine⟨.int x,lo,m - 1,rfl,rfl,?_⟩
  rw[show pZ (.int x) lo (m - 1)=(decide (lo <= x) && decide (x <= m - 1)) from rfl]
  cases q:(decide (lo <= x) && decide (x <= m - 1)) with
  | true =>
   simp? only []
   subst hB
   show N2 _
   subst dA
   simp? only []
   exact hL _ ⟨x + 1,by rw[e,q];rfl,rfl⟩
  | false =>
   simp? only []
   subst hA
   simp? only []
   rw[e,q] at k
   exact a7 k
 ·rintro δ ⟨lo,e,rfl⟩
  rw[oV,List.drop_length] at e
  refine⟨trivial,?_⟩
  subst hN
  simp? only []
  rw[e] at k
  exact a7 k
noncomputable def Ba:GD:=fun ys aj K=>∃ (m:Int) (ws:List Wy) (us:List Int) (i:Nat),aC m ws/\Nums ws us/\i < m.toNat/\ys=[.p (aE m ws),.p (aS us),.p (.int i)]/\aj=[]/\K (.p (aS (cls m.toNat (dF ws us) i))) []
noncomputable def Bb:WS:=(av (aD 3 (au 2 qV (ai (aa 0) (ai (aa 1) af)))) (aG (c8 (kr (ai (aa 3) af)) [none,none,some 3,some 2] (i_ 2 (eF (bo 0) (eF (bo 1) iJ))) (dT (d2 (aa 1) (d2 (aa 2) (aa 3) aP) oEq)) (aa 0))))
open Classical in
theorem Rb:∀ ys aj K',ys.length=3->Ba ys aj K'->Bb (bG aj.length K') ⟨ys.map some ++ List.replicate 1 none,aj.map some⟩:=by
 rintro ys aj K' - ⟨m,ws,us,i,W,hu,hi,rfl,rfl,k⟩
 have d6:=W.d6
 unfold Bb
 refine aU fun N hN => ?_
 simp? only []
 refine⟨m,ws,us,W,hu,.inl ⟨rfl,rfl,?_⟩⟩
 have mo:=AM W hu
 generalize nV m ws us=fs at mo
 have a1:=ir (ns:=fs) (i:=i) (by rw[mo.1];exact hi)
 rw[show aS fs = .lst (fs.map D.int) from rfl]
 simp? only []
 subst hN
 simp? only []
 refine L2.jg (uD fun x=>decide (ay (dF ws us) i x)) uC (by rw[qK,oV,mo.1];omega) trivial ?_ ?_
 ·intro d hd acc L' ha h1 h2
  obtain⟨z,hz⟩:=UM.mp hd
  obtain⟨e,z1,z2⟩:=qL hz
  rw[LR] at z1
  obtain⟨y,z3,rfl⟩:=UP.mp z1
  rw[VZ] at z2
  subst z2
  have zl:z < m.toNat:=by rw[<-mo.1];exact (oW.mp z3).1
  have ez:fs.getD z 0=y:=by rw[DD,z3];rfl
  simp only[uD,uC] at h1 h2
  simp? only [a1]
  rw[g9]
  by_cases c:ay (dF ws us) i z
  ·rw[LV (show y=fs.getD i 0 by rw[<-ez];exact ((mo.2 i z hi zl).mpr c).symm)]
   simp? only []
   exact⟨ha,h1 (LV c)⟩
  ·rw[DF (show ¬ y=fs.getD i 0 from fun e=>c ((mo.2 i z hi zl).mp (by rw[<-e,ez])))]
   simp? only []
   exact h2 (DF c)
 ·have e:=AR (fun x=>decide (ay (dF ws us) i x)) (fs.map D.int) 0
  have e2:(cls m.toNat (dF ws us) i).map D.int=((List.range' 0 (fs.map D.int).length).filter fun k:Nat=>decide (ay (dF ws us) i k)).map fun k:Nat=>D.int k:=by
   unfold cls aL
   rw[WH,Vz,oV,<-List.range_eq_range',mo.1]
   rfl
  rw[<-e2] at e
  rw[e]
  exact a7 k
noncomputable def Bc:GD:=fun ys aj K=>∃ (m:Int) (ws:List Wy) (us:List Int) (i j:Nat),aC m ws/\Nums ws us/\us.length <= 900/\i < m.toNat/\j < m.toNat/\ys=[.p (aE m ws),.p (aS us),.p (.int i),.p (.int j)]/\aj=[]/\K (.p (aS (n_ ws us i j))) []
noncomputable def Bd:WS:=(aG (c8 (bA (aa 1)) [none,some 0,some 1,some 2,some 3] (bo 0) (dT (au 5 A6 (ai (aa 1) (ai (aa 2) (ai (aa 0) (ai (aa 3) (ai (aa 4) af))))))) (aa 0)))
theorem Rc:∀ ys aj K',ys.length=4->Bc ys aj K'->Bd (bG aj.length K') ⟨ys.map some ++ List.replicate 0 none,aj.map some⟩:=by
 rintro ys aj K' - ⟨m,ws,us,i,j,W,hu,ul,hi,hj,rfl,rfl,k⟩
 unfold Bd
 rw[show aS us = .lst (us.map D.int) from rfl]
 simp? only []
 refine L2.jg (fun d=>match d with
  | .int n=>qj ws us n i j
  | _=>false) id (by rw[oV];omega) trivial ?_ ?_
 ·intro d hd acc L' ha h1 h2
  obtain⟨n,lP,rfl⟩:=My.mp hd
  dsimp only at h1 h2
  simp? only []
  refine⟨m,ws,us,n,i,j,W,hu,ul,hi,hj,rfl,rfl,?_⟩
  simp? only []
  cases q:qj ws us n i j with
  | true=>simp? only [];exact⟨ha,h1 q⟩
  | false=>simp? only [];exact h2 q
 ·have e:((us.map D.int).filter fun d=>match d with
   | .int n=>qj ws us n i j
   | _=>false).map id=(n_ ws us i j).map D.int:=by
   rw[WR,WH];rfl
  rw[e]
  exact a7 k
noncomputable def Be:GD:=fun ys aj K=>∃ (m:Int) (ws:List Wy) (i j:Nat),aC m ws/\i < m.toNat/\j < m.toNat/\i≠j/\ys=[.p (aE m ws),.p (.int i),.p (.int j)]/\aj=[]/\K (.p .non) []
noncomputable def Bf:WS:=(av (kg (au 1 wj (ai (aa 0) af))) (av (bh (cR (dT (au 3 lL (ai (aa 1) (ai (dC (.int 0)) (ai (d2 (d2 (aa 0) (dC (.int 0)) aP) (dC (.int 1)) (oI fun i j => .int (i - j))) af)))))) pB cC) (bh (i8 (cR (dT (au 3 lL (ai (aa 2) (ai (dC (.int 0)) (ai (d2 (d2 (aa 0) (dC (.int 0)) aP) (dC (.int 1)) (oI fun i j => .int (i - j))) af)))))) (dT (d2 (aa 1) (aa 2) oEq))) pB cC)))
theorem Rf:∀ ys aj K',ys.length=3->Be ys aj K'->Bf (bG aj.length K') ⟨ys.map some ++ List.replicate 0 none,aj.map some⟩:=by
 rintro ys aj K' - ⟨m,ws,i,j,W,hi,hj,ne,rfl,rfl,k⟩
 have wi:∀ x:Nat,x < m.toNat->pZ (.int x) 0 (m - 1)=true:=fun x hx=>by
  show (decide ((0:Int) <= x) && decide ((x:Int) <= m - 1))=true
  rw[LV (show (0:Int) <= x by omega),LV (show (x:Int) <= m - 1 by omega)]
  rfl
 unfold Bf
 refine aU fun N hN => ?_
 simp? only []
 refine⟨m,ws,W,rfl,rfl,?_⟩
 show N _
 subst hN
 refine aU fun N hN => ?_
 refine gf fun A1 B1 hA hB => ?_
 simp? only [aE,dG]
 refine⟨.int i,0,m - 1,rfl,rfl,?_⟩
 rw[wi i hi]
 simp? only []
 subst hB
 show N _
 subst hN
 refine gf fun A1 B1 hA hB => ?_
 simp? only [dG]
 refine⟨.int j,0,m - 1,rfl,rfl,?_⟩
 rw[wi j hj]
 simp? only []
 rw[g9,DF (show ¬ ((i:Int)=j) by omega)]
 simp? only []
 subst hB
 exact a7 k
noncomputable def Bg:GD:=fun ys aj K=>∃ (m:Int) (ws:List Wy) (fo:List Int) (i j:Nat),aC m ws/\bQ ws fo/\i < m.toNat/\j < m.toNat/\i≠j/\ys=[.p (aE m ws),.p (aS fo),.p (.int i),.p (.int j)]/\aj=[] ∧
 (¬ ay (fun v=>v∈ws) i j->K (.p .non) [])/\∀ n:Int,0 <= n/\n < (ws.length:Int)->bT ws (ax ws n) i j->K (.p (.int n)) []
noncomputable def Bh:WS:=(av (bh (dT (d2 (aa 3) (au 3 Ba (ai (aa 0) (ai (aa 1) (ai (aa 2) af)))) (fA true))) (aG (dC .non)) cC) (aG (au 2 A4 (ai (aa 0) (ai (au 4 Bc (ai (aa 0) (ai (aa 1) (ai (aa 2) (ai (aa 3) af))))) af)))))
theorem Rg:∀ ys aj K',ys.length=4->Bg ys aj K'->Bh (bG aj.length K') ⟨ys.map some ++ List.replicate 0 none,aj.map some⟩:=by
 rintro ys aj K' - ⟨m,ws,fo,i,j,W,F,hi,hj,ne,rfl,rfl,k0,k⟩
 have fl:=F.len
 have jK:=W.fH
 unfold Bh
 refine aU fun N hN => ?_
 refine gf fun A1 B1 hA hB => ?_
 simp? only []
 refine⟨m,ws,fo,i,W,F.nums,hi,rfl,rfl,?_⟩
 have hm:(j:Int)∈cls m.toNat (dF ws fo) i↔ay (fun v=>v∈ws) i j:=mZ.trans ((and_iff_right ⟨by omega,by omega⟩).trans F.conn)
 generalize cls m.toNat (dF ws fo) i=l at hm
 rw[show aS l = .lst (l.map D.int) from rfl]
 simp? only []
 have d0:=jM l
 refine⟨by omega,?_⟩
 rw[jn]
 by_cases c:ay (fun v=>v∈ws) i j
 ·rw[LV (hm.mpr c)]
  simp? only []
  subst hB
  show N _
  subst hN
  simp? only []
  refine⟨m,ws,fo,i,j,W,F.nums,by omega,hi,hj,rfl,rfl,?_⟩
  simp? only []
  refine⟨m,ws,n_ ws fo i j,W,fun n h=>((wz W F).mp h).1.1,rfl,rfl,fun h0 => ?_,fun n hn best => ?_⟩
  ·obtain⟨g,hg⟩:=wu W (show (i:Int)≠j by omega) c
   obtain⟨x,hx,rfl⟩:=mY hg.mem
   have:=hg.kW W F hx
   rw[h0] at this
   exact nomatch this
  ·exact a7 (k n ((wz W F).mp hn).1.1 (Q_ W F (show (i:Int)≠j by omega) c hn best))
 ·rw[DF fun z=>c (hm.mp z)]
  simp? only []
  subst hA
  simp? only []
  exact a7 (k0 c)
noncomputable def Bi:WS:=(av (kg (au 3 Be (ai (aa 0) (ai (aa 1) (ai (aa 2) af))))) (av (bh (i8 (cR (dT (au 2 A9 (ai (aa 4) (ai (d2 (aa 0) (dC (.int 0)) aP) af))))) (i8 (dT (d2 (aa 1) (aa 4) (fA true))) (dT (d2 (aa 2) (aa 4) (fA false))))) (aG (dC (.bl false))) cC) (av (aD 5 (au 4 Bg (ai (aa 0) (ai (au 1 AG (ai (aa 0) af)) (ai (aa 1) (ai (aa 2) af)))))) (aG (i9 (d2 (aa 5) (dC .non) t8) (tR (aa 3) (aa 5) (au 2 AX (ai (aa 0) (ai (au 2 AV (ai (aa 0) (ai (aa 4) af))) af))) oEq oEq))))))
theorem Rh {δ0:aF} {t:WT} {b:WS} {K:KS} {n:Nat} {δ : aF} (h:∀ A B:aF->Prop,A=b { nx:=fun δ2=>mX δ0 t b K n (δ0.trim δ2),ct:=fun δ2=>mX δ0 t b K n (δ0.trim δ2),bk:=K.nx,rt:=K.rt }->B=K.nx->t δ fun bb δ1=>if bb=true then A δ1 else B δ1):mX δ0 t b K (n + 1) δ := h _ _ rfl rfl
theorem Ri (n:Nat):seqIndex? 0 (n + 1)=some 0:=by
 unfold seqIndex?
 simp
noncomputable def oa (ws:List Wy) (us:List Int) (n:Int):Wy->Prop:=fun v=>dF ws us v/\v≠ax ws n
noncomputable def isKey (ah:List (Key × D)) (x:Int):Prop:=(bJ ah (.inl x)).isSome=true
structure RI (m:Int) (ws:List Wy) (us:List Int) (i:Int) (ah:List (Key × D)):Prop where
 val:∀ x d,bJ ah (.inl x)=some d->∃ R:List Int,d=aS R/\(0 <= x/\x < m)/\ay (dF ws us) i x/\R.Nodup/\(∀ n,n∈R↔n∈us/\¬ ay (oa ws us n) i x)/\∀ n∈R,isKey ah (ax ws n).1/\isKey ah (ax ws n).2.1
 one:isKey ah i
 nd:(ah.map (·.1)).Nodup
 rng:∀ k∈ah.map (·.1),∃ x:Int,k = .inl x/\0 <= x/\x < m
theorem GL {ah:List (Key × D)} {x:Int} (h:Sum.inl x∈ah.map (·.1)):isKey ah x:=by
 obtain⟨kv,h1,h2⟩:=My.mp h
 unfold isKey bJ
 rw[YR]
 exact List.find?_isSome.mpr ⟨kv,h1,LV h2⟩
theorem Bj {ah:List (Key × D)} {y:Int} (h:¬ isKey ah y) (d:D):putD ah (.inl y) d=ah ++ [(.inl y,d)]:=by
 unfold putD
 rw[LX fun z=>h (GL ?_)]
 obtain⟨kv,h1,h2⟩:=Ys.mp z
 exact My.mpr ⟨kv,h1,We h2⟩
theorem RI.len {m:Int} {ws:List Wy} {us:List Int} {i:Int} {ah:List (Key × D)} (h:RI m ws us i ah) (hm:m <= 12):ah.length <= 12:=by
 have sub:(ah.map (·.1)).length <= ((aL m.toNat).map fun x=>(Sum.inl x:Key)).length:=by
  refine Xs h.nd fun k hk => ?_
  obtain⟨x,rfl,h0,h1⟩:=h.rng k hk
  exact My.mpr ⟨x,b9.mpr ⟨h0,by omega⟩,rfl⟩
 rw[oV,oV,rh] at sub
 omega
theorem wA {ah:List (Key × D)} {y:Int} (h:¬ isKey ah y):bJ ah (.inl y)=none:=by
 unfold isKey at h
 cases q:bJ ah (.inl y) with
 | none=>rfl
 | some d=>rw[q] at h;exact absurd rfl h
theorem gj {ah:List (Key × D)} {x y:Int} {d:D} (h:¬ isKey ah y):isKey (putD ah (.inl y) d) x↔isKey ah x\/x=y:=by
 unfold isKey
 rw[AA (wA h)]
 by_cases c:x=y
 ·subst c;rw[UO rfl];simp
 ·rw[LX (fun z=>c (by cases z;rfl))];simp[c]
theorem RI.put {m:Int} {ws:List Wy} (W:aC m ws) {us:List Int} (hu:Nums ws us) (ind:Indep (dF ws us)) {i:Int} {ah:List (Key × D)} (h:RI m ws us i ah) {x y n:Int} {R:List Int} (hx:bJ ah (.inl x)=some (aS R)) (hn:n∈us) (e:((ax ws n).1=x/\(ax ws n).2.1=y)\/((ax ws n).1=y/\(ax ws n).2.1=x)) (nr:n∉R) (ny:¬ isKey ah y):RI m ws us i (putD ah (.inl y) (aS (R ++ [n]))):=by
 obtain⟨R',eR,hr,cx,rd,rm,re⟩:=h.val x _ hx
 have eR:R=R':=by
  have:=Gr R R'
  rw[eR,lF] at this
  exact We this.symm
 subst eR
 have kx:isKey ah x:=by unfold isKey;rw[hx];rfl
 have An:dF ws us (ax ws n):=⟨n,hn,rfl⟩
 obtain⟨n0,n1⟩:=hu n hn
 have en:=W.ends _ (qe n0 n1)
 have co:∀ {S:Wy->Prop},S (ax ws n)->ay S x y:=fun {S} hS=>by
  rcases e with⟨rfl,rfl⟩ | ⟨rfl,rfl⟩
  ·exact .one hS
  ·exact (ay.one hS).symm
 have nc:¬ ay (oa ws us n) x y:=fun z=>ind _ An (by
  rcases e with⟨rfl,rfl⟩ | ⟨rfl,rfl⟩
  ·exact z
  ·exact z.symm)
 have cn:ay (oa ws us n) i x:=WU fun z=>nr ((rm n).mpr ⟨hn,z⟩)
 refine⟨fun z d hz => ?_,(gj ny).mpr (.inl h.one),?_,?_⟩
 ·rw[AA (wA ny)] at hz
  by_cases c:z=y
  ·subst c
   rw[UO rfl] at hz
   cases hz
   refine⟨R ++ [n],rfl,by omega,cx.trans (co An),W7.mpr ⟨rd,by simp,fun a ha b hb z=>nr (by rw[VI] at hb;rw[<-hb,<-z];exact ha)⟩,fun k => ?_,fun k hk => ?_⟩
   ·rw[VO,VI,rm]
    by_cases kn:k=n
    ·subst kn
     exact⟨fun _=>⟨hn,fun z=>nc (cn.symm.trans z)⟩,fun _ => .inr rfl⟩
    ·constructor
     ·rintro (⟨h1,h2⟩ | z)
      ·have:oa ws us k (ax ws n):=⟨An,fun z=>kn (rj W (hu k h1) (hu n hn) z.symm)⟩
       exact⟨h1,fun z=>h2 (z.trans (co this).symm)⟩
      ·exact absurd z kn
     ·rintro ⟨h1,h2⟩
      have:oa ws us k (ax ws n):=⟨An,fun z=>kn (rj W (hu k h1) (hu n hn) z.symm)⟩
      exact .inl ⟨h1,fun z=>h2 (z.trans (co this))⟩
   ·rcases VO.mp hk with hk | hk
    ·exact⟨(gj ny).mpr (.inl (re k hk).1),(gj ny).mpr (.inl (re k hk).2)⟩
    ·obtain rfl:k=n:=VI.mp hk
     rcases e with⟨e1,e2⟩ | ⟨e1,e2⟩
     ·exact⟨(gj ny).mpr (.inl (e1 ▸ kx)),(gj ny).mpr (.inr e2)⟩
     ·exact⟨(gj ny).mpr (.inr e1),(gj ny).mpr (.inl (e2 ▸ kx))⟩
  ·rw[LX (fun q=>c (by cases q;rfl))] at hz
   obtain⟨S,e1,e2,e3,e4,e5,e6⟩:=h.val z d hz
   exact⟨S,e1,e2,e3,e4,e5,fun k hk=>⟨(gj ny).mpr (.inl (e6 k hk).1),(gj ny).mpr (.inl (e6 k hk).2)⟩⟩
 ·rw[Bj ny,VC]
  refine W7.mpr ⟨h.nd,by simp,fun a ha b hb z=>ny (GL ?_)⟩
  have hb:b = .inl y:=by simpa using hb
  rw[<-hb,<-z];exact ha
 ·intro k hk
  rw[Bj ny,VC] at hk
  rcases VO.mp hk with hk | hk
  ·exact h.rng k hk
  ·refine⟨y,by simpa using hk,?_⟩
   omega
noncomputable def wB:GD:=fun ys aj K=>∃ (m:Int) (ws:List Wy) (us:List Int) (i j:Nat),aC m ws/\Nums ws us/\us.length <= 900/\Indep (dF ws us)/\i < m.toNat/\j < m.toNat/\ys=[.p (aE m ws),.p (aS us),.p (.int i),.p (.int j)]/\aj=[] ∧
 (¬ ay (dF ws us) i j->K (.p .non) [])/\∀ R:List Int,R.Nodup->(∀ n,n∈R↔n∈us/\¬ ay (oa ws us n) i j)->ay (dF ws us) i j->K (.p (aS R)) []
noncomputable def Bk:WS:=(av (aD 4 (Ax (aa 2) (bS af))) (av (aD 5 (px (ai (aa 2) af))) (av (Gd (dT (d2 (aa 5) (bS af) je)) (av (aD 6 (t4 (aa 5) (ai (dC (.int 0)) af))) (c7 (bA (aa 1)) (bo 7) (av (aD 8 (c_ (d2 (d2 (aa 0) (dC (.int 1)) aP) (aa 7) aP) dw (g6 (dC (.int 2))))) (bh (f7 (dT (d2 (aa 6) (aa 8) (fA false))) (dT (d2 (aa 7) (qd (aa 4) (aa 6)) (fA true)))) (av (aD 9 (d2 (d2 (d2 (aa 8) (dC (.int 0)) aP) (d2 (aa 8) (dC (.int 1)) aP) bZ) (aa 6) (oI fun i j => .int (i - j)))) (bh (dT (kJ true (aa 9) (aa 4))) (av (wk (d2 (qd (aa 4) (aa 6)) (bS (ai (aa 7) af)) bZ) (aa 4) (aa 9)) (kg (ip (aa 5) (ai (aa 9) af)))) cC)) cC))))) (aG (Aw (aa 4) (aa 3) (dC .non))))))
noncomputable def Rj (ws:List Wy) (us:List Int) (ah:List (Key × D)) (iQ:List Int):Prop:=∀ x,isKey ah x->x∉iQ->∀ n∈us,((ax ws n).1=x->isKey ah (ax ws n).2.1)/\((ax ws n).2.1=x->isKey ah (ax ws n).1)
theorem Rk:∀ ys aj K',ys.length=4->wB ys aj K'->Bk (bG aj.length K') ⟨ys.map some ++ List.replicate 6 none,aj.map some⟩:=by
 rintro ys aj K' - ⟨m,ws,us,i,j,W,hu,ul,ind,hi,hj,rfl,rfl,k0,k⟩
 have d6:=W.d6
 have ri:(0:Int) <= i/\(i:Int) < m:=by omega
 unfold Bk
 rw[show aS us = .lst (us.map D.int) from rfl]
 refine aU fun N hN => ?_
 simp? only [Ax,eI,dY]
 subst hN
 refine aU fun N hN => ?_
 simp? only []
 subst hN
 refine aU fun N hN => ?_
 have I0:RI m ws us i [(.inl (i:Int),aS [])]:=by
  have v1:∀ x:Int,bJ [((.inl (i:Int):Key),aS [])] (.inl x)=if x=i then some (aS []) else none:=fun x=>by
   unfold bJ
   by_cases c:x=i
   ·subst c;rw[UO rfl];simp
   ·rw[LX c];simp[show ¬ ((i:Int)=x) from fun z=>c z.symm]
  refine⟨fun x d hx => ?_,by unfold isKey;rw[v1,UO rfl];rfl,by simp,fun k hk=>⟨i,by simpa using hk,ri⟩⟩
  rw[v1] at hx
  split at hx
  ·rename_i e
   subst e
   cases hx
   exact⟨[],rfl,ri,.rf,List.nodup_nil,(fun n=>⟨(fun z=>nomatch z),fun z=>absurd .rf z.2⟩),fun n z=>nomatch z⟩
  ·cases hx
 have go:∀ (fuel:Nat) (ah:List (Key × D)) (iQ:List Int),RI m ws us i ah->(∀ x∈iQ,isKey ah x)->Rj ws us ah iQ->iQ.length <= ah.length->iQ.length + 12 < fuel + ah.length →
   mX ⟨[some (.p (aE m ws)),some (.p (.lst (us.map D.int))),some (.p (.int i)),some (.p (.int j)),some (.o 0),some (.o 1),none,none,none,none],[some (.dct [(.inl (i:Int),aS [])]),some (.lst [.int i])]⟩ (dT (d2 (aa 5) (bS af) je)) (av (aD 6 (t4 (aa 5) (ai (dC (.int 0)) af))) (c7 (bA (aa 1)) (bo 7) (av (aD 8 (c_ (d2 (d2 (aa 0) (dC (.int 1)) aP) (aa 7) aP) dw (g6 (dC (.int 2))))) (bh (f7 (dT (d2 (aa 6) (aa 8) (fA false))) (dT (d2 (aa 7) (qd (aa 4) (aa 6)) (fA true)))) (av (aD 9 (d2 (d2 (d2 (aa 8) (dC (.int 0)) aP) (d2 (aa 8) (dC (.int 1)) aP) bZ) (aa 6) (oI fun i j => .int (i - j)))) (bh (dT (kJ true (aa 9) (aa 4))) (av (wk (d2 (qd (aa 4) (aa 6)) (bS (ai (aa 7) af)) bZ) (aa 4) (aa 9)) (kg (ip (aa 5) (ai (aa 9) af)))) cC)) cC)))) { bG 0 K' with nx:=N } fuel ⟨[some (.p (aE m ws)),some (.p (.lst (us.map D.int))),some (.p (.int i)),some (.p (.int j)),some (.o 0),some (.o 1),none,none,none,none],[some (.dct ah),some (.lst (iQ.map D.int))]⟩:=by
  intro fuel
  induction fuel with
  | zero=>intro ah iQ I _ _ _ hf;have:=I.len d6;omega
  | succ fuel ih =>
   intro ah iQ I dk cl hd hf
   have kl:=I.len d6
   refine Rh fun A B hA hB => ?_
   have d0:=jM iQ
   simp? only []
   refine⟨by omega,?_⟩
   rw[show (D.lst [])=D.lst (([]:List Int).map D.int) from rfl]
   simp only[aH,uu]
   cases iQ with
   | nil =>
    rw[LV rfl]
    simp? only []
    rw[hB]
    show N _
    rw[hN]
    simp? only [Aw,eI,dY]
    have all:∀ {y:Int},ay (dF ws us) i y->isKey ah y:=fun {y} c=>by
     induction c with
     | rf=>exact I.one
     | st _ a hb =>
      obtain⟨w,⟨n,hn,rfl⟩,e⟩:=a
      have:=cl _ hb (fun z=>nomatch z) n hn
      rcases e with⟨e1,e2⟩ | ⟨e1,e2⟩
      ·exact e2 ▸ this.1 e1
      ·exact e1 ▸ this.2 e2
    by_cases c:ay (dF ws us) i j
    ·have hk:=all c
     unfold isKey at hk
     obtain⟨d,hd⟩:=WZ.mp hk
     obtain⟨R,rfl,_,_,rd,rm,_⟩:=I.val j d hd
     simp only[hd]
     exact⟨[],rfl,rfl,k R rd rm c⟩
    ·cases q:bJ ah (.inl (j:Int)) with
     | none=>exact⟨[],rfl,rfl,k0 c⟩
     | some d=>obtain⟨R,_,_,cj,_⟩:=I.val j d q;exact absurd cj c
   | cons x iQ =>
    rw[DE] at hd hf
    rw[DF (by simp)]
    simp? only []
    subst hA
    obtain⟨dx,hx⟩:=WZ.mp (dk x (.head _))
    obtain⟨R,rfl,rx,cx,rd,rm,re⟩:=I.val x dx hx
    refine aU fun N2 dA => ?_
    simp? only [Ri]
    refine⟨by decide,?_⟩
    simp only[List.eraseIdx_cons_zero]
    subst dA
    refine lK fun g' b' K2 hg hb' hK => ?_
    simp? only []
    subst hg hb' hK
    have dz:∀ R:List Int,bH (R.map D.int)=0:=jM
    refine kB (fun t δ => ∃ (bP:List (Key × D)) (e7:List Int),RI m ws us i bP/\(∀ z,isKey ah z->isKey bP z)/\bJ bP (.inl x)=some (aS R)/\(∀ z∈e7,isKey bP z)/\(∀ z,isKey bP z->z∉e7->z≠x->∀ n∈us,((ax ws n).1=z->isKey bP (ax ws n).2.1)/\((ax ws n).2.1=z->isKey bP (ax ws n).1))/\(∀ n∈us.take t,((ax ws n).1=x->isKey bP (ax ws n).2.1)/\((ax ws n).2.1=x->isKey bP (ax ws n).1))/\e7.length + ah.length=iQ.length + bP.length ∧
     δ = ⟨[some (.p (aE m ws)),some (.p (.lst (us.map D.int))),some (.p (.int i)),some (.p (.int j)),some (.o 0),some (.o 1),some (.p (.int x)),none,none,none],[some (.dct bP),some (.lst (e7.map D.int))]⟩) ?_ ?_ ?_
    ·exact⟨ah,iQ,I,fun _ h=>h,hx,fun z hz=>dk z (.tail _ hz),(fun z hz zd zx=>cl z hz (fun q=>(Vr.mp q).elim zx zd)),(fun n z=>nomatch z),rfl,rfl⟩
    ·rintro t d δ L ht ⟨bP,e7,I',mono,gW,qC,wC,dn,ln,rfl⟩ hL
     rw[LR] at ht
     obtain⟨n,hn,rfl⟩:=UP.mp ht
     have hm:=VA hn
     have et:us.take (t + 1)=us.take t ++ [n]:=by rw[Xq,hn];rfl
     obtain⟨n0,n1⟩:=hu n hm
     obtain⟨y,ey,hy,ea,_⟩:=ji W n0 n1
     have ey:ax ws n=y:=ey
     have ends:=W.ends y hy
     have Vb:=I'.len d6
     obtain⟨R',eR,_,_,_,Vc,vG⟩:=I'.val x _ gW
     have eR:R=R':=by
      have:=Gr R R'
      rw[eR,lF] at this
      exact We this.symm
     subst eR
     have kx:isKey bP x:=by unfold isKey;rw[gW];rfl
     refine⟨trivial,?_⟩
     simp only[bo,VT,VU]
     have ec:cutD [D.int y.1,D.int y.2.1,D.int y.2.2] none (some 2)=[D.int y.1,D.int y.2.1]:=rfl
     refine aU fun N2 dA => ?_
     simp? only [aE,dH,ea,bE,ec]
     subst dA
     have same:((ax ws n).1=x->isKey bP (ax ws n).2.1)/\((ax ws n).2.1=x->isKey bP (ax ws n).1)->L ⟨[some (.p (aE m ws)),some (.p (.lst (us.map D.int))),some (.p (.int i)),some (.p (.int j)),some (.o 0),some (.o 1),some (.p (.int x)),none,none,none],[some (.dct bP),some (.lst (e7.map D.int))]⟩:=fun h=>by
      refine hL _ ⟨bP,e7,I',mono,gW,qC,wC,fun z hz => ?_,ln,rfl⟩
      rw[et] at hz
      rcases VO.mp hz with hz | hz
      ·exact dn z hz
      ·obtain rfl:z=n:=VI.mp hz
       exact h
     refine gf fun A1 B1 hA hB => ?_
     simp? only [qd,eI,dY]
     have ia:([D.int y.1,D.int y.2.1].any fun e=>aH e (.int x))=decide (x∈[y.1,y.2.1]):=jn [y.1,y.2.1] x
     simp only[W9,List.any_nil,ZI] at ia
     rw[ia]
     by_cases ce:x∈[y.1,y.2.1]
     ·rw[LV ce]
      have ce:x=y.1\/x=y.2.1:=by simpa using ce
      simp? only [gW,aS]
      have dy:=dz R
      refine⟨by omega,?_⟩
      rw[jn]
      by_cases cr:n∈R
      ·rw[LV cr]
       simp? only []
       subst hB
       exact same ⟨fun _=>(vG n cr).2,fun _=>(vG n cr).1⟩
      ·rw[DF cr]
       simp? only []
       subst hA
       refine aU fun N2 dA => ?_
       simp? only [dG,dH]
       subst dA
       obtain⟨o,eo,he⟩:∃ o:Int,y.1 + y.2.1 - x=o/\(((ax ws n).1=x/\(ax ws n).2.1=o)\/((ax ws n).1=o/\(ax ws n).2.1=x)):=by
        rw[ey]
        rcases ce with c | c
        ·exact⟨y.2.1,by omega,.inl ⟨c.symm,rfl⟩⟩
        ·exact⟨y.1,by omega,.inr ⟨rfl,c.symm⟩⟩
       rw[eo]
       have xo:x≠o:=by
        rw[ey] at he
        omega
       refine gf fun A1 B1 hA hB => ?_
       simp? only [kJ,eI,dY]
       by_cases ko:isKey bP o
       ·rw[show (bJ bP (.inl o)).isSome=true from ko,LX (by decide)]
        subst hB
        refine same ?_
        rcases he with⟨e1,e2⟩ | ⟨e1,e2⟩
        ·exact⟨fun _=>e2 ▸ ko,fun z=>absurd (e2.symm.trans z) fun z=>xo z.symm⟩
        ·exact⟨fun z=>absurd (e1.symm.trans z) fun z=>xo z.symm,fun _=>e1 ▸ ko⟩
       ·rw[wA ko,Option.isSome_none,UO (by decide)]
        subst hA
        have I2:=I'.put W hu ind gW hm he cr ko
        refine aU fun N2 dA => ?_
        simp? only [wk,qd,eI,dY,gW,aS]
        refine⟨by have:=(I'.val x _ gW);have rl:R.length <= us.length:=Xs rd (fun z hz=>((rm z).mp hz).1);omega,by omega,?_⟩
        subst dA
        simp? only []
        refine⟨by omega,?_⟩
        have:=hL ⟨[some (.p (aE m ws)),some (.p (.lst (us.map D.int))),some (.p (.int i)),some (.p (.int j)),some (.o 0),some (.o 1),some (.p (.int x)),none,none,none],[some (.dct (putD bP (.inl o) (aS (R ++ [n])))),some (.lst ((e7 ++ [o]).map D.int))]⟩ ⟨_,e7 ++ [o],I2,fun z hz=>(gj ko).mpr (.inl (mono z hz)),?_,?_,?_,?_,?_,rfl⟩
        ·rw[VC] at this
         unfold aS at this
         rw[VC] at this
         exact this
        ·rw[AA (wA ko),LX (fun q=>xo (by cases q;rfl))];exact gW
        ·intro z hz
         rcases VO.mp hz with hz | hz
         ·exact (gj ko).mpr (.inl (qC z hz))
         ·exact (gj ko).mpr (.inr (VI.mp hz))
        ·intro z hz zd zx w hw
         rcases (gj ko).mp hz with hz | rfl
         ·have:=wC z hz (fun q=>zd (Wf _ q)) zx w hw
          exact⟨fun e=>(gj ko).mpr (.inl (this.1 e)),fun e=>(gj ko).mpr (.inl (this.2 e))⟩
         ·exact absurd (LU _ (.head _)) zd
        ·intro z hz
         rw[et] at hz
         rcases VO.mp hz with hz | hz
         ·exact⟨fun e=>(gj ko).mpr (.inl ((dn z hz).1 e)),fun e=>(gj ko).mpr (.inl ((dn z hz).2 e))⟩
         ·obtain rfl:z=n:=VI.mp hz
          rcases he with⟨e1,e2⟩ | ⟨e1,e2⟩
          ·exact⟨fun _=>(gj ko).mpr (.inr e2),fun q=>absurd (e2.symm.trans q) fun q=>xo q.symm⟩
          ·exact⟨fun q=>absurd (e1.symm.trans q) fun q=>xo q.symm,fun _=>(gj ko).mpr (.inr e1)⟩
        ·rw[Bj ko,DG,DG,VH,VH];omega
     ·rw[DF ce]
      simp? only []
      subst hB
      rw[ey] at same
      refine same ⟨fun e=>absurd ?_ ce,fun e=>absurd ?_ ce⟩
      ·rw[e];exact .head _
      ·rw[e];exact .tail _ (.head _)
    ·rintro δ ⟨bP,e7,I',mono,gW,qC,wC,dn,ln,rfl⟩
     rw[oV,Yr] at dn
     refine⟨trivial,?_⟩
     simp? only []
     refine ih bP e7 I' qC (fun z hz zd w hw => ?_) (by omega) (by omega)
     by_cases c:z=x
     ·subst c;exact dn w hw
     ·exact wC z hz zd c w hw
 exact⟨13,go 13 _ [(i:Int)] I0 (fun x hx=>by rw[VI.mp hx];exact I0.one) (fun x hx xd=>absurd (by
  have:x=i:=by
   unfold isKey bJ at hx
   by_cases c:x=i
   ·exact c
   ·simp[show ¬ ((i:Int)=x) from fun z=>c z.symm] at hx
  rw[this];exact .head _) xd) (by simp) (by simp)⟩
end LJ
namespace PySem
open Sem (wp)
section
variable {prog:Program} {w:World} {A:Around} {E:Value->Shared->Prop} {s:Shared} {z TI TO i j:Addr} {fp gp:List Addr} {n m k:Nat} {P P':Nat->Value->Prop} {St Vd:Nat->Heap->Prop} {a b:Value}
end
section
variable {prog:Program} {w:World} {A:Around} {E:Value->Shared->Prop} {s:Shared}
end
end PySem
namespace L2
open PySem PySem.Spec PyProof.Rows
section
variable {X:Cx} {pins:List (Addr × Obj)} {σ : St} {H:Hp} {s:Shared}
end
section
variable {X:Cx} {elts:List Expr} {x1:Nat} {tp:Pos}
end
section
variable [aM] {X:Cx} {a b:Expr} {fa:WA}
end
end L2
namespace LJ
open PySem L2
variable [aM]
theorem Rm {ds:List D} {t:Nat} (h:t <= ds.length):cutD ds none (some (t:Int))=ds.take t:=by
 unfold cutD
 rw[HT.De,HT.uV ds.length ds.length t,Nat.min_eq_left h,ZA,Nat.sub_zero]
noncomputable def Bl:GD:=fun ys aj K=>∃ (m:Int) (ws:List Wy) (l:List Int) (n:Int),aC m ws/\(0 <= n/\n < (ws.length:Int))/\ys=[.p (aE m ws),.p (aS l),.p (.int n)]/\aj=[]/\K (.p (.bl (fR l (ax ws n)))) []
noncomputable def Bm:WS:=(av (gK (c_ (d2 (d2 (aa 0) (dC (.int 1)) aP) (aa 2) aP) dw (g6 (dC (.int 2)))) (i_ 2 (eF (bo 3) (eF (bo 4) iJ)))) (aG (d2 (d2 (aa 3) (aa 1) (fA false)) (d2 (aa 4) (aa 1) (fA false)) je)))
theorem Ro:∀ ys aj K',ys.length=3->Bl ys aj K'->Bm (bG aj.length K') ⟨ys.map some ++ List.replicate 2 none,aj.map some⟩:=by
 rintro ys aj K' - ⟨m,ws,l,n,W,⟨n0,n1⟩,rfl,rfl,k⟩
 obtain⟨y,ey,hy,ea,_⟩:=ji W n0 n1
 have ew:ax ws n=y:=ey
 rw[ew] at k
 unfold Bm
 refine aU fun N hN => ?_
 have c2:cutD [D.int y.1,D.int y.2.1,D.int y.2.2] none (some 2)=[D.int y.1,D.int y.2.1]:=rfl
 simp? only [aE,dH,ea,bE,c2]
 subst hN
 simp? only [aS]
 have d0:=jM l
 refine⟨by omega,by omega,?_⟩
 rw[jn,jn]
 unfold fR at k
 generalize decide (y.1∈l)=p at k
 generalize decide (y.2.1∈l)=q at k
 cases p<;>cases q<;>exact a7 k
noncomputable def uE:D->D
 | .tup [_,n]=>n
 | _ => .non
noncomputable def Bo:GD:=fun ys aj K=>∃ (m:Int) (ws:List Wy) (l:List Int),aC m ws/\ys=[.p (aE m ws),.p (aS l),.p (aS (aL ws.length))]/\aj=[]/\∀ os:List Int,os.Perm (iP ws l)->(os.map (bw ws)).Pairwise kle->K (.p (aS os)) []
noncomputable def Bp:WS:=(av (aD 3 (c8 (bA (aa 2)) [none,some 0,some 1] (bo 0) (dT (au 3 Bl (ai (aa 1) (ai (aa 2) (ai (aa 0) af))))) (dS (ai (au 2 mW (ai (aa 1) (ai (aa 0) af))) (ai (aa 0) af))))) (aG (c8 (bA (dN (ai (aa 3) af) qZ)) [none,none] (i_ 2 (eF (bo 0) (eF (bo 1) iJ))) cq (aa 1))))
theorem Rp:∀ ys aj K',ys.length=3->Bo ys aj K'->Bp (bG aj.length K') ⟨ys.map some ++ List.replicate 1 none,aj.map some⟩:=by
 rintro ys aj K' - ⟨m,ws,l,W,rfl,rfl,k⟩
 have jK:=W.fH
 have il:=rh ws.length
 have ol:=Q3 (ws:=ws) (l:=l)
 unfold Bp
 refine aU fun N hN => ?_
 rw[show aS (aL ws.length) = .lst ((aL ws.length).map D.int) from rfl]
 simp? only []
 refine jg (fun d=>match d with
  | .int n=>fR l (ax ws n)
  | _=>false) (fun d=>match d with
  | .int n=>eG ws n
  | _ => .non) (by rw[oV];omega) trivial ?_ ?_
 ·intro d hd acc L ha h1 h2
  obtain⟨n,hn,rfl⟩:=My.mp hd
  have nn:=p8 hn
  dsimp only at h1 h2
  simp? only []
  refine⟨m,ws,l,n,W,nn,rfl,rfl,?_⟩
  simp? only []
  cases q:fR l (ax ws n) with
  | false=>simp? only [];exact h2 q
  | true =>
   simp? only []
   refine⟨m,ws,n,W,nn,rfl,rfl,?_⟩
   simp? only []
   exact⟨ha,h1 q⟩
 have e:(((aL ws.length).map D.int).filter fun d=>match d with
  | .int n=>fR l (ax ws n)
  | _=>false).map (fun d=>match d with
  | .int n=>eG ws n
  | _ => .non)=(iP ws l).map (eG ws):=by
  rw[WH,Vz];rfl
 rw[e]
 subst hN
 simp? only [qZ]
 refine⟨by omega,fun d=>match d with
  | .tup [.tup ks,.int n]=>(match intsOf ks with
   | some l=>l ++ [n]
   | none=>[])
  | _=>[],.inr ⟨3,fun d hd => ?_⟩,fun out pm pw => ?_⟩
 ·obtain⟨n,_,rfl⟩:=My.mp hd
  refine⟨bw ws n,n,rfl,rfl,?_⟩
  show (match intsOf ((bw ws n).map D.int) with
   | some l=>l ++ [n]
   | none=>[])=_
  rw[jG]
 ·obtain⟨ns,rfl,pn⟩:∃ ns:List Int,out=ns.map (eG ws)/\ns.Perm (iP ws l):=by
   refine⟨out.map fun d=>match d with
    | .tup [_,.int n]=>n
    | _=>0,?_,?_⟩
   ·rw[Vz]
    refine (WR out).symm.trans (Wm fun d hd => ?_)
    obtain⟨n,_,rfl⟩:=My.mp (pm.mem_iff.mp hd)
    rfl
   ·have:=pm.map fun d=>match d with
     | .tup [_,.int n]=>n
     | _=>0
    rw[Vz] at this
    exact this.trans (Zq ((Wm fun n _=>rfl).trans (WR _)))
  have nl:ns.length <= ws.length:=by rw[pn.length_eq];exact ol
  have up:(ns.map (bw ws)).Pairwise kle:=by
   rw[Vz] at pw
   rw[Xk] at pw ⊢
   refine pw.imp fun {a b} h => ?_
   have h:kle ((match intsOf ((bw ws a).map D.int) with
    | some l=>l ++ [a]
    | none=>[])) ((match intsOf ((bw ws b).map D.int) with
    | some l=>l ++ [b]
    | none=>[])):=h
   rw[jG,jG] at h
   exact Ga rfl h
  refine L2.jJ uE (by rw[oV];omega) trivial ?_ ?_
  ·intro d hd acc L ha h
   obtain⟨n,_,rfl⟩:=My.mp hd
   simp? only [eG]
   exact⟨ha,h⟩
  ·have e:(ns.map (eG ws)).map uE=ns.map D.int:=by rw[Vz];rfl
   rw[e]
   exact a7 (k ns pn up)
end LJ
namespace LJT
open PySem L2 LJ
variable [aM]
end LJT
namespace L2
open PySem PySem.Spec PyProof.Rows PySem.W
section
variable {X:Cx} {pins:List (Addr × Obj)} {σ : St} {H:Hp} {s:Shared} {E:Value->Shared->Prop} {l I S:Addr} {ts:List Addr} {kw:List (Str × Value)} {R:Result->Shared->Prop}
noncomputable def Rq (mx:Bool) (kf:Nat->LK) (ts:List Addr) (i:Nat) (fQ:Array Value):Prop :=
 (i=0/\fQ = #[])\/∃ (b:Nat) (t:Addr),b < i/\ts[b]? = some t/\fQ = #[.ref t,.ref t]/\∀ j,j < i->jo mx (kf b) (kf j)
noncomputable def m_ (X:Cx) (mx:Bool) (pins:List (Addr × Obj)) (σ : St) (H:Hp) (kf:Nat->LK) (ts:List Addr):Prop:=∀ (i j:Nat) (t u:Addr) (bf:List (Addr × Obj)) (s':Shared) (Q:Value->Shared->Prop) (E:Value->Shared->Prop),ts[i]? = some t->ts[j]? = some u->Inv X bf σ H s'->Q (.bool (uv mx (kf i) (kf j))) s'->wpAny (model X.prog X.w) X.A.in1 (richCompare (AN mx) (.ref t) (.ref u)) Q E s'
theorem Rr (mx:Bool) (kf:Nat->LK) (hh:X.A.handled=none) (hu:X.A.units + 1 < cLine) (kN:l≠I) (kO:S≠I) (fI:H I=none->a9 X pins H I) (fS:H S=none->a9 X pins H S)
  (hl:H l=some (.lst (ts.map V.ref))) (cmp:m_ X mx pins σ H kf ts)
  (fin:∀ s',Inv X pins σ H s'->(ts=[]->∃ d,kw=[(Str.ofString "default",d)]/\R (.ok (.ret d)) s')/\∀ (b:Nat) (t:Addr),ts[b]? = some t->(∀ j,j < ts.length->jo mx (kf b) (kf j))->R (.ok (.ret (.ref t))) s') :
  ∀ (r i:Nat) (s':Shared) (fQ:Array Value) (c:Nat) (oI:Obj),i + r=ts.length->Inv X ((S,seqObj "list" fQ c) :: (I,oI) :: pins) σ H s'->oI.cls = .type "list_iterator" -> oI.data = .fields #[.ref l,.int i 0]->Rq mx kf ts i fQ →
   codeAny (model X.prog X.w) X.A (.builtin (kM mx) ⟨[.ref I,.none,.ref S],kw⟩) R s':=by
 have cO:(toString (fG mx) ++ toString ".loop" : String)=kM mx:=by cases mx<;>decide
 intro r
 induction r with
 | zero =>
  intro i s' fQ c oI hr J lg qf hb
  have pS:=J.pin (S,seqObj "list" fQ c) (LU _ (.head _))
  have pI:=J.pin (I,oI) (LU _ (.tail _ (.head _)))
  have Jn:=J.bF.bF
  obtain⟨aq,rv,pl,_⟩:=Jn.list (bq.of hl)
  have lv:=rv.length
  rw[oV] at lv
  have AO:i=aq.length:=by omega
  refine WN (wo mx) ?_
  rw[Wq (jN mx) _]
  show wpAny _ X.A.in1 (seqItems? (.ref S) >>= _) _ _ _
  refine mq (Xo pS.1 rfl ?_)
  show wpAny _ X.A.in1 (tryCatch (pyNext (.ref I)) _ >>= _) _ _ _
  have W:=Yp (prog:=X.prog) (w:=X.w) (A:=X.A.in1) hh I l kN aq.toArray
  refine mq (Xr (W.done _ _ _ ⟨⟨oI,pI.1,lg,by rw[qf,sD,<-AO]⟩,XZ pl⟩ fun h' iS eX => ?_))
  have J1:Inv X pins σ H { s' with heap:=h',toks:=iS }:=Jn.bV (fI pI.2.1) fun c o n e=>eX c o (by simpa using n) e
  have iN:=eX S _ (by simpa using kO) pS.1
  rcases hb with⟨uw,rfl⟩ | ⟨b,t,hb,ht,rfl,best⟩
  ·obtain⟨d,rfl,q⟩:=(fin _ J1).1 (Wd.mp (by omega))
   exact mq (Ze (xR q))
  ·have s1:=VF h' S (Obj.mapSeq fun _=>(#[]:Array Value))
   show wpAny _ X.A.in1 (updateSeq S (fun _ => #[]) >>= _) _ _ _
   refine mq (Xz iN rfl (mq (Xt (xR ?_))))
   exact (fin _ (J1.bV (fS pS.2.1) fun c o n e=>(s1.2 c n).trans e)).2 b t ht fun j hj=>best j (by omega)
 | succ r ih =>
  intro i s' fQ c oI hr J lg qf hb
  have pS:=J.pin (S,seqObj "list" fQ c) (LU _ (.head _))
  have pI:=J.pin (I,oI) (LU _ (.tail _ (.head _)))
  have Jn:=J.bF.bF
  obtain⟨aq,rv,pl,_⟩:=Jn.list (bq.of hl)
  have lv:=rv.length
  rw[oV] at lv
  refine WN (wo mx) ?_
  rw[Wq (jN mx) _]
  show wpAny _ X.A.in1 (seqItems? (.ref S) >>= _) _ _ _
  refine mq (Xo pS.1 rfl ?_)
  show wpAny _ X.A.in1 (tryCatch (pyNext (.ref I)) _ >>= _) _ _ _
  have W:=Yp (prog:=X.prog) (w:=X.w) (A:=X.A.in1) hh I l kN aq.toArray
  refine mq (Xr (W.item i _ _ _ (by rw[sD];omega) ⟨⟨oI,pI.1,lg,qf⟩,XZ pl⟩ fun v h' iS hv qg eX => ?_))
  have hv:aq[i]? = some v:=by simpa using hv
  obtain⟨jq,m8,kP,jr⟩:=id qg.1
  have hi:i < ts.length:=by omega
  have hx:=oU hi
  generalize ts[i]=t2 at hx
  obtain⟨u,e1,rx⟩:=rv.get (x := .ref t2) (by rw[LR,hx];rfl)
  rw[hv] at e1
  cases e1
  cases rx
  have iN:=eX S _ (by simpa using kO) pS.1
  have nI:∀ z,jq.data ≠ .cell z:=fun z e=>by rw[jr] at e;cases e
  have J1:Inv X pins σ H { s' with heap:=h',toks:=iS }:=Jn.bV (fI pI.2.1) fun c o n e=>eX c o (by simpa using n) e
  have J2:=(J1.cX (fI pI.2.1) m8 nI).cX ((fS pS.2.1).cons (p:=(I,jq)) kO.symm) iN lM
  have put:(∀ j,j < i + 1->jo mx (kf i) (kf j))->codeAny (model X.prog X.w) X.A (.builtin (kM mx) ⟨[.ref I,.none,.ref S],kw⟩) R { s' with heap:=h'.update S (Obj.mapSeq fun _ => #[.ref t2,.ref t2]),toks:=iS }:=fun best=>by
   have s1:=VF h' S (Obj.mapSeq fun _ => #[Value.ref t2,Value.ref t2])
   obtain⟨c2,eK⟩:∃ c2,(h'.update S (Obj.mapSeq fun _ => #[Value.ref t2,Value.ref t2])).get? S=some (seqObj "list" #[.ref t2,.ref t2] c2):=⟨_,Xd iN fun _ => #[Value.ref t2,Value.ref t2]⟩
   have J4:Inv X pins σ H { s' with heap:=h'.update S (Obj.mapSeq fun _ => #[Value.ref t2,Value.ref t2]),toks:=iS }:=J1.bV (t':=iS) (fS pS.2.1) fun c o n e=>(s1.2 c n).trans e
   have J5:=(J4.cX (fI pI.2.1) ((s1.2 I kO.symm).trans m8) nI).cX ((fS pS.2.1).cons (p:=(I,jq)) kO.symm) eK lM
   exact ih (i + 1) _ _ c2 jq (by omega) J5 kP jr (.inr ⟨i,t2,by omega,hx,rfl,best⟩)
  rcases hb with⟨uw,rfl⟩ | ⟨b,t,hb,ht,rfl,best⟩
  ·show wpAny _ X.A.in1 (updateSeq S (fun _ => #[.ref t2,.ref t2]) >>= _) _ _ _
   refine mq (Xz iN rfl ?_)
   rw[cO]
   refine xR ⟨WY (jN mx) _,put fun j hj => ?_⟩
   obtain rfl:j=i:=by omega
   exact wq _ _
  ·show wpAny _ X.A.in1 (tryCatch (holding [.ref t2,.ref t2] (richCompare _ (.ref t2) (.ref t) >>= _)) _ >>= _) _ _ _
   refine mq (Xr (VG (mq (cmp i b t2 t _ _ _ _ hx ht J2 ?_))))
   refine mq (VG (Wx ?_))
   refine mq (Xt (xR ?_))
   split
   ·rename_i hq
    refine mq (Xz iN rfl (mq (Xt ?_)))
    rw[cO]
    refine xR ⟨WY (jN mx) _,put fun j hj => ?_⟩
    by_cases e:j=i
    ·subst e;exact wq _ _
    ·exact Gy hq (best j (by omega))
   ·rename_i hq
    refine mq (Xt ?_)
    rw[cO]
    refine xR ⟨WY (jN mx) _,ih (i + 1) _ _ c jq (by omega) J2 kP jr (.inr ⟨b,t,by omega,ht,rfl,fun j hj => ?_⟩)⟩
    by_cases e:j=i
    ·subst e;exact Gz hq
    ·exact best j (by omega)
theorem GN (mx:Bool) {Q:Value->Shared->Prop} {dd:Option Value} (kf:Nat->LK) (ak:argsOk (fG mx) ⟨[.ref l],kw⟩) (bp:Builtin.Builtins.bindParams (fG mx) ["key", "default"] 0 ⟨[],kw⟩=pure [none,dd]) (ek:(dd.toList.map fun d=>(Str.ofString "default",d))=kw) (J:Inv X pins σ H s) (hh:X.A.handled=none) (hu:X.A.units + 1 < cLine)
  (hl:H l=some (.lst (ts.map V.ref))) (cmp:∀ bf,m_ X mx bf σ H kf ts)
  (fin:∀ s',Inv X pins σ H s'->(ts=[]->∃ d,kw=[(Str.ofString "default",d)]/\Q d s')/\∀ (b:Nat) (t:Addr),ts[b]? = some t->(∀ j,j < ts.length->jo mx (kf b) (kf j))->Q (.ref t) s') :
  wpAny (model X.prog X.w) X.A (call (.builtin (fG mx)) [.ref l] kw) Q E s:=by
 have cO:(toString (fG mx) ++ toString ".loop" : String)=kM mx:=by cases mx<;>decide
 obtain⟨aq,rv,pl,_⟩:=J.list (bq.of hl)
 have qJ:=PlainL.lt pl
 refine kmk_tree (Gw mx) (Gx mx) (Gv mx) ak ?_
 show wpAny _ X.A.in1 (Builtin.Builtins.bindParams (fG mx) ["key", "default"] 0 ⟨[],kw⟩ >>= _) _ _ s
 refine mq (wpAny_of_eq bp ?_)
 refine mq (xR ?_)
 refine mq (Xg (XZ pl) ?_)
 refine mq (XY ?_ (V6 _))
 rw[cO]
 show wpAny _ _ (again (.builtin (kM mx) ⟨[_,.none,_],dd.toList.map fun d=>(Str.ofString "default",d)⟩)) _ _ _
 rw[ek]
 refine xR ⟨WY (jN mx) _,?_⟩
 have J1:Inv X pins σ H { s with heap:=s.heap.push { cls := .type "list_iterator",data := .fields #[.ref l,.int 0 0] } }:=J.kept (t':=s.toks) fun b u e=>qt _ e
 have gI:(s.heap.push { cls := .type "list_iterator",data := .fields #[.ref l,.int 0 0] }).get? s.heap.objs.size=some { cls := .type "list_iterator",data := .fields #[.ref l,.int 0 0] }:=Vq _ rfl
 have hS:(s.heap.push { cls := .type "list_iterator",data := .fields #[.ref l,.int 0 0] }).objs.size≠s.heap.objs.size:=fun z=>WC _ (Nat.lt_of_lt_of_eq (UL gI) z)
 have fI:H s.heap.objs.size=none->a9 X pins H s.heap.objs.size:=J.eu (uX _)
 have uA:H s.heap.objs.size=none:=J.aN.fresh (uX _)
 have kN:l≠s.heap.objs.size:=Vx qJ
 generalize s.heap.objs.size=I at gI hS fI uA kN
 generalize s.heap.push { cls := .type "list_iterator",data := .fields #[.ref l,.int 0 0] }=g1 at J1 gI hS
 have fS:H g1.objs.size=none->a9 X pins H g1.objs.size:=J1.eu (uX _)
 have AQ:H g1.objs.size=none:=J1.aN.fresh (uX _)
 have J2:Inv X pins σ H { s with heap:=g1.push (seqObj "list" #[] 0) }:=J1.kept (t':=s.toks) fun b u e=>qt _ e
 have J3:=(J2.cX (fI uA) (qt _ gI) (fun z e=>by cases e)).cX ((fS AQ).cons (p:=(I,_)) hS.symm) (Vq _ rfl) lM
 exact Rr mx kf hh hu kN hS fI fS hl (cmp _) fin ts.length 0 _ #[] 0 _ (by simp) J3 rfl rfl (.inl ⟨rfl,rfl⟩)
end
end L2
namespace HT
open PySem PySem.Spec PyProof.Rows
structure El (A:Around) (s:Shared) (v w:Value) (e g:Bool):Prop where
 eq:SeqAt.EqAt A s v w e
 gt:e=false->∀ (prog:Program) (wd:World) (Q:Value->Shared->Prop) (E:Value->Shared->Prop),Q (.bool g) s->wpAny (model prog wd) A (richCompare .Gt v w) Q E s
inductive oe (A:Around) (s:Shared):List Value->List Value->Bool->Prop
 | nil:oe A s [] [] false
 | cons {v w vs ws e g r}:El A s v w e g->oe A s vs ws r->oe A s (v :: vs) (w :: ws) (if e=true then r else g)
theorem oe.length {A:Around} {s:Shared} {vs ws:List Value} {r:Bool} (h:oe A s vs ws r):vs.length=ws.length:=by
 induction h with
 | nil=>rfl
 | cons _ _ ih=>rw[DE,DE,ih]
section
open PySem.SeqAt
open PySem.AutoSeq1 (wpAny_loadPart')
open PySem.MeetsSeq PySem.MeetsSeq2 PySem.MeetsSeq3
theorem Rt (l b:Addr) (items aI:Array Value) (n n2:Nat) (dd gR:Option Addr) (sl gT:Array (Option Value)) (v:Bool) :
  Meets (Builtin.«tuple.__gt__» ⟨[.ref l,.ref b],[]⟩)
   (fun A R s=>s.heap.get? l=some { cls := .type "tuple",dict:=dd,data := .seq items n,slots:=sl }/\s.heap.get? b=some { cls := .type "tuple",dict:=gR,data := .seq aI n2,slots:=gT } ∧
    oe A.in1 s items.toList aI.toList v/\R (.ok (.ret (.bool v))) s) :=
 .of_wp fun prog w A R s h=>by
  obtain⟨hp,g,d,tk,os⟩:=s;obtain⟨hl,hb,hE,h⟩:=h
  have f2:=XU
  have zz:items.size=aI.size:=by have:=hE.length;simpa using this
  wp_walk using VS hl,VS hb,Yo _ (fun rest b s'=>b.1=none/\s'=⟨hp,g,d,tk,os⟩/\∃ (vs ws:List Value) (r:Bool),rest=vs.zip ws/\oe A.in1 ⟨hp,g,d,tk,os⟩ vs ws r/\R (.ok (.ret (.bool r))) ⟨hp,g,d,tk,os⟩) _
  case turn =>
   rintro ⟨y,x⟩ rest b s' ⟨hb',rfl,vs,ws,r,hz,Bq,hR⟩
   cases Bq with
   | nil=>cases hz
   | @cons v1 w1 Ve Vf e1 g1 r1 he hr =>
    rw[Wr] at hz
    injection hz with sv gC
    injection sv with hy hx
    subst hy hx
    refine mq (he.eq prog w _ _ ?_)
    cases e1 with
    | true =>
     rw[UO rfl] at hR
     wp_walk
     exact⟨rfl,rfl,_,_,_,gC,hr,hR⟩
    | false =>
     rw[LX Vv] at hR
     have sx:=fun Q E=>he.gt rfl prog w Q E
     wp_walk using sx
     exact⟨_,rfl,by simpa using hR⟩
  case fin =>
   rintro ⟨b1,b2⟩ s' ⟨hb',rfl,vs,ws,r,hz,Bq,hR⟩
   simp only at hb'
   subst hb'
   have hv:r=decide (aI.size < items.size):=by
    cases Bq with
    | nil=>exact (DF (by omega)).symm
    | cons _ _=>rw[Wr] at hz;cases hz
   rw[hv] at hR
   wp_walk
   exact⟨_,rfl,by simpa [Builtin.Tuple.tupleCompareSizes] using hR⟩
  case h =>
   exact⟨rfl,rfl,items.toList,aI.toList,v,rfl,hE,h⟩
end
section
variable {prog:Program} {w:World} {A:Around} {E:Value->Shared->Prop} {s:Shared}
theorem Ru {l b:Addr} {items aI:Array Value} {v:Bool} {Q:Value->Shared->Prop} (hl:IsTup s.heap l items) (hb:IsTup s.heap b aI) (he:oe A.in1 s items.toList aI.toList v)
  (hu:A.units < cLine) (h:Q (.bool v) s):wpAny (model prog w) A (richCompare .Gt (.ref l) (.ref b)) Q E s:=by
 obtain⟨⟨cls,dd,data,sl⟩,ho,hc,n,hd⟩:=id hl
 obtain⟨⟨ma,gR,data2,gT⟩,dI,eK,n2,hd2⟩:=id hb
 simp only at hc hd eK hd2
 subst hc hd eK hd2
 exact Yg (op := .Gt) ⟨_,ho,rfl⟩ ⟨_,dI,rfl⟩ PySem.F.slot_tuple_gt Zg (Y4 _ _) (Rt l b items aI n n2 dd gR sl gT v)
  ⟨ho,dI,he,show Value.bool v≠Value.notImplemented/\Q (.bool v) s from ⟨(fun x=>nomatch x),h⟩⟩ hu
end
end HT
namespace L2
open PySem PySem.Spec PyProof.Rows PySem.W
noncomputable def kX (p:LK × Int):D := .tup [tupI p.1,.int p.2]
theorem GP:∀ a b:List Int,bM (a.map D.int) (b.map D.int)=decide (a=b)
 | [],[]=>by simp[bM]
 | [],_ :: _=>by simp[bM]
 | _ :: _,[]=>by simp[bM]
 | a :: r,b :: s=>by
  rw[Vy,Vy]
  simp only[bM,aH,GP r s,Zp,Bool.decide_and]
  congr 1
theorem Br:∀ k:List Int,bH (k.map D.int) <= 1
 | []=>by simp[bH]
 | a :: r=>by have:=Br r;simp only[Vy,bH,dep];omega
theorem GQ (a b:LK):aH (tupI a) (tupI b)=decide (a=b):=by
 unfold tupI;simp only[aH];exact GP a b
noncomputable def kp (p:LK × Int):LK:=p.1 ++ [p.2]
noncomputable def kpr (ps:List (LK × Int)) (i:Nat):LK:=(ps[i]?.map kp).getD []
theorem wD {ps:List (LK × Int)} {i:Nat} {p:LK × Int} (h:ps[i]? = some p):kpr ps i=kp p:=by unfold kpr;rw[h];rfl
theorem GR (a:Value):argsOk "max" ⟨[a],[]⟩:=by unfold argsOk;kernel_rfl
section
variable [aM] {X:Cx} {pins:List (Addr × Obj)} {σ : St} {H:Hp} {ts:List Addr}
theorem Rv {L:Nat} {ps:List (LK × Int)} (hu:X.A.units + 8 < cLine) (hL:∀ p∈ps,p.1.length=L)
  (hP:∀ (i:Nat) (t:Addr),ts[i]? = some t->∃ (p:LK × Int) (a:Addr),ps[i]? = some p/\H t=some (.tup [.ref a,.int p.2])/\H a=some (.tup (p.1.map V.int))) :
  m_ X true pins σ H (kpr ps) ts:=by
 intro i j t u bf s' Q E hi hj J h
 obtain⟨p,a,e1,h1,h2⟩:=hP i t hi
 obtain⟨q,b,e2,h3,h4⟩:=hP j u hj
 rw[wD e1,wD e2] at h
 obtain⟨i1,r1,uy,_⟩:=J.tuple (bB.of h1)
 obtain⟨i2,r2,uz,_⟩:=J.tuple (bB.of h3)
 obtain⟨x1,y1,rfl,x2,y2⟩:=vals2 r1
 obtain⟨x3,y3,rfl,x4,y4⟩:=vals2 r2
 cases x2
 cases x4
 obtain⟨iR,rfl⟩:=y2
 obtain⟨sW,rfl⟩:=y4
 obtain⟨i3,r3,Rw,_⟩:=J.tuple (bB.of h2)
 obtain⟨i4,r4,Rx,_⟩:=J.tuple (bB.of h4)
 have g1:Is H (tupI p.1) (.ref a):=by unfold tupI;simp only[Is];exact⟨a,_,rfl,h2,ku⟩
 have g2:Is H (tupI q.1) (.ref b):=by unfold tupI;simp only[Is];exact⟨b,_,rfl,h4,ku⟩
 have ee:=(vz J 3 (A:=X.A.in1.in1) (by unfold tupI;have:=Br p.1;simp only[dep];omega) (by show X.A.units + 1 + 1 + 3 < cLine;omega) g1 g2 (show RelV (.ref a) (.ref a) from rfl) (show RelV (.ref b) (.ref b) from rfl)).1
 obtain⟨e,he,h9⟩:=HT.xv X.A.in1.in1 s' p.2 iR q.2 sW
 refine HT.Ru (A:=X.A.in1) uy uz (.cons ⟨ee,fun _ prog wd Q' E' k=>HT.Gu (ns:=p.1) (ms:=q.1) Rw Rx (by simpa using intsAre_of r3) (by simpa using intsAre_of r4) (by show X.A.units + 1 + 1 < cLine;omega) k⟩ (.cons ⟨he,fun _ prog wd Q' E' k=>HT.Gs _ _ _ _ _ _ prog wd E' Q' k⟩ .nil)) (by show X.A.units + 1 < cLine;omega) ?_
 have lp:=hL p (VA e1)
 have lq:=hL q (VA e2)
 have hv:uv true (kp p) (kp q)=(if aH (tupI p.1) (tupI q.1)=true then (if e=true then false else decide (q.2 < p.2)) else HT.lexLt q.1 p.1):=by
  show HT.lexLt (q.1 ++ [q.2]) (p.1 ++ [p.2])=_
  rw[we _ _ (by rw[lp,lq]),GQ]
  by_cases c:p.1=q.1
  ·rw[UO c.symm,UO (LV c)]
   cases e with
   | true=>rw[UO rfl];exact DF (by have:=h9.mp rfl;omega)
   | false=>rw[LX Vv]
  ·rw[LX (fun z=>c z.symm),LX (by simpa using c)]
 rw[hv] at h
 exact h
theorem pairs_at {F:Hp}:∀ {ps:List (LK × Int)} {us:List V},ae F (ps.map kX) us->∃ ts:List Addr,us=ts.map V.ref/\ts.length=ps.length/\∀ (i:Nat) (t:Addr),ts[i]? = some t->∃ (p:LK × Int) (a:Addr),ps[i]? = some p/\F t=some (.tup [.ref a,.int p.2])/\F a=some (.tup (p.1.map V.int))
 | [],us,h=>by
  have:=h.length
  exact⟨[],Wd.mp this,rfl,fun i t e=>by simp at e⟩
 | p :: ps,us,h=>by
  cases us with
  | nil=>have:=h.length;cases this
  | cons u us =>
   have h1:Is F (kX p) u:=ae.at h (i:=0) rfl rfl
   have h2:ae F (ps.map kX) us:=vA 1 h
   obtain⟨ts,rfl,e1,e2⟩:=pairs_at h2
   unfold kX at h1
   simp only[Is] at h1
   obtain⟨t,ws,rfl,g1,g2⟩:=h1
   refine⟨t :: ts,rfl,by rw[DE,DE,e1],fun i t' e => ?_⟩
   cases i with
   | zero =>
    cases (show some t=some t' from e)
    have l2:=g2.length
    match ws,l2,g1,g2 with
    | [w1,w2],_,g1,g2 =>
     have j1:Is F (tupI p.1) w1:=ae.at g2 (i:=0) rfl rfl
     have j2:Is F (.int p.2) w2:=ae.at g2 (i:=1) rfl rfl
     unfold tupI at j1
     simp only[Is] at j1 j2
     obtain⟨a,vs,rfl,k1,k2⟩:=j1
     rw[lG k2] at k1
     cases j2
     exact⟨p,a,rfl,g1,k1⟩
   | succ i=>exact e2 i t' e
noncomputable def Bs (ds:List D) (K:D->Prop):Prop:=∃ (ps:List (LK × Int)) (L:Nat),ds=[.lst (ps.map kX)]/\ps≠[]/\(∀ p∈ps,p.1.length=L)/\∀ p∈ps,(∀ q∈ps,kle (kp q) (kp p))->K (kX p)
theorem Ry (hu:X.A.units + 64 < cLine) (hc:X.calm=true):b8 X (.builtin "max") Bs:=by
 rintro pins s σ H xs us Q I r ⟨F,ds,K,sub,rd,q,md⟩
 obtain⟨ps,L,rfl,ne,hL,q⟩:=q
 obtain⟨v,rfl,a,vs,rfl,h1,h2⟩:=cf rd
 obtain⟨u,rfl,rx⟩:=vals1 r
 cases rx
 obtain⟨ts,rfl,tl,ht⟩:=pairs_at h2
 refine GN true (l:=a) (ts:=ts) (kw:=[]) (dd:=none) (kpr ps) (GR _) rfl rfl I (I.ok.hd hc) (by omega) h1 (fun bf=>Rv (by omega) hL fun i t e => ?_) fun s' I'=>⟨fun h0 => ?_,fun b t e best => ?_⟩
 ·obtain⟨p,a',e1,e2,e3⟩:=ht i t e
  exact⟨p,a',e1,sub _ _ e2,sub _ _ e3⟩
 ·exact (ne (Wd.mp (by rw[<-tl,h0];rfl))).elim
 ·obtain⟨p,a',e1,e2,e3⟩:=ht b t e
  refine⟨.ref t,H,I',rfl,md _ _ _ (q p (VA e1) fun x hx => ?_) (fun _ _ e=>e) ?_⟩
  ·obtain⟨j,hj⟩:=UM.mp hx
   have:=best j (by rw[tl];exact (oW.mp hj).1)
   rw[wD e1,wD hj] at this
   exact this
  ·rw[Nw.refl sub];unfold kX tupI
   simp only[Is]
   exact⟨t,_,rfl,e2,_,_,rfl,⟨a',_,rfl,e3,ku⟩,_,_,rfl,rfl,rfl⟩
end
end L2
namespace L2
open PySem
variable [aM]
section
variable {F F' H H':Hp} {ad aK:List Addr} {δ δ':aF} {σ σ':St}
end
section
variable {X:Cx} {AB k_ jT lW:Stmt} {i j:Nat} {G:GD} {t t2:WT} {B:TS} {E:XK}
end
section
variable {F F' H H':Hp} {ad aK:List Addr} {δ δ':aF} {σ σ':St}
end
section
variable {X:Cx} {AB k_ jT lW Vg:Stmt} {i j l:Nat} {G:GD} {t u:WT} {B B':TS} {E:XK}
end
section
variable {F F' H H':Hp} {ad aK:List Addr} {δ δ':aF} {σ σ':St}
end
section
variable {X:Cx} {AB k_ jT lW:Stmt} {i j1 j2 j3:Nat} {G:GD} {t t2:WT} {R:WS} {B:TS} {E:XK} {c:Int} {ct:Expr} {pos:Pos}
end
end L2
namespace L2
open PySem PySem.Spec PyProof.Rows
noncomputable def nh:List D->(D->Prop)->Prop
 | [.bl b],K=>K (.int (if b then 1 else 0))
 | _,_=>False
variable [aM] {X:Cx}
theorem Rz:b8 X (.type "int") nh:=by
 rintro pins s σ H xs us Q I r ⟨F,ds,K,sub,rd,q,md⟩
 unfold nh at q
 split at q
 ·rename_i b
  obtain⟨v,rfl,rfl⟩:=cf rd
  obtain⟨u,rfl,rx⟩:=vals1 r
  cases rx
  refine call_int_bool ⟨.int (if b then 1 else 0),H,I.tok _,⟨_,rfl⟩,md _ _ _ q (fun _ _ e=>e) rfl⟩
 ·exact q.elim
end L2
namespace LJ
open PySem L2
variable [aM]
theorem RA {m:Int} {ws:List Wy} (W:aC m ws) {l os:List Int} {n:Int} (hn:0 <= n/\n < (ws.length:Int)) (ln:fR l (ax ws n)=true) (lv:∀ v∈ws,fR l v=true->eO (ax ws n) v\/v=ax ws n) (pm:os.Perm (iP ws l)) (up:(os.map (bw ws)).Pairwise kle):os.take 1=[n]:=by
 have no:n∈os:=pm.mem_iff.mpr (VR.mpr ⟨b9.mpr hn,ln⟩)
 cases os with
 | nil=>cases no
 | cons a r =>
  have ha:=VR.mp (pm.mem_iff.mp (.head r))
  have ar:=p8 ha.1
  have le:kle (bw ws a) (bw ws n):=by
   rcases Vr.mp no with e | e
   ·rw[e];exact kle_refl _
   ·rw[Vy] at up
    exact (WJ.mp up).1 _ (Wb e)
  have e:a=n:=by
   rcases lv _ (qe ar.1 ar.2) ha.2 with c | c
   ·exact absurd c (rp le)
   ·exact Ap W ar hn (by unfold bw;unfold ax at c;rw[c])
  rw[e];rfl
theorem RB {m r s:Int} (hr:0 <= r/\r < m) (hs:0 <= s/\s < m - 1):0 <= (r + 1 + s) % m/\(r + 1 + s) % m < m/\(r + 1 + s) % m≠r:=by
 have h0:=Ws (r + 1 + s) (show m≠0 by omega)
 have h1:=V8 (r + 1 + s) (show 0 < m by omega)
 refine⟨h0,h1,?_⟩
 by_cases c:r + 1 + s < m
 ·rw[Int.emod_eq_of_lt (by omega) c];omega
 ·rw[<-Int.sub_emod_right,Int.emod_eq_of_lt (by omega) (by omega)];omega
end LJ
namespace L2
open PySem PySem.Spec PyProof.Rows PySem.W
section
variable [aM] {X:Cx} {pins:List (Addr × Obj)} {σ : St} {H:Hp} {ts:List Addr}
theorem RC {mx:Bool} {kf:Nat->LK} (hu:X.A.units + 8 < cLine) (hP:∀ (i:Nat) (t:Addr),ts[i]? = some t->H t=some (.tup ((kf i).map V.int))):m_ X mx pins σ H kf ts:=by
 intro i j t u bf s' Q E hi hj J h
 obtain⟨i1,r1,uy,_⟩:=J.tuple (bB.of (hP i t hi))
 obtain⟨i2,r2,uz,_⟩:=J.tuple (bB.of (hP j u hj))
 exact GA (ns:=kf i) (ms:=kf j) uy uz (by simpa using intsAre_of r1) (by simpa using intsAre_of r2) (by show X.A.units + 1 < cLine;omega) h
noncomputable def Bt (ds:List D) (K:D->Prop):Prop:=∃ ks:List LK,ds=[.lst (ks.map tupI)]/\ks≠[]/\∀ k∈ks,(∀ e∈ks,kle e k)->K (tupI k)
theorem RD (hu:X.A.units + 64 < cLine) (hc:X.calm=true):b8 X (.builtin "max") Bt:=by
 rintro pins s σ H xs us Q I r ⟨F,ds,K,sub,rd,q,md⟩
 obtain⟨ks,rfl,ne,q⟩:=q
 obtain⟨v,rfl,a,vs,rfl,h1,h2⟩:=cf rd
 obtain⟨u,rfl,rx⟩:=vals1 r
 cases rx
 obtain⟨ts,rfl,tl,ht⟩:=GJ h2
 have gd:∀ {i:Nat} (h:i < ks.length),ks.getD i []=ks[i]:=fun {i} h=>by rw[DD,oU h];rfl
 refine GN true (l:=a) (ts:=ts) (kw:=[]) (dd:=none) (fun i=>ks.getD i []) (GR _) rfl rfl I (I.ok.hd hc) (by omega) h1 (fun bf=>RC (by omega) fun i t e=>sub _ _ (ht i t e)) fun s' I'=>⟨fun h0 => ?_,fun b t e best => ?_⟩
 ·exact (ne (Wd.mp (by rw[<-tl,h0];rfl))).elim
 ·have hb:b < ks.length:=by rw[<-tl];exact (oW.mp e).1
  refine⟨.ref t,H,I',rfl,md _ _ _ (q ks[b] (WK hb) fun x hx => ?_) (fun _ _ e=>e) ?_⟩
  ·obtain⟨j,hj,rfl⟩:=List.mem_iff_getElem.mp hx
   have:=best j (by omega)
   rw[gd hb,gd hj] at this
   exact this
  ·have:=ht b t e
   rw[gd hb] at this
   rw[Nw.refl sub]
   unfold tupI
   simp only[Is]
   exact⟨t,_,rfl,this,ku⟩
end
end L2
namespace L2
open PySem PySem.Spec PyProof.Rows
section
variable {X:Cx} {a b:Expr} {ta tb:TE} {pos:Pos} {rest:List Expr}
theorem RE (ha:JE X a ta) (hb:JE X (.BoolOp .Or (b :: rest) pos) tb):JE X (.BoolOp .Or (a :: b :: rest) pos) (fun σ H Q=>ta σ H fun x H1=>(x = .non/\tb σ H1 Q)\/∃ p xs,x = .ref p/\bq X.K H1 p xs/\if xs=[] then tb σ H1 Q else Q x H1):=⟨by
 intro pins s σ H Q I h
 refine BoolOp_or (aZ (ha.out pins s σ H _ I h) fun v s1 h0_ => el5 h0_ fun x H1 I1 r1 q1 => ?_)
 rcases q1 with⟨rfl,q1⟩ | ⟨p,xs,rfl,hx,q1⟩
 ·cases r1
  exact truthy_none (hb.out pins s1 σ H1 Q I1 q1)
 ·cases r1
  obtain⟨aq,r,pl,hz⟩:=I1.list hx
  have hlen:=r.length
  have hl:=oH
  refine wpAny_truthy_list pl.isList (by simp only[sD];omega) ?_
  rw[K4 r]
  cases xs with
  | nil=>exact hb.out pins _ σ H1 Q (I1.tok _) q1
  | cons y ys=>exact⟨.ref p,H1,I1.tok _,rfl,q1⟩⟩
end
section
variable [aM] {X:Cx} {a b:Expr} {f g:WE} {pos:Pos} {rest:List Expr}
noncomputable def ni (f g:WE):WE:=fun δ K=>f δ fun x δ1=>match x with
 | .p .non=>g δ1 K
 | .p (.lst ds)=>if ds=[] then g δ1 K else K x δ1
 | _=>False
theorem RF (ha:JE X a (tD f)) (hb:JE X (.BoolOp .Or (b :: rest) pos) (tD g)):JE X (.BoolOp .Or (a :: b :: rest) pos) (tD (ni f g)) :=
 (RE ha hb).weak fun σ H Q h0_ => el7 h0_ fun F ad δ K S q k =>⟨F,ad,δ,_,S,q,fun x δ1 h1 v F1 aO H1 E1 S1 V1=>by
  have go:g δ1 K->tD g σ H1 Q:=fun h2=>⟨F1,aO,δ1,_,S1,h2,fun x δ2 h3 v F2 bK H2 E2 S2 V2=>k _ _ h3 _ _ _ _ (E1.trans E2) S2 V2⟩
  split at h1
  ·exact .inl ⟨V1,go h1⟩
  ·have V0:=V1
   obtain⟨p,vs,rfl,g1,g2⟩:=V1
   refine .inr ⟨p,vs,rfl,bq.of (S1.sub _ _ g1),?_⟩
   by_cases c:vs=[]
   ·rw[UO c]
    rw[UO (by have:=g2.length;rw[c] at this;exact Yu this.symm)] at h1
    exact go h1
   ·rw[LX c]
    rw[LX (fun z=>c (by have:=g2.length;rw[z] at this;exact Yu this))] at h1
    exact k _ _ h1 _ _ _ _ E1 S1 V0
  ·exact h1.elim⟩
end
end L2
namespace LJ
open PySem L2
variable [aM]
structure gm (m:Int) (ws:List Wy) (i j n:Int) (l:List Int):Prop where
 rise:iy m 0 l=true
 one:i∈l
 GS:j∉l
 num:0 <= n/\n < (ws.length:Int)
 nk:bT ws (ax ws n) i j
 out:fR l (ax ws n)=true
 low:∀ v∈ws,fR l v=true->eO (ax ws n) v\/v=ax ws n
open Classical in
noncomputable def ju (m:Int) (ws:List Wy) (i j n:Int) (l:List Int):Bool:=decide (gm m ws i j n l)
open Classical in
theorem GU {m:Int} {ws:List Wy} {i j n:Int} {l:List Int} (h:¬ gm m ws i j n l):ju m ws i j n l=false:=by
 unfold ju;exact DF h
open Classical in
theorem GV {m:Int} {ws:List Wy} {i j n:Int} {l:List Int} (h:gm m ws i j n l):ju m ws i j n l=true:=by
 unfold ju;exact LV h
noncomputable def Bu:GD:=fun ys aj K=>∃ (m:Int) (ws:List Wy) (i j:Nat) (n:Int) (l:List Int),aC m ws/\i < m.toNat/\j < m.toNat/\i≠j/\ys=[.p (aE m ws),.p (.int i),.p (.int j),.p (.int n),.p (aS l)]/\aj=[]/\K (.p (.bl (ju m ws i j n l))) []
theorem RG:∀ ys aj K',ys.length=5->Bu ys aj K'->Bi (bG aj.length K') ⟨ys.map some ++ List.replicate 1 none,aj.map some⟩:=by
 rintro ys aj K' - ⟨m,ws,i,j,n,l,W,hi,hj,ne,rfl,rfl,k⟩
 have d0:=jM l
 have kn:¬ gm m ws i j n l->K' (.p (.bl false)) []:=fun h=>by rw[GU h] at k;exact k
 have ky:gm m ws i j n l->K' (.p (.bl true)) []:=fun h=>by rw[GV h] at k;exact k
 clear k
 unfold Bi
 refine aU fun N hN => ?_
 simp? only []
 refine⟨m,ws,i,j,W,hi,hj,ne,rfl,rfl,?_⟩
 show N _
 subst hN
 refine aU fun N hN => ?_
 refine gf fun A1 B1 hA hB => ?_
 have no:¬ gm m ws i j n l->A1 ⟨[some (.p (aE m ws)),some (.p (.int i)),some (.p (.int j)),some (.p (.int n)),some (.p (aS l)),none],[]⟩:=fun h=>by
  subst hA
  exact a7 (kn h)
 simp? only [aE,dG] at no ⊢
 refine⟨l,m,rfl,rfl,?_⟩
 rw[show aS l = .lst (l.map D.int) from rfl] at no ⊢
 cases ri:iy m 0 l with
 | false=>simp? only [];exact no fun h=>by rw[h.rise] at ri;cases ri
 | true =>
  simp? only []
  refine⟨by omega,?_⟩
  rw[jn]
  by_cases il:(i:Int)∈l
  ·rw[LV il]
   simp? only []
   refine⟨by omega,?_⟩
   rw[jn]
   by_cases jl:(j:Int)∈l
   ·rw[LV jl]
    simp? only []
    exact no fun h=>h.GS jl
   ·rw[DF jl]
    simp? only []
    subst hB
    show N _
    subst hN
    refine aU fun N hN => ?_
    simp? only []
    refine⟨m,ws,W,rfl,rfl,fun os ho => ?_⟩
    have F:=wy W ho
    generalize jL m ws os=fo at F
    simp? only []
    refine⟨m,ws,fo,i,j,W,F,hi,hj,ne,rfl,rfl,fun c => ?_,fun g hg ng => ?_⟩
    ·simp? only []
     subst hN
     simp? only []
     exact a7 (kn fun h=>c h.nk.all)
    ·simp? only []
     subst hN
     simp? only []
     rw[g9]
     by_cases ge:n=g
     ·rw[LV ge]
      subst ge
      simp? only []
      refine⟨m,ws,l,W,rfl,rfl,?_⟩
      simp? only []
      refine⟨m,ws,iP ws l,W,Q2,rfl,rfl,fun z => ?_,fun x hx best => ?_⟩
      ·simp? only [aH]
       exact a7 (kn fun h=>by
        have og:n∈iP ws l:=b_.mpr ⟨hg,h.out⟩
        rw[z] at og;cases og)
      ·simp? only []
       rw[g9]
       obtain⟨x1,x2⟩:=b_.mp hx
       by_cases xe:n=x
       ·rw[LV xe]
        subst xe
        refine a7 (ky ⟨ri,il,jl,hg,ng,x2,fun v hv lv => ?_⟩)
        obtain⟨y,hy,rfl⟩:=mY hv
        have b:=rp (best y (b_.mpr ⟨hy,lv⟩))
        by_cases c:ax ws y=ax ws n
        ·exact .inr c
        ·rcases qh W hv (qe hg.1 hg.2) c with z | z
         ·exact absurd z b
         ·exact .inl z
       ·rw[DF xe]
        refine a7 (kn fun h=>xe ?_)
        refine (rj W x1 hg ?_).symm
        rcases h.low _ (qe x1.1 x1.2) x2 with z | z
        ·exact absurd z (rp (best n (b_.mpr ⟨hg,h.out⟩)))
        ·exact z
     ·rw[DF ge]
      simp? only []
      exact a7 (kn fun h=>ge (rj W h.num hg (h.nk.one W ng)))
  ·rw[DF il]
   simp? only []
   exact no fun h=>il h.one
noncomputable def Bv:GD:=fun ys aj K=>∃ (l:List Int) (m:Int),ys=[.p (aS l),.p (.int m)]/\aj=[]/\K (.p (.bl (iy m 0 l))) []
noncomputable def Bw:WS:=(av (c7 (kr (ai (aa 0) af)) (i_ 2 (eF (bo 2) (eF (bo 3) iJ))) (bh (i8 (cR (dT (au 3 vZ (ai (aa 3) (ai (dC (.int 0)) (ai (d2 (aa 1) (dC (.int 1)) (oI fun i j => .int (i - j))) af)))))) (f7 (dT (d2 (aa 2) (dC (.int 0)) (oI fun i j => .bl (decide (j < i))))) (dT (d2 (d2 (aa 0) (d2 (aa 2) (dC (.int 1)) (oI fun i j => .int (i - j))) aP) (aa 3) (oI fun i j => .bl (decide (j <= i))))))) (aG (dC (.bl false))) cC)) (aG (dC (.bl true))))
theorem RH:∀ ys aj K',ys.length=2->Bv ys aj K'->Bw (bG aj.length K') ⟨ys.map some ++ List.replicate 2 none,aj.map some⟩:=by
 rintro ys aj K' - ⟨l,m,rfl,rfl,k⟩
 unfold Bw
 rw[show aS l = .lst (l.map D.int) from rfl]
 refine aU fun N hN => ?_
 refine lK fun g' b' K2 hg hb' hK => ?_
 simp? only []
 subst hg hb' hK
 refine kB (fun j δ => (∃ lo:Int,iy m 0 l=iy m lo (l.drop j)/\(j=0->lo=0)/\∀ i,j=i + 1->lo=l.getD i 0 + 1/\0 <= l.getD i 0) /\ δ = ⟨[some (.p (.lst (l.map D.int))),some (.p (.int m)),none,none],[]⟩) ⟨⟨0,rfl,fun _=>rfl,fun i e=>by omega⟩,rfl⟩ ?_ ?_
 ·rintro j d δ L hj ⟨⟨lo,e,GW,lo1⟩,rfl⟩ hL
  have hL:=fun h=>hL _ ⟨h,rfl⟩
  obtain⟨e',he,rfl⟩:=qL hj
  rw[LR] at he
  obtain⟨x,hx,rfl⟩:=UP.mp he
  obtain⟨mC,ex⟩:=oW.mp hx
  have gx:l.getD j 0=x:=by rw[DD,hx];rfl
  rw[WW mC,ex,show iy m lo (x :: l.drop (j + 1))=((decide (lo <= x) && decide (x <= m - 1)) && iy m (x + 1) (l.drop (j + 1))) from rfl] at e
  refine⟨trivial,?_⟩
  simp only[i_,eF,iJ,bo,gY,bG,DE,WD,Vy,W8,VT,VU,VZ,Nat.reduceAdd,and_self,true_and,Y3,Yb]
  refine gf fun A1 B1 hA hB => ?_
  have GX:¬ (lo <= x/\x <= m - 1)->A1 ⟨[some (.p (.lst (l.map D.int))),some (.p (.int m)),some (.p (.int (j:Nat))),some (.p (.int x))],[]⟩:=fun h=>by
   subst hA
   have q:(decide (lo <= x) && decide (x <= m - 1))=false:=by
    cases z:(decide (lo <= x) && decide (x <= m - 1)) with
    | false=>rfl
    | true=>simp only[VY,Wz] at z;exact absurd z h
   rw[e,q] at k
   exact a7 k
  have GY:lo <= x/\x <= m - 1->0 <= x->B1 ⟨[some (.p (.lst (l.map D.int))),some (.p (.int m)),some (.p (.int (j:Nat))),some (.p (.int x))],[]⟩:=fun h h0=>by
   subst hB
   simp? only []
   exact hL ⟨x + 1,by rw[e,LV h.1,LV h.2];rfl,fun z=>by omega,fun i z=>by
    obtain rfl:i=j:=by omega
    exact⟨by rw[gx],by rw[gx];exact h0⟩⟩
  clear hA hB hj he
  simp? only []
  refine⟨.int x,0,m - 1,rfl,rfl,?_⟩
  rw[show pZ (.int x) 0 (m - 1)=(decide (0 <= x) && decide (x <= m - 1)) from rfl]
  cases q:(decide (0 <= x) && decide (x <= m - 1)) with
  | false =>
   simp? only []
   refine GX fun h => ?_
   have:0 <= lo:=by
    cases j with
    | zero=>rw[GW rfl];omega
    | succ i=>have:=lo1 i rfl;omega
   rw[LV (show 0 <= x by omega),LV h.2] at q
   cases q
  | true =>
   simp only[VY,Wz] at q
   simp? only []
   cases j with
   | zero=>rw[LX (by simp)];exact GY ⟨by rw[GW rfl];exact q.1,q.2⟩ q.1
   | succ i =>
    rw[UO (LV (by omega)),show (((i + 1:Nat):Int) - 1)=(i:Int) by omega,ir (by omega)]
    obtain⟨l1,l2⟩:=lo1 i rfl
    simp? only []
    by_cases c:x <= l.getD i 0
    ·rw[LV c]
     simp? only []
     exact GX fun h=>by omega
    ·rw[DF c]
     simp? only []
     exact GY ⟨by omega,q.2⟩ q.1
 ·rintro δ ⟨⟨lo,e,_,_⟩,rfl⟩
  rw[qK,oV,List.drop_length] at e
  refine⟨trivial,?_⟩
  subst hN
  simp? only []
  rw[e] at k
  exact a7 k
structure qk (m:Int) (ws:List Wy) (n:Int) (l:List Int):Prop where
 rise:iy m 0 l=true
 out:fR l (ax ws n)=true
 low:∀ v∈ws,fR l v=true->eO (ax ws n) v\/v=ax ws n
noncomputable def Bx:GD:=fun ys aj K=>∃ (m:Int) (ws:List Wy) (n:Int) (l:List Int),aC m ws/\(0 <= n/\n < (ws.length:Int))/\ys=[.p (aE m ws),.p (.int n),.p (aS l)]/\aj=[]/\(qk m ws n l->K (.p (.bl true)) [])/\(¬ qk m ws n l->K (.p (.bl false)) [])
noncomputable def By:WS:=(av (bh (cR (dT (au 2 Bv (ai (aa 2) (ai (d2 (aa 0) (dC (.int 0)) aP) af))))) (aG (dC (.bl false))) cC) (aG (d2 (c_ (au 3 Bo (ai (aa 0) (ai (aa 2) (ai (pP (ai (dN (ai (d2 (aa 0) (dC (.int 1)) aP) af) cu) af)) af)))) dw (g6 (dC (.int 1)))) (bS (ai (aa 1) af)) oEq)))
theorem RJ:∀ ys aj K',ys.length=3->Bx ys aj K'->By (bG aj.length K') ⟨ys.map some ++ List.replicate 0 none,aj.map some⟩:=by
 rintro ys aj K' - ⟨m,ws,n,l,W,hn,rfl,rfl,ky,kn⟩
 have jK:=W.fH
 unfold By
 rw[show aS l = .lst (l.map D.int) from rfl]
 refine aU fun N hN => ?_
 refine gf fun A1 B1 hA hB => ?_
 simp? only [aE,dG]
 refine⟨l,m,rfl,rfl,?_⟩
 cases ri:iy m 0 l with
 | false =>
  simp? only []
  subst hA
  exact a7 (kn fun h=>by rw[h.rise] at ri;cases ri)
 | true =>
  simp? only []
  subst hB
  show N _
  subst hN
  simp? only [dH]
  refine⟨by omega,?_⟩
  refine⟨m,ws,l,W,by rw[LW,jI];rfl,rfl,fun os pm Bz => ?_⟩
  rw[show aS os = .lst (os.map D.int) from rfl]
  simp? only []
  have ct:cutD (os.map D.int) none (some 1)=(os.take 1).map D.int:=by
   cases os with
   | nil=>rfl
   | cons a r=>rw[show (1:Int)=((1:Nat):Int) from rfl,Rm (by simp),ZK]
  rw[ct,show ([D.int n]:List D)=[n].map D.int from rfl]
  refine⟨by rw[jM];decide,?_⟩
  simp only[aH,uu]
  by_cases c:qk m ws n l
  ·rw[RA W hn c.out c.low pm Bz]
   simp? only []
   exact a7 (ky c)
  ·rw[DF (fun z=>c ?_)]
   ·exact a7 (kn c)
   cases os with
   | nil=>cases z
   | cons a r =>
    cases z
    obtain⟨a1,a2⟩:=b_.mp (pm.mem_iff.mp (.head r))
    refine⟨ri,a2,fun v hv lv => ?_⟩
    obtain⟨y,hy,rfl⟩:=mY hv
    have yo:y∈n :: r:=pm.mem_iff.mpr (b_.mpr ⟨hy,lv⟩)
    have le:kle (bw ws n) (bw ws y):=by
     rcases Vr.mp yo with e | e
     ·rw[e];exact kle_refl _
     ·rw[Vy] at Bz
      exact (WJ.mp Bz).1 _ (Wb e)
    by_cases c:ax ws y=ax ws n
    ·exact .inr c
    ·rcases qh W hv (qe a1.1 a1.2) c with z | z
     ·exact absurd z (rp le)
     ·exact .inl z
noncomputable def BA:GD:=fun ys aj K=>∃ (m:Int) (ws:List Wy) (i j:Nat) (n:Int) (l:List Int),aC m ws/\i < m.toNat/\j < m.toNat/\i≠j/\ys=[.p (aE m ws),.p (.int i),.p (.int j),.p (.int n),.p (aS l)]/\aj=[]/\K (.p (.bl (ju m ws i j n l))) []
noncomputable def BB:WS:=(av (aD 5 (au 4 wB (ai (aa 0) (ai (au 2 ur (ai (aa 0) (ai (au 1 qW (ai (aa 0) af)) af))) (ai (aa 1) (ai (aa 2) af)))))) (av (bh (i8 (dT (d2 (aa 5) (dC .non) jh)) (i8 (dT (d2 (aa 3) (aa 5) (fA true))) (i8 (dT (d2 (aa 1) (aa 4) (fA true))) (dT (d2 (aa 2) (aa 4) (fA false)))))) (aG (dC (.bl false))) cC) (av (bh (dT (d2 (dN (ai (c8 (bA (aa 5)) [none,some 0] (bo 0) cq (au 2 mW (ai (aa 1) (ai (aa 0) af)))) af) Bt) (au 2 mW (ai (aa 0) (ai (aa 3) af))) je)) (aG (dC (.bl false))) cC) (aG (au 3 Bx (ai (aa 0) (ai (aa 3) (ai (aa 4) af))))))))
theorem RK:∀ ys aj K',ys.length=5->BA ys aj K'->BB (bG aj.length K') ⟨ys.map some ++ List.replicate 1 none,aj.map some⟩:=by
 rintro ys aj K' - ⟨m,ws,i,j,n,l,W,hi,hj,ne,rfl,rfl,k⟩
 have jK:=W.fH
 have d6:=W.d6
 have d0:=jM l
 have kn:¬ gm m ws i j n l->K' (.p (.bl false)) []:=fun h=>by rw[GU h] at k;exact k
 have ky:gm m ws i j n l->K' (.p (.bl true)) []:=fun h=>by rw[GV h] at k;exact k
 clear k
 unfold BB
 refine aU fun N hN => ?_
 simp? only []
 refine⟨m,ws,W,rfl,rfl,?_⟩
 simp? only []
 refine⟨m,ws,aL ws.length,W,rfl,rfl,fun os ho => ?_⟩
 rw[<-AK W ho]
 have F:=wy W ho
 generalize jL m ws os=fo at F
 simp? only []
 have fl:=F.len
 have ind:Indep (dF ws fo):=by rw[show dF ws fo=fP ws from funext fun v=>propext (F.kU v)];exact A0 W
 have sa:∀ e,oa ws fo e=qi ws (ax ws e):=fun e=>funext fun v=>propext (and_congr_left fun _=>F.kU v)
 refine⟨m,ws,fo,i,j,W,F.nums,by omega,ind,hi,hj,rfl,rfl,fun c => ?_,fun R nd hR c => ?_⟩
 ·simp? only []
  subst hN
  refine aU fun N hN => ?_
  simp? only []
  exact a7 (kn fun h=>c (F.conn.mpr h.nk.all))
 ·have Rl:R.length <= ws.length:=AZ (fun e he=>F.nums e ((hR e).mp he).1) nd
  have Rn:∀ e∈R,0 <= e/\e < (ws.length:Int):=fun e he=>F.nums e ((hR e).mp he).1
  have dR:=jM R
  have inR:∀ e:Int,(0 <= e/\e < (ws.length:Int))->bT ws (ax ws e) i j->e∈R:=fun e er nk=>(hR e).mpr ⟨(F.mem e).mpr ⟨er,nk.tree⟩,by rw[sa];exact nk.parts W⟩
  have top:∀ e g:Int,e∈R->(0 <= g/\g < (ws.length:Int))->bT ws (ax ws g) i j->kle (bw ws g) (bw ws e)->e=g:=fun e g he gr nk h=>by
   obtain⟨h1,h2⟩:=(hR e).mp he
   obtain⟨er,et⟩:=(F.mem e).mp h1
   rw[sa] at h2
   rcases nk.top W et h2 with z | z
   ·exact absurd z (rp h)
   ·exact rj W er gr z
  simp? only []
  subst hN
  rw[show aS R = .lst (R.map D.int) from rfl,show aS l = .lst (l.map D.int) from rfl]
  refine aU fun N hN => ?_
  refine gf fun A1 B1 hA hB => ?_
  have no:¬ gm m ws i j n l->A1 ⟨[some (.p (aE m ws)),some (.p (.int i)),some (.p (.int j)),some (.p (.int n)),some (.p (.lst (l.map D.int))),some (.p (.lst (R.map D.int)))],[]⟩:=fun h=>by
   subst hA
   exact a7 (kn h)
  simp? only []
  refine⟨by omega,?_⟩
  rw[jn]
  by_cases nR:n∈R
  ·rw[LV nR]
   simp? only []
   refine⟨by omega,?_⟩
   rw[jn]
   by_cases il:(i:Int)∈l
   ·rw[LV il]
    simp? only []
    refine⟨by omega,?_⟩
    rw[jn]
    by_cases jl:(j:Int)∈l
    ·rw[LV jl]
     simp? only []
     exact no fun h=>h.GS jl
    ·rw[DF jl]
     simp? only []
     subst hB
     show N _
     subst hN
     refine aU fun N hN => ?_
     refine gf fun A1 B1 hA hB => ?_
     simp? only []
     refine L2.jg (fun _=>true) (fun d=>match d with
      | .int e=>tupI (bw ws e)
      | _ => .non) (by rw[oV];omega) trivial ?_ ?_
     ·intro d hd acc L' ha h1 h2
      obtain⟨e,he,rfl⟩:=My.mp hd
      simp? only []
      refine⟨m,ws,e,W,Rn e he,rfl,rfl,?_⟩
      simp? only []
      exact⟨ha,h1 rfl⟩
     have e:((R.map D.int).filter fun _=>true).map (fun d=>match d with
      | .int e=>tupI (bw ws e)
      | _ => .non)=(R.map (bw ws)).map tupI:=by
      rw[YA.mpr (fun _ _=>rfl),Vz,Vz]
      rfl
     rw[e]
     simp? only [Bt]
     refine⟨R.map (bw ws),rfl,fun z => ?_,fun p hp best => ?_⟩
     ·rw[XT.mp z] at nR;cases nR
     obtain⟨e',he,rfl⟩:=My.mp hp
     refine⟨m,ws,n,W,Rn n nR,rfl,rfl,?_⟩
     simp? only []
     refine⟨by unfold tupI;have:=Br (bw ws e');simp only[dep];omega,?_⟩
     rw[show D.tup ((bw ws n).map D.int)=tupI (bw ws n) from rfl,GQ]
     by_cases q:bw ws e'=bw ws n
     ·rw[LV q]
      simp? only []
      obtain⟨g,ng⟩:=wu W (a:=i) (b:=j) (by omega) (F.conn.mp c)
      obtain⟨y,yr,rfl⟩:=mY ng.mem
      have e1:=top e' y he yr ng (best _ (Wb (inR y yr ng)))
      have e2:=Ap W (Rn e' he) (Rn n nR) q
      obtain rfl:y=n:=e1.symm.trans e2
      subst hB
      show N _
      subst hN
      simp? only []
      refine⟨m,ws,y,l,W,yr,rfl,rfl,fun h => ?_,fun h => ?_⟩
      ·simp? only []
       exact a7 (ky ⟨h.rise,il,jl,yr,ng,h.out,h.low⟩)
      ·simp? only []
       exact a7 (kn fun z=>h ⟨z.rise,z.out,z.low⟩)
     ·rw[DF q]
      simp? only []
      subst hA
      exact a7 (kn fun h=>q (by rw[top e' n he h.num h.nk (best _ (Wb nR))]))
   ·rw[DF il]
    simp? only []
    exact no fun h=>il h.one
  ·rw[DF nR]
   simp? only []
   exact no fun h=>nR (inR n h.num h.nk)
noncomputable def BC:GD:=fun ys aj K=>∃ (m:Int) (ws:List Wy) (us:List Int) (i:Nat),aC m ws/\Nums ws us/\i < m.toNat/\ys=[.p (aE m ws),.p (aS us),.p (.int i)]/\aj=[]/\∀ l:List Int,l.length <= 12->K (.p (aS l)) []
noncomputable def BE:WS:=(av (aD 3 (au 2 zW (ai (aa 0) (ai (aa 1) af)))) (aG (c8 (jE (ai (d2 (aa 0) (dC (.int 0)) aP) af)) [none,some 3,some 2] (bo 0) (dT (d2 (d2 (aa 1) (aa 0) aP) (d2 (aa 1) (aa 2) aP) oEq)) (aa 0))))
theorem RL:∀ ys aj K',ys.length=3->BC ys aj K'->BE (bG aj.length K') ⟨ys.map some ++ List.replicate 1 none,aj.map some⟩:=by
 rintro ys aj K' - ⟨m,ws,us,i,W,hu,hi,rfl,rfl,k⟩
 have d6:=W.d6
 unfold BE
 refine aU fun N hN => ?_
 simp? only []
 refine⟨m,ws,us,W,hu,.inl ⟨rfl,rfl,?_⟩⟩
 have mo:=AM W hu
 generalize nV m ws us=fs at mo
 have a1:=ir (ns:=fs) (i:=i) (by rw[mo.1];exact hi)
 rw[show aS fs = .lst (fs.map D.int) from rfl]
 simp? only []
 subst hN
 simp? only [aE,dG]
 refine⟨by omega,?_⟩
 refine L2.jg (fun d=>match d with
  | .int x=>decide (fs.getD x.toNat 0=fs.getD i 0)
  | _=>false) id (by rw[ja];omega) trivial ?_ ?_
 ·intro d hd acc L' ha h1 h2
  obtain⟨z,hz⟩:=UM.mp hd
  obtain⟨zl,rfl⟩:=jF hz
  rw[Zc] at h1 h2 ⊢
  have a2:=ir (ns:=fs) (i:=z) (by rw[mo.1];exact zl)
  dsimp only at h1 h2
  rw[LW] at h1 h2
  simp? only [a1,a2]
  rw[g9]
  cases q:decide (fs.getD z 0=fs.getD i 0) with
  | true=>simp? only [];exact⟨ha,h1 q⟩
  | false=>simp? only [];exact h2 q
 have e:((bO 0 m.toNat).filter fun d=>match d with
  | .int x=>decide (fs.getD x.toNat 0=fs.getD i 0)
  | _=>false).map id=((aL m.toNat).filter fun x=>decide (fs.getD x.toNat 0=fs.getD i 0)).map D.int:=by
  rw[WR,jI,WH]
  rfl
 rw[e]
 refine a7 (k _ ?_)
 refine V_ (Ym _ _) ?_
 rw[rh]
 omega
noncomputable def BF:GD:=fun ys aj K=>∃ (c m:Int) (ws:List Wy) (i:Nat) (n:Int) (o:OV),aC m ws/\i < m.toNat/\ys=[.o 0,.p (aE m ws),.p (.int i),.p (.int n)]/\aj=[o]/\a5 c o/\c < 2 ^ 30/\∀ (l:List Int) (o':OV),l.length <= 12->a5 (c + 1) o'->K (.p (aS l)) [o']
noncomputable def BG:WS:=(av (bh (cR (dT (au 3 vZ (ai (aa 3) (ai (dC (.int 0)) (ai (d2 (dN (ai (d2 (aa 1) (dC (.int 1)) aP) af) cu) (dC (.int 1)) (oI fun i j => .int (i - j))) af)))))) (aG (bS (ai (aa 2) af))) cC) (av (aD 4 (c8 (bA (au 1 qW (ai (aa 1) af))) [none,some 1,some 3] (bo 0) (dT (d2 (au 2 mW (ai (aa 1) (ai (aa 0) af))) (au 2 mW (ai (aa 1) (ai (aa 2) af))) oLt)) (aa 0))) (av (aD 5 (c8 (bA (au 2 ur (ai (aa 1) (ai (au 1 qW (ai (aa 1) af)) af)))) [none,some 3] (bo 0) (dT (d2 (aa 0) (aa 1) je)) (aa 0))) (aG (au 3 BC (ai (aa 1) (ai (d2 (bS (ai (aa 4) (ai (aa 5) af))) (au 2 eN (ai (aa 0) (ai (dC (.int 2)) af))) aP) (ai (aa 2) af))))))))
theorem RM:∀ ys aj K',ys.length=4->BF ys aj K'->BG (bG aj.length K') ⟨ys.map some ++ List.replicate 2 none,aj.map some⟩:=by
 rintro ys aj K' - ⟨c,m,ws,i,n,o,W,hi,rfl,rfl,P,GZ,k⟩
 have jK:=W.fH
 unfold BG
 refine aU fun N hN => ?_
 refine gf fun A1 B1 hA hB => ?_
 simp? only [aE,dH]
 refine⟨.int n,0,(ws.length:Int) - 1,rfl,rfl,?_⟩
 rw[show pZ (.int n) 0 ((ws.length:Int) - 1)=(decide (0 <= n) && decide (n <= (ws.length:Int) - 1)) from rfl]
 cases q:(decide (0 <= n) && decide (n <= (ws.length:Int) - 1)) with
 | false =>
  simp? only []
  subst hA
  simp? only []
  exact⟨[o],rfl,rfl,k [(i:Int)] o (by simp) (P.mono (by omega))⟩
 | true =>
  simp only[VY,Wz] at q
  have hn:0 <= n/\n < (ws.length:Int):=by omega
  simp? only []
  subst hB
  show N _
  subst hN
  refine aU fun N hN => ?_
  simp? only []
  refine⟨m,ws,W,rfl,rfl,?_⟩
  simp? only []
  refine L2.jg (fun d=>match d with
   | .int x=>HT.lexLt (bw ws x) (bw ws n)
   | _=>false) id (by rw[oV,rh];omega) trivial ?_ ?_
  ·intro d hd acc L' ha h1 h2
   obtain⟨x,hx,rfl⟩:=My.mp hd
   dsimp only at h1 h2
   simp? only []
   refine⟨m,ws,x,W,p8 hx,rfl,rfl,?_⟩
   simp? only []
   refine⟨m,ws,n,W,hn,rfl,rfl,?_⟩
   simp? only []
   rw[jG,jG]
   dsimp only
   cases q:HT.lexLt (bw ws x) (bw ws n) with
   | true=>simp? only [];exact⟨ha,h1 q⟩
   | false=>simp? only [];exact h2 q
  have e:(((aL ws.length).map D.int).filter fun d=>match d with
   | .int x=>HT.lexLt (bw ws x) (bw ws n)
   | _=>false).map id=((aL ws.length).filter fun x=>HT.lexLt (bw ws x) (bw ws n)).map D.int:=by
   rw[WR,WH]
   rfl
  rw[e]
  have lu:Nums ws ((aL ws.length).filter fun x=>HT.lexLt (bw ws x) (bw ws n)):=fun x hx=>p8 (VR.mp hx).1
  generalize ((aL ws.length).filter fun x=>HT.lexLt (bw ws x) (bw ws n))=le at lu
  simp? only []
  subst hN
  refine aU fun N hN => ?_
  simp? only []
  refine⟨m,ws,W,rfl,rfl,?_⟩
  simp? only []
  refine⟨m,ws,aL ws.length,W,rfl,rfl,fun os ho => ?_⟩
  rw[<-AK W ho]
  have F:=wy W ho
  generalize jL m ws os=fo at F
  have fl:=F.len
  rw[show aS fo = .lst (fo.map D.int) from rfl]
  simp? only []
  refine L2.jg (fun d=>match d with
   | .int x=>decide (x≠n)
   | _=>false) id (by rw[oV];omega) trivial ?_ ?_
  ·intro d hd acc L' ha h1 h2
   obtain⟨x,hx,rfl⟩:=My.mp hd
   dsimp only at h1 h2
   simp? only []
   rw[g9]
   by_cases c:x=n
   ·rw[LV c]
    simp? only []
    exact h2 (DF fun z=>z c)
   ·rw[DF c]
    simp? only []
    exact⟨ha,h1 (LV c)⟩
  have e:((fo.map D.int).filter fun d=>match d with
   | .int x=>decide (x≠n)
   | _=>false).map id=(lN fo n).map D.int:=by
   rw[WR,WH];rfl
  rw[e]
  have su:Nums ws (lN fo n):=fun x h=>F.nums x (VR.mp h).1
  generalize lN fo n=se at su
  simp? only []
  subst hN
  simp? only []
  refine⟨c,2,o,rfl,rfl,P,GZ,by omega,by omega,fun r o' r0 r1 P' => ?_⟩
  obtain⟨us,hu,ea⟩:∃ us:List Int,Nums ws us/\eC [D.lst (le.map D.int),D.lst (se.map D.int)] r=some (aS us):=by
   rcases (show r=0\/r=1 by omega) with rfl | rfl
   ·exact⟨le,lu,rfl⟩
   ·exact⟨se,su,rfl⟩
  simp? only [ea]
  refine⟨m,ws,us,i,W,hu,hi,rfl,rfl,fun l hl => ?_⟩
  simp? only []
  exact⟨[o'],rfl,rfl,k l o' hl P'⟩
noncomputable def BH:GD:=fun ys aj K=>∃ (c m:Int) (s:List Int) (o:OV),0 <= m/\m <= 12/\s.length <= 12/\ys=[.o 0,.p (aS s),.p (.int m)]/\aj=[o]/\a5 c o/\c + 30 < 2 ^ 30/\∀ (l:List Int) (o':OV),a5 (c + 17) o'->K (.p (aS l)) [o']
noncomputable def BI:WS:=(av (aD 3 (au 2 eN (ai (aa 0) (ai (dC (.int 9)) af)))) (av (aD 4 (d2 (bS (ai (au 2 eN (ai (aa 0) (ai (d2 (aa 2) (dC (.int 1)) bZ) af))) (ai (d1 (dC (.int 1)) kz) (ai (aa 2) (ai (d2 (dC (.int 10)) (dC (.int 20)) (c9 eU fun i j => .int (i ^ j.toNat))) af))))) (au 2 eN (ai (aa 0) (ai (dC (.int 4)) af))) aP)) (av (aD 5 (au 2 eN (ai (aa 0) (ai (d2 (dN (ai (aa 1) af) cu) (dC (.int 1)) bZ) af)))) (av (bh (dT (d2 (aa 3) (dC (.int 7)) oEq)) (aG (c8 (jE (ai (aa 2) af)) [none,some 0] (bo 0) (dT (d2 (au 2 eN (ai (aa 1) (ai (dC (.int 2)) af))) (dC (.int 0)) oEq)) (aa 0))) cC) (av (bh (dT (d2 (aa 3) (dC (.int 6)) (oI fun i j => .bl (decide (j < i))))) (aG (aa 1)) cC) (av (aD 6 (bS (ai (d2 (c_ (aa 1) dw (g6 (aa 5))) (c_ (aa 1) (g6 (d2 (aa 5) (dC (.int 1)) bZ)) dw) bZ) (ai (d2 (d2 (c_ (aa 1) dw (g6 (aa 5))) (c_ (aa 1) (g6 (aa 5)) (g6 (d2 (aa 5) (dC (.int 1)) bZ))) bZ) (c_ (aa 1) (g6 (aa 5)) dw) bZ) (ai (d1 (aa 1) vT) (ai (dN (ai (d2 (aa 1) (bS (ai (aa 4) af)) bZ) af) mL) af)))))) (av (aD 6 (d2 (aa 6) (bS (ai (c8 (jE (ai (aa 2) af)) [none,some 1] (bo 0) (dT (d2 (aa 0) (aa 1) (fA true))) (aa 0)) (ai (bS af) (ai (pP (ai (aa 2) af)) af)))) bZ)) (aG (d2 (aa 6) (aa 3) aP)))))))))
theorem RN:∀ ys aj K',ys.length=3->BH ys aj K'->BI (bG aj.length K') ⟨ys.map some ++ List.replicate 4 none,aj.map some⟩:=by
 rintro ys aj K' - ⟨c,m,s,o,m0,d6,sl,rfl,rfl,P,GZ,k⟩
 obtain⟨m,rfl⟩:∃ mn:Nat,m=mn:=⟨m.toNat,by omega⟩
 have kk:∀ {d:D} {o':OV} {sl:List (Option DV)},(∃ l:List Int,d = .lst (l.map D.int))->a5 (c + 17) o'->gb 1 K' (.p d) ⟨sl,[some o']⟩:=by
  rintro d o' sl ⟨l,rfl⟩ P'
  exact⟨[o'],rfl,rfl,k l o' P'⟩
 unfold BI
 rw[show aS s = .lst (s.map D.int) from rfl]
 refine aU fun N hN => ?_
 simp? only []
 refine⟨c,9,o,rfl,rfl,P,by omega,by omega,by omega,fun kd o1 Vh Vi P1 => ?_⟩
 simp? only []
 subst hN
 refine aU fun N hN => ?_
 simp? only []
 refine⟨c + 1,(m:Int) + 1,o1,rfl,rfl,P1,by omega,by omega,by omega,fun r1 o2 Vj Vk P2 => ?_⟩
 simp? only []
 refine⟨⟨by decide,by decide,by decide⟩,c + 1 + 1,4,o2,rfl,rfl,P2,by omega,by omega,by omega,fun r2 o3 Vl Vm P3 => ?_⟩
 obtain⟨odd,eo⟩:∃ odd:Int,eC [D.int r1,D.int (-1),D.int m,D.int (10 ^ Int.toNat 20)] r2=some (.int odd):=by
  rcases (show r2=0\/r2=1\/r2=2\/r2=3 by omega) with rfl | rfl | rfl | rfl<;>exact⟨_,rfl⟩
 simp? only [eo]
 subst hN
 refine aU fun N hN => ?_
 simp? only []
 refine⟨c + 1 + 1 + 1,(s.length:Int) + 1,o3,rfl,rfl,P3,by omega,by omega,by omega,fun a o4 a0 a1 P4 => ?_⟩
 simp? only []
 subst hN
 refine aU fun N hN => ?_
 refine gf fun A1 B1 hA hB => ?_
 simp? only []
 rw[g9]
 by_cases k7:kd=7
 ·rw[LV k7]
  simp? only []
  subst hA
  simp? only []
  refine⟨by omega,?_⟩
  refine vO (fun i acc δ => ∃ (zs:List Int) (o':OV),zs.length <= i/\acc=zs.map D.int/\a5 (c + 1 + 1 + 1 + 1 + i) o' /\ δ = ⟨[none,some (.o 0)],[some o']⟩) ⟨[],o4,uX _,rfl,P4.mono (by omega),rfl⟩ ?_ ?_
  ·rintro j d acc δ L hj ⟨zs,o',hz,rfl,P',rfl⟩ hL
   obtain⟨hj,rfl⟩:=jF hj
   rw[LW] at hj
   simp? only []
   refine⟨_,2,o',rfl,rfl,P',by omega,by omega,by omega,fun r o5 r0 r1 P5 => ?_⟩
   simp? only []
   rw[g9]
   by_cases q:r=0
   ·rw[LV q]
    simp? only []
    exact⟨by omega,hL _ _ ⟨zs ++ [0 + (j:Int)],o5,by rw[DG];exact Nat.succ_le_succ hz,by rw[VC];rfl,P5.mono (by omega),rfl⟩⟩
   ·rw[DF q]
    simp? only []
    exact hL _ _ ⟨zs,o5,by omega,rfl,P5.mono (by omega),rfl⟩
  ·rintro acc δ ⟨zs,o',hz,rfl,P',rfl⟩
   rw[ja,LW] at P'
   exact⟨trivial,kk ⟨zs,rfl⟩ (P'.mono (by omega))⟩
 ·rw[DF k7]
  simp? only []
  subst hB
  show N _
  subst hN
  refine aU fun N hN => ?_
  refine gf fun A1 B1 hA hB => ?_
  simp? only []
  by_cases k6:(6:Int) < kd
  ·rw[LV k6]
   simp? only []
   subst hA
   simp? only []
   exact kk ⟨s,rfl⟩ (P4.mono (by omega))
  ·rw[DF k6]
   simp? only []
   subst hB
   show N _
   subst hN
   refine aU fun N hN => ?_
   have es:s.map D.int ++ [D.int odd]=(s ++ [odd]).map D.int:=by rw[VC];rfl
   have ct:∀ lo hi,∃ l:List Int,l.length <= s.length/\cutD (s.map D.int) lo hi=l.map D.int:=fun lo hi=>⟨_,by rw[VM,XO];omega,OU s lo hi⟩
   obtain⟨c1,l1,e1⟩:=ct none (some a)
   obtain⟨c2,l2,e2⟩:=ct (some (a + 1)) none
   obtain⟨c3,l3,e3⟩:=ct (some a) (some (a + 1))
   obtain⟨c4,l4,e4⟩:=ct (some a) none
   clear ct
   simp? only [e1,e2,e3,e4,es,mL,jG]
   refine⟨by omega,by omega,by omega,by omega,by omega,?_⟩
   subst hN
   refine aU fun N hN => ?_
   simp? only []
   refine⟨by omega,?_⟩
   refine L2.jg (fun d=>match d with
    | .int x=>decide (x∉s)
    | _=>false) id (by rw[ja];omega) trivial ?_ ?_
   ·intro d hd acc L' ha h1 h2
    obtain⟨z,hz⟩:=UM.mp hd
    obtain⟨zl,rfl⟩:=jF hz
    dsimp only at h1 h2
    simp? only []
    refine⟨by have:=jM s;omega,?_⟩
    rw[jn]
    by_cases q:(0 + (z:Int))∈s
    ·rw[LV q]
     simp? only []
     exact h2 (DF fun z=>z q)
    ·rw[DF q]
     simp? only []
     exact⟨ha,h1 (LV q)⟩
   simp? only []
   refine⟨by omega,?_⟩
   rw[WR,jI,WH,<-VC,<-VC,<-VC,<-List.map_reverse]
   have go:∀ x∈[D.lst ((c1 ++ c2).map D.int),.lst ((c1 ++ c3 ++ c4).map D.int),.lst (s.reverse.map D.int),.lst ((sortI (s ++ [odd])).map D.int),.lst (((aL (m:Int).toNat).filter ((fun d=>match d with
    | .int x=>decide (x∉s)
    | _=>false) ∘ D.int)).map D.int),.lst [],.lst ((aL (m:Int).toNat).map D.int)],∃ l:List Int,x = .lst (l.map D.int):=by
    intro x hx
    simp only[Vr,VQ,Ye] at hx
    rcases hx with rfl | rfl | rfl | rfl | rfl | rfl | rfl
    all_goals first | exact⟨_,rfl⟩ | exact⟨[],rfl⟩
   subst hN
   generalize (aL (m:Int).toNat).filter ((fun d=>match d with
    | .int x=>decide (x∉s)
    | _=>false) ∘ D.int)=z1 at go
   generalize (aL (m:Int).toNat)=z2 at go
   obtain⟨kn,rfl⟩:∃ kn:Nat,kd=kn:=⟨kd.toNat,by omega⟩
   have k7:kn < 7:=by omega
   generalize hl:[D.lst ((c1 ++ c2).map D.int),.lst ((c1 ++ c3 ++ c4).map D.int),.lst (s.reverse.map D.int),.lst ((sortI (s ++ [odd])).map D.int),.lst (z1.map D.int),.lst [],.lst (z2.map D.int)]=ls at go
   have kl:kn < ls.length:=by rw[<-hl];exact k7
   simp? only []
   rw[mi (oU kl)]
   exact kk (go _ (WK kl)) (P4.mono (by omega))
noncomputable def BJ:GD:=fun ys aj K=>∃ b:Bool,ys=[.p (.bl b),.p (.bl b)]/\aj=[]/\K (.p (.bl true)) []
noncomputable def BK:WS:=(av (bh (dT (d2 (aa 1) (dC .non) jh)) (aG (d2 (aa 0) (dC .non) jh)) cC) (av (bh (i8 (dT (d1 (aa 1) (dU "bool"))) (dT (d1 (aa 0) (dU "bool")))) (aG (i9 (d1 (aa 1) (dU "bool")) (i9 (d1 (aa 0) (dU "bool")) (d2 (aa 0) (aa 1) oEq)))) cC) pB))
theorem RO:∀ ys aj K',ys.length=2->BJ ys aj K'->BK (bG aj.length K') ⟨ys.map some ++ List.replicate 0 none,aj.map some⟩:=by
 rintro ys aj K' - ⟨b,rfl,rfl,k⟩
 unfold BK
 simp? only [fM,c5,aH]
 exact a7 k
noncomputable abbrev KL:KS:=⟨fun _=>False,fun x _=>x = .p (.bl true),fun _=>False,fun _=>False⟩
theorem RP {A B C:WS} {K:KS} {δ : aF} (h:av (av A B) C K δ):av A (av B C) K δ := h
noncomputable def BL:WS:=(av (c7 (jE (ai (dC (.int 3)) af)) (bo 2) (av (aD 3 (au 3 zG (ai (au 1 zy (ai (aa 1) af)) (ai (d2 (bS (ai (dC (.int 6)) (ai (dC (.int 12)) (ai (dC (.int 5)) af)))) (aa 2) aP) (ai (dC (.int 30)) af))))) (c7 (jE (ai (d2 (dC (.int 6)) (dN (ai (d2 (d2 (aa 3) (dC (.int 0)) aP) (dC (.int 1)) (oI fun i j => .bl (decide (j < i)))) af) nh) eY) af)) (bo 4) (av (aD 5 (au 2 eN (ai (aa 1) (ai (d2 (aa 3) (dC (.int 0)) aP) af)))) (av (aD 6 (d2 (d2 (d2 (aa 5) (dC (.int 1)) bZ) (au 2 eN (ai (aa 1) (ai (d2 (d2 (aa 3) (dC (.int 0)) aP) (dC (.int 1)) (oI fun i j => .int (i - j))) af))) bZ) (d2 (aa 3) (dC (.int 0)) aP) (c9 (fun _ j=>0 < j) fun i j => .int (i % j)))) (av (aD 7 (au 4 wB (ai (aa 3) (ai (au 2 ur (ai (aa 3) (ai (au 1 qW (ai (aa 3) af)) af))) (ai (aa 5) (ai (aa 6) af)))))) (av (aD 8 (pz (dT (d2 (aa 7) (dC .non) t8)) (d2 (dN (ai (c8 (bA (aa 7)) [none,some 3] (bo 0) cq (dS (ai (au 2 mW (ai (aa 1) (ai (aa 0) af))) (ai (aa 0) af)))) af) Bs) (dC (.int 1)) aP) (dC (.int 0)))) (av (aD 9 (d2 (bS (ai (aa 8) (ai (aa 8) (ai (au 2 eN (ai (aa 1) (ai (d2 (dN (ai (d2 (aa 3) (dC (.int 1)) aP) af) cu) (dC (.int 1)) bZ) af))) (ai (d1 (dC (.int 1)) kz) (ai (d2 (dC (.int 10)) (dC (.int 20)) (c9 eU fun i j => .int (i ^ j.toNat))) af)))))) (ni (aa 7) (bS af)) bZ)) (av (aD 10 (d2 (aa 9) (au 2 eN (ai (aa 1) (ai (dN (ai (aa 9) af) cu) af))) aP)) (av (aD 11 (au 3 BH (ai (aa 1) (ai (au 4 BF (ai (aa 1) (ai (aa 3) (ai (aa 5) (ai (aa 10) af))))) (ai (d2 (aa 3) (dC (.int 0)) aP) af))))) (av (aD 12 (dN (ai (aa 11) af) vH)) (av (aD 13 (au 5 Bu (ai (aa 3) (ai (aa 5) (ai (aa 6) (ai (aa 10) (ai (aa 12) af))))))) (bh (i8 (cR (dT (au 2 BJ (ai (aa 13) (ai (au 5 BA (ai (aa 3) (ai (aa 5) (ai (aa 6) (ai (aa 10) (ai (aa 11) af)))))) af))))) (dT (d2 (aa 12) (aa 11) je))) (aG (dC (.bl false))) cC))))))))))))) (aG (dC (.bl true))))
theorem RQ (ns:List Int) (hn:ns.length <= 63):BL KL ⟨none :: some (.o 0) :: List.replicate 12 none,[some (iq ns 0 0)]⟩:=by
 unfold BL
 refine aU fun N hN => ?_
 simp? only []
 refine⟨by decide,?_⟩
 refine kB (fun i δ => ∃ o,a5 (1000 * i) o /\ δ = ⟨none :: some (.o 0) :: List.replicate 12 none,[some o]⟩) ⟨iq ns 0 0,⟨ns,0,0,rfl,hn,by omega,by omega⟩,rfl⟩ ?_ ?_
 ·rintro j d δ L hj ⟨o,P,rfl⟩ hL
  obtain⟨BM,rfl⟩:=jF hj
  have BM:j < 3:=BM
  refine⟨trivial,?_⟩
  simp only[bo,Wl,List.replicate_zero,VT,VU]
  obtain⟨hs,ea,h1,Fv⟩:∃ hs:Int,eC [D.int 6,D.int 12,D.int 5] (0 + (j:Int))=some (.int hs)/\1 <= hs/\hs <= 12:=by
   match j,BM with
   | 0,_=>exact⟨6,rfl,by decide,by decide⟩
   | 1,_=>exact⟨12,rfl,by decide,by decide⟩
   | 2,_=>exact⟨5,rfl,by decide,by decide⟩
  generalize (0 + (j:Int))=jt at ea
  refine aU fun N2 dA => ?_
  simp? only []
  refine⟨1000 * j,o,rfl,rfl,P,fun o1 P1 => ?_⟩
  simp? only [ea]
  refine⟨1000 * j,hs,30,o1,rfl,rfl,P1,by omega,by omega,by omega,by omega,by omega,fun m ws o2 W _ _ P2 => ?_⟩
  have d6:=W.d6
  have m1:=W.m1
  have jK:=W.fH
  simp? only []
  subst dA
  refine lK fun g' b' K2 hg hb' hK => ?_
  simp? only [aE,dG,nh]
  have cm:∀ b:Bool,jU 6 (if b=true then 1 else 0):=fun b=>by cases b<;>exact .inl ⟨by decide,by decide⟩
  refine⟨cm _,?_⟩
  obtain⟨t,et,ht⟩:∃ t:Nat,(6 * (if decide (1 < m)=true then 1 else 0):Int)=t/\(t <= 6/\(m=1->t=0)):=by
   by_cases c:1 < m
   ·exact⟨6,by rw[LV c];rfl,by omega,fun z=>by omega⟩
   ·exact⟨0,by rw[DF c];rfl,by omega,fun _=>rfl⟩
  rw[et]
  refine⟨by omega,?_⟩
  subst hg hb' hK
  refine kB (fun i δ => ∃ o',a5 (1000 * j + 500 + 30 * i) o' /\ δ = ⟨[none,some (.o 0),some (.p (.int jt)),some (.p (.tup [.int m,.tup (ws.map bE)])),none,none,none,none,none,none,none,none,none,none],[some o']⟩) ⟨o2,P2.mono (by omega),rfl⟩ ?_ ?_
  ·rintro i d δ L3 hi ⟨o',P',rfl⟩ BN
   obtain⟨RR,rfl⟩:=jF hi
   rw[LW] at RR
   have m2:2 <= m:=by
    by_cases c:m=1
    ·have:=ht.2 c;omega
    ·omega
   have BN:∀ o',a5 (1000 * j + 500 + 30 * (i + 1)) o'->L3 ⟨[none,some (.o 0),some (.p (.int jt)),some (.p (.tup [.int m,.tup (ws.map bE)])),none,none,none,none,none,none,none,none,none,none],[some o']⟩:=fun o' P'=>BN _ ⟨o',P',rfl⟩
   refine⟨trivial,?_⟩
   simp only[bo,VT,VU]
   refine aU fun N3 hJ => ?_
   simp? only [dG]
   refine⟨1000 * j + 500 + 30 * i,m,o',rfl,rfl,P',by omega,by omega,by omega,fun r o3 r0 r1 P3 => ?_⟩
   simp? only []
   subst hJ
   refine aU fun N3 hJ => ?_
   simp? only [dG]
   refine⟨1000 * j + 500 + 30 * i + 1,m - 1,o3,rfl,rfl,P3,by omega,by omega,by omega,fun s o4 s0 s1 P4 => ?_⟩
   simp? only [dG]
   refine⟨by omega,?_⟩
   obtain⟨e0,e1,e2⟩:=RB ⟨r0,r1⟩ ⟨s0,s1⟩
   generalize (r + 1 + s) % m=ot at e0 e1 e2
   subst hJ
   obtain⟨a,rfl⟩:∃ a:Nat,r=a:=⟨r.toNat,by omega⟩
   obtain⟨b,rfl⟩:∃ b:Nat,ot=b:=⟨ot.toNat,by omega⟩
   have ha:a < m.toNat:=by omega
   have hb:b < m.toNat:=by omega
   have ab:a≠b:=by omega
   refine RP (aU fun N4 G0 => ?_)
   have fin:∀ (rd:D) (mo:Int),(rd = .non\/∃ lu:List Int,lu.length <= 30/\rd = .lst (lu.map D.int))->N4 ⟨[none,some (.o 0),some (.p (.int jt)),some (.p (.tup [.int m,.tup (ws.map bE)])),some (.p (.int (0 + (i:Int)))),some (.p (.int a)),some (.p (.int b)),some (.p rd),some (.p (.int mo)),none,none,none,none,none],[some o4]⟩:=by
    intro rd mo DB
    subst G0
    refine aU fun N3 hJ => ?_
    simp? only [dH]
    refine⟨_,(ws.length:Int) + 1,o4,rfl,rfl,P4,by omega,by omega,by omega,fun t o5 t0 t1 P5 => ?_⟩
    simp? only []
    refine⟨⟨by decide,by decide,by decide⟩,?_⟩
    have fin2:∀ nums:List Int,5 <= nums.length->nums.length <= 40->N3 ⟨[none,some (.o 0),some (.p (.int jt)),some (.p (.tup [.int m,.tup (ws.map bE)])),some (.p (.int (0 + (i:Int)))),some (.p (.int a)),some (.p (.int b)),some (.p rd),some (.p (.int mo)),some (.p (.lst (nums.map D.int))),none,none,none,none],[some o5]⟩:=by
     intro nums n5 Vn
     subst hJ
     refine aU fun N3 hJ => ?_
     simp? only []
     refine⟨_,nums.length,o5,rfl,rfl,P5,by omega,by omega,by omega,fun q o6 q0 q1 P6 => ?_⟩
     obtain⟨q,rfl⟩:∃ qn:Nat,q=qn:=⟨q.toNat,by omega⟩
     simp? only [ir (ns:=nums) (i:=q) (by omega)]
     generalize nums.getD q 0=n
     subst hJ
     refine aU fun N3 hJ => ?_
     simp? only []
     refine⟨_,m,ws,a,n,o6,W,ha,rfl,rfl,P6,by omega,fun l o7 hl P7 => ?_⟩
     simp? only [dG]
     refine⟨_,m,l,o7,by omega,by omega,hl,rfl,rfl,P7,by omega,fun l2 o8 P8 => ?_⟩
     simp? only []
     subst hJ
     refine aU fun N3 hJ => ?_
     rw[show aS l2 = .lst (l2.map D.int) from rfl]
     simp? only []
     subst hJ
     refine aU fun N3 hJ => ?_
     simp? only []
     refine⟨m,ws,a,b,n,l2,W,ha,hb,ab,rfl,rfl,?_⟩
     simp? only []
     subst hJ
     simp? only []
     refine⟨m,ws,a,b,n,l2,W,ha,hb,ab,rfl,rfl,?_⟩
     simp? only []
     refine⟨_,rfl,rfl,?_⟩
     simp? only []
     refine⟨by have:=jM l2;omega,?_⟩
     simp? only [aH,uu]
     simp? only [decide_true]
     exact BN o8 (P8.mono (by omega))
    rcases DB with rfl | ⟨lu,hl,rfl⟩
    ·simp? only [ni]
     exact fin2 [mo,mo,t,-1,10 ^ Int.toNat 20] (by simp) (by simp)
    ·simp? only [ni]
     by_cases c:lu.map D.int=[]
     ·rw[UO c]
      exact fin2 [mo,mo,t,-1,10 ^ Int.toNat 20] (by simp) (by simp)
     ·rw[LX c]
      exact⟨by omega,fin2 ([mo,mo,t,-1,10 ^ Int.toNat 20] ++ lu) (by simp) (by simp;omega)⟩
   clear G0
   refine aU fun N3 hJ => ?_
   simp? only []
   refine⟨m,ws,W,rfl,rfl,?_⟩
   simp? only []
   refine⟨m,ws,aL ws.length,W,rfl,rfl,fun os ho => ?_⟩
   rw[<-AK W ho]
   have F:=wy W ho
   generalize jL m ws os=fo at F
   simp? only []
   have fl:=F.len
   have ind:Indep (dF ws fo):=by rw[show dF ws fo=fP ws from funext fun v=>propext (F.kU v)];exact A0 W
   refine⟨m,ws,fo,a,b,W,F.nums,by omega,ind,ha,hb,rfl,rfl,fun c => ?_,fun R nd hR c => ?_⟩
   ·simp? only []
    subst hJ
    simp? only []
    exact fin _ _ (.inl rfl)
   ·have Rl:R.length <= ws.length:=AZ (fun e he=>F.nums e ((hR e).mp he).1) nd
    have Rn:∀ e∈R,0 <= e/\e < (ws.length:Int):=fun e he=>F.nums e ((hR e).mp he).1
    rw[show aS R = .lst (R.map D.int) from rfl]
    simp? only []
    subst hJ
    simp? only []
    refine L2.jg (fun _=>true) (fun d=>match d with
     | .int e=>kX (bw ws e,e)
     | _ => .non) (by rw[oV];omega) trivial ?_ ?_
    ·intro d hd acc L' ha h1 h2
     obtain⟨e,he,rfl⟩:=My.mp hd
     simp? only []
     refine⟨m,ws,e,W,Rn e he,rfl,rfl,?_⟩
     simp? only []
     exact⟨ha,h1 rfl⟩
    have e:((R.map D.int).filter fun _=>true).map (fun d=>match d with
     | .int e=>kX (bw ws e,e)
     | _ => .non)=(R.map fun e=>(bw ws e,e)).map kX:=by
     rw[YA.mpr (fun _ _=>rfl),Vz,Vz]
     rfl
    rw[e]
    simp? only [Bs]
    refine⟨R.map fun e=>(bw ws e,e),3,rfl,fun z => ?_,fun p hp => ?_,fun p hp best => ?_⟩
    ·have sa:∀ e,oa ws fo e=qi ws (ax ws e):=fun e=>funext fun v=>propext (and_congr_left fun _=>F.kU v)
     obtain⟨g,ng⟩:=wu W (a:=a) (b:=b) (by omega) (F.conn.mp c)
     obtain⟨y,yr,rfl⟩:=mY ng.mem
     have yR:y∈R:=(hR y).mpr ⟨(F.mem y).mpr ⟨yr,ng.tree⟩,by rw[sa];exact ng.parts W⟩
     rw[XT.mp z] at yR;cases yR
    ·obtain⟨e,_,rfl⟩:=My.mp hp
     rfl
    obtain⟨e',he,rfl⟩:=My.mp hp
    simp? only [kX,dH]
    exact fin _ _ (.inr ⟨R,by omega,rfl⟩)
  ·rintro δ ⟨o',P',rfl⟩
   rw[ja,LW] at P'
   refine⟨trivial,?_⟩
   exact hL _ ⟨o',P'.mono (by omega),rfl⟩
 ·rintro δ ⟨o,P,rfl⟩
  refine⟨trivial,?_⟩
  subst hN
  simp? only []
end LJ
namespace LJ
open PySem L2 PySem.Spec PySem.W PyProof.Rows
structure Ev where
 P:Program
 w:World
 K:PySem.W.Frag
 mg:Str->Option Value
 base:Heap
section
variable [aM]
structure Fx (V:Ev) (k:Nat) (x:Str) (ps:List Str) (n:Nat) (G:GD):Prop where
 ex:∃ f fd,Fn V.P V.w V.K V.mg V.base k x ps (mI G n) f fd
noncomputable def Dx (V:Ev) (x:Str) (st:Stmt):Prop:=∃ f fd,V.mg x=some (.ref f)/\gE V.K x x st f fd
noncomputable def rq (V:Ev) (x:Str) (st:Stmt) (T:Addr) (pos:Pos) (q:Str):Prop:=∃ f fd,(V.mg x=some (.ref f)/\gE V.K x x st f fd)/\gi V.mg V.base fd T pos q
noncomputable def Ct (V:Ev) (x:Str) (i:Int):Prop:=∃ u,V.mg x=some u/\RelV (.int i) u
section
variable {X:Cx} {x:Str} {ps:List Str} {G:GD} {e:Expr} {es:List Expr} {fa:WA} {p pos:Pos} {j k n:Nat}
theorem aB (F:Fx ⟨X.prog,X.w,X.K,X.mg,X.base⟩ j x ps n G) (hr:bg k X.A) (ha:JA X (e :: es) (bX fa)) (hj:Nat.ble j k=true:=by rfl) (hg:Gl X x:=by rfl) (eA:(x == ("__debug__" : Str))=false:=by decide) (he:starEach (e :: es) X.env=(false,eval e X.env) :: starEach es X.env:=by rfl) (d4:(backTo pos (starEach es X.env)).any (·.1)=false:=by rfl) :
  JE X (.Call (.Name x p) (e :: es) [] pos) (tD (au n G fa)):=let ⟨_,_,F⟩:=F.ex; NR F.ok (hr.mono (Nat.le_of_ble_eq_true hj)) hg F.yD F.kp F.bd ha eA he d4
theorem RS (F:Fx ⟨X.prog,X.w,X.K,X.mg,X.base⟩ j x ps n G) (hr:bg k X.A) (ha:JA X (e :: es) (bX fa)) (hj:Nat.ble j k=true:=by rfl) (hg:Gl X x:=by rfl) (eA:(x == ("__debug__" : Str))=false:=by decide) (he:starEach (e :: es) X.env=(false,eval e X.env) :: starEach es X.env:=by rfl) (d4:(backTo pos (starEach es X.env)).any (·.1)=false:=by rfl) :
  JE X (.Call (.Name x p) (e :: es) [] pos) (tD (tH n G fa)):=let ⟨_,_,F⟩:=F.ex; NS F.ok (hr.mono (Nat.le_of_ble_eq_true hj)) hg F.yD F.kp F.bd ha eA he d4
theorem BO {i:Int} (C:Ct ⟨X.prog,X.w,X.K,X.mg,X.base⟩ x i) (hg:Gl X x:=by rfl) (hd:(x == ("__debug__" : Str))=false:=by decide):JE X (.Name x pos) (tD (dC (.int i))):=let ⟨_,a,b⟩:=C; NB hg a b hd
end
theorem _root_.L2.gi.env {mg:Str->Option Value} {base:Heap} {fd:FuncData} {T:Addr} {lp:Pos} {q:Str} {a_:Value} (L:gi mg base fd T lp q) (h:fd.code=a_):∃ cc,a_ = .ref cc/\CodeHd base cc T:=let ⟨cc,e1,e2⟩:=L.code; ⟨cc,h.symm.trans e1,e2⟩
noncomputable def RT:NameKind->Bool
 | .local=>true
 | .cell=>true
 | _=>false
noncomputable def RU:NameKind->Bool
 | .free=>false
 | _=>true
noncomputable def RW:ScopeKind->Bool
 | .function=>true
 | _=>false
noncomputable def wF (N P:List Str) (sc:Scope):Bool:=RW sc.kind && !sc.isCoroutine && !sc.isGenerator && decide N.Nodup && decide (N.take P.length=P) && (P.all fun x=>match sc.names.lookup x with
 | some k=>RT k
 | none=>false) && sc.names.all fun y=>RU y.2
theorem jw {N P:List Str} {sc:Scope} (h:wF N P sc=true):l6 N P sc:=by
 unfold wF at h
 simp only[VY,XG,Wz,Wu] at h
 obtain⟨⟨⟨⟨⟨⟨h1,h2⟩,h3⟩,h4⟩,h5⟩,h6⟩,h7⟩:=h
 refine⟨?_,h2,h3,h4,h5,fun x hx => ?_,fun y hy z => ?_⟩
 ·cases q:sc.kind<;>rw[q] at h1<;>first | rfl | cases h1
 ·have:=h6 x hx
  split at this
  ·rename_i k e
   rw[e]
   cases k<;>first | exact .inl rfl | exact .inr rfl | cases this
  ·cases this
 ·have:=h7 y hy
  rw[z] at this
  cases this
noncomputable def iz (x:Str) (st:Stmt) (ps:List Str):Prop:=∀ (kV doc pm:Value) (an:Option Addr) (a_ ct:Value) (us:List Value),us.length=ps.length->bindArgs (PySem.W.fnOf x x (jA st) (fZ st) (cM st) .none kV doc pm an a_ ct) ⟨us,[]⟩=pure (ps.zip us)
section
theorem G1 {us:List Value} (h:us.length=1):∃ a,us=[a]:=List.length_eq_one_iff.mp h
theorem G2 {us:List Value} (h:us.length=2):∃ a b,us=[a,b]:=by
 cases us with
 | nil=>cases h
 | cons a r=>obtain⟨b,rfl⟩:=G1 (Zh h);exact⟨a,b,rfl⟩
theorem G3 {us:List Value} (h:us.length=3):∃ a b c,us=[a,b,c]:=by
 cases us with
 | nil=>cases h
 | cons a r=>obtain⟨b,c,rfl⟩:=G2 (Zh h);exact⟨a,b,c,rfl⟩
theorem G4 {us:List Value} (h:us.length=4):∃ a b c d,us=[a,b,c,d]:=by
 cases us with
 | nil=>cases h
 | cons a r=>obtain⟨b,c,d,rfl⟩:=G3 (Zh h);exact⟨a,b,c,d,rfl⟩
theorem RX {us:List Value} (h:us.length=5):∃ a b c d e,us=[a,b,c,d,e]:=by
 cases us with
 | nil=>cases h
 | cons a r=>obtain⟨b,c,d,e,rfl⟩:=G4 (Zh h);exact⟨a,b,c,d,e,rfl⟩
theorem kY {x:Str} {st:Stmt} {ps:List Str} (h:∀ (kV doc pm:Value) (an:Option Addr) (a_ ct a:Value),bindArgs (PySem.W.fnOf x x (jA st) (fZ st) (cM st) .none kV doc pm an a_ ct) ⟨[a],[]⟩=pure (ps.zip [a]):=by intros;rfl) (hl:ps.length=1:=by rfl):iz x st ps:=fun kV doc pm an a_ ct us hu=>by
 obtain⟨a,rfl⟩:=G1 (hu.trans hl)
 exact h kV doc pm an a_ ct a
theorem hU {x:Str} {st:Stmt} {ps:List Str} (h:∀ (kV doc pm:Value) (an:Option Addr) (a_ ct a b:Value),bindArgs (PySem.W.fnOf x x (jA st) (fZ st) (cM st) .none kV doc pm an a_ ct) ⟨[a,b],[]⟩=pure (ps.zip [a,b]):=by intros;rfl) (hl:ps.length=2:=by rfl):iz x st ps:=fun kV doc pm an a_ ct us hu=>by
 obtain⟨a,b,rfl⟩:=G2 (hu.trans hl)
 exact h kV doc pm an a_ ct a b
theorem jx {x:Str} {st:Stmt} {ps:List Str} (h:∀ (kV doc pm:Value) (an:Option Addr) (a_ ct a b c:Value),bindArgs (PySem.W.fnOf x x (jA st) (fZ st) (cM st) .none kV doc pm an a_ ct) ⟨[a,b,c],[]⟩=pure (ps.zip [a,b,c]):=by intros;rfl) (hl:ps.length=3:=by rfl):iz x st ps:=fun kV doc pm an a_ ct us hu=>by
 obtain⟨a,b,c,rfl⟩:=G3 (hu.trans hl)
 exact h kV doc pm an a_ ct a b c
theorem wG {x:Str} {st:Stmt} {ps:List Str} (h:∀ (kV doc pm:Value) (an:Option Addr) (a_ ct a b c d:Value),bindArgs (PySem.W.fnOf x x (jA st) (fZ st) (cM st) .none kV doc pm an a_ ct) ⟨[a,b,c,d],[]⟩=pure (ps.zip [a,b,c,d]):=by intros;rfl) (hl:ps.length=4:=by rfl):iz x st ps:=fun kV doc pm an a_ ct us hu=>by
 obtain⟨a,b,c,d,rfl⟩:=G4 (hu.trans hl)
 exact h kV doc pm an a_ ct a b c d
theorem BP {x:Str} {st:Stmt} {ps:List Str} (h:∀ (kV doc pm:Value) (an:Option Addr) (a_ ct a b c d e:Value),bindArgs (PySem.W.fnOf x x (jA st) (fZ st) (cM st) .none kV doc pm an a_ ct) ⟨[a,b,c,d,e],[]⟩=pure (ps.zip [a,b,c,d,e]):=by intros;rfl) (hl:ps.length=5:=by rfl):iz x st ps:=fun kV doc pm an a_ ct us hu=>by
 obtain⟨a,b,c,d,e,rfl⟩:=RX (hu.trans hl)
 exact h kV doc pm an a_ ct a b c d e
variable {V:Ev} {x:Str} {st:Stmt} {N ps:List Str} {k:Nat} {G:GD}
theorem bY (D:Dx V x st) (bd:iz x st ps) (h:∀ {a_:Value} {A:Around} {outer:List Env} {s:Shared} {H:Hp} {E:XK} {f:Addr},bg k (A.deeper (envOfC x (cM st) s.heap.objs.size f a_))->N.Nodup->(A.deeper (envOfC x (cM st) s.heap.objs.size f a_)).units + 64 < cLine →
   ∃ B:WS,dP (eB fL V.P V.w V.K V.mg V.base N x (cM st) f a_ A outer s H E).jR (fZ st) (dr B)/\∀ ys aj K',ys.length=ps.length->G ys aj K'->B (bG aj.length K') ⟨ys.map some ++ List.replicate (N.length - ps.length) none,aj.map some⟩) (sc:wF N ps (cM st)=true:=by decide +kernel):Fx V (k + 1) x ps ps.length G :=
 let ⟨f,fd,a,F⟩:=D
 ⟨f,fd,F.NL (jw sc) fun a_ A outer s H E hr=>h hr (jw sc).nd hr.units,a,F.kp,F.binds bd⟩
theorem BQ {T:Addr} {lp:Pos} {q:Str} (D:rq V x st T lp q) (bd:iz x st ps) (h:∀ {a_:Value} {A:Around} {outer:List Env} {s:Shared} {H:Hp} {E:XK} {f:Addr} {fd:FuncData},gi V.mg V.base fd T lp q->fd.code=a_->bg k (A.deeper (envOfC x (cM st) s.heap.objs.size f a_))->N.Nodup->(A.deeper (envOfC x (cM st) s.heap.objs.size f a_)).units + 64 < cLine →
   ∃ B:WS,dP (eB fL V.P V.w V.K V.mg V.base N x (cM st) f a_ A outer s H E).jR (fZ st) (dr B)/\∀ ys aj K',ys.length=ps.length->G ys aj K'->B (bG aj.length K') ⟨ys.map some ++ List.replicate (N.length - ps.length) none,aj.map some⟩) (sc:wF N ps (cM st)=true:=by decide +kernel):Fx V (k + 1) x ps ps.length G :=
 let ⟨f,fd,⟨a,F⟩,LD⟩:=D
 ⟨f,fd,F.Af (jw sc) fun a_ A outer s H E hc hr=>h LD hc hr (jw sc).nd hr.units,a,F.kp,F.binds bd⟩
end
end
section
variable {K:PySem.W.Frag} {h:Heap} {mg:Str->Option Value}
noncomputable def Dk (K:PySem.W.Frag) (x:Str) (st:Stmt):Prop:=∃ f fd,PySem.W.nsIn K mainGlobals x=some (some (.ref f))/\gE K x x st f fd
inductive gn (K:PySem.W.Frag):List (Str × Stmt)->Prop
 | nil:gn K []
 | cons {x st r}:Dk K x st->gn K r->gn K ((x,st) :: r)
theorem BR {x:Str} {st:Stmt} {r:List (Str × Stmt)} {f:Addr} {od an:Option Addr} {sl:Array (Option Value)} {oc kV dc pm cd ct:Value} (a:PySem.W.nsIn K mainGlobals x=some (some (.ref f))) (l:K.lookup f=some ⟨oc,od,.func (PySem.W.fnOf x x (jA st) (fZ st) (cM st) .none kV dc pm an cd ct),sl⟩) (q:PySem.W.codeIn K cd x=true) (k:PySem.W.keepIn K (.ref f)=true) (h:gn K r):gn K ((x,st) :: r) :=
 .cons ⟨f,_,a,DH l q k⟩ h
theorem gn.at {ds:List (Str × Stmt)} (h:gn K ds) (i:Nat) {x:Str} {st:Stmt} (e:ds[i]? = some (x,st)):Dk K x st:=by
 induction h generalizing i with
 | nil=>cases e
 | cons d _ ih=>cases i with
  | zero=>cases e;exact d
  | succ i=>exact ih i e
noncomputable def wH (K:PySem.W.Frag) (x:Str) (st:Stmt) (T:Addr):Prop:=∃ f fd,(PySem.W.nsIn K mainGlobals x=some (some (.ref f))/\gE K x x st f fd)/\∃ cc,fd.code = .ref cc/\PySem.W.codeHdIn K cc T=true
inductive dZ (K:PySem.W.Frag):List (Str × Stmt × Addr)->Prop
 | nil:dZ K []
 | cons {x st T r}:wH K x st T->dZ K r->dZ K ((x,st,T) :: r)
theorem uF {x:Str} {st:Stmt} {T:Addr} {r:List (Str × Stmt × Addr)} {f cc:Addr} {od an:Option Addr} {sl:Array (Option Value)} {oc kV dc pm ct:Value} (a:PySem.W.nsIn K mainGlobals x=some (some (.ref f))) (l:K.lookup f=some ⟨oc,od,.func (PySem.W.fnOf x x (jA st) (fZ st) (cM st) .none kV dc pm an (.ref cc) ct),sl⟩) (q:PySem.W.codeIn K (.ref cc) x=true) (k:PySem.W.keepIn K (.ref f)=true) (c:PySem.W.codeHdIn K cc T=true) (h:dZ K r):dZ K ((x,st,T) :: r) :=
 .cons ⟨f,_,⟨a,DH l q k⟩,cc,rfl,c⟩ h
theorem dZ.at {ds:List (Str × Stmt × Addr)} (h:dZ K ds) (i:Nat) {x:Str} {st:Stmt} {T:Addr} (e:ds[i]? = some (x,st,T)):wH K x st T:=by
 induction h generalizing i with
 | nil=>cases e
 | cons d _ ih=>cases i with
  | zero=>cases e;exact d
  | succ i=>exact ih i e
theorem dZ.code {ds:List (Str × Stmt × Addr)} (h:dZ K ds) {hp:Heap} (X:K.In hp):∀ T∈ds.map (·.2.2),∃ cc,PySem.W.CodeHd hp cc T:=by
 induction h with
 | nil=>intro T hT;exact nomatch hT
 | cons d _ ih =>
  intro T hT
  rcases Vr.mp hT with rfl | hT
  ·obtain⟨_,_,_,cc,_,e⟩:=d
   exact⟨cc,PySem.W.codeHd_of_K X e⟩
  ·exact ih T hT
theorem RY {x:Str} {r:List Str} (a:PySem.W.nsIn K mainGlobals x=some none) (h:∀ y∈r,PySem.W.nsIn K mainGlobals y=some none):∀ y∈x :: r,PySem.W.nsIn K mainGlobals y=some none:=fun y hy=>by
 rcases Vr.mp hy with rfl | hy
 ·exact a
 ·exact h y hy
theorem RZ {ls:List kG} (nd:(ls.map (·.T)).Nodup):∀ {a b:kG},a∈ls->b∈ls->a.T=b.T->a=b:=by
 induction ls with
 | nil=>intro a b ha;exact nomatch ha
 | cons c r ih =>
  intro a b ha hb e
  rw[Vy,Xw] at nd
  rcases Vr.mp ha with rfl | ha'<;>rcases Vr.mp hb with rfl | hb'
  ·rfl
  ·exact absurd (My.mpr ⟨b,hb',e.symm⟩) nd.1
  ·exact absurd (My.mpr ⟨a,ha',e⟩) nd.1
  ·exact ih nd.2 ha' hb' e
theorem Dk.v {P:Program} {w:World} {base:Heap} {x:Str} {st:Stmt} (d:Dk K x st) (X:K.In h) (G:h.Ns mainGlobals mg):Dx ⟨P,w,K,mg,base⟩ x st :=
 let ⟨f,fd,a,F⟩:=d
 ⟨f,fd,YV X G a,F⟩
theorem wH.v {P:Program} {w:World} {base:Heap} {x:Str} {st:Stmt} {ls:List kG} {T:Addr} {lp:Pos} {q:Str} (d:wH K x st T) (X:K.In h) (G:h.Ns mainGlobals mg) (KB:K.In base) (hB:∀ t∈ls,base.BuiltinsAt mg t.T) (nd:(ls.map (·.T)).Nodup) (ng:∀ t∈ls,mainGlobals≠t.T) (hl:⟨T,lp,q⟩∈ls):@rq (mV ls) ⟨P,w,K,mg,base⟩ x st T lp q :=
 let ⟨f,fd,⟨a,F⟩,cc,e1,e2⟩:=d
 letI:aM:=mV ls
 ⟨f,fd,⟨YV X G a,F⟩,⟨cc,e1,PySem.W.codeHd_of_K KB e2⟩,ng _ hl,hB _ hl,PR hl fun a ha b hb e=>RZ nd ha hb e⟩
noncomputable def Ck (K:PySem.W.Frag) (x:Str) (i:Int):Prop:=∃ u,PySem.W.nsIn K mainGlobals x=some (some u)/\RelV (.int i) u
theorem Ck.v {P:Program} {w:World} {base:Heap} {x:Str} {i:Int} (d:Ck K x i) (X:K.In h) (G:h.Ns mainGlobals mg):Ct ⟨P,w,K,mg,base⟩ x i :=
 let ⟨u,a,r⟩:=d
 ⟨u,YV X G a,r⟩
noncomputable def BS:List Str:=["len", "range", "list", "tuple", "set", "sorted", "min", "max", "sum", "all", "any", "enumerate", "zip", "isinstance", "int", "bool", "str"]
theorem R0 (X:K.In h) (G:h.Ns mainGlobals mg) (N:∀ x∈BS,PySem.W.nsIn K mainGlobals x=some none):BT mg :=
 have n:∀ i x,BS[i]? = some x->mg x=none:=fun i x e=>PySem.W.mg_none_of X G (N x (VA e))
 ⟨n 0 _ rfl,n 1 _ rfl,n 2 _ rfl,n 3 _ rfl,n 4 _ rfl,n 5 _ rfl,n 6 _ rfl,n 7 _ rfl,n 8 _ rfl,n 9 _ rfl,n 10 _ rfl,n 11 _ rfl,n 12 _ rfl,n 13 _ rfl,n 14 _ rfl,n 15 _ rfl,n 16 _ rfl⟩
end
end LJ
namespace LJ
open PySem L2
noncomputable def top (i:Nat):Stmt:=PySem.Challenge.pw_lotjoin_k71_which_are_narrow.main.body.getD i (.Pass ⟨0,0,0,0⟩)
section
variable [aM] {Z:Ev}
noncomputable abbrev G5:Stmt:=top 8
noncomputable abbrev G6 (Z:Ev):Prop:=Fx Z 1 "is_whole" ["thing"] 1 vX
theorem R1 (D:Dx Z "is_whole" G5) (B:BT Z.mg):G6 Z:=bY (N:=["thing"]) D kY fun hr nd hu=>⟨zI,(aY (bu (ka (kA E5 (by rfl) B.isinstance (by rfl) B.int yE (dv 0)) (j_ (Er (kA qQ (by rfl) B.isinstance (by rfl) B.bool qD (dv 0))))))),FA⟩
noncomputable abbrev G7:Stmt:=top 9
noncomputable abbrev rA (Z:Ev):Prop:=Fx Z 2 "is_within" ["thing", "least", "most"] 3 lL
theorem R3 (D:Dx Z "is_within" G7) (B:BT Z.mg) (R4:G6 Z):rA Z:=bY (N:=["thing", "least", "most"]) D jx fun hr nd hu=>⟨zJ,(aY (bu (ka (aB R4 hr (ag (dv 0) aA)) (j_ (zg vE vE (dv 1) (dv 0) (dv 2)))))),FC⟩
noncomputable abbrev G8:Stmt:=top 10
noncomputable abbrev BU (Z:Ev):Prop:=Fx Z 1 "is_tuple_of" ["thing", "size"] 2 vY
theorem R5 (D:Dx Z "is_tuple_of" G8) (B:BT Z.mg):BU Z:=bY (N:=["thing", "size"]) D hU fun hr nd hu=>⟨zK,(aY (bu (ka (kA E6 (by rfl) B.isinstance (by rfl) B.tuple yF (dv 0)) (j_ (gZ (eZ hu) (dQ g7 (by rfl) B.len VP (ag (dv 0) aA)) (dv 1) (by rfl)))))),O5⟩
noncomputable abbrev G9:Stmt:=top 11
noncomputable abbrev G_ (Z:Ev):Prop:=Fx Z 3 "are_ends" ["many", "one", "other"] 3 zM
theorem R6 (D:Dx Z "are_ends" G9) (B:BT Z.mg) (kZ:rA Z):G_ Z:=bY (N:=["many", "one", "other"]) D jx fun hr nd hu=>⟨zN,(aY (bu (ka (aB kZ hr (ag (dv 1) (a6 az (cI (ba jc (dv 0) az) aA)))) (j_ (aB kZ hr (ag (dv 2) (cI (ba cE (dv 1) az) (cI (ba jc (dv 0) az) aA)))))))),O9⟩
noncomputable abbrev Ha:Stmt:=top 12
noncomputable abbrev Hb (Z:Ev):Prop:=Fx Z 4 "is_way" ["many", "thing"] 2 zO
theorem R7 (D:Dx Z "is_way" Ha) (B:BT Z.mg) (R8:Ct Z "MOST_PRICE" 1000000000) (BV:BU Z) (R9:G_ Z) (kZ:rA Z):Hb Z:=bY (N:=["many", "thing"]) D hU fun hr nd hu=>⟨zP,(aR (cQ (iI (f9 (aB BV hr (ag (dv 1) (a6 az aA))))) (aY (bu ig)) cS) (aY (bu (ka (aB R9 hr (ag (dv 0) (bc (aV aW (dv 1) az (fun _ _=>rfl)) (bc (aV aW (dv 1) az (fun _ _=>rfl)) aA)))) (j_ (aB kZ hr (bc (aV aW (dv 1) az (fun _ _=>rfl)) (a6 az (ag (BO R8) aA))))))))),O_⟩
noncomputable abbrev Hc:Stmt:=top 13
noncomputable abbrev Hd (Z:Ev):Prop:=Fx Z 5 "are_ways" ["many", "thing"] 2 zQ
theorem R_ (D:Dx Z "are_ways" Hc) (B:BT Z.mg) (Sa:Ct Z "MOST_WAYS" 30) (Sb:Hb Z):Hd Z:=bY (N:=["many", "thing"]) D hU fun hr nd hu=>⟨zR,(aR (cQ (JW.jt (lA (iI (f9 (kA E6 (by rfl) B.isinstance (by rfl) B.tuple yF (dv 1)))) (pA (bN pO (dQ g7 (by rfl) B.len VP (ag (dv 1) aA)) (BO Sa) (by rfl))))) (aY (bu ig)) cS) (aR (cQ (iI (f9 (dQ (Oe rfl) (by rfl) B.all Nu (cI (fz [none,some 0] ["way", "many"] rfl (d8 (dv 1)) (fun d=>(bI (i:=0) (show (["way", "many"]:List Str).Nodup by decide +kernel) rfl (by trivial))) (fun d=>ik) (fun d=>(aB Sb hr (ag (dv 1) (ag (dv 0) aA))))) aA)))) (aY (bu ig)) cS) (aY (bu (gZ (eZ hu) (O8 rfl hu (by rfl) B.len VP (by rfl) B.set Nt (cI (fz [none] ["way"] rfl (d8 (dv 1)) (fun d=>(bI (i:=0) (show (["way"]:List Str).Nodup by decide +kernel) rfl (by trivial))) (fun d=>ik) (fun d=>(kC (dv 0) lJ (jH az)))) aA)) (dQ g7 (by rfl) B.len VP (ag (dv 1) aA)) (by rfl)))))),Pa⟩
noncomputable abbrev He:Stmt:=top 14
noncomputable abbrev Hf (Z:Ev):Prop:=Fx Z 6 "is_web" ["thing"] 1 zS
theorem Sd (D:Dx Z "is_web" He) (B:BT Z.mg) (Se:Ct Z "MOST_HOUSES" 12) (BV:BU Z) (kZ:rA Z) (Sf:Hd Z):Hf Z:=bY (N:=["thing"]) D kY fun hr nd hu=>⟨zT,(aR (cQ (iI (f9 (aB BV hr (ag (dv 0) (a6 az aA))))) (aY (bu ig)) cS) (aY (bu (ka (aB kZ hr (bc (aV aW (dv 0) az (fun _ _=>rfl)) (a6 az (ag (BO Se) aA)))) (j_ (aB Sf hr (bc (aV aW (dv 0) az (fun _ _=>rfl)) (bc (aV aW (dv 0) az (fun _ _=>rfl)) aA)))))))),Pb⟩
noncomputable abbrev Hg:Stmt:=top 15
noncomputable abbrev BW (Z:Ev):Prop:=Fx Z 7 "need_web" ["web"] 1 wj
theorem Sg (D:Dx Z "need_web" Hg) (B:BT Z.mg) (Sh:Hf Z):BW Z:=bY (N:=["web"]) D kY fun hr nd hu=>⟨Am,(aY (cQ (iI (f9 (aB Sh hr (ag (dv 0) aA)))) (aY zq) cS)),Qo⟩
noncomputable abbrev Hh:Stmt:=top 16
noncomputable abbrev wI (Z:Ev):Prop:=Fx Z 1 "rank_of" ["way"] 1 um
theorem Si (D:Dx Z "rank_of" Hh) (B:BT Z.mg):wI Z:=bY (N:=["way"]) D kY fun hr nd hu=>⟨Ao,(aY (bu (j9 (bc (aV aW (dv 0) az (fun _ _=>rfl)) (bc (aV aW (dv 0) az (fun _ _=>rfl)) (bc (aV aW (dv 0) az (fun _ _=>rfl)) aA)))))),Qp⟩
noncomputable abbrev Hi:Stmt:=top 17
noncomputable abbrev Hj (Z:Ev):Prop:=Fx Z 11 "order_of" ["web"] 1 Aq
theorem Sj {T:Addr} (D:rq Z "order_of" Hi T ⟨44,40,44,76⟩ ((("order_of" : Str) ++ ".<locals>.") ++ "<lambda>")) (B:BT Z.mg) (BX:BW Z) (uG:wI Z):Hj Z:=BQ (N:=["web", "ways"]) D kY fun LD hc hr nd hu=>⟨Ar,(aR (nM (aB BX hr (ag (dv 0) aA))) (aR (bC (i:=1) nd rfl (by trivial) (aV aW (dv 0) az (fun _ _=>rfl))) (aY (bu (P_ (d9.mk (x := "number") (Nb:=["ways"]) (cp:=[some 1]) ⟨LD.env hc,LD.ng,LD.blt⟩ LD.tbl rfl rfl (by first | rfl | kernel_rfl) rfl rfl (fun _ _ _ _ _=>rfl) ⟨1,hr.mono (by decide),fun d hr=>(aB uG hr (bc (aV aW (dv 1) (dv 0) (fun _ _=>rfl)) aA))⟩) rfl (by rfl) B.sorted pW (by rfl) B.range pV (bx (dQ g7 (by rfl) B.len VP (ag (dv 1) aA)) aA)))))),Qr⟩
noncomputable abbrev Hk:Stmt:=top 19
noncomputable abbrev BY (Z:Ev):Prop:=Fx Z 1 "joined" ["firsts", "one", "other"] 3 t_
theorem Sk (D:Dx Z "joined" Hk) (B:BT Z.mg):BY Z:=bY (N:=["firsts", "one", "other", "gone", "kept"]) D jx fun hr nd hu=>⟨zU,(aR (bC (i:=3) nd rfl (by trivial) (dQ (Of rfl) (by rfl) B.max vP (bc (aV aW (dv 0) (dv 1) (fun _ _=>rfl)) (bc (aV aW (dv 0) (dv 2) (fun _ _=>rfl)) aA)))) (aR (bC (i:=4) nd rfl (by trivial) (dQ (EZ rfl) (by rfl) B.min zm (bc (aV aW (dv 0) (dv 1) (fun _ _=>rfl)) (bc (aV aW (dv 0) (dv 2) (fun _ _=>rfl)) aA)))) (aY (bu (fz [none,some 4,some 3] ["first", "kept", "gone"] rfl (d8 (dv 0)) (fun d=>(bI (i:=0) (show (["first", "kept", "gone"]:List Str).Nodup by decide +kernel) rfl (by trivial))) (fun d=>ik) (fun d=>(vj (bN (eZ hu) (dv 0) (dv 2) (by rfl)) (dv 1) (dv 0)))))))),Pc⟩
noncomputable abbrev Hl:Stmt:=top 20
noncomputable abbrev wJ (Z:Ev):Prop:=Fx Z 2 "firsts_of" ["web", "ways"] 2 qV
theorem Sl (D:Dx Z "firsts_of" Hl) (B:BT Z.mg) (BZ:BY Z):wJ Z:=bY (N:=["web", "ways", "firsts", "number", "way"]) D hU fun hr nd hu=>⟨v5,(aR (bC (i:=2) nd rfl (by trivial) (tU rfl (by rfl) B.list nL (by rfl) B.range pV (bc (aV aW (dv 0) az (fun _ _=>rfl)) aA))) (aR (ki Wc rfl (d8 (dv 1)) (bI (i:=3) nd rfl (by trivial)) (aR (bC (i:=4) nd rfl (by trivial) (aV aW (aV aW (dv 0) az (fun _ _=>rfl)) (dv 3) (fun _ _=>rfl))) (aY (bC (i:=2) nd rfl (by trivial) (aB BZ hr (ag (dv 2) (bc (aV aW (dv 4) az (fun _ _=>rfl)) (bc (aV aW (dv 4) az (fun _ _=>rfl)) aA)))))))) (aY (bu (dv 2))))),Pd⟩
noncomputable abbrev Hm:Stmt:=top 22
noncomputable abbrev Hn (Z:Ev):Prop:=Fx Z 3 "is_rising" ["thing", "many"] 2 A9
theorem Sm (D:Dx Z "is_rising" Hm) (B:BT Z.mg) (kZ:rA Z):Hn Z:=bY (N:=["thing", "many", "least", "number"]) D hU fun hr nd hu=>⟨A_,(aR (cQ (iI (f9 (kA Oj (by rfl) B.isinstance (by rfl) B.list nL (dv 0)))) (aY (bu ig)) cS) (aR (bC (i:=2) nd rfl (by trivial) az) (aR (ki Wc rfl (d8 (dv 0)) (bI (i:=3) nd rfl (by trivial)) (aR (cQ (iI (f9 (aB kZ hr (ag (dv 3) (ag (dv 2) (cI (ba jc (dv 1) az) aA)))))) (aY (bu ig)) cS) (aY (bC (i:=2) nd rfl (by trivial) (ba cE (dv 3) az))))) (aY (bu ig))))),Ra⟩
noncomputable abbrev Ho:Stmt:=top 23
noncomputable abbrev Hq (Z:Ev):Prop:=Fx Z 5 "least_of" ["web", "ways"] 2 AX
theorem Sn {T:Addr} (D:rq Z "least_of" Ho T ⟨67,25,67,63⟩ ((("least_of" : Str) ++ ".<locals>.") ++ "<lambda>")) (B:BT Z.mg) (uG:wI Z):Hq Z:=BQ (N:=["web", "ways"]) D hU fun LD hc hr nd hu=>⟨AY,(aY (bu (GF false (d9.mk (x := "number") (Nb:=["web"]) (cp:=[some 0]) ⟨LD.env hc,LD.ng,LD.blt⟩ LD.tbl rfl rfl (by first | rfl | kernel_rfl) rfl rfl (fun _ _ _ _ _=>rfl) ⟨1,hr.mono (by decide),fun d hr=>(aB uG hr (bc (aV aW (aV aW (dv 1) az (fun _ _=>rfl)) (dv 0) (fun _ _=>rfl)) aA))⟩) hu (by rfl) B.min zm (ag (dv 1) aA)))),Q1⟩
noncomputable abbrev Hr:Stmt:=top 24
noncomputable abbrev Hs (Z:Ev):Prop:=Fx Z 5 "greatest_of" ["web", "ways"] 2 A4
theorem So {T:Addr} (D:rq Z "greatest_of" Hr T ⟨69,25,69,63⟩ ((("greatest_of" : Str) ++ ".<locals>.") ++ "<lambda>")) (B:BT Z.mg) (uG:wI Z):Hs Z:=BQ (N:=["web", "ways"]) D hU fun LD hc hr nd hu=>⟨A5,(aY (bu (GF true (d9.mk (x := "number") (Nb:=["web"]) (cp:=[some 0]) ⟨LD.env hc,LD.ng,LD.blt⟩ LD.tbl rfl rfl (by first | rfl | kernel_rfl) rfl rfl (fun _ _ _ _ _=>rfl) ⟨1,hr.mono (by decide),fun d hr=>(aB uG hr (bc (aV aW (aV aW (dv 1) az (fun _ _=>rfl)) (dv 0) (fun _ _=>rfl)) aA))⟩) hu (by rfl) B.max vP (ag (dv 1) aA)))),Q8⟩
noncomputable abbrev Ht:Stmt:=top 25
noncomputable abbrev Hu (Z:Ev):Prop:=Fx Z 1 "leads_out" ["way", "houses"] 2 AS
theorem Sq (D:Dx Z "leads_out" Ht) (B:BT Z.mg):Hu Z:=bY (N:=["way", "houses"]) D hU fun hr nd hu=>⟨AU,(aY (bu (gZ (lI hu) (gZ (nQ hu) (aV aW (dv 0) az (fun _ _=>rfl)) (dv 1) (by rfl)) (gZ (nQ hu) (aV aW (dv 0) az (fun _ _=>rfl)) (dv 1) (by rfl)) (by rfl)))),QZ⟩
noncomputable abbrev Hv:Stmt:=top 26
noncomputable abbrev Hw (Z:Ev):Prop:=Fx Z 2 "ways_out" ["web", "houses"] 2 AV
theorem Sr (D:Dx Z "ways_out" Hv) (B:BT Z.mg) (Ss:Hu Z):Hw Z:=bY (N:=["web", "houses"]) D hU fun hr nd hu=>⟨AW,(aY (bu (fz [none,none,some 1] ["number", "way", "houses"] rfl (y8 (by rfl) B.enumerate (bc (aV aW (dv 0) az (fun _ _=>rfl)) aA)) (fun d=>(mF rfl (f_ (bI (i:=0) (show (["number", "way", "houses"]:List Str).Nodup by decide +kernel) rfl (by trivial)) (f_ (bI (i:=1) (show (["number", "way", "houses"]:List Str).Nodup by decide +kernel) rfl (by trivial)) mE)))) (fun d=>(iM (f9 (aB Ss hr (ag (dv 1) (ag (dv 2) aA)))))) (fun d=>(dv 0))))),Q0⟩
noncomputable abbrev Hx:Stmt:=top 27
noncomputable abbrev Hy (Z:Ev):Prop:=Fx Z 3 "lot_at" ["web", "ways", "house"] 3 Ba
theorem Su (D:Dx Z "lot_at" Hx) (B:BT Z.mg) (uH:wJ Z):Hy Z:=bY (N:=["web", "ways", "house", "firsts"]) D jx fun hr nd hu=>⟨Bb,(aR (bC (i:=3) nd rfl (by trivial) (aB uH hr (ag (dv 0) (ag (dv 1) aA)))) (aY (bu (fz [none,none,some 3,some 2] ["near", "first", "firsts", "house"] rfl (y8 (by rfl) B.enumerate (ag (dv 3) aA)) (fun d=>(mF rfl (f_ (bI (i:=0) (show (["near", "first", "firsts", "house"]:List Str).Nodup by decide +kernel) rfl (by trivial)) (f_ (bI (i:=1) (show (["near", "first", "firsts", "house"]:List Str).Nodup by decide +kernel) rfl (by trivial)) mE)))) (fun d=>(iM (bN (eZ hu) (dv 1) (aV aW (dv 2) (dv 3) (fun _ _=>rfl)) (by rfl)))) (fun d=>(dv 0)))))),Rb⟩
noncomputable abbrev Hz:Stmt:=top 28
noncomputable abbrev HA (Z:Ev):Prop:=Fx Z 3 "parts" ["web", "ways", "gone", "one", "other"] 5 A6
theorem Sv (D:Dx Z "parts" Hz) (B:BT Z.mg) (uH:wJ Z):HA Z:=bY (N:=["web", "ways", "gone", "one", "other", "firsts"]) D BP fun hr nd hu=>⟨A7,(aR (bC (i:=5) nd rfl (by trivial) (aB uH hr (ag (dv 0) (cI (fz [none,some 2] ["number", "gone"] rfl (d8 (dv 1)) (fun d=>(bI (i:=0) (show (["number", "gone"]:List Str).Nodup by decide +kernel) rfl (by trivial))) (fun d=>(iM (bN (lI hu) (dv 0) (dv 1) (by rfl)))) (fun d=>(dv 0))) aA)))) (aY (bu (gZ (lI hu) (aV aW (dv 5) (dv 3) (fun _ _=>rfl)) (aV aW (dv 5) (dv 4) (fun _ _=>rfl)) (by rfl))))),Q9⟩
noncomputable abbrev HB:Stmt:=top 29
noncomputable abbrev HC (Z:Ev):Prop:=Fx Z 4 "road_of" ["web", "ways", "one", "other"] 4 Bc
theorem Sw (D:Dx Z "road_of" HB) (B:BT Z.mg) (Sx:HA Z):HC Z:=bY (N:=["web", "ways", "one", "other"]) D wG fun hr nd hu=>⟨Bd,(aY (bu (fz [none,some 0,some 1,some 2,some 3] ["number", "web", "ways", "one", "other"] rfl (d8 (dv 1)) (fun d=>(bI (i:=0) (show (["number", "web", "ways", "one", "other"]:List Str).Nodup by decide +kernel) rfl (by trivial))) (fun d=>(iM (f9 (aB Sx hr (ag (dv 1) (ag (dv 2) (ag (dv 0) (ag (dv 3) (ag (dv 4) aA))))))))) (fun d=>(dv 0))))),Rc⟩
noncomputable abbrev HD:Stmt:=top 31
noncomputable abbrev HE (Z:Ev):Prop:=Fx Z 12 "forest_of" ["web"] 1 AG
theorem Sy (D:Dx Z "forest_of" HD) (B:BT Z.mg) (Sz:Hj Z) (uH:wJ Z) (BZ:BY Z):HE Z:=bY (N:=["web", "order", "forest", "firsts", "number", "way"]) D kY fun hr nd hu=>⟨AH,(aR (bC (i:=1) nd rfl (by trivial) (aB Sz hr (ag (dv 0) aA))) (aR (bC (i:=2) nd rfl (by trivial) (sZ aA)) (aR (bC (i:=3) nd rfl (by trivial) (aB uH hr (ag (dv 0) (ag (dv 2) aA)))) (aR (ki Wc rfl (d8 (dv 1)) (bI (i:=4) nd rfl (by trivial)) (aR (bC (i:=5) nd rfl (by trivial) (aV aW (aV aW (dv 0) az (fun _ _=>rfl)) (dv 4) (fun _ _=>rfl))) (aY (cQ (bN (lI hu) (aV aW (dv 3) (aV aW (dv 5) az (fun _ _=>rfl)) (fun _ _=>rfl)) (aV aW (dv 3) (aV aW (dv 5) az (fun _ _=>rfl)) (fun _ _=>rfl)) (by rfl)) (aR (nM ((o9 Wo Xl Xm sE (dv 2) (ag (dv 4) aA)).weak vK)) (aY (bC (i:=3) nd rfl (by trivial) (aB BZ hr (ag (dv 3) (bc (aV aW (dv 5) az (fun _ _=>rfl)) (bc (aV aW (dv 5) az (fun _ _=>rfl)) aA))))))) cS)))) (aY (bu (Ov Ox (by rfl) B.sorted pW (ag (dv 2) aA)))))))),QE⟩
noncomputable abbrev HF:Stmt:=top 33
noncomputable abbrev HG (Z:Ev):Prop:=Fx Z 8 "need_two" ["web", "one", "other"] 3 Be
theorem SA (D:Dx Z "need_two" HF) (B:BT Z.mg) (BX:BW Z) (kZ:rA Z):HG Z:=bY (N:=["web", "one", "other"]) D jx fun hr nd hu=>⟨Bf,(aR (nM (aB BX hr (ag (dv 0) aA))) (aR (cQ (iI (f9 (aB kZ hr (ag (dv 1) (a6 az (cI (ba jc (aV aW (dv 0) az (fun _ _=>rfl)) az) aA)))))) (aY zq) cS) (aY (cQ (JW.jt (lA (iI (f9 (aB kZ hr (ag (dv 2) (a6 az (cI (ba jc (aV aW (dv 0) az (fun _ _=>rfl)) az) aA)))))) (pA (bN (eZ hu) (dv 1) (dv 2) (by rfl))))) (aY zq) cS)))),Rf⟩
noncomputable abbrev HH:Stmt:=top 34
noncomputable abbrev HI (Z:Ev):Prop:=Fx Z 6 "greatest_between" ["web", "forest", "one", "other"] 4 Bg
theorem SD (D:Dx Z "greatest_between" HH) (B:BT Z.mg) (SE:Hy Z) (SF:Hs Z) (SG:HC Z):HI Z:=bY (N:=["web", "forest", "one", "other"]) D wG fun hr nd hu=>⟨Bh,(aR (cQ (bN (qO hu) (dv 3) (aB SE hr (ag (dv 0) (ag (dv 1) (ag (dv 2) aA)))) (by rfl)) (aY (bu pf)) cS) (aY (bu (aB SF hr (ag (dv 0) (bx (aB SG hr (ag (dv 0) (ag (dv 1) (ag (dv 2) (ag (dv 3) aA))))) aA)))))),Rg⟩
noncomputable abbrev HJ:Stmt:=top 35
noncomputable abbrev HK (Z:Ev):Prop:=Fx Z 13 "is_narrow" ["web", "one", "other", "number", "houses"] 5 Bu
theorem SH (D:Dx Z "is_narrow" HJ) (B:BT Z.mg) (SI:HG Z) (SJ:Hn Z) (SK:HI Z) (SM:HE Z) (SN:Hq Z) (SO:Hw Z):HK Z:=bY (N:=["web", "one", "other", "number", "houses", "greatest"]) D BP fun hr nd hu=>⟨Bi,(aR (nM (aB SI hr (ag (dv 0) (ag (dv 1) (ag (dv 2) aA))))) (aR (cQ (JW.jt (lA (iI (f9 (aB SJ hr (ag (dv 4) (bc (aV aW (dv 0) az (fun _ _=>rfl)) aA))))) (lA (bN (qO hu) (dv 1) (dv 4) (by rfl)) (pA (bN (nQ hu) (dv 2) (dv 4) (by rfl)))))) (aY (bu ig)) cS) (aR (bC (i:=5) nd rfl (by trivial) (aB SK hr (ag (dv 0) (bx (aB SM hr (ag (dv 0) aA)) (ag (dv 1) (ag (dv 2) aA)))))) (aY (bu (ka (gZ Fl (dv 5) pf (by rfl)) (j_ (zg (eZ hu) (eZ hu) (dv 3) (dv 5) (aB SN hr (ag (dv 0) (bx (aB SO hr (ag (dv 0) (ag (dv 4) aA))) aA))))))))))),RG⟩
noncomputable abbrev HL:Stmt:=top 37
noncomputable abbrev HM (Z:Ev):Prop:=Fx Z 1 "_law_spread" ["cell", "at"] 2 zv
theorem SQ (D:Dx Z "_law_spread" HL) (B:BT Z.mg):HM Z:=bY (N:=["cell", "at", "primes", "one", "two", "three"]) D hU fun hr nd hu=>⟨zw,(aR (cQ (bN EM (dv 0) (ba mK az az) (by rfl)) (aY (bu (dv 0))) cS) (aR (bC (i:=2) nd rfl (by trivial) (gJ (a6 az (a6 az (a6 az (a6 az (a6 az (a6 az (a6 az (a6 az aA)))))))))) (aR (bC (i:=2) nd rfl (by trivial) (ba cE (dv 2) (gJ (a6 az (a6 az (a6 az (a6 az (a6 az aA)))))))) (aR (bC (i:=3) nd rfl (by trivial) (ba jd (ba mK (ba cE (ba cE (ba nP (ba jd (dv 0) az) (ba cE (ba nP az (dv 1)) az)) (ba nP (dv 1) az)) az) az) (aV aW (dv 2) (ba jd (dv 1) az) (fun _ _=>rfl)))) (aR (bC (i:=4) nd rfl (by trivial) (ba jd (ba mK (ba cE (ba cE (ba nP (dv 3) (ba cE (dv 1) az)) (ba jd (dv 0) az)) az) az) (aV aW (dv 2) (ba jd (ba cE (dv 1) az) az) (fun _ _=>rfl)))) (aR (bC (i:=5) nd rfl (by trivial) (ba jd (ba mK (ba cE (ba cE (dv 4) (ba jd (dv 3) az)) (dv 1)) az) (aV aW (dv 2) (ba jd (ba cE (dv 1) az) az) (fun _ _=>rfl)))) (aY (bu (ba cE (ba nP (ba cE (ba nP (dv 3) az) (dv 4)) az) (dv 5)))))))))),OQ⟩
noncomputable abbrev HN:Stmt:=top 39
noncomputable abbrev HP (Z:Ev):Prop:=Fx Z 1 "_law_anew" ["pen"] 1 zy
theorem SS (D:Dx Z "_law_anew" HN) (B:BT Z.mg):HP Z:=bY (N:=["pen"]) D kY fun hr nd hu=>⟨zA,(aR ((qB az (sU (dv 0) az set_list)).weak vL) (aY (bu (dv 0)))),OR⟩
noncomputable abbrev HQ:Stmt:=top 40
noncomputable abbrev rB (Z:Ev):Prop:=Fx Z 2 "_law_take" ["pen", "many"] 2 eN
theorem SU (D:Dx Z "_law_take" HQ) (B:BT Z.mg) (SV:HM Z):rB Z:=bY (N:=["pen", "many", "at", "cell", "found"]) D hU fun hr nd hu=>⟨zB,(aR (cQ (bN (tO hu) (aV aW (dv 0) az (fun _ _=>rfl)) (dv 1) (by rfl)) (aR (bC (i:=2) nd rfl (by trivial) (aV aW (dv 0) az (fun _ _=>rfl))) (aR (bC (i:=3) nd rfl (by trivial) az) (aR (cQ (bN (tO hu) (dv 2) (dQ g7 (by rfl) B.len VP (bc (aV aW (dv 0) az (fun _ _=>rfl)) aA)) (by rfl)) (aY (bC (i:=3) nd rfl (by trivial) (aV aW (aV aW (dv 0) az (fun _ _=>rfl)) (dv 2) (fun _ _=>rfl)))) (aY (cQ (bN pO (dQ g7 (by rfl) B.len VP (bc (aV aW (dv 0) az (fun _ _=>rfl)) aA)) az (by rfl)) (aY (bC (i:=3) nd rfl (by trivial) (ba jd (aV aW (aV aW (dv 0) az (fun _ _=>rfl)) (ba jd (ba cE (ba nP (dv 2) az) az) (dQ g7 (by rfl) B.len VP (bc (aV aW (dv 0) az (fun _ _=>rfl)) aA))) (fun _ _=>rfl)) (ba cE (ba mK az az) (dv 2))))) cS))) (aR ((qB (ba cE (dv 2) az) (sU (dv 0) az set_list)).weak vL) (aY ((qB (aB SV hr (ag (dv 3) (ag (dv 2) aA))) (sU (dv 0) az set_list)).weak vL)))))) cS) (aR (bC (i:=4) nd rfl (by trivial) (ba jd (aV aW (dv 0) az (fun _ _=>rfl)) (dv 1))) (aR ((qB (ba N9 (aV aW (dv 0) az (fun _ _=>rfl)) (dv 1)) (sU (dv 0) az set_list)).weak vL) (aY (bu (dv 4)))))),OS⟩
noncomputable abbrev HR:Stmt:=top 41
noncomputable abbrev HS (Z:Ev):Prop:=Fx Z 1 "_law_is_whole" ["thing"] 1 zL
theorem SW (D:Dx Z "_law_is_whole" HR) (B:BT Z.mg):HS Z:=bY (N:=["thing"]) D kY fun hr nd hu=>⟨FD,(aY (bu (ka (kA E5 (by rfl) B.isinstance (by rfl) B.int yE (dv 0)) (j_ (Er (kA qQ (by rfl) B.isinstance (by rfl) B.bool qD (dv 0))))))),O6⟩
noncomputable abbrev HU:Stmt:=top 42
noncomputable abbrev HV (Z:Ev):Prop:=Fx Z 1 "_law_same" ["found", "due"] 2 BJ
theorem SX (D:Dx Z "_law_same" HU) (B:BT Z.mg):HV Z:=bY (N:=["found", "due"]) D hU fun hr nd hu=>⟨BK,(aR (cQ (bN zt (dv 1) pf (by rfl)) (aY (bu (gZ zt (dv 0) pf (by rfl)))) cS) (aR (cQ (JW.jt (lA (f9 (kA qQ (by rfl) B.isinstance (by rfl) B.bool qD (dv 1))) (pA (f9 (kA qQ (by rfl) B.isinstance (by rfl) B.bool qD (dv 0)))))) (aY (bu (ka (kA qQ (by rfl) B.isinstance (by rfl) B.bool qD (dv 1)) (ka (kA qQ (by rfl) B.isinstance (by rfl) B.bool qD (dv 0)) (j_ (gZ (eZ hu) (dv 0) (dv 1) (by rfl))))))) cS) NH)),RO⟩
noncomputable abbrev HW:Stmt:=top 43
noncomputable abbrev HX (Z:Ev):Prop:=Fx Z 3 "_law_pairs_of" ["pen", "kind", "many"] 3 zC
theorem SY (D:Dx Z "_law_pairs_of" HW) (B:BT Z.mg) (d_:rB Z):HX Z:=bY (N:=["pen", "kind", "many", "every", "other", "ring", "half"]) D jx fun hr nd hu=>⟨zD,(aR (bC (i:=3) nd rfl (by trivial) (sZ aA)) (aR (ki Wc rfl (lE (by rfl) B.range (ag (dv 2) aA)) (bI (i:=4) nd rfl (by trivial)) (aY (nM ((o9 Wo PySem.F.slot_list_extend PySem.F.type_list_extend LN (dv 3) (cI (fz [none,some 4] ["one", "other"] rfl (lE (by rfl) B.range (ag (dv 4) aA)) (fun d=>(bI (i:=0) (show (["one", "other"]:List Str).Nodup by decide +kernel) rfl (by trivial))) (fun d=>ik) (fun d=>(j9 (ag (dv 0) (ag (dv 1) aA))))) aA)).weak Ol)))) (aR (cQ (bN (eZ hu) (dv 1) az (by rfl)) (aY (bu (vp [none,some 0] ["other", "pen"] rfl (N7 (by rfl) B.range (a6 az (ag (dv 2) aA))) (fun d=>(bI (i:=0) (show (["other", "pen"]:List Str).Nodup by decide +kernel) rfl (by trivial))) (fun d=>ik) (fun d=>(j9 (bx (aB d_ hr (ag (dv 1) (ag (dv 0) aA))) (ag (dv 0) aA))))))) cS) (aR (cQ (bN (eZ hu) (dv 1) az (by rfl)) (aR (vq [none] ["k"] (i:=5) nd rfl (by trivial) rfl (lE (by rfl) B.range (cI (ba jc (dv 2) az) aA)) (fun d=>(bI (i:=0) (show (["k"]:List Str).Nodup by decide +kernel) rfl (by trivial))) (fun d=>ik) (fun d=>(j9 (ag (dv 0) (cI (ba cE (dv 0) az) aA))))) (aY (bu (Oz (dv 5) (fz [none,some 2] ["pair", "many"] rfl (d8 (dv 3)) (fun d=>(bI (i:=0) (show (["pair", "many"]:List Str).Nodup by decide +kernel) rfl (by trivial))) (fun d=>(iM (JW.jt (tu (bN (eZ hu) (dv 0) (j9 (a6 az (cI (ba jc (dv 1) az) aA))) (by rfl)) (tj (bN pO (dv 1) az (by rfl))))))) (fun d=>(dv 0))))))) cS) (aR (cQ (bN (eZ hu) (dv 1) az (by rfl)) (aY (bu (dv 3))) cS) (aR (cQ (bN (eZ hu) (dv 1) az (by rfl)) (aY (bu (vp [none,some 0] ["pair", "pen"] rfl (d8 (dv 3)) (fun d=>(bI (i:=0) (show (["pair", "pen"]:List Str).Nodup by decide +kernel) rfl (by trivial))) (fun d=>(iM (bN (eZ hu) (aB d_ hr (ag (dv 1) (a6 az aA))) az (by rfl)))) (fun d=>(dv 0))))) cS) (aR (cQ (bN (eZ hu) (dv 1) az (by rfl)) (aR (bC (i:=6) nd rfl (by trivial) (aB d_ hr (ag (dv 0) (cI (ba cE (dv 2) az) aA)))) (aY (bu (vp [none,some 6,some 0] ["pair", "half", "pen"] rfl (d8 (dv 3)) (fun d=>(bI (i:=0) (show (["pair", "half", "pen"]:List Str).Nodup by decide +kernel) rfl (by trivial))) (fun d=>(iM (JW.jt (tu (bN (eZ hu) (gZ (tO hu) (aV aW (dv 0) az (fun _ _=>rfl)) (dv 1) (by rfl)) (gZ (tO hu) (aV aW (dv 0) az (fun _ _=>rfl)) (dv 1) (by rfl)) (by rfl)) (tj (bN pO (aB d_ hr (ag (dv 2) (a6 az aA))) az (by rfl))))))) (fun d=>(dv 0)))))) cS) (aY (bu (vp [none,some 0] ["pair", "pen"] rfl (d8 (dv 3)) (fun d=>(bI (i:=0) (show (["pair", "pen"]:List Str).Nodup by decide +kernel) rfl (by trivial))) (fun d=>(iM (bN (eZ hu) (aB d_ hr (ag (dv 1) (a6 az aA))) az (by rfl)))) (fun d=>(dv 0)))))))))))),OX⟩
noncomputable abbrev HY:Stmt:=top 44
noncomputable abbrev HZ (Z:Ev):Prop:=Fx Z 4 "_law_web" ["pen", "houses", "most"] 3 zG
theorem S7 (D:Dx Z "_law_web" HY) (B:BT Z.mg) (d_:rB Z) (S8:HX Z):HZ Z:=bY (N:=["pen", "houses", "most", "kind", "prices", "many", "pairs", "ways", "k", "one", "other", "price"]) D jx fun hr nd hu=>⟨zH,(aR (bC (i:=3) nd rfl (by trivial) (aB d_ hr (ag (dv 0) (a6 az aA)))) (aR (bC (i:=4) nd rfl (by trivial) (aB d_ hr (ag (dv 0) (a6 az aA)))) (aR (bC (i:=5) nd rfl (by trivial) (ba cE az (aB d_ hr (ag (dv 0) (ag (dv 1) aA))))) (aR (bC (i:=6) nd rfl (by trivial) (RS S8 hr (ag (dv 0) (ag (dv 3) (ag (dv 5) aA))))) (aR (bC (i:=7) nd rfl (by trivial) (sZ aA)) (aR (ki Wc rfl (lE (by rfl) B.range (bx (dQ (EZ rfl) (by rfl) B.min zm (ag (dv 2) (bx (dQ g7 (by rfl) B.len VP (ag (dv 6) aA)) aA))) aA)) (bI (i:=8) nd rfl (by trivial)) (aR (tE ((o9 Wo PySem.F.slot_list_pop PySem.F.type_list_pop Dz (dv 6) (bx (aB d_ hr (ag (dv 0) (bx (dQ g7 (by rfl) B.len VP (ag (dv 6) aA)) aA))) aA)).weak E8) (mF rfl (f_ (bI (i:=9) nd rfl (by trivial)) (f_ (bI (i:=10) nd rfl (by trivial)) mE)))) (aR (bC (i:=11) nd rfl (by trivial) (aV aW (gJ (a6 az (bx (aB d_ hr (ag (dv 0) (a6 az aA))) (cI (ba jc (ba mK az az) (aB d_ hr (ag (dv 0) (a6 az aA)))) (bx (aB d_ hr (ag (dv 0) (cI (ba cE (ba mK az az) az) aA))) aA))))) (dv 4) (fun _ _=>rfl))) (aY (nM ((o9 Wo Xl Xm sE (dv 7) (yN (j9 (ag (dv 9) (ag (dv 10) (ag (dv 11) aA)))) aA)).weak vK)))))) (aY (bu (j9 (ag (dv 5) (bx (yO Od (by rfl) B.tuple yF (ag (dv 7) aA)) aA))))))))))),OY⟩
noncomputable abbrev H_:Stmt:=top 45
noncomputable abbrev rC (Z:Ev):Prop:=Fx Z 1 "_law_key" ["web", "number"] 2 mW
theorem S9 (D:Dx Z "_law_key" H_) (B:BT Z.mg):rC Z:=bY (N:=["web", "number", "one", "other", "price"]) D hU fun hr nd hu=>⟨As,(aR (tE (aV aW (aV aW (dv 0) az (fun _ _=>rfl)) (dv 1) (fun _ _=>rfl)) (mF rfl (f_ (bI (i:=2) nd rfl (by trivial)) (f_ (bI (i:=3) nd rfl (by trivial)) (f_ (bI (i:=4) nd rfl (by trivial)) mE))))) (aY (bu (j9 (ag (dv 4) (ag (dv 2) (ag (dv 3) aA))))))),Qs⟩
noncomputable abbrev Ia:Stmt:=top 46
noncomputable abbrev Ib (Z:Ev):Prop:=Fx Z 2 "_law_order" ["web"] 1 Au
theorem S_ (D:Dx Z "_law_order" Ia) (B:BT Z.mg) (k8:rC Z):Ib Z:=bY (N:=["web"]) D kY fun hr nd hu=>⟨Av,(aY (bu (fz [none] ["key"] rfl (d8 (dQ (F_ hu) (by rfl) B.sorted pW (cI (fz [none,some 0] ["number", "web"] rfl (lE (by rfl) B.range (bx (dQ g7 (by rfl) B.len VP (bc (aV aW (dv 0) az (fun _ _=>rfl)) aA)) aA)) (fun d=>(bI (i:=0) (show (["number", "web"]:List Str).Nodup by decide +kernel) rfl (by trivial))) (fun d=>ik) (fun d=>(j9 (bx (aB k8 hr (ag (dv 1) (ag (dv 0) aA))) (ag (dv 0) aA))))) aA))) (fun d=>(bI (i:=0) (show (["key"]:List Str).Nodup by decide +kernel) rfl (by trivial))) (fun d=>ik) (fun d=>(aV aW (dv 0) az (fun _ _=>rfl)))))),Qt⟩
noncomputable abbrev Ic:Stmt:=top 47
noncomputable abbrev Ie (Z:Ev):Prop:=Fx Z 1 "_law_marks_by" ["web", "ways"] 2 zW
theorem Ta (D:Dx Z "_law_marks_by" Ic) (B:BT Z.mg):Ie Z:=bY (N:=["web", "ways", "found", "number", "one", "other"]) D hU fun hr nd hu=>⟨v7,(aR (bC (i:=2) nd rfl (by trivial) (tU rfl (by rfl) B.list nL (by rfl) B.range pV (bc (aV aW (dv 0) az (fun _ _=>rfl)) aA))) (aR (ki Wc rfl (d8 (dv 1)) (bI (i:=3) nd rfl (by trivial)) (aR (tE (dQ zi (by rfl) B.sorted pW (cI (fz [none,some 2] ["house", "found"] rfl (d8 (kC (aV aW (aV aW (dv 0) az (fun _ _=>rfl)) (dv 3) (fun _ _=>rfl)) lJ (jH az))) (fun d=>(bI (i:=0) (show (["house", "found"]:List Str).Nodup by decide +kernel) rfl (by trivial))) (fun d=>ik) (fun d=>(aV aW (dv 1) (dv 0) (fun _ _=>rfl)))) aA)) (mF rfl (f_ (bI (i:=4) nd rfl (by trivial)) (f_ (bI (i:=5) nd rfl (by trivial)) mE)))) (aY (bC (i:=2) nd rfl (by trivial) (fz [none,some 4,some 5] ["mark", "one", "other"] rfl (d8 (dv 2)) (fun d=>(bI (i:=0) (show (["mark", "one", "other"]:List Str).Nodup by decide +kernel) rfl (by trivial))) (fun d=>ik) (fun d=>(vj (bN (eZ hu) (dv 0) (dv 2) (by rfl)) (dv 1) (dv 0)))))))) (aY (bu (dv 2))))),Pf⟩
noncomputable abbrev Ig:Stmt:=top 48
noncomputable abbrev Ih (Z:Ev):Prop:=Fx Z 2 "_law_lot_at" ["web", "ways", "house"] 3 BC
theorem Tb (D:Dx Z "_law_lot_at" Ig) (B:BT Z.mg) (Tc:Ie Z):Ih Z:=bY (N:=["web", "ways", "house", "marks"]) D jx fun hr nd hu=>⟨BE,(aR (bC (i:=3) nd rfl (by trivial) (aB Tc hr (ag (dv 0) (ag (dv 1) aA)))) (aY (bu (fz [none,some 3,some 2] ["other", "marks", "house"] rfl (lE (by rfl) B.range (bc (aV aW (dv 0) az (fun _ _=>rfl)) aA)) (fun d=>(bI (i:=0) (show (["other", "marks", "house"]:List Str).Nodup by decide +kernel) rfl (by trivial))) (fun d=>(iM (bN (eZ hu) (aV aW (dv 1) (dv 0) (fun _ _=>rfl)) (aV aW (dv 1) (dv 2) (fun _ _=>rfl)) (by rfl)))) (fun d=>(dv 0)))))),RL⟩
noncomputable abbrev Ii:Stmt:=top 49
noncomputable abbrev Ij (Z:Ev):Prop:=Fx Z 1 "_law_leads_out" ["web", "houses", "number"] 3 Bl
theorem Td (D:Dx Z "_law_leads_out" Ii) (B:BT Z.mg):Ij Z:=bY (N:=["web", "houses", "number", "one", "other"]) D jx fun hr nd hu=>⟨Bm,(aR (tE (kC (aV aW (aV aW (dv 0) az (fun _ _=>rfl)) (dv 2) (fun _ _=>rfl)) lJ (jH az)) (mF rfl (f_ (bI (i:=3) nd rfl (by trivial)) (f_ (bI (i:=4) nd rfl (by trivial)) mE)))) (aY (bu (gZ (lI hu) (gZ (nQ hu) (dv 3) (dv 1) (by rfl)) (gZ (nQ hu) (dv 4) (dv 1) (by rfl)) (by rfl))))),Ro⟩
noncomputable abbrev Ik:Stmt:=top 50
noncomputable abbrev Il (Z:Ev):Prop:=Fx Z 2 "_law_outs" ["web", "houses", "ways"] 3 Bo
theorem Te (D:Dx Z "_law_outs" Ik) (B:BT Z.mg) (Tf:Ij Z) (k8:rC Z):Il Z:=bY (N:=["web", "houses", "ways", "found"]) D jx fun hr nd hu=>⟨Bp,(aR (vq [none,some 0,some 1] ["number", "web", "houses"] (i:=3) nd rfl (by trivial) rfl (d8 (dv 2)) (fun d=>(bI (i:=0) (show (["number", "web", "houses"]:List Str).Nodup by decide +kernel) rfl (by trivial))) (fun d=>(iM (f9 (aB Tf hr (ag (dv 1) (ag (dv 2) (ag (dv 0) aA))))))) (fun d=>(j9 (bx (aB k8 hr (ag (dv 1) (ag (dv 0) aA))) (ag (dv 0) aA))))) (aY (bu (fz [none,none] ["key", "number"] rfl (d8 (dQ (F_ hu) (by rfl) B.sorted pW (ag (dv 3) aA))) (fun d=>(mF rfl (f_ (bI (i:=0) (show (["key", "number"]:List Str).Nodup by decide +kernel) rfl (by trivial)) (f_ (bI (i:=1) (show (["key", "number"]:List Str).Nodup by decide +kernel) rfl (by trivial)) mE)))) (fun d=>ik) (fun d=>(dv 1)))))),Rp⟩
noncomputable abbrev Im:Stmt:=top 51
noncomputable abbrev wK (Z:Ev):Prop:=Fx Z 3 "_law_forest" ["web", "ways"] 2 ur
theorem Tg (D:Dx Z "_law_forest" Im) (B:BT Z.mg) (Th:Ib Z):wK Z:=bY (N:=["web", "ways", "marks", "found", "number", "one", "other"]) D hU fun hr nd hu=>⟨AJ,(aR (bC (i:=2) nd rfl (by trivial) (tU rfl (by rfl) B.list nL (by rfl) B.range pV (bc (aV aW (dv 0) az (fun _ _=>rfl)) aA))) (aR (bC (i:=3) nd rfl (by trivial) (sZ aA)) (aR (ki Wc rfl (d8 (aB Th hr (ag (dv 0) aA))) (bI (i:=4) nd rfl (by trivial)) (aR (tE (fz [none,some 2] ["house", "marks"] rfl (d8 (kC (aV aW (aV aW (dv 0) az (fun _ _=>rfl)) (dv 4) (fun _ _=>rfl)) lJ (jH az))) (fun d=>(bI (i:=0) (show (["house", "marks"]:List Str).Nodup by decide +kernel) rfl (by trivial))) (fun d=>ik) (fun d=>(aV aW (dv 1) (dv 0) (fun _ _=>rfl)))) (mF rfl (f_ (bI (i:=5) nd rfl (by trivial)) (f_ (bI (i:=6) nd rfl (by trivial)) mE)))) (aY (cQ (JW.jt (tu (bN (nQ hu) (dv 4) (dv 1) (by rfl)) (tj (bN (lI hu) (dv 5) (dv 6) (by rfl))))) (aR (bC (i:=2) nd rfl (by trivial) (fz [none,some 5,some 6] ["mark", "one", "other"] rfl (d8 (dv 2)) (fun d=>(bI (i:=0) (show (["mark", "one", "other"]:List Str).Nodup by decide +kernel) rfl (by trivial))) (fun d=>ik) (fun d=>(vj (bN (eZ hu) (dv 0) (dv 2) (by rfl)) (dv 1) (dv 0))))) (aY (nM ((o9 Wo Xl Xm sE (dv 3) (ag (dv 4) aA)).weak vK)))) cS)))) (aY (bu (dQ zi (by rfl) B.sorted pW (ag (dv 3) aA))))))),QG⟩
noncomputable abbrev Io:Stmt:=top 52
noncomputable abbrev B0 (Z:Ev):Prop:=Fx Z 2 "_law_is_in" ["thing", "low", "high"] 3 vZ
theorem Ti (D:Dx Z "_law_is_in" Io) (B:BT Z.mg) (Tj:HS Z):B0 Z:=bY (N:=["thing", "low", "high"]) D jx fun hr nd hu=>⟨FE,(aY (bu (ka (aB Tj hr (ag (dv 0) aA)) (j_ (zg vE vE (dv 1) (dv 0) (dv 2)))))),O7⟩
noncomputable abbrev Ip:Stmt:=top 53
noncomputable abbrev B2 (Z:Ev):Prop:=Fx Z 1 "_law_road" ["web", "ways", "one", "other"] 4 wB
theorem Tn (D:Dx Z "_law_road" Ip) (B:BT Z.mg):B2 Z:=bY (N:=["web", "ways", "one", "other", "roads", "due", "here", "number", "ends", "there"]) D wG fun hr nd hu=>⟨Bk,(aR (bC (i:=4) nd rfl (by trivial) (Qz (dv 2) (gJ aA))) (aR (bC (i:=5) nd rfl (by trivial) (sZ (ag (dv 2) aA))) (aR (QB Wc (bN (lI hu) (dv 5) (gJ aA) (by rfl)) (aR (bC (i:=6) nd rfl (by trivial) ((o9 Wo PySem.F.slot_list_pop PySem.F.type_list_pop Dz (dv 5) (a6 az aA)).weak E8)) (aY (ki Wc rfl (d8 (dv 1)) (bI (i:=7) nd rfl (by trivial)) (aR (bC (i:=8) nd rfl (by trivial) (kC (aV aW (aV aW (dv 0) az (fun _ _=>rfl)) (dv 7) (fun _ _=>rfl)) lJ (jH az))) (aY (cQ (JW.jt (tu (bN (nQ hu) (dv 6) (dv 8) (by rfl)) (tj (bN (qO hu) (dv 7) (Gb hu (dv 4) (dv 6)) (by rfl))))) (aR (bC (i:=9) nd rfl (by trivial) (ba jc (ba cE (aV aW (dv 8) az (fun _ _=>rfl)) (aV aW (dv 8) az (fun _ _=>rfl))) (dv 6))) (aY (cQ (Qw hu (dv 9) (dv 4)) (aR (Qy hu (dv 4) (dv 9) (ba cE (Gb hu (dv 4) (dv 6)) (gJ (ag (dv 7) aA)))) (aY (nM ((o9 Wo Xl Xm sE (dv 5) (ag (dv 9) aA)).weak vK)))) cS))) cS))))))) (aY (bu (Qx hu (dv 4) (dv 3) pf)))))),Rk⟩
noncomputable abbrev Iq:Stmt:=top 54
noncomputable abbrev Ir (Z:Ev):Prop:=Fx Z 3 "_law_rises" ["numbers", "many"] 2 Bv
theorem To (D:Dx Z "_law_rises" Iq) (B:BT Z.mg) (B3:B0 Z):Ir Z:=bY (N:=["numbers", "many", "k", "number"]) D hU fun hr nd hu=>⟨Bw,(aR (ki Wc rfl (y8 (by rfl) B.enumerate (ag (dv 0) aA)) (mF rfl (f_ (bI (i:=2) nd rfl (by trivial)) (f_ (bI (i:=3) nd rfl (by trivial)) mE))) (aY (cQ (JW.jt (lA (iI (f9 (aB B3 hr (ag (dv 3) (a6 az (cI (ba jc (dv 1) az) aA)))))) (pA (JW.jt (tu (bN pO (dv 2) az (by rfl)) (tj (bN EM (aV aW (dv 0) (ba jc (dv 2) az) (fun _ _=>rfl)) (dv 3) (by rfl)))))))) (aY (bu ig)) cS))) (aY (bu ig))),RH⟩
noncomputable abbrev Iu:Stmt:=top 55
noncomputable abbrev Iv (Z:Ev):Prop:=Fx Z 4 "_law_cut_right" ["web", "number", "houses"] 3 Bx
theorem Tp (D:Dx Z "_law_cut_right" Iu) (B:BT Z.mg) (Tq:Ir Z) (Tr:Il Z):Iv Z:=bY (N:=["web", "number", "houses"]) D jx fun hr nd hu=>⟨By,(aR (cQ (iI (f9 (aB Tq hr (ag (dv 2) (bc (aV aW (dv 0) az (fun _ _=>rfl)) aA))))) (aY (bu ig)) cS) (aY (bu (gZ (eZ hu) (kC (aB Tr hr (ag (dv 0) (ag (dv 2) (bx (tU rfl (by rfl) B.list nL (by rfl) B.range pV (bx (dQ g7 (by rfl) B.len VP (bc (aV aW (dv 0) az (fun _ _=>rfl)) aA)) aA)) aA)))) lJ (jH az)) (gJ (ag (dv 1) aA)) (by rfl))))),RJ⟩
noncomputable abbrev Iw:Stmt:=top 56
noncomputable abbrev wL (Z:Ev):Prop:=Fx Z 1 "_law_all" ["web"] 1 qW
theorem Tt (D:Dx Z "_law_all" Iw) (B:BT Z.mg):wL Z:=bY (N:=["web"]) D kY fun hr nd hu=>⟨zX,(aY (bu (Oy rfl (by rfl) B.list nL (by rfl) B.range pV (bx (dQ g7 (by rfl) B.len VP (bc (aV aW (dv 0) az (fun _ _=>rfl)) aA)) aA)))),Pg⟩
noncomputable abbrev Iy:Stmt:=top 57
noncomputable abbrev Iz (Z:Ev):Prop:=Fx Z 5 "_law_due" ["web", "one", "other", "number", "houses"] 5 BA
theorem Tu (D:Dx Z "_law_due" Iy) (B:BT Z.mg) (B4:B2 Z) (uI:wK Z) (rD:wL Z) (k8:rC Z) (Tv:Iv Z):Iz Z:=bY (N:=["web", "one", "other", "number", "houses", "road"]) D BP fun hr nd hu=>⟨BB,(aR (bC (i:=5) nd rfl (by trivial) (aB B4 hr (ag (dv 0) (bx (aB uI hr (ag (dv 0) (bx (aB rD hr (ag (dv 0) aA)) aA))) (ag (dv 1) (ag (dv 2) aA)))))) (aR (cQ (JW.jt (lA (bN zt (dv 5) pf (by rfl)) (lA (bN (qO hu) (dv 3) (dv 5) (by rfl)) (lA (bN (qO hu) (dv 1) (dv 4) (by rfl)) (pA (bN (nQ hu) (dv 2) (dv 4) (by rfl))))))) (aY (bu ig)) cS) (aR (cQ (bN (lI hu) (dQ (RD hu rfl) (by rfl) B.max vP (cI (fz [none,some 0] ["way", "web"] rfl (d8 (dv 5)) (fun d=>(bI (i:=0) (show (["way", "web"]:List Str).Nodup by decide +kernel) rfl (by trivial))) (fun d=>ik) (fun d=>(aB k8 hr (ag (dv 1) (ag (dv 0) aA))))) aA)) (aB k8 hr (ag (dv 0) (ag (dv 3) aA))) (by rfl)) (aY (bu ig)) cS) (aY (bu (aB Tv hr (ag (dv 0) (ag (dv 3) (ag (dv 4) aA))))))))),RK⟩
noncomputable abbrev IA:Stmt:=top 58
noncomputable abbrev IB (Z:Ev):Prop:=Fx Z 4 "_law_houses_of" ["pen", "web", "one", "number"] 4 BF
theorem Tw (D:Dx Z "_law_houses_of" IA) (B:BT Z.mg) (B3:B0 Z) (rD:wL Z) (k8:rC Z) (uI:wK Z) (Tx:Ih Z) (d_:rB Z):IB Z:=bY (N:=["pen", "web", "one", "number", "less", "side"]) D wG fun hr nd hu=>⟨BG,(aR (cQ (iI (f9 (aB B3 hr (ag (dv 3) (a6 az (cI (ba jc (dQ g7 (by rfl) B.len VP (bc (aV aW (dv 1) az (fun _ _=>rfl)) aA)) az) aA)))))) (aY (bu (gJ (ag (dv 2) aA)))) cS) (aR (vq [none,some 1,some 3] ["way", "web", "number"] (i:=4) nd rfl (by trivial) rfl (d8 (aB rD hr (ag (dv 1) aA))) (fun d=>(bI (i:=0) (show (["way", "web", "number"]:List Str).Nodup by decide +kernel) rfl (by trivial))) (fun d=>(iM (bN (tO hu) (aB k8 hr (ag (dv 1) (ag (dv 0) aA))) (aB k8 hr (ag (dv 1) (ag (dv 2) aA))) (by rfl)))) (fun d=>(dv 0))) (aR (vq [none,some 3] ["way", "number"] (i:=5) nd rfl (by trivial) rfl (d8 (aB uI hr (ag (dv 1) (bx (aB rD hr (ag (dv 1) aA)) aA)))) (fun d=>(bI (i:=0) (show (["way", "number"]:List Str).Nodup by decide +kernel) rfl (by trivial))) (fun d=>(iM (bN (lI hu) (dv 0) (dv 1) (by rfl)))) (fun d=>(dv 0))) (aY (bu (aB Tx hr (ag (dv 1) (bc (aV aW (gJ (ag (dv 4) (ag (dv 5) aA))) (aB d_ hr (ag (dv 0) (a6 az aA))) (fun _ _=>rfl)) (ag (dv 2) aA))))))))),RM⟩
noncomputable abbrev IC:Stmt:=top 59
noncomputable abbrev ID (Z:Ev):Prop:=Fx Z 3 "_law_bent_list" ["pen", "some", "many"] 3 BH
theorem Tz (D:Dx Z "_law_bent_list" IC) (B:BT Z.mg) (d_:rB Z):ID Z:=bY (N:=["pen", "some", "many", "kind", "odd", "at", "ways"]) D jx fun hr nd hu=>⟨BI,(aR (bC (i:=3) nd rfl (by trivial) (aB d_ hr (ag (dv 0) (a6 az aA)))) (aR (bC (i:=4) nd rfl (by trivial) (aV aW (gJ (bx (aB d_ hr (ag (dv 0) (cI (ba cE (dv 2) az) aA))) (cI (ET az) (ag (dv 2) (cI (ba mK az az) aA))))) (aB d_ hr (ag (dv 0) (a6 az aA))) (fun _ _=>rfl))) (aR (bC (i:=5) nd rfl (by trivial) (aB d_ hr (ag (dv 0) (cI (ba cE (dQ g7 (by rfl) B.len VP (ag (dv 1) aA)) az) aA)))) (aR (cQ (bN (eZ hu) (dv 3) az (by rfl)) (aY (bu (fz [none,some 0] ["house", "pen"] rfl (lE (by rfl) B.range (ag (dv 2) aA)) (fun d=>(bI (i:=0) (show (["house", "pen"]:List Str).Nodup by decide +kernel) rfl (by trivial))) (fun d=>(iM (bN (eZ hu) (aB d_ hr (ag (dv 1) (a6 az aA))) az (by rfl)))) (fun d=>(dv 0))))) cS) (aR (cQ (bN pO (dv 3) az (by rfl)) (aY (bu (dv 1))) cS) (aR (bC (i:=6) nd rfl (by trivial) (gJ (cI (ba cE (kC (dv 1) lJ (jH (dv 5))) (kC (dv 1) (jH (ba cE (dv 5) az)) lJ)) (cI (ba cE (ba cE (kC (dv 1) lJ (jH (dv 5))) (kC (dv 1) (jH (dv 5)) (jH (ba cE (dv 5) az)))) (kC (dv 1) (jH (dv 5)) lJ)) (bc (OO (dv 1)) (bx (dQ zi (by rfl) B.sorted pW (cI (ba cE (dv 1) (gJ (ag (dv 4) aA))) aA)) aA)))))) (aR (bC (i:=6) nd rfl (by trivial) (ba cE (dv 6) (gJ (cI (fz [none,some 1] ["house", "some"] rfl (lE (by rfl) B.range (ag (dv 2) aA)) (fun d=>(bI (i:=0) (show (["house", "some"]:List Str).Nodup by decide +kernel) rfl (by trivial))) (fun d=>(iM (bN (qO hu) (dv 0) (dv 1) (by rfl)))) (fun d=>(dv 0))) (yM (gJ aA) (bx (tU rfl (by rfl) B.list nL (by rfl) B.range pV (ag (dv 2) aA)) aA)))))) (aY (bu (aV aW (dv 6) (dv 3) (fun _ _=>rfl))))))))))),RN⟩
noncomputable abbrev wM:Stmt:=top 38
theorem k9:l6 ["script", "cells", "k", "cell"] ["script"] (cM wM):=jw (by decide +kernel)
theorem TB {f:Addr} {fd:FuncData} (F:gE Z.K "_law_open" "_law_open" wM f fd) (h1:Z.mg "list" = none) (h2:Z.mg "enumerate" = none):cK Z.P Z.w Z.K Z.mg Z.base fL 1 f fd ["script"] (FJ Z.K):=by
 refine F.yA k9 (fun vs H Q E h => ?_) (fun a_ A outer s H vs Q E hr h => ?_)
 ·obtain⟨a,ns,rfl,_⟩:=h
  rfl
 ·obtain⟨a,ns,rfl,hS,hlen,fin⟩:=h
  have nd:=k9.nd
  refine⟨_,u7 (yp (i:=1) nd rfl (Or.inl rfl) (nK xH (by rfl) h1 PyProof.Rows.boot_list (oZ (yu fY (jv 0) Dh (uW cN.out)) bW)))
   (u7 (D8 Wc rfl (Nj (by rfl) h2 (oZ (yu fY (jv 0) (uW cN.out) (uW cN.out)) bW)) (D7 rfl (yn (ym (i:=2) nd rfl (Or.inl rfl)) (yn (ym (i:=3) nd rfl (Or.inl rfl)) iE)))
    (yk (qB (sV CW (D9 Dm (jv 1) (sV xp (jv 2) cN) (fun _ _=>rfl)) (jv 3)) (sU (jv 1) (sV xp (jv 2) cN) set_list))))
   (yk (D6 (yq (oZ (jv 1) (oZ cN (oZ cN bW))))))),?_⟩
  refine⟨_,rfl,_,rfl,a,_,rfl,hS,fun l1 n1=>⟨l1,_,rfl,.inl (bq.of bR),fun c nc => ?_⟩⟩
  have s1:aJ H (upd (upd H l1 (.lst (cL (ns.map V.int) none (some 12)))) c (.lst (cL (ns.map V.int) none (some 12)))):=(qX n1).trans (qX nc)
  refine⟨_,rfl,_,rfl,_,rfl,a,_,rfl,s1.seq hS,fun l2 n2=>⟨l2,rfl,⟨_,bq.of bR⟩,?_⟩⟩
  have TC:H c=none:=(qX n1).free nc
  have TF:=n2
  have hcc:∃ ms:List Int,ms.length=min 12 ns.length/\cL (ns.map V.int) none (some 12)=ms.map V.int:=by
   refine⟨_,?_,zY ns none (some 12)⟩
   rw[VM,XO]
   have e1:HT.a8 ns.length 0 none=0:=HT.De _ _
   have e2:HT.a8 ns.length ns.length (some 12)=min 12 ns.length:=HT.uV ns.length ns.length 12
   rw[e1,e2];omega
  have ly:(cL (ns.map V.int) (some 12) (some 63)).length=ns.length - 12:=by
   rw[zY,oV,VM,XO]
   have e1:HT.a8 ns.length 0 (some 12)=min 12 ns.length:=HT.uV ns.length 0 12
   have e2:HT.a8 ns.length ns.length (some 63)=min 63 ns.length:=HT.uV ns.length ns.length 63
   rw[e1,e2];omega
  have IE:∀ i x,(cL (ns.map V.int) (some 12) (some 63))[i]? = some x->∃ n:Int,x=V.int n:=fun i x e=>by
   rw[zY,LR] at e
   cases q:((ns.drop (HT.a8 ns.length 0 (some 12))).take (HT.a8 ns.length ns.length (some 63) - HT.a8 ns.length 0 (some 12)))[i]? with
   | none=>rw[q] at e;cases e
   | some n=>rw[q] at e;exact⟨n,(VE e).symm⟩
  generalize cL (ns.map V.int) (some 12) (some 63)=rest at ly IE n2 ⊢
  obtain⟨ms,TH,TJ⟩:=hcc
  refine Mo (K:=Z.K) (a:=l2) (xs:=rest) (fun i σ H2=>∃ (ks:List Int) (v1 v2:Option V),σ = [some (.ref a),some (.ref c),v1,v2]/\H2 c=some (.lst (ks.map V.int))/\ks.length=min 12 ns.length/\H2 l2=some (.lst rest)/\aJ H H2)
   ⟨ms,none,none,rfl,?_,TH,bR,?_⟩ (fun i σ H2 _ ⟨_,_,_,_,_,_,q,_⟩=>bq.of q) ?_ ?_
  ·rw[aX (cY bR n2),bR,TJ]
  ·exact s1.trans (qX n2)
  ·rintro i x T σ H2 hi ⟨ks,v1,v2,rfl,hc,hk,sF,sm⟩ hT
   obtain⟨n,rfl⟩:=IE i x hi
   have pK:i < rest.length:=(oW.mp hi).1
   have TK:ks.length=12:=by omega
   have cT:c≠T:=cY hc hT
   have gz:upd H2 T (.tup [.int i,.int n]) c=some (.lst (ks.map V.int)):=by rw[aX cT];exact hc
   have j0:0 <= ((i:Int)) % 12:=Ws _ (by decide)
   have j1:((i:Int)) % 12 < 12:=V8 _ (by decide)
   obtain⟨m,em⟩:=Ph (ns:=ks) j0 (by omega)
   have ix:iX (ks.map V.int).length ((i:Int) % 12)=some ((i:Int) % 12).toNat:=by
    unfold iX
    rw[UO j0,UO (by rw[oV];omega)]
   refine⟨T,_,rfl,bB.of bR,rfl,_,_,rfl,_,_,rfl,rfl,?_⟩
   refine⟨_,rfl,_,rfl,_,_,rfl,rfl,(show (0:Int) < 12 by decide),_,_,_,_,rfl,rfl,bq.of gz,em,_,rfl,_,_,rfl,rfl,_,rfl,_,rfl,_,_,rfl,rfl,(show (0:Int) < 12 by decide),_,_,_,_,rfl,rfl,gz,ix,?_⟩
   refine⟨ks.set ((i:Int) % 12).toNat (m + n),_,_,rfl,?_,by rw[WQ];exact hk,?_,?_⟩
   ·rw[bR,List.map_set]
   ·have TL:l2≠c:=by
     intro z
     subst z
     exact absurd TF (by rw[bR];intro y;cases y)
    rw[aX TL,aX (cY sF hT)];exact sF
   ·intro b o e
    rw[aX (cY e TC)]
    exact qX hT b o (sm b o e)
  ·rintro σ H2 ⟨ks,v1,v2,rfl,hc,hk,sF,sm⟩
   refine⟨_,rfl,(by show 3 <= sizeLine;decide),fun p np => ?_⟩
   have TM:H p=none:=sm.free np
   exact fin p c _ (sm.trans (qX np)) TM ⟨bR,⟨ks,by rw[aX (cY hc np)];exact hc,by omega⟩,Int.le_refl 0⟩
noncomputable abbrev rE:Stmt:=top 60
theorem TN {f ql:Addr} {fd nj:FuncData} (F:gE Z.K "law" "law" rE f fd) (B:BT Z.mg) (GO:Fn Z.P Z.w Z.K Z.mg Z.base 1 "_law_open" ["script"] (FJ Z.K) ql nj) (TQ:HZ Z) (TR:HP Z) (d_:rB Z) (B4:B2 Z) (uI:wK Z) (rD:wL Z) (k8:rC Z) (TU:ID Z) (TV:IB Z) (TX:HK Z) (TY:HV Z) (TZ:Iz Z):cK Z.P Z.w Z.K Z.mg Z.base fL 21 f fd ["script"] (v9 Z.K):=by
 have sc:l6 ["script", "pen", "turn", "web", "k", "one", "other", "road", "most", "numbers", "number", "houses", "handed", "found"] ["script"] (cM rE):=jw (by decide +kernel)
 refine F.yA (k:=20) sc (fun vs H Q E h => ?_) (fun a_ A outer s H vs Q E hr h => ?_)
 ·obtain⟨a,ns,rfl,_⟩:=h
  rfl
 obtain⟨a,ns,rfl,hS,hlen,hT,fin⟩:=h
 have nd:=sc.nd
 have hu:=hr.units
 have rest:dP (eB fL Z.P Z.w Z.K Z.mg Z.base ["script", "pen", "turn", "web", "k", "one", "other", "road", "most", "numbers", "number", "houses", "handed", "found"] "law" (cM rE) f a_ A outer s H E).jR ((fZ rE).drop 1) (dr BL):=(aR (ki Wc rfl (lE (by rfl) B.range (a6 az aA)) (bI (i:=2) nd rfl (by trivial)) (aR (bC (i:=3) nd rfl (by trivial) (aB TQ hr (bx (aB TR hr (ag (dv 1) aA)) (bc (aV aW (gJ (a6 az (a6 az (a6 az aA)))) (dv 2) (fun _ _=>rfl)) (a6 az aA))))) (aY (ki Wc rfl (lE (by rfl) B.range (cI (ba nP az (yO Rz (by rfl) B.int yE (cI (gZ pO (aV aW (dv 3) az (fun _ _=>rfl)) az (by rfl)) aA))) aA)) (bI (i:=4) nd rfl (by trivial)) (aR (bC (i:=5) nd rfl (by trivial) (aB d_ hr (ag (dv 1) (bc (aV aW (dv 3) az (fun _ _=>rfl)) aA)))) (aR (bC (i:=6) nd rfl (by trivial) (ba jd (ba cE (ba cE (dv 5) az) (aB d_ hr (ag (dv 1) (cI (ba jc (aV aW (dv 3) az (fun _ _=>rfl)) az) aA)))) (aV aW (dv 3) az (fun _ _=>rfl)))) (aR (bC (i:=7) nd rfl (by trivial) (aB B4 hr (ag (dv 3) (bx (aB uI hr (ag (dv 3) (bx (aB rD hr (ag (dv 3) aA)) aA))) (ag (dv 5) (ag (dv 6) aA)))))) (aR (bC (i:=8) nd rfl (by trivial) (vj (bN Fl (dv 7) pf (by rfl)) (aV aW (dQ (Ry hu rfl) (by rfl) B.max vP (cI (fz [none,some 3] ["way", "web"] rfl (d8 (dv 7)) (fun d=>(bI (i:=0) (show (["way", "web"]:List Str).Nodup by decide +kernel) rfl (by trivial))) (fun d=>ik) (fun d=>(j9 (bx (aB k8 hr (ag (dv 1) (ag (dv 0) aA))) (ag (dv 0) aA))))) aA)) az (fun _ _=>rfl)) az)) (aR (bC (i:=9) nd rfl (by trivial) (ba cE (gJ (ag (dv 8) (ag (dv 8) (bx (aB d_ hr (ag (dv 1) (cI (ba cE (dQ g7 (by rfl) B.len VP (bc (aV aW (dv 3) az (fun _ _=>rfl)) aA)) az) aA))) (cI (ET az) (cI (ba mK az az) aA)))))) (RF (dv 7) (j_ (gJ aA))))) (aR (bC (i:=10) nd rfl (by trivial) (aV aW (dv 9) (aB d_ hr (ag (dv 1) (bx (dQ g7 (by rfl) B.len VP (ag (dv 9) aA)) aA))) (fun _ _=>rfl))) (aR (bC (i:=11) nd rfl (by trivial) (aB TU hr (ag (dv 1) (bx (aB TV hr (ag (dv 1) (ag (dv 3) (ag (dv 5) (ag (dv 10) aA))))) (bc (aV aW (dv 3) az (fun _ _=>rfl)) aA))))) (aR (bC (i:=12) nd rfl (by trivial) (yO Oc (by rfl) B.list nL (ag (dv 11) aA))) (aR (bC (i:=13) nd rfl (by trivial) (aB TX hr (ag (dv 3) (ag (dv 5) (ag (dv 6) (ag (dv 10) (ag (dv 12) aA))))))) (aY (cQ (JW.jt (lA (iI (f9 (aB TY hr (ag (dv 13) (bx (aB TZ hr (ag (dv 3) (ag (dv 5) (ag (dv 6) (ag (dv 10) (ag (dv 11) aA)))))) aA))))) (pA (bN (lI hu) (dv 12) (dv 11) (by rfl))))) (aY (bu ig)) cS))))))))))))))) (aY (bu ig)))
 refine⟨_,u7 (yp (i:=1) nd rfl (by trivial) (yt GO.ok (hr.mono (by decide)) (by rfl) GO.yD GO.kp GO.bd .nil xS (pb (jv 0) bW))) rest,?_⟩
 refine⟨_,rfl,a,ns,rfl,hS,hlen,fun p c H1 sm hp N1 => ?_⟩
 obtain⟨F',ms,hm,S⟩:=Pj (a:=a) (n:=12) (aM.same hT sm) N1
 exact Pk S (RQ ms hm) fin
end
noncomputable def df:List kG:=[⟨154,⟨69,25,69,63⟩,(("greatest_of" : Str) ++ ".<locals>.") ++ "<lambda>"⟩,⟨121,⟨44,40,44,76⟩,(("order_of" : Str) ++ ".<locals>.") ++ "<lambda>"⟩,⟨147,⟨67,25,67,63⟩,(("least_of" : Str) ++ ".<locals>.") ++ "<lambda>"⟩]
noncomputable def B5:List (Str × Stmt × Addr):=[("greatest_of",Hr,154),("order_of",Hi,121),("least_of",Ho,147)]
noncomputable abbrev dp (x:Str) (s:Stmt):Str × Stmt:=(x,s)
noncomputable def IF:List (Str × Stmt):=[dp "is_whole" G5,dp "is_within" G7,dp "is_tuple_of" G8,dp "are_ends" G9,dp "is_way" Ha,dp "are_ways" Hc,dp "is_web" He,dp "need_web" Hg,dp "rank_of" Hh,dp "joined" Hk,dp "firsts_of" Hl,dp "is_rising" Hm,dp "leads_out" Ht,dp "ways_out" Hv,dp "lot_at" Hx,dp "parts" Hz,dp "road_of" HB,dp "forest_of" HD,dp "need_two" HF,dp "greatest_between" HH,dp "is_narrow" HJ,dp "_law_spread" HL,dp "_law_open" wM,dp "_law_anew" HN,dp "_law_take" HQ,dp "_law_is_whole" HR,dp "_law_same" HU,dp "_law_pairs_of" HW,dp "_law_web" HY,dp "_law_key" H_,dp "_law_order" Ia,dp "_law_marks_by" Ic,dp "_law_lot_at" Ig,dp "_law_leads_out" Ii,dp "_law_outs" Ik,dp "_law_forest" Im,dp "_law_is_in" Io,dp "_law_road" Ip,dp "_law_rises" Iq,dp "_law_cut_right" Iu,dp "_law_all" Iw,dp "_law_due" Iy,dp "_law_houses_of" IA,dp "_law_bent_list" IC,dp "law" rE]
theorem T1 {l:PySem.W.OpenLaw} {w:World} {K:PySem.W.Frag} {h:Heap} {mg:Str->Option Value} {fa:Addr} (X:K.In h) (G:h.Ns mainGlobals mg) (T2:mg "law" = some (.ref fa)) (DS:gn K IF) (LS:dZ K B5) (N:∀ x∈BS,PySem.W.nsIn K mainGlobals x=some none) (gq:Ck K "MOST_HOUSES" 12) (iA:Ck K "MOST_WAYS" 30) (gQ:Ck K "MOST_PRICE" 1000000000)
  : ∃ fd:FuncData,(∀ (s:Shared) (v:Value),BindsTo s fd ⟨[v],[]⟩ [("script",v)])/\∀ base:Heap,K.In base->base.Ns mainGlobals mg->(∀ t∈df,base.BuiltinsAt mg t.T)->cK l.prog w K mg base fL 21 fa fd ["script"] (@v9 (mV df) K):=by
 obtain⟨f,fd,a,F⟩:=DS.at (x := "law") (st:=rE) 44 rfl
 cases T2.symm.trans (YV X G a)
 letI:aM:=mV df
 have B:=R0 X G N
 refine⟨fd,fun s v=>by obtain⟨_,_,_,_,_,_,_,_,_,rfl,_⟩:=F.ex;exact .of_eq rfl,fun base KB _ hB => ?_⟩
 have D:∀ (i:Nat) {x:Str} {st:Stmt},IF[i]? = some (x,st)->Dx ⟨l.prog,w,K,mg,base⟩ x st:=fun i _ _ e=>(DS.at i e).v X G
 have M:∀ (i:Nat) {x:Str} {st:Stmt} {T:Addr} {lp:Pos} {q:Str},B5[i]? = some (x,st,T)->df[i]? = some ⟨T,lp,q⟩->rq ⟨l.prog,w,K,mg,base⟩ x st T lp q:=fun i _ _ _ _ _ e e2=>(LS.at i e).v X G KB hB (by decide) (by decide) (VA e2)
 have T3:=R1 (D 0 rfl) B
 have uJ:=R3 (D 1 rfl) B T3
 have IG:=R5 (D 2 rfl) B
 have T4:=R6 (D 3 rfl) B uJ
 have T5:=R7 (D 4 rfl) B (gQ.v X G) IG T4 uJ
 have T6:=R_ (D 5 rfl) B (iA.v X G) T5
 have T7:=Sd (D 6 rfl) B (gq.v X G) IG uJ T6
 have IH:=Sg (D 7 rfl) B T7
 have B6:=Si (D 8 rfl) B
 have T8:=Sj (M 1 rfl rfl) B IH B6
 have II:=Sk (D 9 rfl) B
 have B7:=Sl (D 10 rfl) B II
 have T9:=Sm (D 11 rfl) B uJ
 have T_:=Sn (M 2 rfl rfl) B B6
 have Ua:=So (M 0 rfl rfl) B B6
 have Ub:=Sq (D 12 rfl) B
 have Uc:=Sr (D 13 rfl) B Ub
 have Ud:=Su (D 14 rfl) B B7
 have Ue:=Sv (D 15 rfl) B B7
 have Ug:=Sw (D 16 rfl) B Ue
 have Uh:=Sy (D 17 rfl) B T8 B7 II
 have Ui:=SA (D 18 rfl) B IH uJ
 have Uj:=SD (D 19 rfl) B Ud Ua Ug
 have Uk:=SH (D 20 rfl) B Ui T9 Uj Uh T_ Uc
 have Ul:=SQ (D 21 rfl) B
 have Um:=SS (D 23 rfl) B
 have uK:=SU (D 24 rfl) B Ul
 have Uo:=SW (D 25 rfl) B
 have Uq:=SX (D 26 rfl) B
 have Ur:=SY (D 27 rfl) B uK
 have Us:=S7 (D 28 rfl) B uK Ur
 have uL:=S9 (D 29 rfl) B
 have Ut:=S_ (D 30 rfl) B uL
 have Uu:=Ta (D 31 rfl) B
 have Uv:=Tb (D 32 rfl) B Uu
 have Uw:=Td (D 33 rfl) B
 have Ux:=Te (D 34 rfl) B Uw uL
 have B8:=Tg (D 35 rfl) B Ut
 have IJ:=Ti (D 36 rfl) B Uo
 have IK:=Tn (D 37 rfl) B
 have Uy:=To (D 38 rfl) B IJ
 have Uz:=Tp (D 39 rfl) B Uy Ux
 have B9:=Tt (D 40 rfl) B
 have UA:=Tu (D 41 rfl) B IK B8 B9 uL Uz
 have UB:=Tw (D 42 rfl) B IJ B9 uL B8 Uv uK
 have UC:=Tz (D 43 rfl) B uK
 obtain⟨fo,Vo,ao,Fo⟩:=D 22 (x := "_law_open") (st:=wM) rfl
 exact TN (Z:=⟨l.prog,w,K,mg,base⟩) F B ⟨TB Fo B.list B.enumerate,ao,Fo.kp,Fo.binds kY⟩ Us Um uK IK B8 B9 uL UC UB Uk Uq UA
theorem UD {K:PySem.W.Frag} {h:Heap} (X:K.In h) (LS:dZ K B5):∀ t∈df,∃ cc,PySem.W.CodeHd h cc t.T:=fun t ht=>LS.code X t.T (show t.T∈df.map (·.T) from Wb ht)
end LJ
open PySem PySem.W PyProof.Rows
theorem PySem.W.Fast.tw4372047586422910134:True:=trivial
theorem PySem.W.Fast.tw10014205899501666478:True:=trivial
theorem PySem.W.Fast.tw8890518975089906915:True:=trivial
theorem PySem.W.Fast.tw17618961202568435027:True:=trivial
theorem PySem.W.Fast.tw12102061643295991153:True:=trivial
theorem PySem.W.Fast.tw7697846150263575594:True:=trivial
theorem PySem.W.Fast.tw6379422977904447346:True:=trivial
theorem PySem.W.Fast.tw1408552963624858325:True:=trivial
theorem PySem.W.Fast.tw8511697210741765102:True:=trivial
theorem PySem.W.Fast.tw2307275815625957160:True:=trivial
theorem PySem.W.Fast.tw13989435828748511535:True:=trivial
theorem PySem.W.Fast.tw9886867026815081834:True:=trivial
theorem PySem.W.Fast.tw244122721804774109:True:=trivial
theorem PySem.W.Fast.tw6382735670292318697:True:=trivial
theorem PySem.W.Fast.tw7895294775856449460:True:=trivial
theorem PySem.W.Fast.tw14006619783073085019:True:=trivial
set_option maxRecDepth 100000 in
set_option maxHeartbeats 0 in
theorem PySem.Challenge.cw_lotjoin_k71_which_are_narrow_holds : PySem.Challenge.rw_lotjoin_k71_which_are_narrow.Holds := by
 w_on;o_law;k_head; (case hw=>w_witness2)
 k_fill
 refine LJ.Ql (l:=PySem.Challenge.rw_lotjoin_k71_which_are_narrow) (kk:=21) LJ.df rfl rfl rfl ⟨rfl,by decide,by decide⟩ ?C (fun P=>by kernel_rfl) ?F
 case C =>
  intro w h KX
  refine LJ.UD KX ?_
  repeat' first | exact LJ.dZ.nil | refine LJ.uF (by k_is) (by k_is) (by k_is) (by k_is) (by kernel_rfl) ?_
 case F =>
  intro w mg fa h KX G ml
  refine LJ.T1 KX G ml ?dD ?dL ?dN ⟨_,by k_is,_,rfl⟩ ⟨_,by k_is,_,rfl⟩ ⟨_,by k_is,_,rfl⟩
  (case dD=>repeat' first | exact LJ.gn.nil | refine LJ.BR (by k_is) (by k_is) (by k_is) (by k_is) ?_)
  (case dL=>repeat' first | exact LJ.dZ.nil | refine LJ.uF (by k_is) (by k_is) (by k_is) (by k_is) (by kernel_rfl) ?_)
  (case dN=>repeat' first | exact List.forall_mem_nil _ | refine LJ.RY (by k_is) ?_)
