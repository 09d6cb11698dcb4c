import PyProof.Rows.All
import Wide.All
import OpenK.AllK
import Wide.FinOn
import Lean
import PyProof.Rows.SetFrom
import PyProof.TupleKey
import PyProof.SetRoads
import PySem.SetOps
import PyProof.EqAt
import PyProof.EqKinds
import PyProof.TupleCall
import KE.KDictList
import KE.KDictLaws
import PyProof.NeKinds
import PyProof.Draws
import KE.KSortTup
import KE.KLam
import PyProof.ListRange
import PyProof.TupleOfSeq
import KE.KNestM
import KE.KMinKey
import PyProof.MinMaxWalk
import PyProof.Conv_int_bool
import PySem.Challenge.RW_lotjoin_k74_whole_narrow_and_next
set_option Elab.async false
set_option linter.all false
set_option maxRecDepth 100000
local macro_rules | `(tactic| trivial) => `(tactic| first | exact Or.inl rfl | exact Or.inr rfl)
abbrev lO:=@List.getElem?_eq_getElem
abbrev oQ:=@PySem.wpAny_bind
abbrev oR:=@List.getElem?_eq_some_iff
abbrev oS:=@List.length_map
abbrev qx:=@Nat.le_refl
abbrev sC:=@PySem.Heap.get?_push_of_some
abbrev vo:=@List.getD_eq_getElem?_getD
abbrev vp:=@List.size_toArray
abbrev yE:=@List.mem_cons_self
abbrev D5:=@PySem.wpAny_pure
abbrev D6:=@List.length_append
abbrev D7:=@List.length_cons
abbrev D8:=@List.getElem?_map
abbrev Mp:=@List.mem_cons_of_mem
abbrev Mq:=@List.mem_append_right
abbrev Mr:=@decide_eq_true
abbrev Ms:=@Array.length_toList
abbrev Mt:=@List.mem_map
abbrev My:=@PySem.Heap.lt_size
abbrev VD:=@List.mem_iff_getElem?
abbrev VE:=@List.mem_cons
abbrev VF:=@decide_eq_false
abbrev VG:=@if_neg
abbrev VH:=@PySem.Heap.get?_push_size
abbrev VI:=@Option.map_eq_some_iff
abbrev Wd:=@List.getElem?_append_left
abbrev We:=@if_pos
abbrev Wf:=@Bool.false_ne_true
abbrev Wg:=@List.getElem?_append_right
abbrev Wh:=@Array.getElem?_eq_getElem
abbrev Wi:=@Nat.ne_of_lt
abbrev Wj:=@Int.toNat_natCast
abbrev Wk:=@Nat.lt_of_lt_of_le
abbrev Wl:=@List.mem_range
abbrev Wm:=@List.mem_filter
abbrev Wn:=@Bool.false_eq_true
abbrev Wo:=@List.map_map
abbrev Wq:=@Array.getElem?_toList
abbrev Wr:=@List.map_cons
abbrev Ws:=@List.mem_of_getElem?
abbrev Wt:=@List.length_singleton
abbrev Wu:=@List.length_take
abbrev Wv:=@List.lookup_cons
abbrev Ww:=@decide_eq_true_eq
abbrev Wx:=@Option.some.inj
abbrev Wz:=@List.map_append
abbrev WB:=@List.mem_singleton
abbrev WC:=@List.mem_iff_getElem
abbrev WD:=@List.mem_append
abbrev WH:=@Bool.and_eq_true
abbrev WJ:=@List.mem_append_left
abbrev WK:=@PySem.wpAny_holding
abbrev WL:=@PySem.Heap.SameBut.update
abbrev WM:=@List.take_of_length_le
abbrev WN:=@Nat.zero_add
abbrev WQ:=@Classical.byContradiction
abbrev WR:=@List.map_congr_left
abbrev WU:=@List.getElem?_take_of_lt
abbrev WV:=@List.all_eq_true
abbrev WW:=@List.set_cons_zero
abbrev WX:=@List.set_cons_succ
abbrev WY:=@PySem.boot_len
abbrev WZ:=@List.getElem?_eq_none
abbrev W0:=@List.getElem?_range
abbrev W5:=@List.not_mem_nil
abbrev W6:=@Nat.zero_le
abbrev W7:=@Nat.sub_self
abbrev W8:=@Int.emod_lt_of_pos
abbrev W9:=@List.pairwise_cons
abbrev W_:=@Array.getD_eq_getD_getElem?
abbrev Xa:=@PyProof.Rows.slot_tuple_getitem
abbrev Xb:=@List.getElem_map
abbrev Xc:=@PySem.F.plainAttrs_list
abbrev Xd:=@List.length_range
abbrev Xe:=@List.pairwise_map
abbrev Xf:=@List.getElem?_set_ne
abbrev Xg:=@Nat.le_trans
abbrev Xh:=@List.getElem?_set_self
abbrev Xi:=@PySem.wpAny_loadPart'
abbrev Xj:=@PySem.PassesOwn.never
abbrev Xk:=@Nat.lt_irrefl
abbrev Xl:=@List.getElem_mem
abbrev Xm:=@PySem.mem_of_lookup
abbrev Xn:=@List.replicate_succ
abbrev Xo:=@Nat.lt_succ_of_lt
abbrev Xp:=@List.nodup_append
abbrev Xq:=@Array.getElem?_eq_some_iff
abbrev Xr:=@if_false
abbrev Xs:=@PySem.Around.under_plainId
abbrev Xt:=@Int.emod_nonneg
abbrev Xu:=@PySem.W.kia_one
abbrev Xv:=@Nat.lt_succ_self
abbrev Xw:=@List.length_drop
abbrev Xx:=@List.pairwise_lt_range
abbrev Xy:=@List.exists_cons_of_length_eq_add_one
abbrev Xz:=@PySem.F.plain_min_loop
abbrev XA:=@List.drop_eq_getElem_cons
abbrev XB:=@PySem.wpAny_truthy_bool
abbrev XC:=@of_decide_eq_true
abbrev XD:=@LawfulBEq.eq_of_beq
abbrev XE:=@List.nodup_cons
abbrev XF:=@List.length_nil
abbrev XG:=@List.filter_map
abbrev XH:=@List.length_eq_zero_iff
abbrev XI:=@PyProof.Rows.callWith_type1
abbrev XJ:=@Array.toList_setIfInBounds
abbrev XM:=@Nat.le_of_lt
abbrev XN:=@PySem.wpAny_newObj_type
abbrev XO:=@List.flatten_cons
abbrev XQ:=@PySem.wpAny_pyIter_list
abbrev XR:=@List.length_set
abbrev XS:=@PySem.codeAny_builtin
abbrev XT:=@List.countP_cons
abbrev XU:=@List.getElem_inj
abbrev XW:=@PySem.wpAny_mono
abbrev XX:=@PySem.plainId_quiet
abbrev XY:=@PySem.sizeLine_eq
abbrev XZ:=@List.take_succ
abbrev X0:=@PySem.wpAny_pyIter_enum
abbrev X1:=@Bool.not_eq_true'
abbrev X7:=@List.getElem?_cons_succ
abbrev X8:=@Nat.succ.inj
abbrev X9:=@List.mem_filterMap
abbrev X_:=@PySem.wpAny_seqItems
abbrev Ya:=@PySem.wpAny_Call_Name_kw
abbrev Yb:=@PySem.Heap.size_push
abbrev Yc:=@PySem.Around.in1_handled
abbrev Yd:=@PySem.F.slot_tuple_iterator_next
abbrev Ye:=@List.getElem?_toArray
abbrev Yf:=@List.pairwise_iff_getElem
abbrev Yg:=@List.ext_getElem?
abbrev Yh:=@List.append_assoc
abbrev Yi:=@Ne.symm
abbrev Yj:=@List.map_nil
abbrev Yk:=@PySem.wpAny_setState_of
abbrev Yl:=@Bool.not_true
abbrev Ym:=@PySem.wpAny_standAt
abbrev Yn:=@List.any_cons
abbrev Yo:=@List.sum_cons
abbrev Yp:=@PySem.F.slot_list_append
abbrev Yq:=@PySem.F.type_list_append
abbrev Yr:=@List.filter_sublist
abbrev Ys:=@List.mem_map_of_mem
abbrev Yt:=@PySem.wpAny_callSpecial?_slot
abbrev Yu:=@PySem.wpAny_tryCatch
abbrev Yv:=@List.map_id
abbrev Yw:=@PySem.wpAny_letGo
abbrev Yx:=@Array.toList_filterMap
abbrev Yy:=@if_true
abbrev Yz:=@List.zip_cons_cons
abbrev YA:=@List.filter_append
abbrev YB:=@PySem.F.called_set
abbrev YC:=@List.append_nil
abbrev YD:=@List.find?_cons
abbrev YE:=@Array.getElem?_setIfInBounds
abbrev YF:=@PySem.wpAny_updateSeq
abbrev YG:=@PySem.Heap.get?_update_self
abbrev YH:=@Nat.le_of_lt_succ
abbrev YI:=@List.any_eq_false
abbrev YJ:=@PySem.Walks.list
abbrev YK:=@List.nodup_nil
abbrev YL:=@List.perm_ext_iff_of_nodup
abbrev YM:=@PySem.wpAny_forIn_list
abbrev YN:=@Nat.ne_of_gt
abbrev YO:=@List.mem_of_find?_eq_some
abbrev YQ:=@List.filterMap_cons
abbrev YR:=@List.map_eq_nil_iff
abbrev YS:=@List.eq_of_mem_replicate
abbrev YT:=@Option.isSome_iff_exists
abbrev YU:=@PySem.F.args_tuple_add_2
abbrev YV:=@PySem.PlainL.isList
abbrev YW:=@List.find?_some
abbrev YX:=@PySem.wpAny_passesOwn
abbrev YY:=@PyProof.Rows.get?_update_seq
abbrev YZ:=@List.find?_eq_none
abbrev Y0:=@Nat.lt_of_le_of_lt
abbrev Y1:=@Array.forIn_toList
abbrev Y2:=@PySem.wpAny_pyIter_tuple
abbrev Y3:=@decide_eq_true_iff
abbrev Y4:=@List.getElem?_replicate
abbrev Y5:=@PySem.F.entry_tuple_add
abbrev Y6:=@PySem.wpAny_field
abbrev Y7:=@PyProof.Rows.F.plain_set_update_loop
abbrev Y8:=@List.getElem?_cons_zero
abbrev Y9:=@decide_eq_false_iff_not
abbrev Y_:=@Array.toList_replicate
abbrev Za:=@Array.toList_push
abbrev Zb:=@List.drop_zero
abbrev Zc:=@PySem.W.cellsFrom_some
abbrev Zd:=@List.zip_nil_left
abbrev Ze:=@PySem.F.slot_tuple_add
abbrev Zf:=@List.take_zero
abbrev Zg:=@List.findIdx_lt_length_of_exists
abbrev Zh:=@PySem.F.entry_min_loop
abbrev Zi:=@List.length_filterMap_eq_countP
abbrev Zj:=@List.length_replicate
abbrev Zk:=@List.nodup_range
abbrev Zl:=@PySem.wpAny_call_entry
abbrev Zm:=@Option.getD_none
abbrev Zn:=@Bool.true_and
abbrev Zo:=@Array.mem_toList_iff
abbrev Zp:=@or_false
abbrev Zq:=@List.reverse_reverse
abbrev Zr:=@List.range_succ
abbrev Zs:=@List.foldl_cons
abbrev Zt:=@PySem.SeqAt.EqAt.same
abbrev Zu:=@PySem.F.slot_dict_setdefault
abbrev Zv:=@PySem.F.args_tuple_iterator_next_1
abbrev Zw:=@Nat.succ_pos
abbrev Zx:=@Nat.lt_trans
abbrev Zy:=@PySem.codeAny_mono
abbrev ZA:=@PySem.SeqAt.EqAt.int_str
abbrev ZC:=@PySem.SeqAt.EqAt.str_int
abbrev ZE:=@PySem.SeqAt.EqAt.int_int
abbrev ZF:=@List.zip_nil_right
abbrev ZG:=@PySem.call_meets
abbrev ZI:=@Array.perm_iff_toList_perm
abbrev ZJ:=@List.mem_or_eq_of_mem_set
abbrev ZK:=@List.extract_eq_take_drop
abbrev ZL:=@List.getElem_take
abbrev ZM:=@List.take_sublist
abbrev ZN:=@Nat.le_succ
abbrev ZO:=@List.foldl_append
abbrev ZP:=@Array.getElem_mem_toList
abbrev ZQ:=@Array.size_setIfInBounds
abbrev ZS:=@List.all_cons
abbrev ZT:=@PySem.F.slot_dict_values
abbrev ZU:=@PyProof.Rows.listUpdate_at
abbrev ZV:=@PySem.wpAny_newList
abbrev ZW:=@PySem.W.mg_of
abbrev ZX:=@Nat.le_of_not_lt
abbrev ZY:=@PySem.noFill_tuple_add
abbrev ZZ:=@Nat.succ_ne_self
abbrev Z0:=@List.any_eq_true
abbrev Z2:=@List.take_length
abbrev Z3:=@List.filter_cons_of_pos
abbrev Z4:=@List.filter_cons_of_neg
abbrev Z5:=@List.filter_cons
abbrev Z6:=@PySem.F.plainAttrs_dict
abbrev Z7:=@PySem.F.slot_list_index
abbrev Z8:=@PySem.F.type_list_index
abbrev Z9:=@Array.getElem?_eq_none
abbrev Z_:=@Nat.sub_zero
abbrev q0b:=@PySem.wpAny_typeOf
abbrev q0g:=@PySem.wpAny_rule
abbrev q0n:=@Option.map_some
abbrev q0o:=@Array.size_push
abbrev q0q:=@List.of_mem_zip
abbrev q0x:=@List.Perm.refl
abbrev q0y:=@Bool.false_and
abbrev q0z:=@Array.size_map
abbrev q0A:=@Bool.not_false
theorem el7 {α β γ ε : Type} {A B C : α → β → γ → ε → Prop} {R : Prop} (h : ∃ F ad δ K, A F ad δ K ∧ B F ad δ K ∧ C F ad δ K) (k : ∀ F ad δ K, A F ad δ K → B F ad δ K → C F ad δ K → R) : R := h.elim fun F h => h.elim fun a h => h.elim fun d h => h.elim fun K h => k F a d K h.1 h.2.1 h.2.2
theorem el5 {α β : Type} {A B C : α → β → Prop} {R : Prop} (h : ∃ F ad, A F ad ∧ B F ad ∧ C F ad) (k : ∀ F ad, A F ad → B F ad → C F ad → R) : R := h.elim fun F h => h.elim fun a h => k F a h.1 h.2.1 h.2.2
theorem el3 {α : Type} {A B : α → Prop} {R : Prop} (h : ∃ F, A F ∧ B F) (k : ∀ F, A F → B F → R) : R := h.elim fun F h => k F h.1 h.2
set_option compiler.extract_closed false
local macro_rules | `(tactic| omega) => `(tactic| first | lia | omega (config := {}))
namespace LJS
open PySem PySem.SetTable
noncomputable def nx (m i:Nat):Nat:=(i * 5 + 1) % (m + 1)
noncomputable def ly (m:Nat):Nat->Nat->Nat
 | 0,i=>i
 | n + 1,i=>ly m n (nx m i)
theorem u_ (m:Nat):∀ a b i,ly m (a + b) i=ly m b (ly m a i)
 | 0,b,i=>by rw[WN];rfl
 | a + 1,b,i=>by rw[Nat.succ_add];exact u_ m a b (nx m i)
noncomputable def xF (m:Nat):Nat->Nat->List Nat
 | 0,_=>[]
 | n + 1,i=>i :: xF m n (nx m i)
theorem CN (m:Nat):∀ {n i e:Nat},e∈xF m n i->∃ k,k < n/\ly m k i=e
 | 0,_,_,h=>nomatch h
 | n + 1,i,e,h=>by
  rcases VE.mp h with rfl | h
  ·exact⟨0,Zw _,rfl⟩
  ·obtain⟨k,hk,e⟩:=CN m h
   exact⟨k + 1,Nat.succ_lt_succ hk,e⟩
noncomputable def Mk (m:Nat):Prop:=m=7\/m=31\/m=127
noncomputable def rL (m:Nat):Bool:=(List.range (m + 1)).all fun e=>(xF m (m + 1) 0).contains e
theorem CO {m:Nat} (h:Mk m):rL m=true/\ly m (m + 1) 0=0:=by
 rcases h with rfl | rfl | rfl<;>exact⟨by decide +kernel,by decide +kernel⟩
theorem mK {m:Nat} (h:Mk m) {e:Nat} (he:e <= m):∃ k,k <= m/\ly m k 0=e:=by
 have:=WV.mp (CO h).1 e (Wl.mpr (Nat.lt_succ_of_le he))
 obtain⟨k,hk,q⟩:=CN m (List.contains_iff_mem.mp this)
 exact⟨k,YH hk,q⟩
theorem JD {m:Nat} (h:Mk m) {i e:Nat} (hi:i <= m) (he:e <= m):∃ n,n <= m/\ly m n i=e:=by
 obtain⟨a,ha,rfl⟩:=mK h hi
 obtain⟨b,hb,rfl⟩:=mK h he
 by_cases Vy:a <= b
 ·refine⟨b - a,by omega,?_⟩
  rw[<-u_];congr 1;omega
 ·refine⟨m + 1 - a + b,by omega,?_⟩
  rw[<-u_,show a + (m + 1 - a + b)=(m + 1) + b by omega,u_,(CO h).2]
noncomputable def lp (m:Nat):Nat->Nat->Nat->Nat × Nat
 | 0,i,p=>(i,p)
 | n + 1,i,p=>lp m n (leap m i p).1 (leap m i p).2
theorem xG (m:Nat):∀ a b i p,lp m (a + b) i p=lp m b (lp m a i p).1 (lp m a i p).2
 | 0,b,i,p=>by rw[WN];rfl
 | a + 1,b,i,p=>by rw[Nat.succ_add];exact xG m a b _ _
theorem CP (m:Nat):∀ n i,lp m n i 0=(ly m n i,0)
 | 0,i=>rfl
 | n + 1,i=>by
  show lp m n (leap m i 0).1 (leap m i 0).2=_
  have e:leap m i 0=(nx m i,0):=by unfold leap nx;simp
  rw[e];exact CP m n _
theorem CQ (m i p:Nat):(leap m i p).1 <= m:=YH (Nat.mod_lt _ (Zw _))
theorem CS (m:Nat):∀ n i p,(lp m n i p).2=p / 32 ^ n
 | 0,i,p=>by simp[lp]
 | n + 1,i,p=>by
  show (lp m n (leap m i p).1 (leap m i p).2).2=_
  rw[CS m n]
  show p / 32 / 32 ^ n=_
  rw[Nat.div_div_eq_div_mul,Nat.pow_succ,Nat.mul_comm]
theorem reach {m:Nat} (h:Mk m) {i p e:Nat} (hp:p < 2 ^ 64) (he:e <= m):∃ n,n <= 13 + m/\(lp m n i p).1=e:=by
 have z:(lp m 13 i p).2=0:=by
  rw[CS]
  exact Nat.div_eq_of_lt (Zx hp (by decide))
 have q:(lp m 13 i p).1 <= m:=by
  rw[xG m 12 1];exact CQ _ _ _
 obtain⟨n,hn,en⟩:=JD h q he
 refine⟨13 + n,by omega,?_⟩
 rw[xG,z,CP];exact en
theorem CT (j:Nat):has #[] j=false:=by unfold has;simp
theorem rM {t:SetTable} (hd:t.dummies = #[]) (j:Nat):t.slot j = .empty\/∃ i,t.slot j = .live i/\i < t.place.size/\j∈t.place.toList:=by
 unfold slot
 rw[hd,CT]
 dsimp only
 by_cases c:(t.place[below t.place j]? == some j)=true
 ·right
  rw[We c]
  have e:=XD c
  obtain⟨hl,ev⟩:=Xq.mp e
  exact⟨_,rfl,hl,by rw[<-ev];exact ZP hl⟩
 ·left
  rw[VG c];rfl
theorem JH {t:SetTable} (hd:t.dummies = #[]) {j:Nat} (hj:j∉t.place.toList):t.slot j = .empty:=by
 rcases rM hd j with h | ⟨_,_,_,h⟩
 ·exact h
 ·exact absurd h hj
theorem CU:∀ {l l':List Nat},l.Nodup->(∀ x∈l,x∈l')->l.length <= l'.length
 | [],_,_,_=>W6 _
 | a :: l,l',hn,hs=>by
  have ha:a∈l':=hs a (yE ..)
  have iC:=XE.mp hn
  have ih:=CU (l:=l) (l':=l'.erase a) iC.2 fun x hx=>(List.mem_erase_of_ne (fun z=>iC.1 (by rw[<-z];exact hx))).mpr (hs x (Mp _ hx))
  rw[List.length_erase_of_mem ha] at ih
  have:=List.length_pos_of_mem ha
  rw[D7];omega
theorem JJ {l:List Nat} {m:Nat} (h:l.length <= m):∃ e,e <= m/\e∉l:=by
 refine WQ fun no => ?_
 have all:∀ e,e∈List.range (m + 1)->e∈l:=fun e he=>WQ fun z=>no ⟨e,YH (Wl.mp he),z⟩
 have:(List.range (m + 1)).length <= l.length:=CU Zk all
 rw[Xd] at this
 omega
noncomputable def stateOf (t:SetTable) (i p:Nat):Probe:=⟨i,runEnd t.mask i - i,i,p,none⟩
theorem CV (m i:Nat):runEnd m i - i <= 9:=by unfold runEnd;split<;>omega
section
variable {t:SetTable} {f:Nat->Int} {h:Int}
theorem nW (F:Nat) (p:Probe):probe.go t f h (F + 1) p=(match t.slot p.j with
  | .empty=>some (.empty p.j p.dummy)
  | .dummy=>probe.go t f h F (t.advance { p with dummy:=some p.j })
  | .live i=>if f i == h then some (.candidate p.j i (t.advance p)) else probe.go t f h F (t.advance p)):=rfl
theorem CW (hd:t.dummies = #[]) (hf:∀ i,i < t.place.size->f i≠h):∀ (k F:Nat) (p:Probe),p.more=k->p.dummy=none →
  (∃ j,probe.go t f h (F + k + 1) p=some (.empty j none))\/probe.go t f h (F + k + 1) p=probe.go t f h F (stateOf t (leap t.mask p.i p.perturb).1 (leap t.mask p.i p.perturb).2)
 | 0,F,p,hm,rN=>by
  show (∃ j,probe.go t f h (F + 1) p=_)\/probe.go t f h (F + 1) p=_
  rw[nW]
  rcases rM hd p.j with e | ⟨i,e,hi,_⟩
  ·left;rw[e];exact⟨p.j,by rw[rN]⟩
  ·right
   rw[e]
   show (if (f i == h)=true then _ else _)=_
   rw[VG (by intro z;exact hf i hi (XD z))]
   unfold advance
   rw[hm,VG (by omega),rN]
   rfl
 | k + 1,F,p,hm,rN=>by
  have ih:=CW hd hf k F { p with j:=p.j + 1,more:=p.more - 1 } (by show p.more - 1=k;omega) rN
  rw[show F + (k + 1) + 1=(F + k + 1) + 1 by omega,nW]
  rcases rM hd p.j with e | ⟨i,e,hi,_⟩
  ·left;rw[e];exact⟨p.j,by rw[rN]⟩
  ·rw[e]
   show (∃ j,(if (f i == h)=true then _ else _)=_)\/(if (f i == h)=true then _ else _)=_
   rw[VG (by intro z;exact hf i hi (XD z))]
   have ea:t.advance p={ p with j:=p.j + 1,more:=p.more - 1 }:=by unfold advance;rw[We (by omega)]
   rw[ea]
   exact ih
theorem CY (hd:t.dummies = #[]) (hf:∀ i,i < t.place.size->f i≠h):∀ (n F i p:Nat),10 * (n + 1) <= F->t.slot (lp t.mask n i p).1 = .empty->∃ j,probe.go t f h F (stateOf t i p)=some (.empty j none)
 | 0,F,i,p,hF,hs=>by
  obtain⟨G,rfl⟩:∃ G,F=G + 1:=⟨F - 1,by omega⟩
  rw[nW]
  have e:t.slot (stateOf t i p).j = .empty:=hs
  rw[e]
  exact⟨i,rfl⟩
 | n + 1,F,i,p,hF,hs=>by
  have hr:=CV t.mask i
  obtain⟨G,hG⟩:∃ G,F=G + (runEnd t.mask i - i) + 1:=⟨F - (runEnd t.mask i - i) - 1,by omega⟩
  have:=CW (f:=f) (h:=h) hd hf (runEnd t.mask i - i) G (stateOf t i p) rfl rfl
  rw[<-hG] at this
  rcases this with h1 | h1
  ·exact h1
  ·rw[h1]
   exact CY hd hf n G _ _ (by omega) hs
theorem xH (h:Int):bits h < 2 ^ 64:=by
 unfold bits
 have:=W8 h (show (0:Int) < 2 ^ 64 by decide)
 have:=Xt h (show (2 ^ 64:Int)≠0 by decide)
 omega
theorem JK (hd:t.dummies = #[]) (hm:Mk t.mask) (hz:t.place.size <= t.mask) (hf:∀ i,i < t.place.size->f i≠h):∃ j,t.probe f h (t.probeStart h)=some (.empty j none):=by
 obtain⟨e,he,ne⟩:=JJ (l:=t.place.toList) (m:=t.mask) (by rw[Ms];exact hz)
 obtain⟨n,hn,en⟩:=reach hm (i:=bits h % (t.mask + 1)) (xH h) he
 exact CY hd hf n _ _ _ (by unfold turns;omega) (by rw[en];exact JH hd ne)
end
section
variable {m:Nat} {owner:Array (Option Nat)}
theorem xI (F i p:Nat):layClean.free m owner (F + 1) i p=(match (List.range (runEnd m i + 1 - i)).find? fun k=>(owner.getD (i + k) (some 0)).isNone with
   | some k=>some (i + k)
   | none=>layClean.free m owner F (leap m i p).1 (leap m i p).2):=rfl
theorem xJ:∀ (n F i p:Nat),n + 1 <= F->(owner.getD (lp m n i p).1 (some 0)).isNone=true->∃ j,layClean.free m owner F i p=some j/\(owner.getD j (some 0)).isNone=true
 | 0,F,i,p,hF,hs=>by
  obtain⟨G,rfl⟩:∃ G,F=G + 1:=⟨F - 1,by omega⟩
  rw[xI]
  cases hc:(List.range (runEnd m i + 1 - i)).find? fun k=>(owner.getD (i + k) (some 0)).isNone with
  | some k =>
   have:=YW hc
   exact⟨i + k,rfl,this⟩
  | none =>
   have:=YZ.mp hc 0 (Wl.mpr (by unfold runEnd;split<;>omega))
   exact absurd hs this
 | n + 1,F,i,p,hF,hs=>by
  obtain⟨G,rfl⟩:∃ G,F=G + 1:=⟨F - 1,by omega⟩
  rw[xI]
  cases hc:(List.range (runEnd m i + 1 - i)).find? fun k=>(owner.getD (i + k) (some 0)).isNone with
  | some k =>
   have:=YW hc
   exact⟨i + k,rfl,this⟩
  | none=>exact xJ n G _ _ (by omega) hs
end
structure Ow (m:Nat) (owner:Array (Option Nat)) (k:Nat):Prop where
 size:owner.size=m + 1
 cnt:owner.toList.countP Option.isSome=k
 lt:∀ x,some x∈owner.toList->x < k
theorem xK:∀ {l:List (Option Nat)} {j k:Nat},l[j]? = some none->(l.set j (some k)).countP Option.isSome=l.countP Option.isSome + 1
 | [],j,k,h=>by simp at h
 | x :: l,0,k,h=>by
  simp at h;subst h
  rw[WW,XT,XT];rfl
 | x :: l,j + 1,k,h=>by
  simp at h
  rw[WX,XT,XT,xK h];omega
theorem getD_none {owner:Array (Option Nat)} {j:Nat} (h:(owner.getD j (some 0)).isNone=true):owner.toList[j]? = some none:=by
 rw[W_] at h
 rw[Wq]
 cases e:owner[j]? with
 | none=>rw[e] at h;cases h
 | some x =>
  rw[e] at h
  cases x with
  | none=>rfl
  | some y=>cases h
theorem CZ {m:Nat} {owner:Array (Option Nat)} {k:Nat} (O:Ow m owner k) (hk:k <= m):∃ e,e <= m/\(owner.getD e (some 0)).isNone=true:=by
 refine WQ fun no => ?_
 have all:∀ x∈owner.toList,x.isSome=true:=by
  intro x hx
  obtain⟨e,he⟩:=VD.mp hx
  cases x with
  | some y=>rfl
  | none =>
   have hl:=(oR.mp he).1
   rw[Ms,O.size] at hl
   refine absurd ⟨e,YH hl,?_⟩ no
   rw[W_,<-Wq,he];rfl
 have:=List.countP_eq_length.mpr all
 rw[O.cnt,Ms,O.size] at this
 omega
theorem JL {m:Nat} {owner:Array (Option Nat)} {k:Nat} (hm:Mk m) (O:Ow m owner k) (hk:k <= m) (h:Int):∃ j,layClean.free m owner (turns m) (bits h % (m + 1)) (bits h)=some j/\Ow m (owner.setIfInBounds j (some k)) (k + 1):=by
 obtain⟨e,he,hn⟩:=CZ O hk
 obtain⟨n,iC,en⟩:=reach hm (i:=bits h % (m + 1)) (xH h) he
 obtain⟨j,ej,hj⟩:=xJ (m:=m) (owner:=owner) n (turns m) (bits h % (m + 1)) (bits h) (by unfold turns;omega) (by rw[en];exact hn)
 refine⟨j,ej,by rw[ZQ];exact O.size,?_,fun x hx => ?_⟩
 ·rw[XJ,xK (getD_none hj),O.cnt]
 ·rw[XJ] at hx
  rcases ZJ hx with h | h
  ·exact Xo (O.lt x h)
  ·cases h;exact Xv _
theorem C0 (m:Nat):Ow m (Array.replicate (m + 1) none) 0:=by
 refine⟨by simp,?_,fun x hx => ?_⟩
 ·rw[Y_]
  exact List.countP_eq_zero.mpr fun x hx=>by rw[YS hx];decide
 ·rw[Y_] at hx
  cases YS hx
noncomputable def iD (m:Nat) (owner:Array (Option Nat)):List (Nat × Nat):=(List.range (m + 1)).filterMap fun j=>(owner.getD j none).map (j,·)
theorem C1 {m:Nat} {owner:Array (Option Nat)} {k:Nat} (O:Ow m owner k):(iD m owner).length=k:=by
 unfold iD
 rw[Zi,<-O.cnt]
 have e:owner.toList=(List.range (m + 1)).map fun j=>owner.getD j none:=by
  refine Yg fun i => ?_
  rw[Wq,D8]
  by_cases hi:i < m + 1
  ·rw[W0 hi,q0n,Wh (by rw[O.size];exact hi),W_,Wh (by rw[O.size];exact hi)];rfl
  ·rw[Z9 (by rw[O.size];omega),WZ (by rw[Xd];omega)];rfl
 rw[e,List.countP_map]
 refine List.countP_congr fun j _ => ?_
 simp
theorem JM {α : Type} {es:Array α} {order:Array Nat} (h:∀ k∈order.toList,k < es.size):(order.filterMap (es[·]?)).size=order.size/\∀ e∈(order.filterMap (es[·]?)).toList,e∈es.toList:=by
 constructor
 ·rw[<-Ms,Yx,Zi,List.countP_eq_length.mpr fun k hk => ?_,Ms]
  rw[Wh (h k hk)];rfl
 ·intro e he
  rw[Yx] at he
  obtain⟨k,_,q⟩:=X9.mp he
  exact VD.mpr ⟨k,by rw[Wq];exact q⟩
theorem JN (t:SetTable) (hd:t.dummies = #[]) (j:Nat):(t.put j).1.dummies = #[]/\(t.put j).1.mask=t.mask/\(t.put j).1.place.size=t.place.size + 1/\(t.put j).1.led=t.led/\(t.put j).1.plain=t.plain/\(t.put j).1.moves=t.moves/\(t.put j).1.finger=t.finger:=by
 unfold put
 dsimp only
 rw[hd,CT]
 refine⟨rfl,rfl,?_,rfl,rfl,rfl,rfl⟩
 unfold insertAt
 simp only[Array.size_append,q0o,Array.size_extract]
 omega
theorem JO {α : Type} (xs:Array α) (p:Nat) (x : α):(insertAt xs p x).size=xs.size + 1:=by
 unfold insertAt
 simp only[Array.size_append,q0o,Array.size_extract]
 omega
end LJS
namespace LJS
open PySem PySem.SetTable PyProof.Rows
structure eS (t:SetTable) (es:Array (Int × Value)) (hs:List Int):Prop where
 rO:t.dummies = #[]
 rP:Mk t.mask
 mL:t.place.size=es.size
 num:es.size=hs.length
 iV:t.tooFull=false
 ins:∀ e∈es.toList,e.1∈hs
noncomputable def jK (h:Heap) (S:Addr) (hs:List Int):Prop:=∃ o es ep t,h.get? S=some o/\o.ExactSet/\o.data = .set es ep t/\eS t es hs
section
variable {t:SetTable} {es:Array (Int × Value)} {hs:List Int}
theorem eS.fill (T:eS t es hs):t.fill=es.size:=by
 unfold SetTable.fill
 rw[T.mL,T.rO];rfl
theorem eS.lt (T:eS t es hs):es.size * 5 < t.mask * 3:=by
 have:=T.iV
 unfold tooFull at this
 rw[T.fill] at this
 have:=of_decide_eq_false this
 omega
theorem eS.fits (T:eS t es hs):t.fits es.size=true:=by
 have:=T.lt
 unfold SetTable.fits
 rw[T.fill,T.mL]
 simp
 omega
theorem eS.rQ (T:eS t es hs):t.gaveWay=false:=by
 unfold SetTable.gaveWay
 rcases T.rP with h | h | h<;>rw[h]<;>rfl
end
theorem JP:sizeAbove (grown 5) - 1=31:=by decide +kernel
theorem JQ:sizeAbove (grown 19) - 1=127:=by decide +kernel
section
variable {prog:Program} {w:World} {A:Around} {E:Value->Shared->Prop} {s:Shared}
end
end LJS
namespace LJS
open PySem PySem.SetTable
noncomputable def Up (xs:Array Nat):Prop:=xs.toList.Pairwise (· < ·)
theorem Up.lt {xs:Array Nat} (u:Up xs) {i k:Nat} (JR:i < k) (hk:k < xs.size):xs[i]'(by omega) < xs[k]:=by
 have:=Yf.mp u i k (by rw[Ms];omega) (by rw[Ms];exact hk) JR
 simpa using this
theorem xM {xs:Array Nat} (u:Up xs) (j:Nat):∀ (fuel lo hi:Nat),hi <= xs.size->lo <= hi->hi - lo <= fuel->(∀ i,(h:i < xs.size)->i < lo->xs[i] < j)->(∀ i,(h:i < xs.size)->hi <= i->j <= xs[i]) →
  below.go xs j fuel lo hi <= xs.size/\(∀ i,(h:i < xs.size)->i < below.go xs j fuel lo hi->xs[i] < j)/\(∀ i,(h:i < xs.size)->below.go xs j fuel lo hi <= i->j <= xs[i])
 | 0,lo,hi,h1,h2,h3,a,b=>by
  have:lo=hi:=by omega
  subst this
  exact⟨h1,a,b⟩
 | fuel + 1,lo,hi,h1,h2,h3,a,b=>by
  unfold below.go
  by_cases c:lo < hi
  ·rw[We c]
   have hm:(lo + hi) / 2 < xs.size:=by omega
   have em:xs.getD ((lo + hi) / 2) j=xs[(lo + hi) / 2]:=by rw[W_,Wh hm];rfl
   simp only[em]
   by_cases d:xs[(lo + hi) / 2] < j
   ·rw[We d]
    refine xM u j fuel _ hi h1 (by omega) (by omega) (fun i bQ hl => ?_) b
    by_cases e:i < (lo + hi) / 2
    ·exact Zx (u.lt e hm) d
    ·have:i=(lo + hi) / 2:=by omega
     subst this;exact d
   ·rw[VG d]
    refine xM u j fuel lo _ (by omega) (by omega) (by omega) a fun i bQ hl => ?_
    by_cases e:(lo + hi) / 2 < i
    ·exact XM (Y0 (ZX d) (u.lt e bQ))
    ·have:i=(lo + hi) / 2:=by omega
     subst this;exact ZX d
  ·rw[VG c]
   have:lo=hi:=by omega
   subst this
   exact⟨h1,a,b⟩
theorem va {xs:Array Nat} (u:Up xs) (j:Nat):below xs j <= xs.size/\(∀ i,(h:i < xs.size)->i < below xs j->xs[i] < j)/\(∀ i,(h:i < xs.size)->below xs j <= i->j <= xs[i]) :=
 xM u j xs.size 0 xs.size (qx _) (W6 _) (by omega) (fun i _ h=>by omega) (fun i h h'=>by omega)
theorem JU {t:SetTable} (u:Up t.place) {j:Nat} (hj:j∉t.place.toList):Up (t.put j).1.place:=by
 obtain⟨h0,h1,h2⟩:=va u j
 show Up (insertAt t.place (below t.place j) j)
 unfold Up insertAt
 generalize below t.place j=p at h0 h1 h2
 have eL:(((t.place.extract 0 p).push j) ++ t.place.extract p t.place.size).toList=t.place.toList.take p ++ ([j] ++ t.place.toList.drop p):=by
  simp only[Array.toList_append,Za,Array.toList_extract,ZK,Zb,Z_,Yh]
  have e2:List.take (t.place.size - p) (List.drop p t.place.toList)=List.drop p t.place.toList:=WM (by rw[Xw,Ms];exact qx _)
  rw[e2]
 rw[eL]
 have lo:∀ x∈t.place.toList.take p,x < j:=by
  intro x hx
  obtain⟨i,hi,e⟩:=WC.mp hx
  rw[Wu,Ms] at hi
  rw[ZL] at e
  have:=h1 i (by omega) (by omega)
  rw[<-e];simpa using this
 have bQ:∀ x∈t.place.toList.drop p,j < x:=by
  intro x hx
  obtain⟨i,hi,e⟩:=WC.mp hx
  rw[Xw,Ms] at hi
  rw[List.getElem_drop] at e
  have:=h2 (p + i) (by omega) (by omega)
  have JV:j <= x:=by rw[<-e];simpa using this
  refine Nat.lt_of_le_of_ne JV fun z=>hj ?_
  rw[z];exact List.mem_of_mem_drop hx
 refine List.pairwise_append.mpr ⟨u.sublist (ZM _ _),?_,fun a ha b hb => ?_⟩
 ·exact W9.mpr ⟨bQ,u.sublist (List.drop_sublist _ _)⟩
 ·rcases VE.mp hb with rfl | hb
  ·exact lo a ha
  ·exact Zx (lo a ha) (bQ b hb)
theorem JX (n:Nat) (f:Nat->Option Nat):(((List.range n).filterMap fun j=>(f j).map fun x=>(j,x)).map (·.1)).Pairwise (· < ·):=by
 rw[Xe]
 refine List.Pairwise.filterMap _ (fun a a' bX b hb b' hb' => ?_) (Xx (n:=n))
 obtain⟨x,_,rfl⟩:=VI.mp hb
 obtain⟨y,_,rfl⟩:=VI.mp hb'
 exact bX
theorem JY (m:Nat) (owner:Array (Option Nat)):((iD m owner).map (·.1)).Pairwise (· < ·):=JX (m + 1) fun j=>owner.getD j none
theorem xN {t:SetTable} {f:Nat->Int} {h:Int}:∀ {fuel:Nat} {p:Probe} {j:Nat} {d:Option Nat},probe.go t f h fuel p=some (.empty j d)->t.slot j = .empty
 | 0,_,_,_,e=>nomatch e
 | fuel + 1,p,j,d,e=>by
  rw[nW] at e
  cases q:t.slot p.j with
  | empty =>
   rw[q] at e
   cases e
   exact q
  | dummy =>
   rw[q] at e
   exact xN e
  | live i =>
   rw[q] at e
   by_cases c:(f i == h)=true
   ·simp only[c,Yy] at e;cases e
   ·simp only[c,Xr] at e;exact xN e
theorem JZ {t:SetTable} (u:Up t.place) {j:Nat} (e:t.slot j = .empty):j∉t.place.toList:=by
 intro hm
 obtain⟨i,hi,ei⟩:=WC.mp hm
 have bQ:i < t.place.size:=by rw[<-Ms];exact hi
 have xO:t.place[i]=j:=by simpa using ei
 obtain⟨h0,h1,h2⟩:=va u j
 have a:¬ i < below t.place j:=fun z=>by have:=h1 i bQ z;omega
 have b:¬ below t.place j < i:=fun z=>by
  have:=h2 (below t.place j) (by omega) (qx _)
  have:=u.lt z bQ
  omega
 have eb:below t.place j=i:=by omega
 unfold slot at e
 rw[eb] at e
 have:(t.place[i]? == some j)=true:=by rw[Wh bQ,xO];simp
 simp only[this,Yy] at e
 cases e
noncomputable def kI (owner:Array (Option Nat)) (k:Nat):Prop:=(owner.toList.filterMap id).Perm (List.range k)
theorem xP:∀ {l:List (Option Nat)} {j k:Nat},l[j]? = some none->((l.set j (some k)).filterMap id).Perm (k :: l.filterMap id)
 | [],j,k,h=>by simp at h
 | x :: l,0,k,h=>by
  simp at h;subst h
  rw[WW]
  show (k :: l.filterMap id).Perm (k :: l.filterMap id)
  exact q0x _
 | x :: l,j + 1,k,h=>by
  simp at h
  rw[WX]
  cases x with
  | none =>
   show ((l.set j (some k)).filterMap id).Perm (k :: l.filterMap id)
   exact xP h
  | some y =>
   show (y :: (l.set j (some k)).filterMap id).Perm (k :: y :: l.filterMap id)
   exact (List.Perm.cons y (xP h)).trans (List.Perm.swap _ _ _)
theorem J0 {owner:Array (Option Nat)} {j k:Nat} (P:kI owner k) (h:owner.toList[j]? = some none):kI (owner.setIfInBounds j (some k)) (k + 1):=by
 unfold kI at P ⊢
 rw[XJ,Zr]
 exact (xP h).trans ((List.Perm.cons k P).trans (List.perm_append_singleton k _).symm)
theorem J6 {m:Nat} {owner:Array (Option Nat)} {k:Nat} (hm:Mk m) (O:Ow m owner k) (Pm:kI owner k) (hk:k <= m) (h:Int):∃ j,layClean.free m owner (turns m) (bits h % (m + 1)) (bits h)=some j/\Ow m (owner.setIfInBounds j (some k)) (k + 1)/\kI (owner.setIfInBounds j (some k)) (k + 1):=by
 obtain⟨e,he,hn⟩:=CZ O hk
 obtain⟨n,iC,en⟩:=reach hm (i:=bits h % (m + 1)) (xH h) he
 obtain⟨j,ej,hj⟩:=xJ (m:=m) (owner:=owner) n (turns m) (bits h % (m + 1)) (bits h) (by unfold turns;omega) (by rw[en];exact hn)
 refine⟨j,ej,⟨by rw[ZQ];exact O.size,?_,fun x hx => ?_⟩,J0 Pm (getD_none hj)⟩
 ·rw[XJ,xK (getD_none hj),O.cnt]
 ·rw[XJ] at hx
  rcases ZJ hx with h | h
  ·exact Xo (O.lt x h)
  ·cases h;exact Xv _
theorem C2 {m:Nat} (hm:Mk m):∀ (hs:List Int) (owner:Array (Option Nat)) (k:Nat),Ow m owner k->kI owner k->k + hs.length <= m + 1 →
  ∃ aP,(hs.foldl (init:=some (owner,k)) fun acc h=>do
   let (owner,k) <- acc
   let j <- layClean.free m owner (turns m) (bits h % (m + 1)) (bits h)
   pure (owner.setIfInBounds j (some k),k + 1))=some (aP,k + hs.length)/\Ow m aP (k + hs.length)/\kI aP (k + hs.length)
 | [],owner,k,O,Pm,_=>⟨owner,rfl,O,Pm⟩
 | h :: hs,owner,k,O,Pm,hl=>by
  rw[D7] at hl ⊢
  obtain⟨j,ej,O',P'⟩:=J6 hm O Pm (by omega) h
  obtain⟨o2,e2,O2,P2⟩:=C2 hm hs _ (k + 1) O' P' (by omega)
  refine⟨o2,?_,by rw[show k + (hs.length + 1)=k + 1 + hs.length by omega];exact⟨O2,P2⟩⟩
  rw[Zs,show k + (hs.length + 1)=k + 1 + hs.length by omega,<-e2]
  congr 1
  show (do let j <- layClean.free m owner (turns m) (bits h % (m + 1)) (bits h);pure (owner.setIfInBounds j (some k),k + 1))=_
  rw[ej];rfl
theorem J7 (m:Nat):kI (Array.replicate (m + 1) none) 0:=by
 unfold kI
 rw[Y_,List.filterMap_eq_nil_iff.mpr fun x hx=>by rw[YS hx];rfl]
 exact q0x _
theorem J8 {m:Nat} (hm:Mk m) (hs:Array Int) (hz:hs.size <= m + 1):∃ owner,layClean m hs=some owner/\Ow m owner hs.size/\kI owner hs.size:=by
 obtain⟨o,e,O,Pm⟩:=C2 hm hs.toList _ 0 (C0 m) (J7 m) (by rw[Ms];omega)
 rw[WN,Ms] at O Pm
 refine⟨o,?_,O,Pm⟩
 unfold layClean
 rw[<-Array.foldl_toList,e];rfl
theorem J9 {m:Nat} {owner:Array (Option Nat)} (hs:owner.size=m + 1):(iD m owner).map (·.2)=owner.toList.filterMap id:=by
 unfold iD
 rw[List.map_filterMap]
 have e:owner.toList=(List.range (m + 1)).map fun j=>owner.getD j none:=by
  refine Yg fun i => ?_
  rw[Wq,D8]
  by_cases hi:i < m + 1
  ·rw[W0 hi,q0n,Wh (by rw[hs];exact hi),W_,Wh (by rw[hs];exact hi)];rfl
  ·rw[Z9 (by rw[hs];omega),WZ (by rw[Xd];omega)];rfl
 rw[e,List.filterMap_map]
 congr 1
 funext j
 show Option.map (fun x:Nat × Nat=>x.2) (Option.map (fun x=>(j,x)) (owner.getD j none))=owner.getD j none
 cases owner.getD j none<;>rfl
end LJS
namespace LJS
open PySem PySem.SetTable PyProof.Rows
section
variable {t:SetTable} {es:Array (Int × Value)} {led:Bool} {ks:List Int}
end
section
variable {prog:Program} {w:World} {A:Around} {E:Value->Shared->Prop} {s:Shared}
theorem C3 {ks:List Int}:∀ {vs:List Value},ItemsAre (intKind prog w) ks vs->∀ v∈vs,∃ i t,v = .int i t:=by
 induction ks with
 | nil=>intro vs h v hv;cases h;cases hv
 | cons k ks ih =>
  intro vs h v hv
  cases h with
  | cons h1 h2 =>
   rcases VE.mp hv with rfl | hv
   ·obtain⟨t,e⟩:=Value.isInt_shape (k:=k) (v:=v) (by first | exact h1 | simpa [intKind] using h1)
    exact⟨_,_,e⟩
   ·exact ih h2 v hv
theorem J_ {ks:List Int} {a:Addr} {Q:Bool->Shared->Prop} (hk:IsTupleKey (intKind prog w) s.heap ks a) (h:∀ b,Q b s):wpAny (model prog w) A (hashByValue 8 (.ref a)) Q E s:=by
 have hT:=hk.typeIs
 obtain⟨o,aj,n,ho,_,hd,hi⟩:=hk
 show wpAny _ _ (hashByValue (7 + 1) (.ref a)) _ _ _
 unfold hashByValue
 refine oQ (wpAny_specialOf hT F.slot_tuple_hash.lookup ?_)
 show wpAny _ _ (seqItems? (.ref a) >>= _) _ _ s
 refine oQ (X_ ho hd ?_)
 refine oQ ?_
 show wpAny _ _ (forIn aj _ _) _ _ s
 rw[<-Y1]
 refine YM _ (fun rest _ s'=>s'=s/\∀ v∈rest,∃ i t,v=Value.int i t) _ ?_ ?_ _ _ ⟨rfl,C3 hi⟩
 ·rintro v rest r s' ⟨rfl,eT⟩
  obtain⟨i,t,rfl⟩:=eT v yE
  have e:hashByValue 7 (.int i t)=pure true:=by unfold hashByValue;rfl
  rw[e]
  refine oQ (D5 ?_)
  simp only[Yl,Wn,Xr]
  exact D5 ⟨rfl,fun u hu=>eT u (Mp _ hu)⟩
 ·rintro ⟨r1,r2⟩ s' ⟨rfl,_⟩
  cases r1 with
  | none=>exact D5 (h _)
  | some b=>exact D5 (h _)
theorem xQ {h h':Heap} {ks:List Int} {a:Addr} (x:IsTupleKey (intKind prog w) h ks a) (k:∀ o,h.get? a=some o->h'.get? a=some o):IsTupleKey (intKind prog w) h' ks a:=by
 obtain⟨o,aj,n,ho,r⟩:=x
 exact⟨o,aj,n,k o ho,r⟩
noncomputable abbrev hT (prog:Program) (w:World) (ks:List Int):Int:=tupleKeyHash (intKind prog w) ks
theorem Ka {h h':Heap} {S:Addr} {hs:List Int} (x:jK h S hs) (k:∀ o,h.get? S=some o->h'.get? S=some o):jK h' S hs:=by
 obtain⟨o,es,ep,t,ho,r⟩:=x
 exact⟨o,es,ep,t,k o ho,r⟩
end
section
variable {prog:Program} {w:World} {A:Around} {R:Result->Shared->Prop} {I S:Addr} {fp wr:List Addr} {G:Array GenState->Array GenState->Prop} {n:Nat} {P:Nat->Value->Prop} {St:Nat->Shared->Prop}
end
noncomputable abbrev fP (led:Bool):Obj:={ cls := .type "set",dict:=none,data := .set #[] 0 (.fresh 0 0 led) }
section
variable {prog:Program} {w:World} {A:Around} {E:Value->Shared->Prop} {s:Shared}
end
section
variable {prog:Program} {w:World} {A:Around} {I S:Addr} {o:Obj} {es:Array (Int × Value)} {ep:Nat} {t:SetTable} {ks:List Int}
end
section
variable {prog:Program} {w:World} {A:Around} {S:Addr} {o:Obj} {es:Array (Int × Value)} {ep:Nat} {t:SetTable} {ks:List Int}
end
end LJS
namespace L2
open PySem PySem.Spec PyProof.Rows
noncomputable abbrev Key:=Sum Int Str
noncomputable def qq:Key->Value->Bool
 | .inl k,v=>Value.isInt k v
 | .inr x,v=>Value.isStrOf x v
noncomputable def xR (w:World):Key->Int
 | .inl k=>hashInt k
 | .inr x=>hashStr w x
theorem lz:∀ {k:Key} {v:Value},qq k v=true->(∃ i t,k=Sum.inl i/\v=Value.int i t)\/(∃ x t,k=Sum.inr x/\v=Value.str x t)
 | .inl i,v,h=>by
  obtain⟨t,e⟩:=Value.isInt_shape (k:=i) (v:=v) h
  exact .inl ⟨i,t,rfl,e⟩
 | .inr x,v,h=>by
  obtain⟨t,e⟩:=Value.isStrOf_shape (x:=x) (v:=v) h
  exact .inr ⟨x,t,rfl,e⟩
theorem Kb (i:Int) (t:Tok):qq (.inl i) (.int i t)=true:=by simp[qq,Value.isInt]
theorem Kc (x:Str) (t:Tok):qq (.inr x) (.str x t)=true:=by simp[qq,Value.isStrOf]
theorem Kd (a b:Int):decide ((Sum.inl a:Key)=Sum.inl b)=(a == b):=by
 by_cases e:a=b
 ·subst e;simp
 ·have h:¬ (Sum.inl a:Key)=Sum.inl b:=fun q=>e (Sum.inl.inj q)
  rw[VF h]
  exact (beq_eq_false_iff_ne.mpr e).symm
theorem Ke (a b:Str):decide ((Sum.inr a:Key)=Sum.inr b)=decide (a=b):=by
 by_cases e:a=b
 ·subst e;simp
 ·have h:¬ (Sum.inr a:Key)=Sum.inr b:=fun q=>e (Sum.inr.inj q)
  rw[VF h,VF e]
theorem Kg (a:Int) (b:Str):decide ((Sum.inl a:Key)=Sum.inr b)=false:=VF (fun q=>nomatch q)
theorem Kh (a:Str) (b:Int):decide ((Sum.inr a:Key)=Sum.inl b)=false:=VF (fun q=>nomatch q)
noncomputable def gw (prog:Program) (w:World):PySem.KeyKind prog w Key where
 is:=qq
 hash:=xR w
 inj:=fun v a b ha hb=>by
  rcases lz ha with⟨i,t,rfl,rfl⟩ | ⟨x,t,rfl,rfl⟩
  ·rcases lz hb with⟨j,u,rfl,e⟩ | ⟨y,u,rfl,e⟩
   ·injection e with e1 _;rw[e1]
   ·exact nomatch e
  ·rcases lz hb with⟨j,u,rfl,e⟩ | ⟨y,u,rfl,e⟩
   ·exact nomatch e
   ·injection e with e1 _;rw[e1]
 byValue:=fun k v h=>by
  rcases lz h with⟨i,t,rfl,rfl⟩ | ⟨x,t,rfl,rfl⟩<;>rfl
 pyHash:=fun hv h=>by
  rcases lz hv with⟨i,t,rfl,rfl⟩ | ⟨x,t,rfl,rfl⟩
  ·exact wpAny_pyHash_int h
  ·exact wpAny_pyHash_str h
 eqBool:=fun hu hv h=>by
  rcases lz hu with⟨i,t,rfl,rfl⟩ | ⟨x,t,rfl,rfl⟩
  ·rcases lz hv with⟨j,u,rfl,rfl⟩ | ⟨y,u,rfl,rfl⟩
   ·rw[Kd] at h;exact wpAny_eqBool_int h
   ·rw[Kg] at h;exact ZA i t y u _ _ _ _ h
  ·rcases lz hv with⟨j,u,rfl,rfl⟩ | ⟨y,u,rfl,rfl⟩
   ·rw[Kh] at h;exact ZC x t j u _ _ _ _ h
   ·rw[Ke] at h;exact wpAny_eqBool_str h
 «strs» := fun k x t v h=>by
  rcases lz h with⟨i,u,rfl,e⟩ | ⟨y,u,rfl,e⟩
  ·exact nomatch e
  ·injection e with e1 _
   subst e1
   cases v<;>rfl
theorem Ki (prog:Program) (w:World) (i:Int) (t:Tok):(gw prog w).is (.inl i) (.int i t)=true:=Kb i t
theorem Kj (prog:Program) (w:World) (x:Str) (t:Tok):(gw prog w).is (.inr x) (.str x t)=true:=Kc x t
inductive V where
 | non | bl (b:Bool) | int (i:Int) | str (x:Str) | byt (b:Array UInt8) | flt (b:UInt64) | ref (a:Addr) | ty (n:String)
 deriving DecidableEq
noncomputable def RelV:V->Value->Prop
 | .non,u=>u=Value.none
 | .bl b,u=>u=Value.bool b
 | .int i,u=>∃ t,u=Value.int i t
 | .str x,u=>∃ t,u=Value.str x t
 | .byt b,u=>∃ t,u=Value.bytes b t
 | .flt b,u=>∃ t,u=Value.float b t
 | .ref a,u=>u=Value.ref a
 | .ty n,u=>u=Value.type n
noncomputable abbrev Vals:List V->List Value->Prop:=Paired RelV
theorem Vals.length {xs:List V} {us:List Value} (r:Vals xs us):xs.length=us.length:=Paired.length r
theorem Vals.get:∀ {xs:List V} {us:List Value} {i:Nat} {x:V},Vals xs us->xs[i]? = some x->∃ u,us[i]? = some u/\RelV x u
 | _,_,_,_,.nil,e=>by simp at e
 | _,_,0,_,.cons r _,e=>by simp at e;subst e;exact⟨_,rfl,r⟩
 | _,_,i + 1,x,.cons _ t,e=>by
  obtain⟨u,h1,h2⟩:=Vals.get (i:=i) (x:=x) t (by simpa using e)
  exact⟨u,by simpa using h1,h2⟩
theorem Vals.set {x:V} {u:Value} (r:RelV x u):∀ {xs:List V} {us:List Value} (i:Nat),Vals xs us->Vals (xs.set i x) (us.set i u)
 | _,_,_,.nil => .nil
 | _,_,0,.cons _ t => .cons r t
 | _,_,i + 1,.cons q t => .cons q (Vals.set r i t)
theorem Vals.append:∀ {xs ys:List V} {us ws:List Value},Vals xs us->Vals ys ws->Vals (xs ++ ys) (us ++ ws)
 | _,_,_,_,.nil,s=>s
 | _,_,_,_,.cons r t,s => .cons r (Vals.append t s)
theorem Vals.take:∀ {xs:List V} {us:List Value} (n:Nat),Vals xs us->Vals (xs.take n) (us.take n)
 | _,_,0,_ => .nil
 | _,_,_ + 1,.nil => .nil
 | _,_,n + 1,.cons r t => .cons r (Vals.take n t)
theorem Vals.drop:∀ {xs:List V} {us:List Value} (n:Nat),Vals xs us->Vals (xs.drop n) (us.drop n)
 | _,_,0,r=>r
 | _,_,_ + 1,.nil => .nil
 | _,_,n + 1,.cons _ t=>Vals.drop n t
noncomputable def hW:Option V->Option Value->Prop
 | some v,some u=>RelV v u
 | none,none=>True
 | _,_=>False
noncomputable def KV {κ : Type}:List (κ × V)->List (κ × Value)->Prop:=Paired fun (p : κ × V) (q : κ × Value)=>p.1=q.1/\RelV p.2 q.2
noncomputable def kV:Key->V
 | .inl i => .int i
 | .inr x => .str x
inductive HO where
 | lst (xs:List V)
 | tup (xs:List V)
 | dK (kvs:List (Key × V)) | dT (kvs:List (List Key × V))
 | set (S:Int->Bool) (n:Nat)
 | ins (C dx:Addr) (fs:List (Str × V))
 | own (x:Addr)
 | xd (fs:List (Str × V))
 | met (f x:Addr)
 | rng (lo hi:Int)
 | frz (o:Obj) (u:HO)
 | tbl (ps:Array Value)
 | ext (φ : Heap->Prop)
noncomputable abbrev Hp:=Addr->Option HO
noncomputable def upd (H:Hp) (a:Addr) (o:HO):Hp:=fun b=>if b=a then some o else H b
theorem bA {H:Hp} {a:Addr} {o:HO}:upd H a o a=some o:=by unfold upd;rw[We rfl]
theorem aM {H:Hp} {a b:Addr} {o:HO} (h:b≠a):upd H a o b=H b:=by unfold upd;rw[VG h]
theorem Kk {H:Hp} {a b:Addr} {o u:HO} (h:H a=some o) (h':H b=some u) (d:o≠u):a≠b:=by
 intro e;subst e;rw[h] at h';exact d (Wx h')
theorem cC {H:Hp} {a b:Addr} {o:HO} (h:H a=some o) (h':H b=none):a≠b:=by
 intro e;subst e;rw[h] at h';cases h'
section
variable (P:Program) (w:World)
noncomputable def aI (H:Hp) (h:Heap) (a:Addr):HO->Prop
 | .lst xs=>xs.length <= sizeLine/\∃ (aj:List Value) (n:Nat),Vals xs aj/\h.get? a=some { cls := .type "list",data := .seq aj.toArray n }
 | .tup xs=>xs.length <= sizeLine/\∃ aj:List Value,Vals xs aj/\IsTup h a aj.toArray
 | .dK kvs=>kvs.length <= sizeLine/\(a == sysModules)=false/\∃ vs,KV kvs vs/\h.DictOf (gw P w) a vs
 | .dT kvs=>kvs.length <= sizeLine/\(a == sysModules)=false/\∃ xs:List (List Key × Addr × Value),
   Paired (fun (p:List Key × V) (q:List Key × Addr × Value)=>p.1=q.1/\H q.2.1=some (.tup (p.1.map kV))/\RelV p.2 q.2.2) kvs xs ∧
   ∃ o es ep,h.get? a=some o/\o.ExactDict/\o.data = .dict es ep/\es.toList=xs.map (entryOfKey (tupleKind (gw P w)))/\(xs.map (·.1)).Nodup
 | .set S n=>h.SetOf (intKind P w) a S n
 | .ins C dx fs=>H dx=some (.own a)/\fs.length <= 1000/\dx≠a/\h.get? a=some (PySem.W.instObj C dx) ∧
   ∃ mA,h.Ns1 dx mA/\(∀ f,hW (fs.lookup f) (mA f))/\PySem.Within mA (fs.map (·.1))
 | .own _=>∃ o,h.get? a=some o
 | .xd fs=>∃ mA,h.Ns1 a mA/\∀ f,hW (fs.lookup f) (mA f)
 | .rng lo hi=>∃ t u v,h.get? a=some { cls := .type "range",data := .fields #[.int lo t,.int hi u,.int 1 v] }
 | .frz o u=>h.get? a=some o/\aI H h a u
 | .tbl ps=>h.get? a=some { cls := .none,data := .fields ps }
 | .met f x=>h.get? a=some (PySem.W.methodObj (.ref f) (.ref x))
 | .ext φ => φ h/\(∃ o,h.get? a=some o)/\∀ h1 h2:Heap,φ h1->(∀ o,h1.get? a=some o->h2.get? a=some o) -> φ h2
noncomputable def df (H:Hp) (h:Heap):Prop:=∀ a o,H a=some o->aI P w H h a o
end
section
variable {P:Program} {w:World} {H H':Hp} {h h':Heap} {a:Addr} {o:HO}
theorem aI.lt (x:aI P w H h a o):a < h.objs.size:=by
 cases o with
 | lst xs=>obtain⟨_,_,_,_,e⟩:=x;exact My e
 | tup xs=>obtain⟨_,_,_,p⟩:=x;exact p.lt
 | dK kvs=>obtain⟨_,_,_,_,o,_,_,e,_⟩:=x;exact My e
 | dT kvs=>obtain⟨_,_,_,_,o,_,_,e,_⟩:=x;exact My e
 | set S n=>obtain⟨o,_,_,_,e,_⟩:=x;exact My e
 | ins C dx fs=>obtain⟨_,_,_,e,_⟩:=x;exact My e
 | own y=>obtain⟨_,e⟩:=x;exact My e
 | xd fs=>obtain⟨_,⟨_,_,_,e,_⟩,_⟩:=x;exact My e
 | rng lo hi=>obtain⟨_,_,_,e⟩:=x;exact My e
 | frz ob u=>obtain⟨e,_⟩:=x;exact My e
 | tbl ps=>exact My (show h.get? a=some _ from x)
 | met f y=>exact My (show h.get? a=some _ from x)
 | ext φ => obtain⟨_,⟨_,e⟩,_⟩:=x;exact My e
theorem Paired.nX {α β : Type} {F G : α -> β -> Prop}:∀ {l₁ : List α} {l₂ : List β},Paired F l₁ l₂ -> (∀ a b,F a b->G a b)->Paired G l₁ l₂
 | _,_,.nil,_ => .nil
 | _,_,.cons r t,f => .cons (f _ _ r) (Paired.nX t f)
theorem aI.eU (x:aI P w H h a o) (k:∀ b u,(b=a\/H b=some (.own a))->h.get? b=some u->h'.get? b=some u)
  (ho:∀ b,H b=some (.own a)->H' b=some (.own a)) (ht:∀ b xs,H b=some (.tup xs)->H' b=some (.tup xs)):aI P w H' h' a o:=by
 induction o with
 | lst xs=>obtain⟨z,aj,n,r,e⟩:=x;exact⟨z,aj,n,r,k _ _ (.inl rfl) e⟩
 | tup xs=>obtain⟨z,aj,r,ob,e,c⟩:=x;exact⟨z,aj,r,ob,k _ _ (.inl rfl) e,c⟩
 | dK kvs=>obtain⟨z,y,vs,r,ob,es,ep,e,c⟩:=x;exact⟨z,y,vs,r,ob,es,ep,k _ _ (.inl rfl) e,c⟩
 | dT kvs =>
  obtain⟨z,y,xs,r,ob,es,ep,e,c⟩:=x
  exact⟨z,y,xs,Paired.nX r fun p q z=>⟨z.1,ht _ _ z.2.1,z.2.2⟩,ob,es,ep,k _ _ (.inl rfl) e,c⟩
 | set S n=>obtain⟨ob,es,ep,t,e,c⟩:=x;exact⟨ob,es,ep,t,k _ _ (.inl rfl) e,c⟩
 | ins C dx fs =>
  obtain⟨d,z,ne,e,mA,⟨od,es,ep,e2,c⟩,r⟩:=x
  exact⟨ho _ d,z,ne,k _ _ (.inl rfl) e,mA,⟨od,es,ep,k _ _ (.inr d) e2,c⟩,r⟩
 | own y=>obtain⟨ob,e⟩:=x;exact⟨ob,k _ _ (.inl rfl) e⟩
 | xd fs=>obtain⟨mA,⟨od,es,ep,e,c⟩,r⟩:=x;exact⟨mA,⟨od,es,ep,k _ _ (.inl rfl) e,c⟩,r⟩
 | rng lo hi=>obtain⟨t,u,v,e⟩:=x;exact⟨t,u,v,k _ _ (.inl rfl) e⟩
 | frz ob u ih=>obtain⟨e,q⟩:=x;exact⟨k _ _ (.inl rfl) e,ih q⟩
 | tbl ps =>
  have e:h.get? a=some { cls := .none,data := .fields ps }:=x
  show h'.get? a=some { cls := .none,data := .fields ps }
  exact k a _ (.inl rfl) e
 | met f y =>
  have e:h.get? a=some (PySem.W.methodObj (.ref f) (.ref y)):=x
  show h'.get? a=some (PySem.W.methodObj (.ref f) (.ref y))
  exact k a _ (.inl rfl) e
 | ext φ => obtain⟨p,⟨o,e⟩,st⟩:=x;exact⟨st _ _ p fun o q=>k _ _ (.inl rfl) q,⟨o,k _ _ (.inl rfl) e⟩,st⟩
theorem df.lt (x:df P w H h) (e:H a=some o):a < h.objs.size:=(x a o e).lt
theorem df.fresh (x:df P w H h) (e:h.objs.size <= a):H a=none:=by
 cases q:H a with
 | none=>rfl
 | some u=>exact absurd (Wk (x.lt q) e) (Xk _)
theorem df.kept (x:df P w H h) (k:∀ b u,h.get? b=some u->h'.get? b=some u):df P w H h':=fun a o e =>
 (x a o e).eU (fun b u _ q=>k b u q) (fun _ q=>q) fun _ _ q=>q
theorem df.laid (x:df P w H h) (k:∀ b u,h.get? b=some u->h'.get? b=some u) (hp:h.objs.size <= a) (new:aI P w (upd H a o) h' a o):df P w (upd H a o) h':=fun b u e=>by
 have hn:=x.fresh hp
 by_cases hb:b=a
 ·subst hb;rw[bA] at e;cases e;exact new
 ·rw[aM hb] at e
  exact (x b u e).eU (fun c v _ q=>k c v q) (fun c q=>by rw[aM (cC q hn)];exact q) fun c xs q=>by rw[aM (cC q hn)];exact q
end
noncomputable def Rd (H:Hp) (a:Addr) (u:HO):Prop:=H a=some u\/∃ o,H a=some (.frz o u)
theorem Rd.ok {P:Program} {w:World} {H:Hp} {h:Heap} {a:Addr} {u:HO} (r:Rd H a u) (x:df P w H h):aI P w H h a u:=by
 rcases r with r | ⟨o,r⟩
 ·exact x a u r
 ·obtain⟨_,q⟩:=x a _ r
  exact q
noncomputable def rR:Option HO->Prop
 | some (.lst _)=>True
 | some (.dK _)=>True
 | some (.dT _)=>True
 | some (.set _ _)=>True
 | some (.ins _ _ _)=>True
 | some (.ext _)=>True
 | _=>False
section
variable {P:Program} {w:World} {H:Hp} {h h':Heap} {x e:Addr} {o':HO}
theorem df.write (ok:df P w H h) (mu:rR (H x)) (he:e=x\/H e=some (.own x)) (k:∀ b u,b≠e->h.get? b=some u->h'.get? b=some u) (kJ:∃ u,h'.get? e=some u)
  (new:aI P w (upd H x o') h' x o'):df P w (upd H x o') h':=fun b u q=>by
 have rS:∀ c y,H c=some (.own y)->c≠x:=fun c y r z=>by subst z;rw[r] at mu;exact mu
 have xS:∀ c xs,H c=some (.tup xs)->c≠x:=fun c xs r z=>by subst z;rw[r] at mu;exact mu
 by_cases hb:b=x
 ·subst hb;rw[bA] at q;cases q;exact new
 ·rw[aM hb] at q
  by_cases nY:b=e
  ·have q':H b=some (.own x):=by
    rcases he with z | z
    ·exact absurd (nY.trans z) hb
    ·rw[nY];exact z
   rw[q] at q';cases q'
   obtain⟨v,hv⟩:=kJ
   exact⟨v,by rw[nY];exact hv⟩
  ·refine (ok b u q).eU (fun c v hc r=>k c v ?_ r) (fun c r=>by rw[aM (rS c b r)];exact r) fun c xs r=>by rw[aM (xS c xs r)];exact r
   rcases hc with rfl | hc
   ·exact nY
   ·rintro rfl
    rcases he with z | z
    ·exact rS c b hc z
    ·rw[hc] at z;cases z;exact hb rfl
end
structure Un (fs ex:List Addr) (H H':Hp) (h h':Heap):Prop where
 keep:∀ b o,h.get? b=some o->H b=none->b∉fs->b∉ex->h'.get? b=some o
 slot:∀ b o,h.get? b=some o->H b=none->b∈fs->b∉ex->∃ sl,h'.get? b=some { o with slots:=sl }
 free:∀ b o,h.get? b=some o->H b=none->b∉ex->H' b=none
 there:∀ b o,h.get? b=some o->b∉ex->∃ o',h'.get? b=some o'
 d6:∀ b xs,H b=some (.tup xs)->H' b=some (.tup xs)
 eV:∀ b o u,H b=some (.frz o u)->H' b=some (.frz o u)
 eW:∀ b ps,H b=some (.tbl ps)->∃ more,H' b=some (.tbl (ps ++ more))
section
variable {fs Kl ex Vz:List Addr} {H H1 H2:Hp} {h h1 h2 h':Heap} {a x e:Addr} {o:HO}
theorem Un.any (u:Un fs ex H H1 h h1) {b:Addr} {ob:Obj} (q:h.get? b=some ob) (n:H b=none) (hx:b∉ex):∃ sl,h1.get? b=some { ob with slots:=sl }:=by
 by_cases hb:b∈fs
 ·exact u.slot b ob q n hb hx
 ·exact⟨ob.slots,u.keep b ob q n hb hx⟩
theorem Un.kept (k:∀ b u,h.get? b=some u->h'.get? b=some u):Un fs ex H H h h' :=
 ⟨fun b ob q _ _ _=>k b ob q,fun b ob q _ _ _=>⟨ob.slots,k b ob q⟩,fun _ _ _ n _=>n,fun b ob q _=>⟨ob,k b ob q⟩,fun _ _ q=>q,fun _ _ _ q=>q,fun _ ps q=>⟨#[],by rw[q];simp⟩⟩
theorem Un.refl:Un fs ex H H h h:=Un.kept fun _ _ q=>q
theorem Un.laid (k:∀ b u,h.get? b=some u->h'.get? b=some u) (hp:h.objs.size <= a) (hn:H a=none):Un fs ex H (upd H a o) h h' where
 keep:=fun b u q _ _ _=>k b u q
 slot:=fun b u q _ _ _=>⟨u.slots,k b u q⟩
 free:=fun b u q n _=>by rw[aM (Wi (Wk (My q) hp))];exact n
 there:=fun b u q _=>⟨u,k b u q⟩
 d6:=fun b xs q=>by rw[aM (cC q hn)];exact q
 eV:=fun b u xs q=>by rw[aM (cC q hn)];exact q
 eW:=fun b ps q=>⟨#[],by rw[aM (cC q hn),q];simp⟩
theorem Un.write (mu:rR (H x)) (he:e=x\/H e=some (.own x)) (k:∀ b u,b≠e->h.get? b=some u->h'.get? b=some u) (kJ:∃ u,h'.get? e=some u):Un fs ex H (upd H x o) h h':=by
 have hx:∀ b,H b=none->b≠x:=fun b n z=>by subst z;rw[n] at mu;exact mu
 have hb:∀ b,H b=none->b≠e:=fun b n z=>by
  subst z
  rcases he with r | r
  ·exact hx b n r
  ·rw[n] at r;cases r
 have hm:∀ b u,H b=some u->¬ rR (some u)->b≠x:=fun b u q nm z=>by subst z;rw[q] at mu;exact nm mu
 refine⟨fun b u q n _ _=>k b u (hb b n) q,fun b u q n _ _=>⟨u.slots,k b u (hb b n) q⟩,fun b u q n _=>by rw[aM (hx b n)];exact n,fun b u q _ => ?_,
  fun b xs q=>by rw[aM (hm b _ q fun z=>z)];exact q,fun b u xs q=>by rw[aM (hm b _ q fun z=>z)];exact q,fun b ps q=>⟨#[],by rw[aM (hm b _ q fun z=>z),q];simp⟩⟩
 by_cases nY:b=e
 ·subst nY;exact kJ
 ·exact⟨u,k b u nY q⟩
end
noncomputable def vc (h:Heap) (H:Hp):List Addr:=(List.range h.objs.size).filter fun a=>(H a).isSome
noncomputable def eX (h:Heap) (H:Hp):Heap:=PySem.W.hideAll h (vc h H)
theorem Km (h:Heap) (H:Hp):(eX h H).objs.size=h.objs.size:=PySem.W.hideAll_size _ _
theorem Kn {h:Heap} {H:Hp} {b:Addr} {o:Obj} (e:h.get? b=some o) (n:H b=none):(eX h H).get? b=some o :=
 PySem.W.hideAll_get _ e fun hm=>by
  have q:(H b).isSome=true:=(Wm.mp hm).2
  rw[n] at q;simp at q
theorem Ko {h:Heap} {H:Hp} {b:Addr} {o:Obj} (e:(eX h H).get? b=some o):h.get? b=some o/\H b=none:=by
 have e':h.get? b=some o:=PySem.W.of_hideAll (vc h H) e
 refine⟨e',?_⟩
 cases q:H b with
 | none=>rfl
 | some x =>
  have hm:b∈vc h H:=Wm.mpr ⟨Wl.mpr (My e'),by simp[q]⟩
  have z:(eX h H).get? b=none:=PySem.W.hideAll_none (vc h H) hm
  rw[z] at e;cases e
structure Mod (K:PySem.W.Frag) (mg:Str->Option Value) (base:Heap):Prop where
 mM:K.In base
 glob:base.Ns mainGlobals mg
 blt:∃ mb,base.Ns builtinsNs mb/\∀ x:Str,x ≠ "__name__" -> mb x=bootBuiltins x
 nolimit:base.NoLimit
structure Cx where
 prog:Program
 w:World
 K:PySem.W.Frag
 mg:Str->Option Value
 base:Heap
 A:Around
 N:List Str
 s₀ : Shared
 H₀ : Hp
 env:Env
 outer:List Env
 stack:List Env
 ex:List Addr
 fn:Str->Bool
 calm:Bool
 pn:List (Addr × Obj)
 xe:Value->Shared->Prop
noncomputable def jA (l:List Env):List Addr:=l.filterMap (·.frame)
noncomputable abbrev Cx.fs (X:Cx):List Addr:=jA X.outer
noncomputable def nZ (sc:Scope) (x:Str):Prop:=sc.names.lookup x=some .local\/sc.names.lookup x=some .cell\/sc.names.lookup x=some .free
noncomputable def Loc (sc:Scope) (x:Str):Prop:=sc.names.lookup x=some .local\/sc.names.lookup x=some .cell
noncomputable def Look (env:Env) (h:Heap) (m:Str->Option Value) (x:Str) (u:Value):Prop :=
 (env.kindOf x=some .local/\m x=some u)\/((env.kindOf x=some .cell\/env.kindOf x=some .free)/\∃ c,env.cells.lookup x=some c/\h.IsCell c (some u))
structure Cx.Ok (X:Cx):Prop where
 mod:Mod X.K X.mg X.base
 kind:X.env.scope.kind = .function
 glob:X.env.globals=mainGlobals
 blt:X.env.builtins=builtinsNs
 above:X.s₀.heap.objs.size <= X.env.locals
 inj:∀ x y c,X.env.cells.lookup x=some c->X.env.cells.lookup y=some c->x=y
 has:∀ x,(X.env.kindOf x=some .cell\/X.env.kindOf x=some .free)->∃ c,X.env.cells.lookup x=some c
 rT:∀ x c,X.fn x=true->X.env.cells.lookup x=some c->X.s₀.heap.objs.size <= c
 hd:X.calm=true->X.A.handled=none
 frames:X.A.frames=some X.stack
 vd:X.stack=X.outer\/(X.stack=X.env :: X.outer/\X.env.frame=some X.env.locals)
 C4:∀ b∈X.ex,b≠X.env.locals/\∀ x c,X.env.cells.lookup x=some c->c≠b
 bs:∀ b o,X.base.get? b=some o->X.s₀.heap.get? b=some o/\X.H₀ b=none
 mN:X.base.objs.size <= X.s₀.heap.objs.size
 jL:∀ b o,X.base.get? b=some o->b∉X.ex
 lA:∀ b∈X.ex,b∉X.fs
 dR:X.s₀.heap.FunFrames X.base X.outer
 n5:∀ b∈X.fs,X.H₀ b=none
structure Inv (X:Cx) (pins:List (Addr × Obj)) (σ : List (Option V)) (H:Hp) (s:Shared):Prop where
 ok:X.Ok
 os:s.os=X.s₀.os
 bare:AllBare s.gens
 base:Un X.fs X.ex X.H₀ H X.s₀.heap s.heap
 loc:∃ m,s.heap.Ns X.env.locals m/\∀ (i:Nat) (x:Str) (v:V),X.N[i]? = some x -> σ[i]? = some (some v)->nZ X.env.scope x->∃ u,RelV v u/\Look X.env s.heap m x u
 cell:∀ x c,X.env.cells.lookup x=some c->∃ v,s.heap.IsCell c v
 free:H X.env.locals=none
 cb:∀ x c,X.env.cells.lookup x=some c->H c=none
 pin:∀ p∈X.pn ++ pins,s.heap.get? p.1=some p.2/\H p.1=none/\p.1≠X.env.locals/\p.1∉X.fs/\∀ v,p.2.data ≠ .cell v
 aJ:df X.prog X.w H s.heap
 len : σ.length=X.N.length
section
variable {X:Cx} {pins:List (Addr × Obj)} {σ : List (Option V)} {H H':Hp} {s:Shared} {h':Heap}
theorem Cx.Ok.xT (ok:X.Ok) {b:Addr} {o:Obj} (e:X.base.get? b=some o):b∉X.fs:=fun hb=>by
 have:=(ok.dR.mem hb).1
 rw[e] at this;cases this
theorem Inv.bs (I:Inv X pins σ H s):∀ b o,X.base.get? b=some o->s.heap.get? b=some o/\H b=none:=fun b o e =>
 ⟨I.base.keep b o (I.ok.bs b o e).1 (I.ok.bs b o e).2 (I.ok.xT e) (I.ok.jL b o e),I.base.free b o (I.ok.bs b o e).1 (I.ok.bs b o e).2 (I.ok.jL b o e)⟩
theorem Inv.bk (I:Inv X pins σ H s):∀ b o,X.base.get? b=some o->s.heap.get? b=some o:=fun b o e=>(I.bs b o e).1
theorem Inv.mod (I:Inv X pins σ H s):Mod X.K X.mg X.base:=I.ok.mod
theorem Inv.gx (I:Inv X pins σ H s):X.K.In s.heap:=I.ok.mod.mM.keeps I.bk
theorem Inv.nolimit (I:Inv X pins σ H s):s.heap.NoLimit:=I.ok.mod.nolimit.keeps I.bk
theorem Inv.lt (I:Inv X pins σ H s):X.env.locals < s.heap.objs.size:=let ⟨_,hn,_⟩:=I.loc;hn.lt
theorem Inv.sz (I:Inv X pins σ H s):X.s₀.heap.objs.size <= s.heap.objs.size:=Xg I.ok.above (XM I.lt)
theorem Inv.xU (I:Inv X pins σ H s) {a:Addr} (h:s.heap.objs.size <= a):a∉X.fs:=fun hb=>by
 obtain⟨_,o,ho,_⟩:=I.ok.dR.mem hb
 exact absurd (Wk (My ho) (Xg I.sz h)) (Xk _)
theorem Inv.n6 (I:Inv X pins σ H s):∀ x c,X.env.cells.lookup x=some c->c≠X.env.locals:=fun x c e z=>by
 obtain⟨v,o,ho,hd⟩:=I.cell x c e
 obtain⟨m,⟨o',es,ep,iW,Kp,_⟩,_⟩:=I.loc
 rw[z,iW] at ho;cases ho;rw[Kp] at hd;cases hd
theorem Inv.dR (I:Inv X pins σ H s):s.heap.FunFrames X.base X.outer:=by
 have all:∀ (l:List Env),(∀ b∈jA l,b∈X.fs)->X.s₀.heap.FunFrames X.base l->s.heap.FunFrames X.base l:=by
  intro l
  induction l with
  | nil=>intro _ _;trivial
  | cons env r ih =>
   intro hs hl
   obtain⟨hk,⟨L,o,hf,hn,ho,hd⟩,hr⟩:=hl
   have hL:L∈X.fs:=hs L (by unfold jA;rw[YQ,hf];exact yE)
   obtain⟨sl,e⟩:=I.base.slot L o ho (I.ok.n5 L hL) hL fun z=>I.ok.lA L z hL
   exact⟨hk,⟨L,_,hf,hn,e,hd⟩,ih (fun b hb=>hs b (by unfold jA;rw[YQ,hf];exact Mp _ hb)) hr⟩
 exact all X.outer (fun _ hb=>hb) I.ok.dR
theorem Inv.stack (I:Inv X pins σ H s):s.heap.FunFrames X.base X.stack:=by
 rcases I.ok.vd with e | ⟨e,hf⟩
 ·rw[e];exact I.dR
 ·rw[e]
  obtain⟨m,hn,_⟩:=I.loc
  refine .cons (by rw[I.ok.kind];decide) hf hn ?_ I.dR
  exact Heap.get?_none_of_le (Xg I.ok.mN I.ok.above)
theorem Inv.fQ (I:Inv X pins σ H s):∀ b∈jA X.stack,b∈X.env.locals :: X.fs:=fun b hb=>by
 rcases I.ok.vd with e | ⟨e,hf⟩
 ·rw[e] at hb;exact Mp _ hb
 ·rw[e] at hb
  unfold jA at hb
  rw[YQ,hf] at hb
  exact hb
theorem Inv.iE (I:Inv X pins σ H s):∀ b∈jA X.stack,H b=none:=fun b hb=>by
 rcases VE.mp (I.fQ b hb) with e | hb
 ·rw[e];exact I.free
 ·obtain⟨_,o,ho,_⟩:=I.ok.dR.mem hb
  exact I.base.free b o ho (I.ok.n5 b hb) fun z=>I.ok.lA b z hb
theorem Inv.step {g':Array GenState} {t':Nat} {d':Drawn} {ch:List Addr} (I:Inv X pins σ H s)
  (kK:∀ b∈ch,(b∈X.ex\/X.s₀.heap.objs.size <= b)/\b≠X.env.locals/\(∀ x c,X.env.cells.lookup x=some c->c≠b)/\∀ p∈X.pn ++ pins,p.1≠b)
  (keep:∀ b o,b≠X.env.locals->b∉X.fs->b∉ch->s.heap.get? b=some o->H b=none->h'.get? b=some o)
  (slot:∀ b o,b≠X.env.locals->b∈X.fs->b∉ch->s.heap.get? b=some o->H b=none->∃ sl,h'.get? b=some { o with slots:=sl }) (free:∀ b o,b∉ch->s.heap.get? b=some o->H b=none->H' b=none)
  (there:∀ b o,b∉ch->s.heap.get? b=some o->∃ o',h'.get? b=some o')
  (d6:∀ b xs,H b=some (.tup xs)->H' b=some (.tup xs)) (eV:∀ b o u,H b=some (.frz o u)->H' b=some (.frz o u)) (eW:∀ b ps,H b=some (.tbl ps)->∃ more,H' b=some (.tbl (ps ++ more)))
  (ns:∀ m,s.heap.Ns X.env.locals m->h'.Ns X.env.locals m) (aJ:df X.prog X.w H' h') (hg:AllBare g') :
  Inv X pins σ H' { s with heap:=h',gens:=g',drawn:=d',toks:=t' }:=by
 have C5:∀ b o,X.s₀.heap.get? b=some o->b≠X.env.locals:=fun b o e=>Wi (Wk (My e) I.ok.above)
 have ve:∀ b o,X.s₀.heap.get? b=some o->b∉X.ex->b∉ch:=fun b o e hx hb=>by
  rcases (kK b hb).1 with z | z
  ·exact hx z
  ·exact absurd (Wk (My e) z) (Xk _)
 have cellK:∀ x c,X.env.cells.lookup x=some c->∀ v,s.heap.IsCell c v->h'.IsCell c v:=fun x c e v ⟨o,ho,hd⟩=>by
  have mO:c∉ch:=fun z=>(kK c z).2.2.1 x c e rfl
  by_cases hc:c∈X.fs
  ·obtain⟨sl,q⟩:=slot c o (I.n6 x c e) hc mO ho (I.cb x c e)
   exact⟨_,q,hd⟩
  ·exact⟨o,keep c o (I.n6 x c e) hc mO ho (I.cb x c e),hd⟩
 refine⟨I.ok,I.os,hg,⟨fun b o e n hb hx => ?_,fun b o e n hb hx => ?_,fun b o e n hx => ?_,fun b o e hx => ?_,fun b xs e=>d6 b xs (I.base.d6 b xs e),fun b o xs e=>eV b o xs (I.base.eV b o xs e),fun b ps e => ?_⟩,?_,fun x c e => ?_,?_,fun x c e => ?_,fun p hp => ?_,aJ,I.len⟩
 ·exact keep b o (C5 b o e) hb (ve b o e hx) (I.base.keep b o e n hb hx) (I.base.free b o e n hx)
 ·obtain⟨sl,e1⟩:=I.base.slot b o e n hb hx
  obtain⟨xV,e2⟩:=slot b _ (C5 b o e) hb (ve b o e hx) e1 (I.base.free b o e n hx)
  exact⟨xV,e2⟩
 ·obtain⟨o',e1⟩:=I.base.there b o e hx
  exact free b o' (ve b o e hx) e1 (I.base.free b o e n hx)
 ·obtain⟨o',e1⟩:=I.base.there b o e hx
  exact there b o' (ve b o e hx) e1
 ·obtain⟨m1,e1⟩:=I.base.eW b ps e
  obtain⟨m2,e2⟩:=eW b _ e1
  exact⟨m1 ++ m2,by rw[e2,Array.append_assoc]⟩
 ·obtain⟨m,hn,hl⟩:=I.loc
  refine⟨m,ns m hn,fun i x v e1 e2 e3 => ?_⟩
  obtain⟨u,r,l⟩:=hl i x v e1 e2 e3
  refine⟨u,r,?_⟩
  rcases l with l | ⟨k,c,e,z⟩
  ·exact .inl l
  ·exact .inr ⟨k,c,e,cellK x c e _ z⟩
 ·obtain⟨v,z⟩:=I.cell x c e
  exact⟨v,cellK x c e v z⟩
 ·obtain⟨m,⟨o,_,_,ho,_⟩,_⟩:=I.loc
  exact free _ o (fun z=>(kK _ z).2.1 rfl) ho I.free
 ·obtain⟨v,o,ho,hd⟩:=I.cell x c e
  exact free c o (fun z=>(kK c z).2.2.1 x c e rfl) ho (I.cb x c e)
 ·obtain⟨e,n,ne,nf,d⟩:=I.pin p hp
  have mO:p.1∉ch:=fun z=>(kK p.1 z).2.2.2 p hp rfl
  exact⟨keep p.1 p.2 ne nf mO e n,free p.1 p.2 mO e n,ne,nf,d⟩
theorem Inv.un {t':Nat} (I:Inv X pins σ H s) (u:Un X.fs [] H H' s.heap h') (aJ:df X.prog X.w H' h'):Inv X pins σ H' { s with heap:=h',toks:=t' }:=by
 obtain⟨m,⟨o,es,ep,ho,r⟩,_⟩:=id I.loc
 obtain⟨sl,hL⟩:=u.any ho I.free (by simp)
 exact I.step (g':=s.gens) (d':=s.drawn) (ch:=[]) (fun _ z=>nomatch z) (fun b o _ hb _ e n=>u.keep b o e n hb (by simp)) (fun b o _ hb _ e n=>u.slot b o e n hb (by simp)) (fun b o _ e n=>u.free b o e n (by simp)) (fun b o _ e=>u.there b o e (by simp)) u.d6 u.eV u.eW (fun m' hm=>by
  obtain⟨o',rU,xW,iW,r'⟩:=hm
  rw[ho] at iW;cases iW
  exact⟨_,rU,xW,hL,r'⟩) aJ I.bare
theorem Inv.call {g':Array GenState} {t':Nat} {d':Drawn} {ch:List Addr} (I:Inv X pins σ H s) (u:Un (jA X.stack) ch H H' s.heap h') (aJ:df X.prog X.w H' h') (hg:AllBare g')
  (kK:∀ b∈ch,(b∈X.ex\/X.s₀.heap.objs.size <= b)/\b≠X.env.locals/\(∀ x c,X.env.cells.lookup x=some c->c≠b)/\∀ p∈X.pn ++ pins,p.1≠b) :
  Inv X pins σ H' { s with heap:=h',gens:=g',drawn:=d',toks:=t' }:=by
 obtain⟨m,⟨o,es,ep,ho,r⟩,_⟩:=id I.loc
 obtain⟨sl,hL⟩:=u.any ho I.free fun z=>(kK _ z).2.1 rfl
 exact I.step (ch:=ch) kK (fun b o hL hb hc e n=>u.keep b o e n (fun z=>(VE.mp (I.fQ b z)).elim hL hb) hc) (fun b o _ _ hc e n=>u.any e n hc) (fun b o hc e n=>u.free b o e n hc) (fun b o hc e=>u.there b o e hc) u.d6 u.eV u.eW (fun m' hm=>by
  obtain⟨o',rU,xW,iW,r'⟩:=hm
  rw[ho] at iW;cases iW
  exact⟨_,rU,xW,hL,r'⟩) aJ hg
theorem Inv.turned {t':Nat} {it:Addr} (I:Inv X pins σ H s) (k:∀ b o,b≠it->s.heap.get? b=some o->h'.get? b=some o) (hn:H it=none) (hL:it≠X.env.locals)
  (h1:it∈X.ex\/X.s₀.heap.objs.size <= it) (h2:∀ x c,X.env.cells.lookup x=some c->c≠it) (h3:∀ p∈X.pn ++ pins,p.1≠it):Inv X pins σ H { s with heap:=h',toks:=t' }:=by
 have C6:∀ b u,H b=some u->b≠it:=fun b u e z=>by rw[z,hn] at e;cases e
 refine I.step (g':=s.gens) (d':=s.drawn) (ch:=[it]) (fun b hb => ?_) (fun b o _ _ hc e _=>k b o (fun z=>hc (by simp[z])) e) (fun b o _ _ hc e _=>⟨o.slots,k b o (fun z=>hc (by simp[z])) e⟩) (fun _ _ _ _ n=>n)
  (fun b o hc e=>⟨o,k b o (fun z=>hc (by simp[z])) e⟩) (fun _ _ e=>e) (fun _ _ _ e=>e) (fun b ps e=>⟨#[],by rw[e];simp⟩) (fun m hm => ?_) (fun b u e => ?_) I.bare
 ·have e:b=it:=by simpa using hb
  subst e
  exact⟨h1,hL,h2,h3⟩
 ·obtain⟨o,es,ep,ho,r⟩:=hm
  exact⟨o,es,ep,k _ o (Yi hL) ho,r⟩
 ·refine (I.aJ b u e).eU (fun c v hc q=>k c v ?_ q) (fun _ q=>q) fun _ _ q=>q
  rcases hc with z | z
  ·rw[z];exact C6 b u e
  ·exact C6 c _ z
theorem Inv.tok (I:Inv X pins σ H s) (t:Nat):Inv X pins σ H { s with toks:=t }:=I.un (h':=s.heap) (t':=t) Un.refl I.aJ
theorem Inv.kept {t':Nat} (I:Inv X pins σ H s) (k:∀ b u,s.heap.get? b=some u->h'.get? b=some u):Inv X pins σ H { s with heap:=h',toks:=t' }:=I.un (Un.kept k) (I.aJ.kept k)
theorem Inv.laid {a:Addr} {o:HO} {t':Nat} (I:Inv X pins σ H s) (k:∀ b u,s.heap.get? b=some u->h'.get? b=some u) (hp:s.heap.objs.size <= a) (new:aI X.prog X.w (upd H a o) h' a o) :
  Inv X pins σ (upd H a o) { s with heap:=h',toks:=t' }:=I.un (Un.laid k hp (I.aJ.fresh hp)) (I.aJ.laid k hp new)
theorem Inv.write {x e:Addr} {o:HO} {t':Nat} (I:Inv X pins σ H s) (mu:rR (H x)) (he:e=x\/H e=some (.own x)) (k:∀ b u,b≠e->s.heap.get? b=some u->h'.get? b=some u) (kJ:∃ u,h'.get? e=some u)
  (new:aI X.prog X.w (upd H x o) h' x o):Inv X pins σ (upd H x o) { s with heap:=h',toks:=t' }:=I.un (Un.write mu he k kJ) (I.aJ.write mu he k kJ new)
theorem Inv.d3 {bz:List (Addr × Obj)} (I:Inv X pins σ H s) (h:∀ p∈bz,s.heap.get? p.1=some p.2/\H p.1=none/\p.1≠X.env.locals/\p.1∉X.fs/\∀ v,p.2.data ≠ .cell v):Inv X bz σ H s :=
 ⟨I.ok,I.os,I.bare,I.base,I.loc,I.cell,I.free,I.cb,fun p hp=>(WD.mp hp).elim (fun z=>I.pin p (WJ _ z)) (h p),I.aJ,I.len⟩
theorem C7 {N:List Str} (hN:N.Nodup) {i j:Nat} {x:Str} (a:N[i]? = some x) (b:N[j]? = some x):i=j:=by
 obtain⟨h1,e1⟩:=oR.mp a
 obtain⟨h2,e2⟩:=oR.mp b
 exact (XU hN).mp (e1.trans e2.symm)
theorem C8 {M:Model} {A:Around} {E:Value->Shared->Prop} {i:Nat} {x:Str} {v:V} {u:Value} {Q:Unit->Shared->Prop} (I:Inv X pins σ H s) (hN:X.N.Nodup) (hi:X.N[i]? = some x) (hx:Loc X.env.scope x) (r:RelV v u)
  (h:∀ s',Inv X pins (σ.set i (some v)) H s'->(∃ a,Heap.SameBut a s.heap s'.heap/\(a=X.env.locals\/X.env.cells.lookup x=some a))->Q () s') (hf:X.fn x=true\/X.env.scope.names.lookup x=some .local:=by first | exact .inl rfl | exact .inr rfl | assumption):wpAny M A (storeName X.env x u) Q E s:=by
 obtain⟨m,hn,hl⟩:=id I.loc
 have xX:(X.env.scope.kind == .class || (X.env.scope.kind == .module && X.env.locals != X.env.globals))=false:=by rw[I.ok.kind];rfl
 have C9:i < σ.length:=by rw[I.len];exact (oR.mp hi).1
 have n6:=I.n6
 have tracked:∀ {a:Addr} {h':Heap},(∃ o,s.heap.get? a=some o/\H a=none)->Heap.SameBut a s.heap h'->df X.prog X.w H h':=fun {a h'} ha hs b ob e=>by
  obtain⟨_,_,mP⟩:=ha
  refine (I.aJ b ob e).eU (fun c w' hc q=>(hs.2 c ?_).trans q) (fun _ q=>q) fun _ _ q=>q
  rintro rfl
  rcases hc with rfl | hc
  ·rw[mP] at e;cases e
  ·rw[mP] at hc;cases hc
 rcases hx with hk | hk
 ·refine wpAny_storeName_local hk hn (fun h' iC hs => ?_) xX
  obtain⟨oL,_,_,vf,_⟩:=id hn
  refine h _ ⟨I.ok,I.os,I.bare,⟨fun b o e n hb hx => ?_,fun b o e n hb hx => ?_,I.base.free,fun b o e hx => ?_,I.base.d6,I.base.eV,I.base.eW⟩,⟨_,iC,fun j y v' e1 e2 e3 => ?_⟩,fun y c e => ?_,I.free,I.cb,fun p hp => ?_,tracked ⟨oL,vf,I.free⟩ hs,by simpa using I.len⟩ ⟨_,hs,.inl rfl⟩
  ·exact (hs.2 b (Wi (Wk (My e) I.ok.above))).trans (I.base.keep b o e n hb hx)
  ·obtain⟨sl,e1⟩:=I.base.slot b o e n hb hx
   exact⟨sl,(hs.2 b (Wi (Wk (My e) I.ok.above))).trans e1⟩
  ·obtain⟨o',e1⟩:=I.base.there b o e hx
   exact⟨o',(hs.2 b (Wi (Wk (My e) I.ok.above))).trans e1⟩
  ·by_cases hj:j=i
   ·subst hj
    rw[hi] at e1;cases e1
    rw[Xh C9] at e2
    cases e2
    exact⟨u,r,.inl ⟨hk,by simp⟩⟩
   ·rw[Xf (Yi hj)] at e2
    obtain⟨u',r',q⟩:=hl j y v' e1 e2 e3
    refine⟨u',r',?_⟩
    rcases q with⟨k,e⟩ | ⟨k,c,e,z⟩
    ·refine .inl ⟨k,?_⟩
     have:y≠x:=fun e=>hj (C7 hN e1 (e ▸ hi))
     simp[this,e]
    ·exact .inr ⟨k,c,e,z.sameBut hs (n6 y c e)⟩
  ·obtain⟨w',z⟩:=I.cell y c e
   exact⟨w',z.sameBut hs (n6 y c e)⟩
  ·obtain⟨e,n,ne,nf,d⟩:=I.pin p hp
   exact⟨(hs.2 p.1 ne).trans e,n,ne,nf,d⟩
 ·have lB:X.fn x=true:=by
   rcases hf with z | z
   ·exact z
   ·rw[z] at hk;cases hk
  obtain⟨c,hc⟩:=I.ok.has x (.inl hk)
  obtain⟨w',z⟩:=I.cell x c hc
  refine wpAny_storeName_cell I.ok.kind hk hc z (fun h' gy hs => ?_)
  obtain⟨oc,kL,xY⟩:=id z
  refine h { s with heap:=h' } ⟨I.ok,I.os,I.bare,⟨fun b o e n hb hx => ?_,fun b o e n hb hx => ?_,I.base.free,fun b o e hx => ?_,I.base.d6,I.base.eV,I.base.eW⟩,⟨m,hn.sameBut hs (Yi (n6 x c hc)),fun j y v' e1 e2 e3 => ?_⟩,fun y c' e => ?_,I.free,I.cb,fun p hp => ?_,tracked ⟨oc,kL,I.cb x c hc⟩ hs,by simpa using I.len⟩ ⟨c,hs,.inr hc⟩
  ·exact (hs.2 b (Wi (Wk (My e) (I.ok.rT x c lB hc)))).trans (I.base.keep b o e n hb hx)
  ·obtain⟨sl,e1⟩:=I.base.slot b o e n hb hx
   exact⟨sl,(hs.2 b (Wi (Wk (My e) (I.ok.rT x c lB hc)))).trans e1⟩
  ·obtain⟨o',e1⟩:=I.base.there b o e hx
   exact⟨o',(hs.2 b (Wi (Wk (My e) (I.ok.rT x c lB hc)))).trans e1⟩
  ·by_cases hj:j=i
   ·subst hj
    rw[hi] at e1;cases e1
    rw[Xh C9] at e2
    cases e2
    exact⟨u,r,.inr ⟨.inl hk,c,hc,gy⟩⟩
   ·rw[Xf (Yi hj)] at e2
    obtain⟨u',r',q⟩:=hl j y v' e1 e2 e3
    refine⟨u',r',?_⟩
    rcases q with q | ⟨k,c',e,z'⟩
    ·exact .inl q
    ·refine .inr ⟨k,c',e,z'.sameBut hs ?_⟩
     rintro rfl
     exact hj (C7 hN e1 (I.ok.inj _ _ _ e hc ▸ hi))
  ·by_cases hcc:c'=c
   ·subst hcc;exact⟨_,gy⟩
   ·obtain⟨w2,z2⟩:=I.cell y c' e
    exact⟨w2,z2.sameBut hs hcc⟩
  ·obtain⟨e,n,ne,nf,d⟩:=I.pin p hp
   refine⟨(hs.2 p.1 ?_).trans e,n,ne,nf,d⟩
   intro q
   rw[q,kL] at e
   have q':oc=p.2:=Wx e
   exact d w' (by rw[<-q'];exact xY)
theorem C_ {M:Model} {A:Around} {E:Value->Shared->Prop} {i:Nat} {x:Str} {v:V} {u:Value} {Q:Unit->Shared->Prop} (I:Inv X pins σ H s) (hN:X.N.Nodup) (hi:X.N[i]? = some x) (hx:Loc X.env.scope x) (r:RelV v u)
  (h:∀ s',Inv X pins (σ.set i (some v)) H s'->Q () s') (hf:X.fn x=true\/X.env.scope.names.lookup x=some .local:=by first | exact .inl rfl | exact .inr rfl | assumption):wpAny M A (storeName X.env x u) Q E s :=
 C8 I hN hi hx r (fun s' I' _=>h s' I') hf
theorem Inv.rV {s':Shared} {ch:List Addr} (I:Inv X pins σ H s) (ho:s'.os=s.os) (u:Un (jA X.stack) ch H H' s.heap s'.heap) (aJ:df X.prog X.w H' s'.heap) (hg:AllBare s'.gens)
  (kK:∀ b∈ch,(b∈X.ex\/X.s₀.heap.objs.size <= b)/\b≠X.env.locals/\(∀ x c,X.env.cells.lookup x=some c->c≠b)/\∀ p∈X.pn ++ pins,p.1≠b):Inv X pins σ H' s':=by
 obtain⟨h',g',d',t',o'⟩:=s'
 have e:o'=s.os:=ho
 subst e
 exact I.call (g':=g') (t':=t') (d':=d') u aJ hg kK
end
noncomputable abbrev XK:=Value->Option Addr->Hp->Prop
noncomputable abbrev St:=List (Option V)
noncomputable abbrev VK:=V->Hp->Prop
noncomputable abbrev TE:=St->Hp->VK->Prop
noncomputable abbrev TT:=St->Hp->(Bool->Hp->Prop)->Prop
noncomputable abbrev TA:=St->Hp->(List V->Hp->Prop)->Prop
structure Ends where
 nx:St->Hp->Prop
 rt:VK
 bk:St->Hp->Prop:=fun _ _=>False
 ct:St->Hp->Prop:=fun _ _=>False
noncomputable abbrev TS:=Ends->St->Hp->Prop
noncomputable def EP (X:Cx) (pins:List (Addr × Obj)) (σ : St) (Q:VK) (u:Value) (s':Shared):Prop:=∃ v H',Inv X pins σ H' s'/\RelV v u/\Q v H'
noncomputable def TP (X:Cx) (pins:List (Addr × Obj)) (σ : St) (Q:Bool->Hp->Prop) (b:Bool) (s':Shared):Prop:=∃ H',Inv X pins σ H' s'/\Q b H'
noncomputable def AP (X:Cx) (pins:List (Addr × Obj)) (σ : St) (Q:List V->Hp->Prop) (us:List Value) (s':Shared):Prop:=∃ vs H',Inv X pins σ H' s'/\Vals vs us/\Q vs H'
noncomputable def SP (X:Cx) (pins:List (Addr × Obj)) (D:Ends) (f:Flow) (s':Shared):Prop :=
 match f with
 | .next=>∃ σ' H',Inv X pins σ' H' s'/\D.nx σ' H'
 | .brk=>∃ σ' H',Inv X pins σ' H' s'/\D.bk σ' H'
 | .cont=>∃ σ' H',Inv X pins σ' H' s'/\D.ct σ' H'
 | .ret u=>∃ v σ' H',Inv X pins σ' H' s'/\RelV v u/\D.rt v H'
noncomputable def PE (X:Cx) (e:Expr) (t:TE):Prop :=
 ∀ (pins:List (Addr × Obj)) (s:Shared) (σ : St) (H:Hp) (Q:VK),Inv X pins σ H s->t σ H Q->wpAny (model X.prog X.w) X.A (eval e X.env) (EP X pins σ Q) X.xe s
noncomputable def PT (X:Cx) (e:Expr) (t:TT):Prop :=
 ∀ (pins:List (Addr × Obj)) (s:Shared) (σ : St) (H:Hp) (Q:Bool->Hp->Prop),Inv X pins σ H s->t σ H Q->wpAny (model X.prog X.w) X.A (isTrue e X.env (eval e X.env)) (TP X pins σ Q) X.xe s
noncomputable def PW (X:Cx) (e:Expr) (t:TT):Prop :=
 ∀ (whole:Sem Value) (pins:List (Addr × Obj)) (s:Shared) (σ : St) (H:Hp) (Q:Bool->Hp->Prop),Inv X pins σ H s->t σ H Q->wpAny (model X.prog X.w) X.A (isTrue e X.env whole) (TP X pins σ Q) X.xe s
theorem PW.pt {X:Cx} {e:Expr} {t:TT} (h:PW X e t):PT X e t:=h _
noncomputable def PA (X:Cx) (es:List Expr) (t:TA):Prop :=
 ∀ (pos:Pos) (pins:List (Addr × Obj)) (s:Shared) (σ : St) (H:Hp) (Q:List V->Hp->Prop),Inv X pins σ H s->t σ H Q->wpAny (model X.prog X.w) X.A (spliced (backTo pos (starEach es X.env))) (AP X pins σ Q) X.xe s
noncomputable def PS (X:Cx) (st:Stmt) (t:TS):Prop :=
 ∀ (pins:List (Addr × Obj)) (s:Shared) (σ : St) (H:Hp) (D:Ends),Inv X pins σ H s->t D σ H->wpAny (model X.prog X.w) X.A (exec st X.env) (SP X pins D) X.xe s
noncomputable def gz (X:Cx) (st:List Stmt) (t:TS):Prop :=
 ∀ (pins:List (Addr × Obj)) (s:Shared) (σ : St) (H:Hp) (D:Ends),Inv X pins σ H s->t D σ H->wpAny (model X.prog X.w) X.A (execs st X.env) (SP X pins D) X.xe s
theorem a6 {α : Type} {t:Sem α} {Q Q' : α -> Shared->Prop} {M:Model} {A:Around} {E:Value->Shared->Prop} {s:Shared} (h:wpAny M A t Q E s) (hQ:∀ a s,Q a s->Q' a s):wpAny M A t Q' E s:=XW h hQ fun _ _ x=>x
section
variable {X:Cx}
noncomputable def eY (i:Nat):TE:=fun σ H Q=>∃ v,σ[i]? = some (some v)/\Q v H
noncomputable def tC (v:V):TE:=fun _ H Q=>Q v H
theorem Dc {i:Nat} {x:Str} {pos:Pos} (hN:X.N[i]? = some x) (hv:nZ X.env.scope x) (hd:(x == ("__debug__" : Str))=false:=by decide) (d7:(x == ("__classdict__" : Str))=false:=by decide):PE X (.Name x pos) (eY i):=by
 intro pins s σ H Q I h
 obtain⟨v,e,h⟩:=h
 obtain⟨m,hn,hl⟩:=I.loc
 obtain⟨u,r,l⟩:=hl i x v hN e hv
 have fin:EP X pins σ Q u s:=⟨v,H,I,r,h⟩
 rcases l with⟨hk,hm⟩ | ⟨hk,c,hc,mQ⟩
 ·exact wpAny_Name (wpAny_loadName_local I.ok.kind hk hn hm fin) hd
 ·rcases hk with hk | hk
  ·exact wpAny_Name (wpAny_loadName_cell I.ok.kind hk hc mQ fin) hd
  ·exact wpAny_Name (wpAny_loadName_free I.ok.kind hk hc mQ fin d7) hd
theorem Kq {i j pos}:PE X (.Constant (.int i) j pos) (tC (.int i)):=fun _ _ _ H _ I h=>wpAny_Constant_int ⟨.int i,H,I.tok _,⟨_,rfl⟩,h⟩
theorem Kr {b j pos}:PE X (.Constant (.bool b) j pos) (tC (.bl b)):=fun _ _ _ H _ I h=>Constant_bool ⟨.bl b,H,I,rfl,h⟩
theorem Ks {j pos}:PE X (.Constant .none j pos) (tC .non):=fun _ _ _ H _ I h=>Constant_none ⟨.non,H,I,rfl,h⟩
noncomputable def Gl (X:Cx) (x:Str):Prop:=X.env.kindOf x=some .globalImplicit
theorem De {E:Value->Shared->Prop} {pins:List (Addr × Obj)} {s:Shared} {σ : St} {H:Hp} {x:Str} {u:Value} {pos:Pos} {Q:Value->Shared->Prop} (I:Inv X pins σ H s) (hg:Gl X x) (hm:X.mg x=some u) (h:Q u s)
  (hd:(x == ("__debug__" : Str))=false:=by decide):wpAny (model X.prog X.w) X.A (eval (.Name x pos) X.env) Q E s :=
 Calls.Name_function_global I.ok.kind hg (Calls.loadGlobal_global (by rw[I.ok.glob];exact I.mod.glob.keeps I.bk) hm h) hd
theorem kM {E:Value->Shared->Prop} {pins:List (Addr × Obj)} {s:Shared} {σ : St} {H:Hp} {x:Str} {u:Value} {pos:Pos} {Q:Value->Shared->Prop} (I:Inv X pins σ H s) (hg:Gl X x) (hm:X.mg x=none) (hv:bootBuiltins x=some u) (h:Q u s)
  (hn:x ≠ "__name__" := by decide) (hd:(x == ("__debug__" : Str))=false:=by decide):wpAny (model X.prog X.w) X.A (eval (.Name x pos) X.env) Q E s:=by
 obtain⟨mb,h1,h2⟩:=I.mod.blt
 exact Calls.Name_function_global I.ok.kind hg (Calls.loadGlobal_builtin (by rw[I.ok.glob];exact I.mod.glob.keeps I.bk) hm (by rw[I.ok.blt];exact h1.keeps I.bk) ((h2 x hn).trans hv) h) hd
theorem Kt {x:Str} {v:V} {u:Value} {pos:Pos} (hg:Gl X x) (hm:X.mg x=some u) (r:RelV v u) (hd:(x == ("__debug__" : Str))=false:=by decide):PE X (.Name x pos) (tC v) :=
 fun _ _ _ H _ I h=>De I hg hm ⟨v,H,I,r,h⟩ hd
theorem Ku {x:Str} {v:V} {u:Value} {pos:Pos} (hg:Gl X x) (hm:X.mg x=none) (hv:bootBuiltins x=some u) (r:RelV v u) (hn:x ≠ "__name__" := by decide) (hd:(x == ("__debug__" : Str))=false:=by decide):PE X (.Name x pos) (tC v) :=
 fun _ _ _ H _ I h=>kM I hg hm hv ⟨v,H,I,r,h⟩ hn hd
variable {a b:Expr} {ta tb:TE} {pos:Pos}
noncomputable def PC (X:Cx) (op:CmpOp) (a b:Expr) (t:TE):Prop :=
 ∀ (pins:List (Addr × Obj)) (s:Shared) (σ : St) (H:Hp) (Q:VK),Inv X pins σ H s->t σ H Q →
  wpAny (model X.prog X.w) X.A (eval a X.env) (fun v s₁ => wpAny (model X.prog X.w) X.A (eval b X.env) (fun u s₂ => wpAny (model X.prog X.w) X.A (compareOp op v u) (EP X pins σ Q) X.xe s₂) X.xe s₁) X.xe s
noncomputable def tB (t:TE):TT:=fun σ H Q=>t σ H fun x H1=>∃ c,x = .bl c/\Q c H1
theorem Kv {op:CmpOp} {t:TE} (h:PC X op a b t) (h1:behindInMarks op b=false:=by first | exact Kw _ (by decide) (by decide) | rfl):PT X (.Compare a [op] [b] pos) (tB t):=by
 intro pins s σ H Q I hw
 refine wpAny_isTrue_Compare1 (a6 (h pins s σ H _ I hw) fun v s1 h1=>a6 h1 fun u s2 h2=>a6 h2 fun c s3 h0_ => el5 h0_ fun x H1 I1 r1 q1 => ?_) h1
 obtain⟨d,rfl,q⟩:=q1
 cases r1
 exact XB ⟨H1,I1,q⟩
theorem Kx {e:Expr} {t:TE} (h:PE X e t) (he:∀ whole,isTrue e X.env whole=(do let v <- whole;standAt e.pos;holding [v] (truthy v)):=by intro _;rfl):PT X e (tB t):=by
 intro pins s σ H Q I hw
 refine isTrue_plain (a6 (h pins s σ H _ I hw) fun v s1 h0_ => el5 h0_ fun x H1 I1 r1 q1 => ?_) (he _)
 obtain⟨d,rfl,q⟩:=q1
 cases r1
 exact XB ⟨H1,I1,q⟩
variable {tA kN:TT} {rest:List Expr}
noncomputable def n8 (t u:TT):TT:=fun σ H Q=>t σ H fun c H1=>if c=true then u σ H1 Q else Q false H1
noncomputable def xZ (t u:TT):TT:=fun σ H Q=>t σ H fun c H1=>if c=true then Q true H1 else u σ H1 Q
noncomputable def rW (t:TT):TT:=fun σ H Q=>t σ H fun c H1=>Q (!c) H1
theorem Ky (ha:PT X a tA):PW X (.BoolOp .And [a] pos) tA:=by
 intro wh pins s σ H Q I h
 refine isTrue_and (a6 (ha pins s σ H Q I h) fun c s1 e => ?_)
 cases c with
 | true=>exact isTrue_and_nil e
 | false=>exact e
theorem Kz (ha:PT X a tA):PW X (.BoolOp .Or [a] pos) tA:=by
 intro wh pins s σ H Q I h
 refine isTrue_or (a6 (ha pins s σ H Q I h) fun c s1 e => ?_)
 cases c with
 | false=>exact isTrue_or_nil e
 | true=>exact e
theorem KC (ha:PT X a tA) (hb:PW X (.BoolOp .And (b :: rest) pos) kN):PW X (.BoolOp .And (a :: b :: rest) pos) (n8 tA kN):=by
 intro wh pins s σ H Q I h
 refine isTrue_and (a6 (ha pins s σ H _ I h) fun c s1 h0_ => el3 h0_ fun H1 I1 q1 => ?_)
 cases c with
 | true=>exact hb wh pins s1 σ H1 Q I1 q1
 | false=>exact⟨H1,I1,q1⟩
theorem KD (ha:PT X a tA) (hb:PW X (.BoolOp .Or (b :: rest) pos) kN):PW X (.BoolOp .Or (a :: b :: rest) pos) (xZ tA kN):=by
 intro wh pins s σ H Q I h
 refine isTrue_or (a6 (ha pins s σ H _ I h) fun c s1 h0_ => el3 h0_ fun H1 I1 q1 => ?_)
 cases c with
 | true=>exact⟨H1,I1,q1⟩
 | false=>exact hb wh pins s1 σ H1 Q I1 q1
theorem KG (ha:PT X a tA):PT X (.UnaryOp .Not a pos) (rW tA):=by
 intro pins s σ H Q I h
 exact isTrue_not (ha pins s σ H (fun c H1=>Q (!c) H1) I h)
noncomputable def Df (ta tb:TE):TE:=fun σ H Q=>ta σ H fun x H1=>∃ c,x = .bl c/\if c=true then tb σ H1 Q else Q (.bl false) H1
noncomputable def Dg (ta:TE):TE:=fun σ H Q=>ta σ H fun x H1=>∃ c,x = .bl c/\Q (.bl (!c)) H1
theorem KH {op} {t:TE} (h:PE X a t):PE X (.BoolOp op [a] pos) t:=fun pins s σ H Q I hw=>BoolOp_one (h pins s σ H Q I hw)
theorem KI (ha:PE X a ta) (hb:PE X (.BoolOp .And (b :: rest) pos) tb):PE X (.BoolOp .And (a :: b :: rest) pos) (Df ta tb):=by
 intro pins s σ H Q I h
 refine BoolOp_and (a6 (ha pins s σ H _ I h) fun v s1 h0_ => el5 h0_ fun x H1 I1 r1 q1 => ?_)
 obtain⟨c,rfl,q1⟩:=q1
 cases r1
 refine XB ?_
 cases c with
 | true=>exact hb pins s1 σ H1 Q I1 q1
 | false=>exact⟨.bl false,H1,I1,rfl,q1⟩
theorem KJ (ha:PE X a ta):PE X (.UnaryOp .Not a pos) (Dg ta):=by
 intro pins s σ H Q I h
 refine UnaryOp_ (a6 (ha pins s σ H _ I h) fun v s1 h0_ => el5 h0_ fun x H1 I1 r1 q1 => ?_)
 obtain⟨c,rfl,q1⟩:=q1
 cases r1
 exact not_of (XB ⟨.bl (!c),H1,I1,rfl,q1⟩)
noncomputable def Dh (t:TT) (ta tb:TE):TE:=fun σ H Q=>t σ H fun c H1=>if c=true then ta σ H1 Q else tb σ H1 Q
theorem KN {c:Expr} (hc:PT X c tA) (ha:PE X a ta) (hb:PE X b tb):PE X (.IfExp c a b pos) (Dh tA ta tb):=by
 intro pins s σ H Q I h
 refine wpAny_IfExp (a6 (hc pins s σ H _ I h) fun d s1 h0_ => el3 h0_ fun H1 I1 q1 => ?_)
 cases d with
 | true=>exact ha pins s1 σ H1 Q I1 q1
 | false=>exact hb pins s1 σ H1 Q I1 q1
end
noncomputable def a7 (K:PySem.W.Frag) (H:Hp) (a:Addr) (xs:List V):Prop :=
 Rd H a (.lst xs) ∨
  ∃ (o:Obj) (aj:Array Value) (n:Nat),K.lookup a=some o/\o.cls = .type "list" /\ o.dict=none/\o.data = .seq aj n/\aj.size <= sizeLine/\Vals xs aj.toList
noncomputable def bC (K:PySem.W.Frag) (H:Hp) (a:Addr) (xs:List V):Prop :=
 Rd H a (.tup xs) ∨
  ∃ (o:Obj) (aj:Array Value) (n:Nat),K.lookup a=some o/\o.cls = .type "tuple" /\ o.data = .seq aj n/\aj.size <= sizeLine/\Vals xs aj.toList
noncomputable def x4:Value->Option V
 | .none=>some .non
 | .bool b=>some (.bl b)
 | .int i _=>some (.int i)
 | .str x _=>some (.str x)
 | .bytes b _=>some (.byt b)
 | .float b _=>some (.flt b)
 | .ref a=>some (.ref a)
 | .type n=>some (.ty n)
 | _=>none
theorem RelV.abs {x:V} {u:Value} (r:RelV x u):x4 u=some x:=by
 cases x with
 | non=>cases r;rfl
 | bl _=>cases r;rfl
 | int _=>obtain⟨t,rfl⟩:=r;rfl
 | str _=>obtain⟨t,rfl⟩:=r;rfl
 | byt _=>obtain⟨t,rfl⟩:=r;rfl
 | flt _=>obtain⟨t,rfl⟩:=r;rfl
 | ref _=>cases r;rfl
 | ty _=>cases r;rfl
theorem RelV.inj {x y:V} {u:Value} (r:RelV x u) (q:RelV y u):x=y:=Wx (r.abs.symm.trans q.abs)
theorem Vals.inj:∀ {xs ys:List V} {us:List Value},Vals xs us->Vals ys us->xs=ys
 | _,_,_,.nil,.nil=>rfl
 | _,_,_,.cons r t,.cons r' t'=>by rw[r.inj r',Vals.inj t t']
section
variable {X:Cx} {pins:List (Addr × Obj)} {σ : St} {H:Hp} {s:Shared} {a:Addr} {xs ys:List V}
theorem a7.of {K:PySem.W.Frag} (h:H a=some (.lst xs)):a7 K H a xs := .inl (.inl h)
theorem bC.of {K:PySem.W.Frag} (h:H a=some (.tup xs)):bC K H a xs := .inl (.inl h)
theorem Inv.list (I:Inv X pins σ H s) (h:a7 X.K H a xs):∃ aj:List Value,Vals xs aj/\PlainL s.heap a aj.toArray/\xs.length <= sizeLine:=by
 rcases h with h | ⟨o,aj,n,hk,hc,hd,hs,hz,r⟩
 ·obtain⟨z,aj,n,r,e⟩:=h.ok I.aJ
  exact⟨aj,r,⟨_,n,e,rfl,rfl,rfl⟩,z⟩
 ·refine⟨aj.toList,r,⟨o,n,I.gx a o hk,hc,hd,by simpa using hs⟩,?_⟩
  have e:=r.length
  simp only[Ms] at e
  omega
theorem Inv.tuple (I:Inv X pins σ H s) (h:bC X.K H a xs):∃ aj:List Value,Vals xs aj/\IsTup s.heap a aj.toArray/\xs.length <= sizeLine:=by
 rcases h with h | ⟨o,aj,n,hk,hc,hs,hz,r⟩
 ·obtain⟨z,aj,r,p⟩:=h.ok I.aJ
  exact⟨aj,r,p,z⟩
 ·refine⟨aj.toList,r,⟨o,I.gx a o hk,hc,n,by simpa using hs⟩,?_⟩
  have e:=r.length
  simp only[Ms] at e
  omega
theorem Inv.gA (I:Inv X pins σ H s) (h:a7 X.K H a xs) (h':a7 X.K H a ys):xs=ys:=by
 obtain⟨aj,r,⟨o,n,e,_,_,d⟩,_⟩:=I.list h
 obtain⟨its',r',⟨o',n',e',_,_,d'⟩,_⟩:=I.list h'
 rw[e] at e';cases e'
 rw[d] at d'
 injection d' with d1 _
 have:aj=its':=by simpa using congrArg Array.toList d1
 subst this
 exact r.inj r'
theorem Inv.fB (I:Inv X pins σ H s) (h:bC X.K H a xs) (h':bC X.K H a ys):xs=ys:=by
 obtain⟨aj,r,⟨o,e,_,n,d⟩,_⟩:=I.tuple h
 obtain⟨its',r',⟨o',e',_,n',d'⟩,_⟩:=I.tuple h'
 rw[e] at e';cases e'
 rw[d] at d'
 injection d' with d1 _
 have:aj=its':=by simpa using congrArg Array.toList d1
 subst this
 exact r.inj r'
end
noncomputable abbrev Cx.eZ (X:Cx) (E:Value->Shared->Prop):Cx:={ X with xe:=E }
noncomputable abbrev Cx.jM (X:Cx):Cx:=X.eZ fun _ _=>False
theorem Cx.Ok.eZ {X:Cx} (ok:X.Ok) (E:Value->Shared->Prop):(X.eZ E).Ok :=
 ⟨ok.mod,ok.kind,ok.glob,ok.blt,ok.above,ok.inj,ok.has,ok.rT,ok.hd,ok.frames,ok.vd,ok.C4,ok.bs,ok.mN,ok.jL,ok.lA,ok.dR,ok.n5⟩
theorem Cx.Ok.cD {X:Cx} {E:Value->Shared->Prop} (ok:(X.eZ E).Ok):X.Ok :=
 ⟨ok.mod,ok.kind,ok.glob,ok.blt,ok.above,ok.inj,ok.has,ok.rT,ok.hd,ok.frames,ok.vd,ok.C4,ok.bs,ok.mN,ok.jL,ok.lA,ok.dR,ok.n5⟩
section
variable {X:Cx} {pins:List (Addr × Obj)} {σ : St} {H:Hp} {s:Shared} {E:Value->Shared->Prop}
theorem Inv.eZ (I:Inv X pins σ H s) (E:Value->Shared->Prop):Inv (X.eZ E) pins σ H s:=⟨I.ok.eZ E,I.os,I.bare,I.base,I.loc,I.cell,I.free,I.cb,I.pin,I.aJ,I.len⟩
theorem Inv.cD (I:Inv (X.eZ E) pins σ H s):Inv X pins σ H s:=⟨I.ok.cD,I.os,I.bare,I.base,I.loc,I.cell,I.free,I.cb,I.pin,I.aJ,I.len⟩
theorem SP.cD {D:Ends} {f:Flow} {s':Shared} (h:SP (X.eZ E) pins D f s'):SP X pins D f s':=by
 cases f with
 | next=>obtain⟨σ',H',I,q⟩:=h;exact⟨σ',H',I.cD,q⟩
 | brk=>obtain⟨σ',H',I,q⟩:=h;exact⟨σ',H',I.cD,q⟩
 | cont=>obtain⟨σ',H',I,q⟩:=h;exact⟨σ',H',I.cD,q⟩
 | ret u=>obtain⟨v,σ',H',I,r,q⟩:=h;exact⟨v,σ',H',I.cD,r,q⟩
theorem gz.jM {st:List Stmt} {t:TS} (h:gz X.jM st t):gz X st t:=fun pins s σ H D I hw =>
 XW (h pins s σ H D (I.eZ _) hw) (fun _ _ q=>q.cD) fun _ _ z=>False.elim z
end
section
variable {X:Cx} {st:Stmt} {rest:List Stmt} {t u:TS} {e:Expr} {te:TE} {pos:Pos}
noncomputable def Di:TS:=fun D σ H=>D.nx σ H
noncomputable def jN (t u:TS):TS:=fun D σ H=>t { D with nx:=u D } σ H
theorem KO:gz X [] Di:=fun _ _ σ H _ I h=>wpAny_execs_nil ⟨σ,H,I,h⟩
theorem KP (h1:PS X st t) (h2:gz X rest u):gz X (st :: rest) (jN t u):=by
 intro pins s σ H D I h
 refine wpAny_execs_cons (a6 (h1 pins s σ H { D with nx:=u D } I h) fun f s1 q => ?_)
 cases f with
 | next =>
  obtain⟨σ',H',I',q⟩:=q
  exact h2 pins s1 σ' H' D I' q
 | ret v=>exact q
 | brk=>exact q
 | cont=>exact q
theorem KQ (h1:PS X st t):gz X [st] t:=by
 intro pins s σ H D I h
 refine wpAny_execs_cons (a6 (h1 pins s σ H D I h) fun f s1 q => ?_)
 cases f with
 | next=>exact wpAny_execs_nil q
 | ret v=>exact q
 | brk=>exact q
 | cont=>exact q
theorem Inv.quiet {pins:List (Addr × Obj)} {σ : St} {H:Hp} {s:Shared} (I:Inv X pins σ H s):interactive X.env=false:=by simp[interactive,I.ok.kind]
noncomputable def x5 (te:TE):TS:=fun D σ H=>te σ H fun _ H1=>D.nx σ H1
theorem KR (he:PE X e te) (hs:swapsWith e none pos.line X.env=pure false:=by rfl):PS X (.Expr e pos) (x5 te):=by
 intro pins s σ H D I h
 exact wpAny_Expr_any (a6 (he pins s σ H _ I h) fun v s1 h0_ => el5 h0_ fun x H1 I1 r1 q1 =>⟨σ,H1,I1,q1⟩) I.quiet hs
noncomputable def n9 (te:TE):TS:=fun D σ H=>te σ H D.rt
theorem KU (he:PE X e te):PS X (.Return (some e) pos) (n9 te):=by
 intro pins s σ H D I h
 exact wpAny_Return_some (a6 (he pins s σ H _ I h) fun v s1 h0_ => el5 h0_ fun x H1 I1 r1 q1 =>⟨x,σ,H1,I1,r1,q1⟩)
noncomputable def rX (c:TT) (t u:TS):TS:=fun D σ H=>c σ H fun b H1=>if b=true then t D σ H1 else u D σ H1
theorem KW {c:Expr} {a b:List Stmt} {tc:TT} (hc:PT X c tc) (ha:gz X a t) (hb:gz X b u):PS X (.If c a b pos) (rX tc t u):=by
 intro pins s σ H D I h
 refine wpAny_If (a6 (hc pins s σ H _ I h) fun d s1 h0_ => el3 h0_ fun H1 I1 q1 => ?_)
 cases d with
 | true=>exact ha pins s1 σ H1 D I1 q1
 | false=>exact hb pins s1 σ H1 D I1 q1
end
noncomputable abbrev TG:=V->St->Hp->(St->Hp->Prop)->Prop
noncomputable abbrev iF:=List V->St->Hp->(St->Hp->Prop)->Prop
noncomputable def PG (X:Cx) (target:Expr) (t:TG):Prop :=
 ∀ (pins:List (Addr × Obj)) (s:Shared) (σ : St) (H:Hp) (v:V) (u:Value) (Q:St->Hp->Prop),Inv X pins σ H s->RelV v u->t v σ H Q →
  wpAny (model X.prog X.w) X.A (assign target X.env u) (fun _ s'=>∃ σ' H',Inv X pins σ' H' s'/\Q σ' H') X.xe s
noncomputable def rY (X:Cx) (ts:List Expr) (t:iF):Prop :=
 ∀ (pins:List (Addr × Obj)) (s:Shared) (σ : St) (H:Hp) (vs:List V) (us:List Value) (Q:St->Hp->Prop),Inv X pins σ H s->Vals vs us->t vs σ H Q →
  wpAny (model X.prog X.w) X.A (assignInOrder ((assignEach ts X.env).map (·.2)) us) (fun _ s'=>∃ σ' H',Inv X pins σ' H' s'/\Q σ' H') X.xe s
noncomputable abbrev lC:=V->V->V->Hp->(Hp->Prop)->Prop
noncomputable def n_ (X:Cx) (t:lC):Prop :=
 ∀ (pins:List (Addr × Obj)) (s:Shared) (σ : St) (H:Hp) (o i v:V) (ov iv u:Value) (Q:Hp->Prop),Inv X pins σ H s->RelV o ov->RelV i iv->RelV v u->t o i v H Q →
  wpAny (model X.prog X.w) X.A (setItem ov iv u) (fun _ s'=>∃ H',Inv X pins σ H' s'/\Q H') X.xe s
section
variable {X:Cx} {pos:Pos}
noncomputable def kO (i:Nat):TG:=fun v σ H Q=>Q (σ.set i (some v)) H
theorem KY {i:Nat} {x:Str} (hN:X.N.Nodup) (hi:X.N[i]? = some x) (hx:Loc X.env.scope x) (hf:X.fn x=true\/X.env.scope.names.lookup x=some .local:=by first | exact .inl rfl | exact .inr rfl | assumption):PG X (.Name x pos) (kO i):=by
 intro pins s σ H v u Q I r h
 exact wpAny_assign_Name (C_ I hN hi hx r (fun s' I'=>⟨_,H,I',h⟩) hf)
noncomputable def oa:iF:=fun vs σ H Q=>vs=[]/\Q σ H
noncomputable def vg (t:TG) (u:iF):iF:=fun vs σ H Q=>∃ v r,vs=v :: r/\t v σ H fun σ' H'=>u r σ' H' Q
theorem KZ:rY X [] oa:=by
 intro pins s σ H vs us Q I r h
 obtain⟨e,h⟩:=h
 subst e
 cases r
 exact assignInOrder_nil ⟨σ,H,I,h⟩
theorem K1 {e:Expr} {es:List Expr} {t:TG} {u:iF} (h1:PG X e t) (h2:rY X es u)
  (hs:(assignEach (e :: es) X.env).map (·.2)=assign e X.env :: (assignEach es X.env).map (·.2):=by rfl):rY X (e :: es) (vg t u):=by
 intro pins s σ H vs us Q I r h
 obtain⟨v,vr,e1,h⟩:=h
 subst e1
 cases r with
 | cons r rr =>
  rw[hs]
  refine assignInOrder_cons (a6 (h1 pins s σ H _ _ _ I r h) fun _ s1 ⟨σ1,H1,I1,q1⟩ => ?_)
  exact h2 pins s1 σ1 H1 _ _ Q I1 rr q1
noncomputable def oe (K:PySem.W.Frag) (n:Nat) (t:iF):TG:=fun v σ H Q=>∃ a xs,v = .ref a/\bC K H a xs/\xs.length=n/\t xs σ H Q
theorem K4 {es:List Expr} {k:Nat} {t:iF} {n:Nat} (hc:X.calm=true) (h:rY X es t)
  (hn:(assignEach es X.env).length=n:=by rfl) (jO:(assignEach es X.env).findIdx? (·.1)=none:=by rfl):PG X (.Tuple es k pos) (oe X.K n t):=by
 intro pins s σ H v u Q I r hw
 obtain⟨a,xs,e1,hq,hl,hw⟩:=hw
 subst e1
 cases r
 obtain⟨aj,rv,ht,hz⟩:=I.tuple hq
 refine assign_Tuple_tuple (I.ok.hd hc) ht (by simp[hn,<-hl,rv.length]) jO fun h' hx => ?_
 have I1:Inv X pins σ H { s with heap:=h' }:=I.kept (t':=s.toks) fun b o e=>hx b o (Wi (My e)) e
 exact h pins _ σ H xs _ Q I1 (by simpa using rv) hw
noncomputable def oh (to ti:TE) (t:lC):TG:=fun v σ H Q=>to σ H fun o H1=>ti σ H1 fun i H2=>t o i v H2 fun H3=>Q σ H3
theorem K5 {o i:Expr} {to ti:TE} {t:lC} (ho:PE X o to) (hi:PE X i ti) (hs:n_ X t)
  (ha:∀ v,assign (.Subscript o i pos) X.env v=(do
   let ov <- holding [v] (eval o X.env)
   let iv <- holding [v,ov] (eval i X.env)
   standAt pos
   holding [v,ov,iv] (setItem ov iv v)
   release [v,ov,iv] []):=by intro _;rfl):PG X (.Subscript o i pos) (oh to ti t):=by
 intro pins s σ H v u Q I r h
 rw[ha]
 refine oQ (WK (a6 (ho pins s σ H _ I h) fun ov s1 h0_ => el5 h0_ fun x H1 I1 r1 q1 => ?_))
 refine oQ (WK (a6 (hi pins s1 σ H1 _ I1 q1) fun iv s2 h0_ => el5 h0_ fun y H2 I2 r2 q2 => ?_))
 refine oQ (Ym (oQ (WK (a6 (hs pins s2 σ H2 x y v ov iv u _ I2 r1 r2 r q2) fun _ s3 h0_ => el3 h0_ fun H3 I3 q3 => ?_))))
 exact wpAny_release ⟨σ,H3,I3,q3⟩
noncomputable def fR (te:TE) (g:TG):TS:=fun D σ H=>te σ H fun x H1=>g x σ H1 D.nx
theorem K6 {tg e:Expr} {te:TE} {g:TG} (he:PE X e te) (hg:PG X tg g) (hs:swapsWithSole [tg] e pos.line X.env=pure false:=by rfl) (hw:swappedStores [tg] e X.env=pure none:=by rfl)
  (h1:(assignEach [tg] X.env).map (·.2)=[assign tg X.env]:=by rfl):PS X (.Assign [tg] e pos) (fR te g):=by
 intro pins s σ H D I h
 refine wpAny_Assign_stores (a6 (he pins s σ H _ I h) fun v s1 h0_ => el5 h0_ fun x H1 I1 r1 q1 => ?_) hs hw
 rw[h1]
 exact a6 (hg pins s1 σ H1 x v _ I1 r1 q1) fun _ s2 q=>q
theorem K7 {i:Nat} {x:Str} {e:Expr} {te:TE} {pos':Pos} (hN:X.N.Nodup) (hi:X.N[i]? = some x) (hx:Loc X.env.scope x) (he:PE X e te) (hs:swapsWith e (some (.Name x pos')) pos.line X.env=pure false:=by rfl) (hf:X.fn x=true\/X.env.scope.names.lookup x=some .local:=by first | exact .inl rfl | exact .inr rfl | assumption) :
  PS X (.Assign [.Name x pos'] e pos) (fR te (kO i)):=by
 intro pins s σ H D I h
 refine wpAny_Assign_Name (a6 (he pins s σ H _ I h) fun v s1 h0_ => el5 h0_ fun y H1 I1 r1 q1 => ?_) hs
 exact C_ I1 hN hi hx r1 (fun s2 I2=>⟨_,H1,I2,q1⟩) hf
end
structure It where
 go:Nat->Hp->Prop
 qr:Nat->Hp->V->Hp->Prop
 stop:Nat->Hp->Prop
noncomputable def a0 (X:Cx) (pins:List (Addr × Obj)) (H:Hp) (b:Addr):Prop :=
 H b=none/\b≠X.env.locals/\b∉X.fs/\(b∈X.ex\/X.s₀.heap.objs.size <= b)/\(∀ x c,X.env.cells.lookup x=some c->c≠b)/\∀ p∈X.pn ++ pins,p.1≠b
theorem Inv.d8 {X:Cx} {pins:List (Addr × Obj)} {σ : St} {H H':Hp} {s:Shared} {b:Addr} (I:Inv X pins σ H s) (hb:s.heap.objs.size <= b) (hn:H' b=none):a0 X pins H' b:=by
 refine⟨hn,YN (Wk I.lt hb),I.xU hb,.inr (Xg I.sz hb),fun x c e z => ?_,fun p hp z => ?_⟩
 ·obtain⟨v,q⟩:=I.cell x c e
  exact absurd (Wk q.lt (by rw[z];exact hb)) (Xk _)
 ·exact absurd (Wk (My (I.pin p hp).1) (by rw[z];exact hb)) (Xk _)
structure Turn (P:Program) (w:World) (K:PySem.W.Frag) (tg:Expr) (J:It) (fp:List Addr) (it:Addr) (tn:Nat->Heap->Prop):Prop where
 mem:it∈fp
 obj:∀ i h,tn i h->∀ b∈fp,∃ o,h.get? b=some o/\∀ v,o.data ≠ .cell v
 keep:∀ i h h',tn i h->(∀ b∈fp,∀ o,h.get? b=some o->h'.get? b=some o)->tn i h'
 item:∀ (X:Cx),X.prog=P->X.w=w->X.K=K->X.calm=true->∀ (i:Nat) (pins:List (Addr × Obj)) (s:Shared) (σ : St) (H:Hp) (E:Value->Shared->Prop),Inv X pins σ H s->(∀ b∈fp,a0 X pins H b)->tn i s.heap->J.go i H →
  wpAny (model P w) X.A (pyNext (.ref it)) (fun r s1=>∃ u,r=some u ∧
   wpAny (model P w) X.A (letOwnedTupleGo tg (.ref it) u) (fun _ s2=>∃ x H',Inv X pins σ H' s2/\RelV x u/\J.qr i H x H'/\tn (i + 1) s2.heap/\∀ b∈fp,H' b=none) E s1) E s
 done:∀ (X:Cx),X.prog=P->X.w=w->X.K=K->X.calm=true->∀ (i:Nat) (pins:List (Addr × Obj)) (s:Shared) (σ : St) (H:Hp) (E:Value->Shared->Prop),Inv X pins σ H s->(∀ b∈fp,a0 X pins H b)->tn i s.heap->J.stop i H →
  wpAny (model P w) X.A (pyNext (.ref it)) (fun r s1=>r=none/\Inv X pins σ H s1) E s
 self:∀ (A:Around) (i:Nat) (s:Shared) (Q:Value->Shared->Prop) (E:Value->Shared->Prop),tn i s.heap->Q (.ref it) s->wpAny (model P w) A (pyIter (.ref it)) Q E s
noncomputable abbrev TI:=St->Hp->(It->Hp->Prop)->Prop
noncomputable def Dj (X:Cx) (pins:List (Addr × Obj)) (σ : St) (tg:Expr) (R:It->Hp->Prop) (x6:Value) (s2:Shared):Prop :=
 ∃ (it:Addr) (fp:List Addr) (tn:Nat->Heap->Prop) (J:It) (H':Hp),x6 = .ref it/\Inv X pins σ H' s2/\Turn X.prog X.w X.K tg J fp it tn/\tn 0 s2.heap/\(∀ b∈fp,a0 X pins H' b)/\R J H'
noncomputable def PI (X:Cx) (tg iter:Expr) (wi:TI):Prop :=
 ∀ (pins:List (Addr × Obj)) (s:Shared) (σ : St) (H:Hp) (R:It->Hp->Prop),Inv X pins σ H s->wi σ H R →
  wpAny (model X.prog X.w) X.A (eval iter X.env) (fun v s1=>wpAny (model X.prog X.w) X.A (pyIter v) (Dj X pins σ tg R) X.xe s1) X.xe s
theorem x8 {M:Model} {A:Around} {E:Value->Shared->Prop} {s:Shared} {tg:Expr} {it:Addr} {u:Value} {o:Obj} {n:String} {vs:Array Value} {Q:Unit->Shared->Prop} (ho:s.heap.get? it=some o) (hc:o.cls = .type n) (hd:o.data = .fields vs)
  (hn:["enumerate", "zip", "dict_itemiterator", "dict_reverseitemiterator", "odict_iterator", "itertools.zip_longest", "itertools.pairwise"].contains n=false) (hQ:Q () s):wpAny M A (letOwnedTupleGo tg (.ref it) u) Q E s:=by
 unfold letOwnedTupleGo
 cases tg<;>first
  | exact D5 hQ
  | (cases u<;>first
    | exact D5 hQ
    | (refine oQ (wpAny_load ho ?_)
       rw[hc,hd]
       show wpAny M A (if (["enumerate", "zip", "dict_itemiterator", "dict_reverseitemiterator", "odict_iterator", "itertools.zip_longest", "itertools.pairwise"].contains n && vs[0]? == some (rawInt _))=true then _ else _) Q E s
       rw[VG (by intro h;rw[hn,q0y] at h;cases h)]
       exact D5 hQ))
noncomputable def Dl (K:PySem.W.Frag) (a:Addr):It :=
 ⟨fun i H=>∃ xs x,a7 K H a xs/\xs[i]? = some x,fun i H x H'=>H'=H/\∀ xs,a7 K H a xs->xs[i]? = some x,fun i H=>∃ xs,a7 K H a xs/\xs.length <= i⟩
noncomputable def Dm (K:PySem.W.Frag) (a:Addr):It :=
 ⟨fun i H=>∃ xs x,bC K H a xs/\xs[i]? = some x,fun i H x H'=>H'=H/\∀ xs,bC K H a xs->xs[i]? = some x,fun i H=>∃ xs,bC K H a xs/\xs.length <= i⟩
noncomputable def rZ (lo:Int) (n:Nat):It:=⟨fun i _=>i < n,fun i H x H'=>H'=H/\x = .int (lo + i),fun i _=>n <= i⟩
theorem K8 {P:Program} {w:World} {K:PySem.W.Frag} {tg:Expr} (a it:Addr):Turn P w K tg (Dl K a) [it] it (fun i h=>h.IsListIter it a i) where
 mem:=by simp
 obj:=fun i h st b hb=>by
  have e:b=it:=by simpa using hb
  subst e
  obtain⟨o,e,c,d⟩:=st
  exact⟨o,e,fun v z=>by rw[d] at z;cases z⟩
 keep:=fun i h h' st k=>st.at fun o e=>k it (by simp) o e
 item:=by
  intro X hP hw hK hc i pins s σ H E I hf st hg
  subst hP hw hK
  obtain⟨xs,x,hq,hx⟩:=hg
  obtain⟨aj,rv,p,hz⟩:=I.list hq
  obtain⟨u,hu,ru⟩:=rv.get hx
  obtain⟨f0,f1,f2,f3,f4,f5⟩:=hf it (by simp)
  refine wpAny_pyNext_list_item st p.isList (x:=u) (by simpa using hu) fun h' iG sb => ?_
  have I1:Inv X pins σ H { s with heap:=h' }:=I.turned (t':=s.toks) (fun b o hb e=>(sb.2 b hb).trans e) f0 f1 f3 f4 f5
  obtain⟨o,e,c,d⟩:=id iG
  exact⟨u,rfl,x8 (s:={ s with heap:=h' }) e c d (by decide) ⟨x,H,I1,ru,⟨rfl,fun ys hy=>by rw[I.gA hy hq];exact hx⟩,iG,fun b hb=>(hf b hb).1⟩⟩
 done:=by
  intro X hP hw hK hc i pins s σ H E I hf st hg
  subst hP hw hK
  obtain⟨xs,hq,hx⟩:=hg
  obtain⟨aj,rv,p,hz⟩:=I.list hq
  obtain⟨f0,f1,f2,f3,f4,f5⟩:=hf it (by simp)
  have hl:=rv.length
  exact wpAny_pyNext_list_end (I.ok.hd hc) st p.isList (by simp;omega) fun h' eb=>⟨rfl,I.turned (t':=s.toks) (fun b o hb e=>eb b o hb e) f0 f1 f3 f4 f5⟩
 self:=fun _ _ _ _ _ st h=>wpAny_pyIter_listiter st h
theorem K9 {P:Program} {w:World} {K:PySem.W.Frag} {tg:Expr} (a it:Addr):Turn P w K tg (Dm K a) [it] it (fun i h=>h.IsTupleIter it a i) where
 mem:=by simp
 obj:=fun i h st b hb=>by
  have e:b=it:=by simpa using hb
  subst e
  obtain⟨o,e,c,d⟩:=st
  exact⟨o,e,fun v z=>by rw[d] at z;cases z⟩
 keep:=fun i h h' st k=>st.at fun o e=>k it (by simp) o e
 item:=by
  intro X hP hw hK hc i pins s σ H E I hf st hg
  subst hP hw hK
  obtain⟨xs,x,hq,hx⟩:=hg
  obtain⟨aj,rv,p,hz⟩:=I.tuple hq
  obtain⟨u,hu,ru⟩:=rv.get hx
  obtain⟨f0,f1,f2,f3,f4,f5⟩:=hf it (by simp)
  refine wpAny_pyNext_tuple_item st (show s.heap.IsTuple a aj.toArray from p) (x:=u) (by simpa using hu) fun h' iG sb => ?_
  have I1:Inv X pins σ H { s with heap:=h' }:=I.turned (t':=s.toks) (fun b o hb e=>(sb.2 b hb).trans e) f0 f1 f3 f4 f5
  obtain⟨o,e,c,d⟩:=id iG
  exact⟨u,rfl,x8 (s:={ s with heap:=h' }) e c d (by decide) ⟨x,H,I1,ru,⟨rfl,fun ys hy=>by rw[I.fB hy hq];exact hx⟩,iG,fun b hb=>(hf b hb).1⟩⟩
 done:=by
  intro X hP hw hK hc i pins s σ H E I hf st hg
  subst hP hw hK
  obtain⟨xs,hq,hx⟩:=hg
  obtain⟨aj,rv,p,hz⟩:=I.tuple hq
  obtain⟨f0,f1,f2,f3,f4,f5⟩:=hf it (by simp)
  have hl:=rv.length
  exact wpAny_pyNext_tuple_end (I.ok.hd hc) st (show s.heap.IsTuple a aj.toArray from p) (by simp;omega) fun h' eb=>⟨rfl,I.turned (t':=s.toks) (fun b o hb e=>eb b o hb e) f0 f1 f3 f4 f5⟩
 self:=fun _ _ _ _ _ st h=>wpAny_pyIter_tupleiter st h
theorem K_ {P:Program} {w:World} {K:PySem.W.Frag} {tg:Expr} (it:Addr) (lo:Int) (n:Nat):Turn P w K tg (rZ lo n) [it] it (fun i h=>IsRangeIter h it (lo + (i:Nat) * 1) ((n:Int) - (i:Nat)) 1) where
 mem:=by simp
 obj:=fun i h st b hb=>by
  have e:b=it:=by simpa using hb
  subst e
  exact⟨_,st,fun v z=>by
   have z':Data.fields _=Data.cell v:=z
   cases z'⟩
 keep:=fun i h h' st k=>k it (by simp) _ st
 item:=by
  intro X hP hw hK hc i pins s σ H E I hf st hg
  subst hP hw hK
  obtain⟨f0,f1,f2,f3,f4,f5⟩:=hf it (by simp)
  have W:=Walks.range (prog:=X.prog) (w:=X.w) (I.ok.hd hc) it lo 1 n
  refine W.item i s _ _ hg st fun v h' tk hv iG kk => ?_
  obtain⟨t,rfl⟩:=hv
  have I1:Inv X pins σ H { s with heap:=h',toks:=tk }:=I.turned (fun b o hb e=>kk b o (by simpa using hb) e) f0 f1 f3 f4 f5
  refine⟨_,rfl,x8 (s:={ s with heap:=h',toks:=tk }) (n := "range_iterator") iG rfl rfl (by decide) ⟨.int (lo + i),H,I1,⟨t,?_⟩,⟨rfl,rfl⟩,iG,fun b hb=>(hf b hb).1⟩⟩
  rw[Int.mul_one]
 done:=by
  intro X hP hw hK hc i pins s σ H E I hf st hg
  subst hP hw hK
  obtain⟨f0,f1,f2,f3,f4,f5⟩:=hf it (by simp)
  exact wpAny_pyNext_range_end (I.ok.hd hc) st (by have:n <= i:=hg;omega) fun h' eb=>⟨rfl,I.turned (t':=s.toks) (fun b o hb e=>eb b o hb e) f0 f1 f3 f4 f5⟩
 self:=fun _ _ _ _ _ st h=>wpAny_pyIter_rangeiter st h
section
variable {X:Cx} {tg:Expr}
theorem Dp {pins:List (Addr × Obj)} {σ : St} {H:Hp} {s:Shared} {R:It->Hp->Prop} {E:Value->Shared->Prop} {lo hi:Int} {t u v:Tok} {tk:Nat} (I:Inv X pins σ H s) (h1 : -(2 ^ 62) <= lo) (h2:lo < 2 ^ 62) (h3 : -(2 ^ 62) <= hi) (h4:hi < 2 ^ 62)
  (q:R (rZ lo (hi - lo).toNat) H):wpAny (model X.prog X.w) X.A (pyIter (.ref s.heap.objs.size)) (Dj X pins σ tg R) E { s with heap:=s.heap.push { cls := .type "range",data := .fields #[.int lo t,.int hi u,.int 1 v] },toks:=tk }:=by
 refine wpAny_pyIter_range (IsRange.new ..) (small_one h1 h2 h3 h4) ?_
 have I1:Inv X pins σ H { s with heap:=s.heap.push { cls := .type "range",data := .fields #[.int lo t,.int hi u,.int 1 v] },toks:=tk }:=I.kept fun b o e=>sC _ e
 refine⟨(s.heap.push { cls := .type "range",data := .fields #[.int lo t,.int hi u,.int 1 v] }).objs.size,[(s.heap.push { cls := .type "range",data := .fields #[.int lo t,.int hi u,.int 1 v] }).objs.size],_,_,H,rfl,
  I1.kept (t':=tk) fun b o e=>sC _ e,K_ _ lo (hi - lo).toNat,?_,fun b hb => ?_,q⟩
 ·have e1:lo + ((0:Nat):Int) * 1=lo:=by simp
  have e2:(((hi - lo).toNat:Nat):Int) - ((0:Nat):Int)=Builtin.Range.rangeSize lo hi 1:=by rw[rangeSize_one];split<;>omega
  show IsRangeIter _ _ (lo + ((0:Nat):Int) * 1) ((((hi - lo).toNat:Nat):Int) - ((0:Nat):Int)) 1
  rw[e1,e2]
  exact VH _ rfl
 ·have e:b=(s.heap.push { cls := .type "range",data := .fields #[.int lo t,.int hi u,.int 1 v] }).objs.size:=by simpa using hb
  subst e
  exact I1.d8 (qx _) (I1.aJ.fresh (qx _))
noncomputable def Dq (ta:TA):TI:=fun σ H R=>ta σ H fun vs H1=>∃ j:Int,vs=[.int j] /\ -(2 ^ 62) <= j/\j < 2 ^ 62/\R (rZ 0 j.toNat) H1
noncomputable def Dr (ta:TA):TI:=fun σ H R=>ta σ H fun vs H1=>∃ i j:Int,vs=[.int i,.int j]/\(-(2 ^ 62) <= i/\i < 2 ^ 62 /\ -(2 ^ 62) <= j/\j < 2 ^ 62)/\R (rZ i (j - i).toNat) H1
theorem La {a:Expr} {ta:TA} {p pos:Pos} (hg:Gl X "range") (hm:X.mg "range" = none) (ha:PA X [a] ta) (hs:starEach [a] X.env=[(false,eval a X.env)]:=by rfl):PI X tg (.Call (.Name "range" p) [a] [] pos) (Dq ta):=by
 intro pins s σ H R I h
 refine Call_ (kM I hg hm boot_range (XI (a6 (ha pos pins s σ H _ I h) fun us s1 h0_ => el5 h0_ fun vs H1 I1 r1 q1 => ?_) hs rfl))
 obtain⟨j,e,q1,q2,q⟩:=q1
 subst e
 cases r1 with
 | cons r rr =>
  cases rr
  obtain⟨t,rfl⟩:=r
  exact call_range_1 (Dp I1 (by omega) (by omega) q1 q2 (by simpa using q))
theorem Lb {a b:Expr} {ta:TA} {p pos:Pos} (hg:Gl X "range") (hm:X.mg "range" = none) (ha:PA X [a,b] ta) (hs:starEach [a,b] X.env=[(false,eval a X.env),(false,eval b X.env)]:=by rfl) (iH:starEach [b] X.env=[(false,eval b X.env)]:=by rfl) :
  PI X tg (.Call (.Name "range" p) [a,b] [] pos) (Dr ta):=by
 intro pins s σ H R I h
 refine Call_ (kM I hg hm boot_range (XI (a6 (ha pos pins s σ H _ I h) fun us s1 h0_ => el5 h0_ fun vs H1 I1 r1 q1 => ?_) (by rw[hs,iH]) (by rw[iH];rfl)))
 obtain⟨i,j,e,⟨q1,q2,q3,q4⟩,q⟩:=q1
 subst e
 cases r1 with
 | cons r rr =>
  cases rr with
  | cons r' rr =>
   cases rr
   obtain⟨t,rfl⟩:=r
   obtain⟨t',rfl⟩:=r'
   exact call_range_2 (Dp I1 q1 q2 q3 q4 q)
noncomputable def oj (wi:TI) (g:TG) (tb:TS):TS:=fun D σ H=>wi σ H fun J H1=>∃ W:Nat->Nat->St->Hp->Prop,(∃ m,W 0 m σ H1)/\∀ i m σ H,W i m σ H →
 (J.stop i H/\D.nx σ H)\/(J.go i H/\∃ N:St->Hp->Prop,(∀ σ' H',N σ' H'->∃ m',m' < m/\W (i + 1) m' σ' H')/\∀ x H',J.qr i H x H'->g x σ H' fun σ2 H2=>tb { D with nx:=N,ct:=N,bk:=D.nx } σ2 H2)
noncomputable def r_ (fp:List Addr) (h:Heap):List (Addr × Obj):=fp.filterMap fun b=>(h.get? b).map fun o=>(b,o)
theorem vh {fp:List Addr} {h:Heap} {b:Addr} {o:Obj} (hb:b∈fp) (e:h.get? b=some o):(b,o)∈r_ fp h:=X9.mpr ⟨b,hb,by rw[e];rfl⟩
theorem Lc {fp:List Addr} {h:Heap} {p:Addr × Obj} (hp:p∈r_ fp h):p.1∈fp/\h.get? p.1=some p.2:=by
 obtain⟨b,hb,e⟩:=X9.mp hp
 cases q:h.get? b with
 | none=>rw[q] at e;cases e
 | some o =>
  rw[q] at e
  have e':(b,o)=p:=Wx e
  subst e'
  exact⟨hb,q⟩
theorem Inv.pinned {pins:List (Addr × Obj)} {σ : St} {H:Hp} {s:Shared} {fp:List Addr} (I:Inv X pins σ H s) (hf:∀ b∈fp,a0 X pins H b) (ho:∀ b∈fp,∃ o,s.heap.get? b=some o/\∀ v,o.data ≠ .cell v):Inv X (pins ++ r_ fp s.heap) σ H s :=
 I.d3 fun p hp=>(WD.mp hp).elim (fun z=>I.pin p (Mq _ z)) fun z=>by
  obtain⟨hb,e⟩:=Lc z
  obtain⟨f0,f1,f2,_⟩:=hf p.1 hb
  obtain⟨o,e',d⟩:=ho p.1 hb
  rw[e] at e';cases e'
  exact⟨e,f0,f1,f2,d⟩
theorem Inv.di {pins pl:List (Addr × Obj)} {σ : St} {H:Hp} {s:Shared} (I:Inv X (pins ++ pl) σ H s):Inv X pins σ H s:=I.d3 fun p hp=>I.pin p (Mq _ (WJ _ hp))
theorem Ld {iter:Expr} {body:List Stmt} {wi:TI} {g:TG} {tb:TS} {pos:Pos} (hp:PassesOwn (model X.prog X.w) X.A X.env X.xe) (hc:X.calm=true) (hi:PI X tg iter wi) (hg:PG X tg g) (hb:gz X body tb)
  (hs:∀ x,foldedSetIterable iter X.env x=pure x:=by intro _;rfl):PS X (.For tg iter body [] pos) (oj wi g tb):=by
 intro pins s σ H D I h
 refine wpAny_For (a6 (hi pins s σ H _ I h) fun v s1 h1=>a6 h1 fun x6 s2 h2 => ?_) hs
 obtain⟨it,fp,tn,J,H2,e,I2,T,mR,f2,W,⟨m0,w0⟩,turn⟩:=h2
 subst e
 have hX:∀ {H':Hp},(∀ b∈fp,H' b=none)->∀ b∈fp,a0 X pins H' b:=fun hn b hb=>⟨hn b hb,(f2 b hb).2⟩
 refine codeAny_forLoop_any (fun n s'=>∃ i σ' H',Inv X pins σ' H' s'/\tn i s'.heap/\(∀ b∈fp,H' b=none)/\W i n σ' H') ?_ m0 ⟨0,σ,H2,I2,mR,fun b hb=>(f2 b hb).1,w0⟩
 rintro n s3 ⟨i,σ3,H3,I3,qt,sd,w3⟩
 rcases turn i n σ3 H3 w3 with⟨stop,qn⟩ | ⟨go,N,hN,step⟩
 ·refine YX hp (a6 (T.done X rfl rfl rfl hc i pins s3 σ3 H3 X.xe I3 (hX sd) qt stop) fun r s4 ⟨hr,I4⟩ => ?_)
  subst hr
  exact wpAny_execs_nil ⟨σ3,H3,I4,qn⟩
 ·refine YX hp (a6 (T.item X rfl rfl rfl hc i pins s3 σ3 H3 X.xe I3 (hX sd) qt go) fun r s4 ⟨u,hr,h4⟩ => ?_)
  subst hr
  refine YX hp (a6 h4 fun _ s5 ⟨x,H5,I5,r5,y5,oo,x9⟩ => ?_)
  have x_:=I5.pinned (hX x9) (T.obj _ _ oo)
  refine YX hp (a6 (hg _ s5 σ3 H5 x u _ x_ r5 (step x H5 y5)) fun _ s6 ⟨σ6,H6,I6,q6⟩ => ?_)
  refine YX hp (a6 (hb _ s6 σ6 H6 _ I6 q6) fun f s7 q7 => ?_)
  have again:∀ {σ7:St} {H7:Hp},Inv X (pins ++ r_ fp s5.heap) σ7 H7 s7->N σ7 H7->∃ m,m < n/\∃ i σ' H',Inv X pins σ' H' s7/\tn i s7.heap/\(∀ b∈fp,H' b=none)/\W i m σ' H':=fun {σ7 H7} I7 n7=>by
   obtain⟨m',hm,w7⟩:=hN σ7 H7 n7
   refine⟨m',hm,i + 1,σ7,H7,I7.di,T.keep _ _ _ oo fun b hb o e=>(I7.pin (b,o) (Mq _ (Mq _ (vh hb e)))).1,fun b hb => ?_,w7⟩
   obtain⟨o,e,d⟩:=T.obj _ _ oo b hb
   exact (I7.pin (b,o) (Mq _ (Mq _ (vh hb e)))).2.1
  cases f with
  | next=>obtain⟨σ7,H7,I7,n7⟩:=q7;exact again I7 n7
  | cont=>obtain⟨σ7,H7,I7,n7⟩:=q7;exact again I7 n7
  | brk=>obtain⟨σ7,H7,I7,q7⟩:=q7;exact⟨σ7,H7,I7.di,q7⟩
  | ret v=>obtain⟨x7,σ7,H7,I7,r7,q7⟩:=q7;exact⟨x7,σ7,H7,I7.di,r7,q7⟩
end
noncomputable abbrev R2:=V->V->Hp->VK->Prop
noncomputable def cA (X:Cx) (f:Value->Value->Sem Value) (r:R2):Prop :=
 ∀ (pins:List (Addr × Obj)) (s:Shared) (σ : St) (H:Hp) (x y:V) (v u:Value) (Q:VK),Inv X pins σ H s->RelV x v->RelV y u->r x y H Q →
  wpAny (model X.prog X.w) X.A (f v u) (EP X pins σ Q) X.xe s
noncomputable def eN (X:Cx) (f:Value) (r:List V->Hp->VK->Prop):Prop :=
 ∀ (pins:List (Addr × Obj)) (s:Shared) (σ : St) (H:Hp) (xs:List V) (us:List Value) (Q:VK),Inv X pins σ H s->Vals xs us->r xs H Q →
  wpAny (model X.prog X.w) X.A (call f us) (EP X pins σ Q) X.xe s
noncomputable def lD (r:R2) (ta tb:TE):TE:=fun σ H Q=>ta σ H fun x H1=>tb σ H1 fun y H2=>r x y H2 Q
noncomputable def rI (C:Int->Int->Prop) (g:Int->Int->V):R2:=fun x y H Q=>∃ i j,x = .int i/\y = .int j/\C i j/\Q (g i j) H
noncomputable def lE (g:Int->Int->V):R2:=fun x y H Q=>∃ i j,x = .int i/\y = .int j/\Q (g i j) H
section
variable {X:Cx} {a b c:Expr} {ta tb tc:TE} {pos:Pos}
theorem oq (ha:PE X a ta) (hb:PE X b tb) {pins:List (Addr × Obj)} {s:Shared} {σ : St} {H:Hp} {R:V->V->Hp->Prop} (I:Inv X pins σ H s)
  (h:ta σ H fun x H1=>tb σ H1 fun y H2=>R x y H2) {Q:Value->Shared->Prop} {f:Value->Value->Sem Value}
  (hf:∀ v u s2 x y H2,Inv X pins σ H2 s2->RelV x v->RelV y u->R x y H2->wpAny (model X.prog X.w) X.A (f v u) Q X.xe s2) :
  wpAny (model X.prog X.w) X.A (eval a X.env) (fun v s₁ => wpAny (model X.prog X.w) X.A (eval b X.env) (fun u s₂ => wpAny (model X.prog X.w) X.A (f v u) Q X.xe s₂) X.xe s₁) X.xe s:=by
 refine a6 (ha pins s σ H _ I h) fun v s1 h0_ => el5 h0_ fun x H1 I1 r1 q1 => ?_
 refine a6 (hb pins s1 σ H1 _ I1 q1) fun u s2 h0_ => el5 h0_ fun y H2 I2 r2 q2 => ?_
 exact hf v u s2 x y H2 I2 r1 r2 q2
theorem Le {op:Operator} {r:R2} (ho:cA X (binaryOp op) r) (ha:PE X a ta) (hb:PE X b tb):PE X (.BinOp a op b pos) (lD r ta tb):=by
 intro pins s σ H Q I h
 exact wpAny_BinOp (oq ha hb I h fun v u s2 x y H2 I2 rx ry q=>ho pins s2 σ H2 x y v u Q I2 rx ry q)
theorem vi {f:Value->Value->Sem Value} {C:Int->Int->Prop} {g:Int->Int->Int}
  (rule:∀ (i j:Int) (t u:Tok) (s:Shared) (Q:Value->Shared->Prop) (E:Value->Shared->Prop),C i j->Q (.int (g i j) s.toks) { s with toks:=s.toks + 1 }->wpAny (model X.prog X.w) X.A (f (.int i t) (.int j u)) Q E s) :
  cA X f (rI C fun i j => .int (g i j)):=by
 intro pins s σ H x y v u Q I rx ry h
 obtain⟨i,j,rfl,rfl,hc,q⟩:=h
 obtain⟨t,rfl⟩:=rx
 obtain⟨t',rfl⟩:=ry
 exact rule i j t t' s _ _ hc ⟨.int (g i j),H,I.tok _,⟨_,rfl⟩,q⟩
theorem sg {f:Value->Value->Sem Value} {g:Int->Int->Int}
  (rule:∀ (i j:Int) (t u:Tok) (s:Shared) (Q:Value->Shared->Prop) (E:Value->Shared->Prop),Q (.int (g i j) s.toks) { s with toks:=s.toks + 1 }->wpAny (model X.prog X.w) X.A (f (.int i t) (.int j u)) Q E s) :
  cA X f (lE fun i j => .int (g i j)):=by
 intro pins s σ H x y v u Q I rx ry h
 obtain⟨i,j,rfl,rfl,q⟩:=h
 obtain⟨t,rfl⟩:=rx
 obtain⟨t',rfl⟩:=ry
 exact rule i j t t' s _ _ ⟨.int (g i j),H,I.tok _,⟨_,rfl⟩,q⟩
theorem lF {f:Value->Value->Sem Value} {g:Int->Int->Bool}
  (rule:∀ (i j:Int) (t u:Tok) (s:Shared) (Q:Value->Shared->Prop) (E:Value->Shared->Prop),Q (.bool (g i j)) s->wpAny (model X.prog X.w) X.A (f (.int i t) (.int j u)) Q E s) :
  cA X f (lE fun i j => .bl (g i j)):=by
 intro pins s σ H x y v u Q I rx ry h
 obtain⟨i,j,rfl,rfl,q⟩:=h
 obtain⟨t,rfl⟩:=rx
 obtain⟨t',rfl⟩:=ry
 exact rule i j t t' s _ _ ⟨.bl (g i j),H,I,rfl,q⟩
noncomputable def sh (i j:Int):Prop:=j≠0/\j.natAbs < 1073741824
noncomputable def fU (i j:Int):Prop:=0 <= j/\j <= 1000000/\i.natAbs < 2 ^ 64
noncomputable def jP (i j:Int):Prop:=(-(2 ^ 64) < i/\i < 2 ^ 64)\/(-(2 ^ 64) < j/\j < 2 ^ 64)
theorem jP.ok {i j:Int} (h:jP i j):IntMulOk i j:=by
 rcases h with⟨h1,h2⟩ | ⟨h1,h2⟩
 ·exact .of_left (intBits_le_64 h1 h2)
 ·exact .of_right (intBits_le_64 h1 h2)
theorem Ds:cA X (binaryOp .Add) (lE fun i j => .int (i + j)):=sg fun _ _ _ _ _ _ _ q=>add_int q
theorem Lf:cA X (binaryOp .Sub) (lE fun i j => .int (i - j)):=sg fun _ _ _ _ _ _ _ q=>sub_int q
theorem Lg:cA X (binaryOp .Mult) (rI jP fun i j => .int (i * j)):=vi fun _ _ _ _ _ _ _ hc q=>mul_int q hc.ok
theorem Lh:cA X (binaryOp .FloorDiv) (rI sh fun i j => .int (i.fdiv j)):=vi fun _ _ _ _ _ _ _ hc q=>floordiv_int hc.1 q (.inl (PyProof.noPylong_small hc.2))
theorem ya:cA X (binaryOp .Mod) (rI (fun _ j=>0 < j) fun i j => .int (i % j)):=vi fun i j _ _ _ _ _ hc q=>by
 have h1:(0:Int) < j:=hc
 exact mod_int' (by omega) (by rw[Int.fmod_eq_emod_of_nonneg i (by omega)];exact q)
theorem Li:cA X (binaryOp .Pow) (rI fU fun i j => .int (i ^ j.toNat)):=vi fun _ _ _ _ _ _ _ hc q=>pow_int_small hc.1 hc.2.1 hc.2.2 q
theorem Dt {pins:List (Addr × Obj)} {σ : St} {H:Hp} {s:Shared} {Q:VK} {k k':Bool} (I:Inv X pins σ H s) (q:Q (.bl k) H) (e:k=k'):EP X pins σ Q (.bool k') s:=by
 subst e
 exact⟨.bl k,H,I,rfl,q⟩
theorem Lj:cA X (compareOp .Lt) (lE fun i j => .bl (decide (i < j))):=lF fun _ _ _ _ _ _ _ q=>lt_int q
theorem Lk:cA X (compareOp .LtE) (lE fun i j => .bl (decide (i <= j))):=lF fun _ _ _ _ _ _ _ q=>le_int q
theorem Ll:cA X (compareOp .Gt) (lE fun i j => .bl (decide (j < i))):=lF fun _ _ _ _ _ _ _ q=>gt_int q
theorem Lm:cA X (compareOp .GtE) (lE fun i j => .bl (decide (j <= i))):=lF fun _ _ _ _ _ _ _ q=>ge_int q
theorem Ln:cA X (compareOp .Is) (fun x y H Q=>y = .non/\Q (.bl (decide (x = .non))) H):=by
 intro pins s σ H x y v u Q I rx ry h
 obtain⟨rfl,q⟩:=h
 cases ry
 refine is_none_gen (Dt I q ?_)
 cases x<;>first
  | (cases rx;rfl)
  | (obtain⟨t,rfl⟩:=rx;rfl)
theorem Lo:cA X (compareOp .IsNot) (fun x y H Q=>y = .non/\Q (.bl (!decide (x = .non))) H):=by
 intro pins s σ H x y v u Q I rx ry h
 obtain⟨rfl,q⟩:=h
 cases ry
 refine isnot_none_gen (Dt I q ?_)
 cases x<;>first
  | (cases rx;rfl)
  | (obtain⟨t,rfl⟩:=rx;rfl)
theorem yb (b:Expr) {op:CmpOp} (h:op ≠ .In:=by decide) (h2:op ≠ .NotIn:=by decide):behindInMarks op b=false:=by
 have e1:(op == CmpOp.In)=false:=by cases op<;>first | rfl | exact absurd rfl h
 have e2:(op == CmpOp.NotIn)=false:=by cases op<;>first | rfl | exact absurd rfl h2
 cases b<;>simp[behindInMarks,e1,e2]
theorem Lp {op:CmpOp} {r:R2} (ho:cA X (compareOp op) r) (ha:PE X a ta) (hb:PE X b tb) (hm:behindInMarks op b=false):PE X (.Compare a [op] [b] pos) (lD r ta tb):=by
 intro pins s σ H Q I h
 exact wpAny_Compare1 (oq ha hb I h fun v u s2 x y H2 I2 rx ry q=>ho pins s2 σ H2 x y v u Q I2 rx ry q) hm
noncomputable def Du (t:TE):TT:=fun σ H Q=>t σ H fun x H'=>∃ k,x = .bl k/\Q k H'
theorem Lq {op:CmpOp} {r:R2} (ho:cA X (compareOp op) r) (ha:PE X a ta) (hb:PE X b tb) (hm:behindInMarks op b=false):PT X (.Compare a [op] [b] pos) (Du (lD r ta tb)):=by
 intro pins s σ H Q I h
 refine wpAny_isTrue_Compare1 (a6 (ha pins s σ H _ I h) fun v s1 h0_ => el5 h0_ fun x H1 I1 r1 q1 =>a6 (hb pins s1 σ H1 _ I1 q1) fun u s2 h0_ => el5 h0_ fun y H2 I2 r2 q2 =>
  a6 (ho pins s2 σ H2 x y v u _ I2 r1 r2 q2) fun c s3 ⟨z,H3,I3,r3,k,e,q3⟩ => ?_) hm
 subst e
 cases r3
 exact XB ⟨H3,I3,q3⟩
noncomputable def Dv (r r':R2) (ta tb tc:TE):TE:=fun σ H Q=>ta σ H fun x H1=>tb σ H1 fun y H2=>r x y H2 fun z H3=>∃ k,z = .bl k ∧
 (if k=true then tc σ H3 fun w' H4=>r' y w' H4 Q else Q (.bl false) H3)
theorem Lr {op jQ:CmpOp} {r r':R2} (ho:cA X (compareOp op) r) (iW:cA X (compareOp jQ) r') (ha:PE X a ta) (hb:PE X b tb) (hc:PE X c tc)
  (hm:lastMarks [op,jQ] [b,c]=false:=by with_unfolding_all rfl):PE X (.Compare a [op,jQ] [b,c] pos) (Dv r r' ta tb tc):=by
 intro pins s σ H Q I h
 refine Compare_chain (a6 (ha pins s σ H _ I h) fun v s1 h0_ => el5 h0_ fun x H1 I1 r1 q1 =>chain_link (a6 (hb pins s1 σ H1 _ I1 q1) fun u s2 h0_ => el5 h0_ fun y H2 I2 r2 q2 =>
  a6 (ho pins s2 σ H2 x y v u _ I2 r1 r2 q2) fun d s3 ⟨z,H3,I3,r3,k,e,q3⟩ => ?_)) hm
 subst e
 cases r3
 refine XB ?_
 cases k with
 | false=>exact ite_ff ⟨.bl false,H3,I3,rfl,q3⟩
 | true=>exact ite_tt (chain_last (a6 (hc pins s3 σ H3 _ I3 q3) fun w' s4 ⟨z',H4,I4,r4,q4⟩=>iW pins s4 σ H4 y z' u w' Q I4 r2 r4 q4))
theorem ou:(sizeLine:Nat) < 2 ^ 63:=by rw[XY];decide
theorem Ls:cA X (binaryOp .Add) (fun x y H Q=>∃ i j,x = .str i/\y = .str j/\i.length + j.length <= sizeLine/\Q (.str (i ++ j)) H):=by
 intro pins s σ H x y v u Q I rx ry h
 obtain⟨i,j,rfl,rfl,hz,q⟩:=h
 obtain⟨t,rfl⟩:=rx
 obtain⟨t',rfl⟩:=ry
 exact add_str (fun t' tk=>⟨.str (i ++ j),H,I.tok _,⟨_,rfl⟩,q⟩) hz
theorem vals1 {x:V} {us:List Value} (r:Vals [x] us):∃ u,us=[u]/\RelV x u:=by
 cases r with
 | cons r1 r2=>cases r2;exact⟨_,rfl,r1⟩
theorem vals2 {x y:V} {us:List Value} (r:Vals [x,y] us):∃ u w',us=[u,w']/\RelV x u/\RelV y w':=by
 cases r with
 | cons r1 r2 =>
  cases r2 with
  | cons r3 r4=>cases r4;exact⟨_,_,rfl,r1,r3⟩
theorem Lu (hc:X.calm=true):eN X (.builtin "max") (fun xs H Q=>∃ i j,xs=[.int i,.int j]/\Q (.int (if j > i then j else i)) H):=by
 intro pins s σ H xs us Q I r h
 obtain⟨i,j,rfl,q⟩:=h
 obtain⟨u,w',rfl,⟨t,rfl⟩,⟨t',rfl⟩⟩:=vals2 r
 refine max_two_ints (I.ok.hd hc) fun h' tk k=>⟨_,H,I.kept k,?_,q⟩
 by_cases hj:j > i
 ·rw[We hj,We hj];exact⟨_,rfl⟩
 ·rw[VG hj,VG hj];exact⟨_,rfl⟩
theorem Lw (hc:X.calm=true):eN X (.builtin "min") (fun xs H Q=>∃ i j,xs=[.int i,.int j]/\Q (.int (if j < i then j else i)) H):=by
 intro pins s σ H xs us Q I r h
 obtain⟨i,j,rfl,q⟩:=h
 obtain⟨u,w',rfl,⟨t,rfl⟩,⟨t',rfl⟩⟩:=vals2 r
 refine min_two_ints (I.ok.hd hc) fun h' tk k=>⟨_,H,I.kept k,?_,q⟩
 by_cases hj:j < i
 ·rw[We hj,We hj];exact⟨_,rfl⟩
 ·rw[VG hj,VG hj];exact⟨_,rfl⟩
end
structure oy (h:Heap) (x dx C:Addr) (mA:Str->Option Value):Prop where
 obj:h.get? x=some (PySem.W.instObj C dx)
 ns:h.Ns1 dx mA
 ne:dx≠x
theorem Lx {h:Heap} {dx:Addr} {mA:Str->Option Value} (n:h.Ns1 dx mA):∃ od,h.get? dx=some od/\∀ name,PySem.W.lookIn name od=some (mA name):=by
 obtain⟨o,es,ep,ho,hd,hk,_,hm⟩:=n
 refine⟨o,ho,fun name => ?_⟩
 have e:=hm name
 unfold nsFind findBy at e
 rw[<-Array.find?_toList] at e
 unfold PySem.W.lookIn
 rw[hd]
 dsimp only
 split
 ·rename_i y q
  rw[q] at e
  exact congrArg some e
 ·rename_i q
  rw[q] at e
  have a:es.toList.any (·.refKey)=false:=by
   rw[YI]
   intro y hy
   obtain⟨z,t,yc⟩:=hk y (Zo.mp hy)
   simp[DictEntry.refKey,yc]
  have a':¬ es.toList.any (·.refKey)=true:=by rw[a];exact Wf
  rw[VG a']
  exact congrArg some e
theorem oy.look {h:Heap} {x dx C:Addr} {mA:Str->Option Value} (I:oy h x dx C mA):∃ od,PySem.W.InstAt h x (PySem.W.instObj C dx) C (some od)/\∀ name,PySem.W.lookIn name od=some (mA name) :=
 let ⟨od,ho,hl⟩:=Lx I.ns
 ⟨od,⟨I.obj,rfl,rfl,ho⟩,hl⟩
section
variable {prog:Program} {w:World} {A:Around} {E:Value->Shared->Prop} {s:Shared} {K:PySem.W.Frag} {x dx C f:Addr} {mA:Str->Option Value} {name:Str} {v:Value}
end
section
variable {P:Program} {w:World} {H H':Hp} {h h':Heap} {a C dx:Addr} {fs Kl:List (Str × V)}
theorem Ly (aJ:df P w H h) (e:H a=some (.ins C dx fs)):∃ mA,oy h a dx C mA/\(∀ f,hW (fs.lookup f) (mA f))/\PySem.Within mA (fs.map (·.1))/\fs.length <= 1000/\H dx=some (.own a):=by
 obtain⟨d,z,ne,ob,mA,n,r,q⟩:=(show aI P w H h a (.ins C dx fs) from aJ a _ e)
 exact⟨mA,⟨ob,n,ne⟩,r,q,z,d⟩
end
structure yd (K:PySem.W.Frag) (C:Addr):Prop where
 pg:PySem.W.plainGet K C Str.empty=true
 hd:PySem.W.hasDictIn K C=true
 po:PySem.W.plainOver K C=true
 sa:PySem.W.findIn K (.ref C) "__setattr__" = some (some (.builtin "object.__setattr__"))
theorem yd.get {K:PySem.W.Frag} {C:Addr} (c:yd K C) (f:Str):PySem.W.plainGet K C f=true:=c.pg
section
variable {X:Cx} {pins:List (Addr × Obj)} {σ : St} {H:Hp} {s:Shared} {a C dx:Addr} {fs:List (Str × V)} {f:Str} {v:V} {A:Around} {E:Value->Shared->Prop}
end
section
variable {X:Cx} {o e value:Expr} {f:Str} {pos pos' ye:Pos} {ta tv:TE}
end
section
variable {X:Cx} {pins:List (Addr × Obj)} {σ : St} {H:Hp} {s:Shared} {A:Around} {E:Value->Shared->Prop} {Q:Value->Shared->Prop} {c:Value} {b:Bool}
inductive dj (K:PySem.W.Frag) (H:Hp):V->Value->Prop where
 | non:dj K H .non (.type "NoneType")
 | bl (x:Bool):dj K H (.bl x) (.type "bool")
 | int (i:Int):dj K H (.int i) (.type "int")
 | str (x:Str):dj K H (.str x) (.type "str")
 | flt (x:UInt64):dj K H (.flt x) (.type "float")
 | lst {a:Addr} {xs:List V} (e:H a=some (.lst xs)):dj K H (.ref a) (.type "list")
 | frz {a:Addr} {o:Obj} {xs:List V} (e:H a=some (.frz o (.lst xs))):dj K H (.ref a) (.type "list")
 | tup {a:Addr} {xs:List V} (e:H a=some (.tup xs)):dj K H (.ref a) (.type "tuple")
 | dK {a:Addr} {kvs:List (Key × V)} (e:H a=some (.dK kvs)):dj K H (.ref a) (.type "dict")
 | dT {a:Addr} {kvs:List (List Key × V)} (e:H a=some (.dT kvs)):dj K H (.ref a) (.type "dict")
 | ins {a C dx:Addr} {fs:List (Str × V)} (e:H a=some (.ins C dx fs)) (cl:yd K C) (ha:PySem.W.findIn K (.ref C) "__class__" = some (some (.builtin "object.__class__")))
   (hn:PySem.W.specialIn K (.builtin "object.__class__") "__get__" = some (some (.builtin "getset_descriptor.__get__"))) (Dw:PySem.W.takesIn K (.builtin "object.__class__")=some true)
   (hm:PySem.W.mroIn K C (.type "object")=some true):dj K H (.ref a) (.ref C)
theorem Lz {x:V} {u t:Value} (I:Inv X pins σ H s) (rx:RelV x u) (ty:dj X.K H x t) (e:PySem.W.kitOne X.K t c=some b) (h:∀ tk,Q (.bool b) { s with toks:=tk }) :
  wpAny (model X.prog X.w) A (call (.builtin "isinstance") [u,c]) Q E s:=by
 cases ty with
 | non=>cases (show u=Value.none from rx);exact Xu PySem.W.kitx_none I.gx True.intro e (fun z=>nomatch z) h
 | bl y=>cases (show u=Value.bool y from rx);exact Xu PySem.W.kitx_bool I.gx True.intro e (fun z=>nomatch z) h
 | int i=>obtain⟨t,q⟩:=(show ∃ t,u=Value.int i t from rx);cases q;exact Xu PySem.W.kitx_int I.gx True.intro e (fun z=>nomatch z) h
 | str y=>obtain⟨t,q⟩:=(show ∃ t,u=Value.str y t from rx);cases q;exact Xu PySem.W.kitx_str I.gx True.intro e (fun z=>nomatch z) h
 | flt y=>obtain⟨t,q⟩:=(show ∃ t,u=Value.float y t from rx);cases q;exact Xu PySem.W.kitx_float I.gx True.intro e (fun z=>nomatch z) h
 | @lst a xs ea =>
  cases (show u=Value.ref a from rx)
  obtain⟨_,_,n,_,h1⟩:=(show aI X.prog X.w H s.heap a (.lst xs) from I.aJ a _ ea)
  exact Xu PySem.W.kitx_list I.gx ⟨_,h1,rfl⟩ e (fun z=>nomatch z) h
 | @frz a ob xs ea =>
  cases (show u=Value.ref a from rx)
  obtain⟨_,_,_,n,_,h1⟩:=(show aI X.prog X.w H s.heap a (.frz ob (.lst xs)) from I.aJ a _ ea)
  exact Xu PySem.W.kitx_list I.gx ⟨_,h1,rfl⟩ e (fun z=>nomatch z) h
 | @tup a xs ea =>
  cases (show u=Value.ref a from rx)
  obtain⟨_,_,_,p⟩:=(show aI X.prog X.w H s.heap a (.tup xs) from I.aJ a _ ea)
  obtain⟨o,h1,h2,_⟩:=p
  exact Xu PySem.W.kitx_tuple I.gx ⟨o,h1,h2⟩ e (fun z=>nomatch z) h
 | @dK a kvs ea =>
  cases (show u=Value.ref a from rx)
  obtain⟨_,_,vs,_,p⟩:=(show aI X.prog X.w H s.heap a (.dK kvs) from I.aJ a _ ea)
  obtain⟨o,es,ep,h1,h2,_⟩:=p
  exact Xu PySem.W.kitx_dict I.gx ⟨o,h1,h2.1⟩ e (fun z=>nomatch z) h
 | @dT a kvs ea =>
  cases (show u=Value.ref a from rx)
  obtain⟨_,_,xs,_,o,es,ep,h1,h2,_⟩:=(show aI X.prog X.w H s.heap a (.dT kvs) from I.aJ a _ ea)
  exact Xu PySem.W.kitx_dict I.gx ⟨o,h1,h2.1⟩ e (fun z=>nomatch z) h
 | @ins a C dx fs ea cl ha hn Dw hm =>
  cases (show u=Value.ref a from rx)
  obtain⟨mA,O,_⟩:=Ly I.aJ ea
  obtain⟨od,J,_⟩:=O.look
  exact Xu (PySem.W.kitx_own (cl.get _) cl.hd ha hn Dw hm) I.gx J e (fun z=>nomatch z) h
end
structure aY (k:Nat) (A:Around):Prop where
 hd:A.handled=none
 dp:A.depth + 3 * k + 5 < recursionLimit
 un:A.units + 16 * k + 200 < cLine
theorem aY.mono {j k:Nat} {A:Around} (r:aY k A) (h:j <= k):aY j A:=⟨r.hd,by have:=r.dp;omega,by have:=r.un;omega⟩
theorem aY.deeper {k:Nat} {A:Around} (r:aY (k + 1) A) (env:Env):aY k (A.deeper env) :=
 ⟨r.hd,by have:=r.dp;show A.depth + 1 + 3 * k + 5 < _;omega,by have:=r.un;show A.units + 3 + 16 * k + 200 < _;omega⟩
theorem aY.in1 {k:Nat} {A:Around} (r:aY (k + 1) A):aY k A.in1 :=
 ⟨r.hd,by have:=r.dp;show A.depth + 3 * k + 5 < _;omega,by have:=r.un;show A.units + 1 + 16 * k + 200 < _;omega⟩
theorem aY.depth {k:Nat} {A:Around} (r:aY k A):A.depth < recursionLimit:=by have:=r.dp;omega
theorem aY.units {k:Nat} {A:Around} (r:aY k A):A.units + 64 < cLine:=by have:=r.un;omega
noncomputable def gB:TA:=fun _ H Q=>Q [] H
noncomputable def eO (ta:TE) (tr:TA):TA:=fun σ H Q=>ta σ H fun x H1=>tr σ H1 fun xs H2=>Q (x :: xs) H2
section
variable {X:Cx} {e:Expr} {es:List Expr} {te:TE} {t:TA} {pos:Pos}
theorem LA:PA X [] gB:=fun _ _ _ _ H Q I h=>Calls.spliced_nil ⟨[],H,I,.nil,h⟩
theorem oz (ha:PE X e te) (hr:PA X es t) (hs:starEach (e :: es) X.env=(false,eval e X.env) :: starEach es X.env:=by rfl):PA X (e :: es) (eO te t):=by
 intro pos pins s σ H Q I h
 rw[hs]
 show wpAny _ _ (spliced ((false,eval e X.env) :: backTo pos (starEach es X.env))) _ _ s
 refine Calls.spliced_cons (a6 (ha pins s σ H _ I h) fun u s1 h0_ => el5 h0_ fun x H1 I1 r1 q1 => ?_)
 exact a6 (hr pos pins s1 σ H1 _ I1 q1) fun us s2 h0_ => el5 h0_ fun xs H2 I2 r2 q2 =>⟨x :: xs,H2,I2,.cons r1 r2,q2⟩
noncomputable def si (t:TA):TE:=fun σ H Q=>t σ H fun xs H1=>xs.length <= sizeLine/\∀ p,H1 p=none->Q (.ref p) (upd H1 p (.tup xs))
noncomputable def oA (t:TA):TE:=fun σ H Q=>t σ H fun xs H1=>xs.length <= sizeLine/\∀ p,H1 p=none->Q (.ref p) (upd H1 p (.lst xs))
theorem LB {x1} (h:PA X es t):PE X (.Tuple es x1 pos) (si t):=by
 intro pins s σ H Q I hq
 refine wpAny_Tuple_spliced (a6 (h pos pins s σ H _ I hq) fun us s1 ⟨xs,H1,I1,r,z,q⟩=>⟨by rw[<-r.length];exact z,?_⟩)
 have hf:H1 s1.heap.objs.size=none:=I1.aJ.fresh (qx _)
 refine⟨.ref s1.heap.objs.size,upd H1 s1.heap.objs.size (.tup xs),I1.laid (t':=s1.toks) (fun b u e=>sC _ e) (qx _) ?_,rfl,q _ hf⟩
 exact⟨z,us,r,⟨_,VH _ rfl,rfl,_,rfl⟩⟩
theorem LC (h:PA X es t):PE X (.List es pos) (oA t):=by
 intro pins s σ H Q I hq
 refine wpAny_List_spliced (a6 (h pos pins s σ H _ I hq) fun us s1 ⟨xs,H1,I1,r,z,q⟩=>⟨by rw[<-r.length];exact z,?_⟩)
 have hf:H1 s1.heap.objs.size=none:=I1.aJ.fresh (qx _)
 refine⟨.ref s1.heap.objs.size,upd H1 s1.heap.objs.size (.lst xs),I1.laid (t':=s1.toks) (fun b u e=>sC _ e) (qx _) ?_,rfl,q _ hf⟩
 exact⟨z,us,0,r,VH _ rfl⟩
end
noncomputable abbrev Sp:=List V->Hp->VK->XK->Prop
noncomputable abbrev iX:=List Env->Hp->Shared->XK->Value->Shared->Prop
structure lG (P:Program) (w:World) (K:PySem.W.Frag) (mg:Str->Option Value) (base:Heap) (A:Around) (outer:List Env) (s:Shared) (H:Hp):Prop where
 frames:A.frames=some outer
 mod:Mod K mg base
 bs:∀ b o,base.get? b=some o->s.heap.get? b=some o/\H b=none
 mN:base.objs.size <= s.heap.objs.size
 dR:s.heap.FunFrames base outer
 n5:∀ b∈jA outer,H b=none
 aJ:df P w H s.heap
 bare:AllBare s.gens
noncomputable def CE (outer:List Env) (P:Program) (w:World) (H:Hp) (s:Shared) (Q:VK) (u:Value) (s':Shared):Prop :=
 ∃ v H',s'.os=s.os/\AllBare s'.gens/\Un (jA outer) [] H H' s.heap s'.heap/\df P w H' s'.heap/\RelV v u/\Q v H'
noncomputable def CR (CX:iX) (outer:List Env) (P:Program) (w:World) (H:Hp) (s:Shared) (Q:VK) (E:XK) (r:Result) (s':Shared):Prop :=
 match r with
 | .ok (.ret u)=>CE outer P w H s Q u s'
 | .ok _=>False
 | .error e=>CX outer H s E e s'
structure cE (P:Program) (w:World) (K:PySem.W.Frag) (mg:Str->Option Value) (base:Heap) (CX:iX) (k:Nat) (f:Addr) (fd:FuncData) (ps:List Str) (sp:Sp):Prop where
 len:∀ vs H Q E,sp vs H Q E->vs.length=ps.length
 run:∀ (A:Around) (outer:List Env) (s:Shared) (H:Hp) (args:Args) (us:List Value) (vs:List V) (Q:VK) (E:XK),aY k A->lG P w K mg base A outer s H->BindsTo s fd args (ps.zip us)->Vals vs us->sp vs H Q E →
  codeAny (model P w) A (.call (.ref f) args) (CR CX outer P w H s Q E) s
section
variable {X:Cx} {pins:List (Addr × Obj)} {σ : St} {H:Hp} {s s':Shared}
theorem Inv.sj (I:Inv X pins σ H s):lG X.prog X.w X.K X.mg X.base X.A X.stack s H :=
 ⟨I.ok.frames,I.ok.mod,I.bs,Xg I.ok.mN I.sz,I.stack,I.iE,I.aJ,I.bare⟩
theorem Inv.after {Q:VK} {u:Value} (I:Inv X pins σ H s) (h:CE X.stack X.prog X.w H s Q u s'):EP X pins σ Q u s':=by
 obtain⟨v,H',os,bare,un,aJ,r,q⟩:=h
 obtain⟨hh,g,d,t,yf⟩:=s'
 obtain rfl:yf=s.os:=os
 exact⟨v,H',I.call (h':=hh) (g':=g) (d':=d) (t':=t) (ch:=[]) un aJ bare (fun b z=>absurd z (by simp)),r,q⟩
end
noncomputable def sk (sp:Sp) (jR:List V) (E:XK) (t:TA):TE:=fun σ H Q=>t σ H fun vs H1=>sp (vs ++ jR) H1 Q E
noncomputable def Binds (K:PySem.W.Frag) (fd:FuncData) (ps:List Str) (ds:List Value):Prop :=
 ∀ (s:Shared) (us:List Value),K.In s.heap->(us ++ ds).length=ps.length->BindsTo s fd ⟨us,[]⟩ (ps.zip (us ++ ds))
theorem Binds.all {K:PySem.W.Frag} {fd:FuncData} {ps:List Str} (h:∀ us:List Value,us.length=ps.length->bindArgs fd ⟨us,[]⟩=pure (ps.zip us)):Binds K fd ps []:=fun s us _ hl=>by
 rw[YC] at hl ⊢
 exact .of_eq (h us hl)
noncomputable def vj (CX:iX) (X:Cx) (E:XK):Prop:=∀ (pins:List (Addr × Obj)) (σ : St) (H:Hp) (s:Shared) (e:Value) (s':Shared),Inv X pins σ H s->CX X.stack H s E e s'->X.xe e s'
section
variable {X:Cx} {CX:iX} {k:Nat} {f C:Addr} {fd:FuncData} {ps:List Str} {sp:Sp} {jR:List V} {ds:List Value} {E:XK} {x m:Str} {p pos apos:Pos} {e o:Expr} {es:List Expr} {ta:TE} {t:TA}
theorem LF {pins:List (Addr × Obj)} {σ : St} {H:Hp} {s:Shared} {Q:VK} {us:List Value} {vs:List V} (F:cE X.prog X.w X.K X.mg X.base CX k f fd ps sp) (hr:aY k X.A) (hb:Binds X.K fd ps ds) (hd:Vals jR ds) (hx:vj CX X E)
  (I:Inv X pins σ H s) (r:Vals vs us) (h:sp (vs ++ jR) H Q E):wpAny (model X.prog X.w) X.A (call (.ref f) us) (EP X pins σ Q) X.xe s:=by
 have r2:Vals (vs ++ jR) (us ++ ds):=r.append hd
 have hl:(us ++ ds).length=ps.length:=by rw[<-r2.length];exact F.len _ _ _ _ h
 refine wpAny_call (Zy (F.run X.A X.stack s H ⟨us,[]⟩ (us ++ ds) (vs ++ jR) Q E hr I.sj (hb s us I.gx hl) r2 h) fun r s' hq => ?_)
 cases r with
 | error e=>exact hx pins σ H s e s' I hq
 | ok fl =>
  cases fl with
  | ret u=>exact I.after hq
  | next=>exact False.elim hq
  | brk=>exact False.elim hq
  | cont=>exact False.elim hq
theorem LG (F:cE X.prog X.w X.K X.mg X.base CX k f fd ps sp) (hr:aY k X.A) (hg:Gl X x) (hm:X.mg x=some (.ref f)) (hk:PySem.W.keepIn X.K (.ref f)=true) (hb:Binds X.K fd ps ds) (hd:Vals jR ds) (hx:vj CX X E)
  (ha:PA X (e :: es) t) (dS:(x == ("__debug__" : Str))=false:=by decide) (he:starEach (e :: es) X.env=(false,eval e X.env) :: starEach es X.env:=by rfl) (dM:(backTo pos (starEach es X.env)).any (·.1)=false:=by rfl) :
  PE X (.Call (.Name x p) (e :: es) [] pos) (sk sp jR E t):=by
 intro pins s σ H Q I h
 refine Ya (De I hg hm ?_ dS)
 refine PySem.W.callWith_K (h₀ := X.base) I.ok.mod.mM hk (a6 (ha pos pins s σ H _ I h) fun us s1 h0_ => el5 h0_ fun vs H1 I1 r q =>⟨I1.gx,?_⟩) he dM
 exact LF F hr hb hd hx I1 r q
end
section
variable {X:Cx} {CX:iX} {k:Nat} {f C:Addr} {fd:FuncData} {ps ks:List Str} {sp:Sp} {E:XK} {x m:Str} {p pos apos d9:Pos} {e o:Expr} {es:List Expr} {VA:List Keyword} {te ta:TE} {t tk:TA} {nm:Option Str}
variable {g:List Value->List Value->List Value} {gV:List V->List V->List V}
end
structure kP (N P:List Str) (sc:Scope):Prop where
 kind:sc.kind = .function
 co:sc.isCoroutine=false
 gen:sc.isGenerator=false
 nd:N.Nodup
 pre:N.take P.length=P
 par:∀ x∈P,sc.names.lookup x=some .local\/sc.names.lookup x=some .cell
 oB:∀ y∈sc.names,y.2 ≠ .free
theorem Dy {kindOf:Str->Option NameKind} {x:Str}:∀ {binds:List (Str × Value)} {m:Str->Option Value},(∀ v,(x,v)∉binds)->bindL kindOf binds m x=m x
 | [],_,_=>rfl
 | (n,v) :: r,m,h=>by
  unfold bindL
  rw[Dy fun w hw=>h w (Mp _ hw)]
  split
  ·have:x≠n:=by rintro rfl;exact h v yE
   simp[this]
  ·rfl
theorem Dz {kindOf:Str->Option NameKind} {x:Str}:∀ {binds:List (Str × Value)} {m:Str->Option Value},(∀ v,(x,v)∉binds)->bindC kindOf binds m x=m x
 | [],_,_=>rfl
 | (n,v) :: r,m,h=>by
  unfold bindC
  rw[Dz fun w hw=>h w (Mp _ hw)]
  split
  ·rfl
  ·have:x≠n:=by rintro rfl;exact h v yE
   simp[this]
theorem DA {kindOf:Str->Option NameKind} {x:Str} {v:Value}:∀ {P:List Str} {vs:List Value} {i:Nat} {m:Str->Option Value},P.Nodup->P[i]? = some x->vs[i]? = some v->kindOf x=some .local →
  bindL kindOf (P.zip vs) m x=some v
 | [],_,_,_,_,h,_,_=>by simp at h
 | _ :: _,[],_,_,_,_,h,_=>by simp at h
 | p :: P,w :: vs,0,m,nd,h1,h2,hk=>by
  simp at h1 h2;subst h1;subst h2
  show bindL kindOf ((p,w) :: P.zip vs) m p=_
  unfold bindL
  rw[Dy fun v hv=>(XE.mp nd).1 (q0q hv).1,We hk]
  simp
 | p :: P,w :: vs,i + 1,m,nd,h1,h2,hk=>by
  show bindL kindOf ((p,w) :: P.zip vs) m x=_
  unfold bindL
  exact DA (i:=i) (XE.mp nd).2 (by simpa using h1) (by simpa using h2) hk
theorem DB {kindOf:Str->Option NameKind} {x:Str} {v:Value}:∀ {P:List Str} {vs:List Value} {i:Nat} {m:Str->Option Value},P.Nodup->P[i]? = some x->vs[i]? = some v->kindOf x≠some .local →
  bindC kindOf (P.zip vs) m x=some v
 | [],_,_,_,_,h,_,_=>by simp at h
 | _ :: _,[],_,_,_,_,h,_=>by simp at h
 | p :: P,w :: vs,0,m,nd,h1,h2,hk=>by
  simp at h1 h2;subst h1;subst h2
  show bindC kindOf ((p,w) :: P.zip vs) m p=_
  unfold bindC
  rw[Dz fun v hv=>(XE.mp nd).1 (q0q hv).1,VG hk]
  simp
 | p :: P,w :: vs,i + 1,m,nd,h1,h2,hk=>by
  show bindC kindOf ((p,w) :: P.zip vs) m x=_
  unfold bindC
  exact DB (i:=i) (XE.mp nd).2 (by simpa using h1) (by simpa using h2) hk
noncomputable def start (N:List Str) (vs:List V):St:=vs.map some ++ List.replicate (N.length - vs.length) none
noncomputable def dU (CX:iX) (P:Program) (w:World) (K:PySem.W.Frag) (mg:Str->Option Value) (base:Heap) (N:List Str) (qual:Str) (scope:Scope) (f:Addr) (cd:Value) (A:Around) (outer:List Env) (s:Shared) (H:Hp) (E:XK):Cx where
 prog:=P
 w:=w
 K:=K
 mg:=mg
 base:=base
 A:=A.deeper (envOfC qual scope s.heap.objs.size f cd)
 N:=N
 s₀ := s
 H₀ := H
 env:=envOfC qual scope s.heap.objs.size f cd
 outer:=outer
 stack:=envOfC qual scope s.heap.objs.size f cd :: outer
 ex:=[]
 calm:=true
 fn:=fun _=>true
 pn:=[]
 xe:=fun e s'=>wpAny (model P w) (A.deeper (envOfC qual scope s.heap.objs.size f cd)) (leaving (envOfC qual scope s.heap.objs.size f cd) e) (fun _ hZ=>CX outer H s E e hZ) (fun e' hZ=>CX outer H s E e' hZ) s'
theorem DC {sc:Scope} {n:Nat} {x:Str} (h:sc.names.lookup x=some .cell):∃ c,(cellsFrom n sc.names []).lookup x=some c:=by
 have q:=Zc sc.names n [] (.inl h)
 exact YT.mp q
theorem LH {CX:iX} {P:Program} {w:World} {K:PySem.W.Frag} {mg:Str->Option Value} {base:Heap} {N ps:List Str} {qual:Str} {scope:Scope} {f:Addr} {cd:Value} {A:Around} {outer:List Env} {s s1:Shared} {H:Hp} {E:XK} {us:List Value} {vs:List V}
  (S:kP N ps scope) (hd:A.handled=none) (e0:lG P w K mg base A outer s H) (hl:vs.length=ps.length) (r:Vals vs us)
  (x:InCallC s s.heap.objs.size (bindL (envOfC qual scope s.heap.objs.size f cd).kindOf (ps.zip us) fun _=>none) (cellsFrom (s.heap.objs.size + 1) scope.names []) (bindC (envOfC qual scope s.heap.objs.size f cd).kindOf (ps.zip us) fun _=>none) s1) :
  Inv (dU CX P w K mg base N qual scope f cd A outer s H E) [] (start N vs) H s1:=by
 have dM:ps.length <= N.length:=by have:=congrArg List.length S.pre;rw[Wu] at this;omega
 obtain⟨h1,tk,rfl,hk⟩:=x.done
 have lH:∀ b:Addr,b∉(dU CX P w K mg base N qual scope f cd A outer s H E).ex:=fun b z=>absurd (show b∈([]:List Addr) from z) (by simp)
 refine⟨⟨e0.mod,S.kind,rfl,rfl,qx _,fun y z c h1 h2 => ?_,fun y hy => ?_,fun y c _ h => ?_,fun _=>hd,Around.frames_deeper e0.frames,.inr ⟨rfl,rfl⟩,fun b z=>absurd z (lH b),e0.bs,e0.mN,fun b _ _=>lH b,fun b z=>absurd z (lH b),e0.dR,e0.n5⟩,
  rfl,e0.bare,Un.kept hk,⟨_,x.toInCall.ns,fun i y v h1 h2 h3 => ?_⟩,fun y c h=>⟨_,x.cell y c h⟩,e0.aJ.fresh (qx _),fun y c h => ?_,fun p hp=>absurd (show p∈([]:List (Addr × Obj)) from hp) (by simp),e0.aJ.kept hk,?_⟩
 ·exact name_of_addr x.apart (Xm h1) (Xm h2)
 ·have hy:scope.names.lookup y=some .cell\/scope.names.lookup y=some .free:=hy
  rcases hy with hy | hy
  ·exact DC hy
  ·exact absurd rfl (S.oB _ (Xm hy))
 ·exact XM (x.above y c (Xm h))
 ·have hi:i < vs.length:=by
   unfold start at h2
   by_cases hi:i < vs.length
   ·exact hi
   ·rw[Wg (by simpa using hi)] at h2
    rw[Y4] at h2
    split at h2<;>cases h2
  have ha:vs[i]? = some v:=by
   unfold start at h2
   rw[Wd (by simpa using hi),D8] at h2
   cases e:vs[i]? with
   | none=>rw[e] at h2;cases h2
   | some a=>rw[e] at h2;cases h2;rfl
  obtain⟨u,hu,rv⟩:=r.get ha
  have hp:ps[i]? = some y:=by
   rw[<-S.pre,WU (by omega)];exact h1
  have DD:ps.Nodup:=by rw[<-S.pre];exact S.nd.sublist (ZM _ _)
  refine⟨u,rv,?_⟩
  rcases S.par y (Ws hp) with k | k
  ·exact .inl ⟨k,DA DD hp hu k⟩
  ·obtain⟨c,e⟩:=DC (n:=s.heap.objs.size + 1) k
   refine .inr ⟨.inl k,c,e,?_⟩
   have q:=x.cell y c e
   rw[DB DD hp hu (by show scope.names.lookup y≠_;rw[k];decide)] at q
   exact q
 ·exact e0.aJ.fresh (XM (x.above y c (Xm h)))
 ·unfold start
  show _=N.length
  rw[D6,oS,Zj]
  omega
theorem DE {CX:iX} {P:Program} {w:World} {K:PySem.W.Frag} {mg:Str->Option Value} {base:Heap} {k:Nat} {f:Addr} {name qual:Str} {params:Arguments} {body:List Stmt} {scope:Scope} {dV kV doc pm aU ct oc:Value} {an od:Option Addr}
  {lI:Array (Option Value)} {N ps:List Str} {sp:Sp} (lk:K.lookup f=some ⟨oc,od,.func (PySem.W.fnOf name qual params body scope dV kV doc pm an aU ct),lI⟩) (d7:PySem.W.codeIn K aU qual=true) (S:kP N ps scope)
  (len:∀ vs H Q E,sp vs H Q E->vs.length=ps.length)
  (dm:∀ (A:Around) (outer:List Env) (s:Shared) (H:Hp) (vs:List V) (Q:VK) (E:XK),aY k (A.deeper (envOfC qual scope s.heap.objs.size f aU))->sp vs H Q E →
   ∃ t,gz (dU CX P w K mg base N qual scope f aU A outer s H E) body t/\t { nx:=fun _ H'=>Q .non H',rt:=Q } (start N vs) H) :
  cE P w K mg base CX (k + 1) f (PySem.W.fnOf name qual params body scope dV kV doc pm an aU ct) ps sp:=by
 refine⟨len,fun A outer s H args us vs Q E hr e0 hb r mS => ?_⟩
 have hl:=len _ _ _ _ mS
 have KX:K.In s.heap:=e0.mod.mM.keeps fun b o e=>(e0.bs b o e).1
 have lim:s.heap.NoLimit:=e0.mod.nolimit.keeps fun b o e=>(e0.bs b o e).1
 have so:∀ y∈ps.zip us,scope.names.lookup y.1=some .local\/(scope.names.lookup y.1=some .cell/\((cellsFrom (s.heap.objs.size + 1) scope.names []).lookup y.1).isSome=true):=fun ⟨n,v⟩ hy=>by
  rcases S.par n (q0q hy).1 with q | q
  ·exact .inl q
  ·exact .inr ⟨q,Zc _ _ _ (.inl q)⟩
 refine codeAny_call_function hr.depth (KX _ _ lk) rfl S.co S.gen rfl (PySem.W.codeRec_of KX d7) (hb _ _ _ _ ?_)
 refine wpAny_newFunctionEnv_cells S.kind so fun env he s1 x => ?_
 subst he
 refine⟨lim.keeps x.toInCall.keep,codeAny_func ?_⟩
 obtain⟨t,ht,hq⟩:=dm A outer s H vs Q E (hr.deeper _) mS
 have I:Inv (dU CX P w K mg base N qual scope f aU A outer s H E) [] (start N vs) H s1:=LH S hr.hd e0 hl r x
 refine XW (ht [] s1 (start N vs) H _ I hq) (fun fl s' hs => ?_) fun e s' hs=>hs
 have fin:∀ {σ':St} {H':Hp} {v:V} {u:Value},Inv (dU CX P w K mg base N qual scope f aU A outer s H E) [] σ' H' s'->RelV v u->Q v H'->CE outer P w H s Q u s' :=
  fun {σ' H' v u} J rv q=>⟨v,H',J.os,J.bare,J.base,J.aJ,rv,q⟩
 cases fl with
 | ret u =>
  obtain⟨v,σ',H',J,rv,q⟩:=hs
  exact fin J rv q
 | next =>
  obtain⟨σ',H',J,q⟩:=hs
  exact fin (v:=V.non) (u:=Value.none) J rfl q
 | brk =>
  obtain⟨_,_,_,q⟩:=hs
  exact False.elim q
 | cont =>
  obtain⟨_,_,_,q⟩:=hs
  exact False.elim q
section
variable {X:Cx} {x:Str} {p pos:Pos} {e:Expr} {es:List Expr} {t:TA} {id T:String} {r:List V->Hp->VK->Prop}
noncomputable def oC (r:List V->Hp->VK->Prop) (t:TA):TE:=fun σ H Q=>t σ H fun vs H1=>r vs H1 Q
theorem LI (hc:eN X (.builtin id) r) (hg:Gl X x) (hm:X.mg x=none) (hv:bootBuiltins x=some (.builtin id)) (ha:PA X (e :: es) t) (hn:x ≠ "__name__" := by decide) (dS:(x == ("__debug__" : Str))=false:=by decide)
  (he:starEach (e :: es) X.env=(false,eval e X.env) :: starEach es X.env:=by rfl) (dM:(backTo pos (starEach es X.env)).any (·.1)=false:=by rfl):PE X (.Call (.Name x p) (e :: es) [] pos) (oC r t):=by
 intro pins s σ H Q I h
 refine Ya (kM I hg hm hv ?_ hn dS)
 exact PyProof.Rows.callWith_builtin1 (a6 (ha pos pins s σ H _ I h) fun us s1 h0_ => el5 h0_ fun vs H1 I1 r1 q1 =>hc pins s1 σ H1 vs us Q I1 r1 q1) he dM
theorem LL (hc:eN X (.type T) r) (hg:Gl X x) (hm:X.mg x=none) (hv:bootBuiltins x=some (.type T)) (ha:PA X (e :: es) t) (hn:x ≠ "__name__" := by decide) (dS:(x == ("__debug__" : Str))=false:=by decide)
  (he:starEach (e :: es) X.env=(false,eval e X.env) :: starEach es X.env:=by rfl) (dM:(backTo pos (starEach es X.env)).any (·.1)=false:=by rfl):PE X (.Call (.Name x p) (e :: es) [] pos) (oC r t):=by
 intro pins s σ H Q I h
 refine Ya (kM I hg hm hv ?_ hn dS)
 exact XI (a6 (ha pos pins s σ H _ I h) fun us s1 h0_ => el5 h0_ fun vs H1 I1 r1 q1 =>hc pins s1 σ H1 vs us Q I1 r1 q1) he dM
end
end L2
namespace HT
open PySem PyProof.Rows
noncomputable def lexLt:List Int->List Int->Bool
 | [],[]=>false
 | [],_ :: _=>true
 | _ :: _,[]=>false
 | x :: xs,y :: ys=>if x=y then lexLt xs ys else decide (x < y)
theorem mT (x y:Int) (xs ys:List Int):lexLt (x :: xs) (y :: ys)=if x=y then lexLt xs ys else decide (x < y):=rfl
theorem DF:lexLt [] []=false:=rfl
theorem DG (y:Int) (ys:List Int):lexLt [] (y :: ys)=true:=rfl
theorem DH (x:Int) (xs:List Int):lexLt (x :: xs) []=false:=rfl
theorem DI (A:Around) (s:Shared) (a:Int) (t:Tok) (c:Int) (u:Tok):∃ e,SeqAt.EqAt A s (.int a t) (.int c u) e/\(e=true↔a=c) :=
 ⟨(a == c),ZE a t c u,by simp⟩
theorem LM (A:Around) (s:Shared) (a:Int) (t:Tok) (c:Int) (u:Tok) (prog:Program) (w:World) (E:Value->Shared->Prop) (Q:Value->Shared->Prop) (h:Q (.bool (decide (a < c))) s) :
  wpAny (model prog w) A (richCompare .Lt (.int a t) (.int c u)) Q E s :=
 (PyProof.Rows.lt_int h:wpAny (model prog w) A (compareOp .Lt (.int a t) (.int c u)) Q E s)
section
open PySem.SeqAt
open PySem.AutoSeq1 (wpAny_loadPart')
open PySem.MeetsSeq PySem.MeetsSeq2 PySem.MeetsSeq3
theorem LN (l b:Addr) (items aN:Array Value) (n n2:Nat) (dd jB:Option Addr) (sl jC:Array (Option Value)) (ns ms:List Int) (hi:IntsAre items.toList ns) (hj:IntsAre aN.toList ms) :
  Meets (Builtin.«tuple.__lt__» ⟨[.ref l,.ref b],[]⟩)
   (fun _ R s=>s.heap.get? l=some { cls := .type "tuple",dict:=dd,data := .seq items n,slots:=sl }/\s.heap.get? b=some { cls := .type "tuple",dict:=jB,data := .seq aN n2,slots:=jC } ∧
    R (.ok (.ret (.bool (lexLt ns ms)))) s) :=
 .of_wp fun prog w A R s h=>by
  obtain⟨hp,g,d,tk,os⟩:=s;obtain⟨hl,hb,h⟩:=h
  have f2:=AutoSeq1.sub_tuple_tuple
  have z1:items.size=ns.length:=by rw[<-hi.length];simp
  have z2:aN.size=ms.length:=by rw[<-hj.length];simp
  wp_walk using Xi hl,Xi hb,YM _ (fun rest b s'=>b.1=none/\s'=⟨hp,g,d,tk,os⟩/\∃ (vs ws:List Value) (e7 iY:List Int),rest=vs.zip ws ∧
   IntsAre vs e7/\IntsAre ws iY/\e7.length + aN.size=iY.length + items.size/\R (.ok (.ret (.bool (lexLt e7 iY)))) ⟨hp,g,d,tk,os⟩) _
  case turn =>
   rintro ⟨y,x⟩ rest b s' ⟨hb',rfl,vs,ws,e7,iY,hz,oD,lJ,hlen,hR⟩
   cases oD with
   | nil=>rw[Zd] at hz;cases hz
   | cons a t oE =>
    cases lJ with
    | nil=>rw[ZF] at hz;cases hz
    | cons c u oF =>
     rw[Yz] at hz
     injection hz with yg jS
     injection yg with hy hx
     subst hy hx
     rw[mT] at hR
     simp only[D7] at hlen
     obtain⟨e,he,jT⟩:=DI A.in1 ⟨hp,g,d,tk,os⟩ a t c u
     refine oQ (he prog w _ _ ?_)
     cases e with
     | true =>
      rw[We (jT.mp rfl)] at hR
      wp_walk
      exact⟨rfl,rfl,_,_,_,_,jS,oE,oF,by omega,hR⟩
     | false =>
      rw[VG (fun q=>absurd (jT.mpr q) Wf)] at hR
      have yh:=LM A.in1 ⟨hp,g,d,tk,os⟩ a t c u prog w
      wp_walk using yh
      exact⟨_,rfl,by simpa using hR⟩
  case fin =>
   rintro ⟨b1,b2⟩ s' ⟨hb',rfl,vs,ws,e7,iY,hz,oD,lJ,hlen,hR⟩
   simp only at hb'
   subst hb'
   have hv:lexLt e7 iY=decide (items.size < aN.size):=by
    cases oD with
    | nil =>
     cases lJ with
     | nil =>
      simp only[XF] at hlen
      rw[DF]
      exact (VF (by omega)).symm
     | cons c u hw =>
      simp only[XF,D7] at hlen
      rw[DG]
      exact (Mr (by omega)).symm
    | cons a t hv =>
     cases lJ with
     | nil =>
      simp only[XF,D7] at hlen
      rw[DH]
      exact (VF (by omega)).symm
     | cons c u hw =>
      rw[Yz] at hz
      cases hz
   rw[hv] at hR
   wp_walk
   exact⟨_,rfl,by simpa [Builtin.Tuple.tupleCompareSizes] using hR⟩
  case h =>
   exact⟨rfl,rfl,items.toList,aN.toList,ns,ms,rfl,hi,hj,by omega,h⟩
end
section
variable {prog:Program} {w:World} {A:Around} {E:Value->Shared->Prop} {s:Shared}
theorem yi {l b:Addr} {items aN:Array Value} {ns ms:List Int} {Q:Value->Shared->Prop} (hl:IsTup s.heap l items) (hb:IsTup s.heap b aN) (hi:IntsAre items.toList ns) (hj:IntsAre aN.toList ms)
  (hu:A.units < cLine) (h:Q (.bool (lexLt ns ms)) s):wpAny (model prog w) A (compareOp .Lt (.ref l) (.ref b)) Q E s:=by
 obtain⟨⟨cls,dd,data,sl⟩,ho,hc,n,hd⟩:=id hl
 obtain⟨⟨oG,jB,data2,jC⟩,eQ,e8,n2,hd2⟩:=id hb
 simp only at hc hd e8 hd2
 subst hc hd e8 hd2
 exact richCompare_meets_room (op := .Lt) ⟨_,ho,rfl⟩ ⟨_,eQ,rfl⟩ PySem.F.slot_tuple_lt PySem.F.entry_tuple_lt (PySem.F.args_tuple_lt_2 _ _) (LN l b items aN n n2 dd jB sl jC ns ms hi hj)
  ⟨ho,eQ,show Value.bool (lexLt ns ms)≠Value.notImplemented/\Q (.bool (lexLt ns ms)) s from ⟨(fun x=>nomatch x),h⟩⟩ hu
theorem LP {t b:Addr} {vs ws:List Value} {Q:Value->Shared->Prop} (ht:IsTup s.heap t vs.toArray) (hb:IsTup s.heap b ws.toArray) (hv:vs≠[])
  (h1:ws=[]->Q (.ref t) s) (h2:ws≠[]->Q (.ref s.heap.objs.size) { s with heap:=s.heap.push { cls := .type "tuple",data := .seq (vs ++ ws).toArray } })
  (hsz:vs.length + ws.length <= sizeLine):wpAny (model prog w) A (binaryOp .Add (.ref t) (.ref b)) Q E s:=by
 obtain⟨⟨cls,dd,data,sl⟩,ho,hc,n,hd⟩:=id ht
 obtain⟨⟨oG,jB,data2,jC⟩,eQ,e8,n2,hd2⟩:=id hb
 simp only at hc hd e8 hd2
 subst hc hd e8 hd2
 have e:vs.toArray ++ ws.toArray=(vs ++ ws).toArray:=by simp
 by_cases hw:ws=[]
 ·exact concat_meets ⟨_,ho,rfl⟩ ⟨_,eQ,rfl⟩ ZY seq_tuple_add Ze Y5 (YU _ _)
   (tuple_addW1 t b vs.toArray ws.toArray n n2 dd jB sl jC (by simpa using hv) (by simp[hw])) ⟨ho,eQ,h1 hw⟩
 ·refine concat_meets ⟨_,ho,rfl⟩ ⟨_,eQ,rfl⟩ ZY seq_tuple_add Ze Y5 (YU _ _)
   (tuple_addW2 t b vs.toArray ws.toArray n n2 dd jB sl jC (by simpa using hv) (by simpa using hw) (by rw[vp,vp];exact hsz)) ⟨ho,eQ,?_⟩
  rw[e]
  exact h2 hw
noncomputable def aZ (n d:Nat):Option Int->Nat
 | none=>d
 | some v=>if v < 0 then (v + (n:Int)).toNat else min v.toNat n
theorem yj (n d:Nat):aZ n d none=d:=rfl
theorem sq (n d k:Nat):aZ n d (some (k:Int))=min k n:=by
 show (if (k:Int) < 0 then ((k:Int) + (n:Int)).toNat else min (k:Int).toNat n)=min k n
 rw[VG (by omega),Wj]
theorem LQ (n d:Nat) (hd:d <= n) (o:Option Int):aZ n d o <= n:=by
 cases o with
 | none=>exact hd
 | some v =>
  show (if v < 0 then (v + (n:Int)).toNat else min v.toNat n) <= n
  by_cases hv:v < 0
  ·rw[We hv];omega
  ·rw[VG hv];exact Nat.min_le_right _ _
theorem DJ (v:Int) (n d:Nat):(if v < 0 then max (v + (n:Int)) 0 else min v (n:Int))=((aZ n d (some v):Nat):Int):=by
 show (if v < 0 then max (v + (n:Int)) 0 else min v (n:Int))=(((if v < 0 then (v + (n:Int)).toNat else min v.toNat n):Nat):Int)
 by_cases hv:v < 0
 ·simp only[We hv];omega
 ·simp only[VG hv];omega
theorem LR (lo hi:Option Int) (n:Nat):Builtin.Slice.sliceAdjust lo hi 1 (n:Int)=(((aZ n 0 lo:Nat):Int),((aZ n n hi:Nat):Int)):=by
 have h1:¬ ((1:Int) < 0):=by omega
 unfold Builtin.Slice.sliceAdjust
 simp only[h1,Xr]
 refine Prod.ext ?_ ?_
 ·cases lo with
  | none=>rfl
  | some v=>exact DJ v n 0
 ·cases hi with
  | none=>rfl
  | some v=>exact DJ v n n
theorem LU (i j:Nat):Builtin.Slice.slicePlaces (i:Int) (j:Int) 1=j - i:=by
 unfold Builtin.Slice.slicePlaces
 have h1:(1:Int) > 0:=by omega
 simp only[h1,Yy,Int.ediv_one]
 split<;>omega
theorem DK {v:Value} {o:Option Int} {Q:Option Int->Shared->Prop} (p:IsPart v o) (h:Q o s):wpAny (model prog w) A (Builtin.Slice.slicePartIndex v) Q E s:=by
 cases p with
 | none=>exact slicePart_none h
 | int i t=>exact slicePart_int h
theorem DL {sl:Addr} {vl vu:Value} {lo hi:Option Int} {n:Nat} {Q:Int × Int × Nat->Shared->Prop} (hs:s.heap.IsSliceOf sl vl vu .none) (pl:IsPart vl lo) (pu:IsPart vu hi)
  (h:Q (((aZ n 0 lo:Nat):Int),1,aZ n n hi - aZ n 0 lo) s):wpAny (model prog w) A (Builtin.Slice.sliceApplied (.ref sl) (pure (n:Int))) Q E s:=by
 obtain⟨os,oH,qu,sv⟩:=id hs
 unfold Builtin.Slice.sliceApplied Builtin.Slice.sliceFields
 refine oQ (oQ (Y6 oH sv (x:=vl) rfl (oQ (Y6 oH sv (x:=vu) rfl (oQ (Y6 oH sv (x := .none) rfl (D5 ?_)))))))
 refine oQ (slicePart_none ?_)
 show wpAny _ _ (if ((1:Int) == 0)=true then _ else _) _ _ s
 rw[VG (by decide)]
 refine oQ (DK pl (oQ (DK pu (oQ (D5 ?_)))))
 show wpAny _ _ (match Builtin.Slice.sliceAdjust lo hi 1 (n:Int) with | (lo,hi)=>pure (lo,(1:Int),Builtin.Slice.slicePlaces lo hi 1)) _ _ s
 rw[LR lo hi n]
 show wpAny _ _ (pure (((aZ n 0 lo:Nat):Int),(1:Int),Builtin.Slice.slicePlaces ((aZ n 0 lo:Nat):Int) ((aZ n n hi:Nat):Int) 1)) _ _ s
 rw[LU]
 exact D5 h
theorem LV (xs:Array Value) (i k:Nat):((List.range k).filterMap fun (m:Nat)=>xs[((i:Int) + (m:Int) * 1).toNat]?).toArray=((xs.toList.drop i).take k).toArray:=by
 have e:(fun (m:Nat)=>xs[((i:Int) + (m:Int) * 1).toNat]?)=fun m=>xs[i + m]? := by
  funext m
  have:((i:Int) + (m:Int) * 1).toNat=i + m:=by omega
  rw[this]
 rw[e]
 have:=pick_run xs i k
 rw[List.filterMap_map] at this
 have e2:((fun x=>xs[x]?) ∘ fun x=>i + x)=fun m=>xs[i + m]? := rfl
 rw[e2] at this
 rw[this]
theorem LW {t sl:Addr} {items:Array Value} {vl vu:Value} {lo hi:Option Int} {Q:Value->Shared->Prop} (ht:IsTup s.heap t items) (hs:s.heap.IsSliceOf sl vl vu .none) (pl:IsPart vl lo) (pu:IsPart vu hi)
  (hw:¬ (aZ items.size 0 lo=0/\aZ items.size items.size hi=items.size))
  (h:Q (.ref s.heap.objs.size) { s with heap:=s.heap.push { cls := .type "tuple",data := .seq ((items.toList.drop (aZ items.size 0 lo)).take (aZ items.size items.size hi - aZ items.size 0 lo)).toArray } })
  (hsz:items.size <= sizeLine):wpAny (model prog w) A (getItem (.ref t) (.ref sl)) Q E s:=by
 have iI:sizeOk (.seq ((items.toList.drop (aZ items.size 0 lo)).take (aZ items.size items.size hi - aZ items.size 0 lo)).toArray):=by
  show ((items.toList.drop (aZ items.size 0 lo)).take (aZ items.size items.size hi - aZ items.size 0 lo)).toArray.size <= sizeLine
  rw[vp,Wu,Xw,Ms]
  omega
 have hj:aZ items.size items.size hi <= items.size:=LQ _ _ (qx _) hi
 obtain⟨os,oH,qu,sv⟩:=id hs
 have yk:s.TypeIs (.ref sl) "slice" := ⟨os,oH,qu⟩
 unfold getItem
 try with_reducible refine WK ?_
 first | refine oQ (D5 ?_) | skip
 refine oQ (wpAny_sequenceKey ht.typeIs (by decide) ?_)
 refine oQ (Yt (name:=Str.ofString "__getitem__") ht.typeIs Xa
  (Zl Xa ht.typeIs entry_tuple_getitem ?_ (args_tuple_getitem _ _)))
 show wpAny _ _ (Builtin.Tuple.tupleItemsOf (.ref t) >>= _) _ _ s
 refine oQ (tupleItemsOf_ ht ?_)
 refine oQ (q0b yk ?_)
 rw[We (by decide)]
 refine oQ (DL hs pl pu ?_)
 have LX:¬ ((((aZ items.size 0 lo:Nat):Int) == 0 && (1:Int) == 1 && (aZ items.size items.size hi - aZ items.size 0 lo) == items.size)=true):=by
  intro q
  rw[WH,WH] at q
  have q1:((aZ items.size 0 lo:Nat):Int)=0:=XD q.1.1
  have q2:aZ items.size items.size hi - aZ items.size 0 lo=items.size:=XD q.2
  exact hw ⟨by omega,by omega⟩
 show wpAny _ _ (if (((aZ items.size 0 lo:Nat):Int) == 0 && (1:Int) == 1 && (aZ items.size items.size hi - aZ items.size 0 lo) == items.size)=true then _ else _) _ _ s
 rw[VG LX,LV]
 first
  | exact oQ (m:=Builtin.Tuple.tupleExact _) (XN (D5 ⟨_,rfl,D5 h⟩) iI)
  | exact oQ (m:=Builtin.Tuple.tupleExact _) (XN (oQ (D5 (D5 ⟨_,rfl,D5 h⟩))) iI)
  | exact oQ (oQ (m:=Builtin.Tuple.tupleExact _) (XN (D5 (D5 ⟨_,rfl,D5 h⟩)) iI))
  | exact oQ (oQ (m:=Builtin.Tuple.tupleExact _) (XN (D5 ⟨_,rfl,D5 h⟩) iI))
end
end HT
namespace L2
open PySem PySem.Spec PyProof.Rows
noncomputable abbrev TO:=St->Hp->(Option Int->Hp->Prop)->Prop
noncomputable def PO (X:Cx) (e:Option Expr) (t:TO):Prop :=
 ∀ (pins:List (Addr × Obj)) (s:Shared) (σ : St) (H:Hp) (Q:Option Int->Hp->Prop),Inv X pins σ H s->t σ H Q →
  wpAny (model X.prog X.w) X.A (evalPart e X.env) (fun u s'=>∃ o H',Inv X pins σ H' s'/\IsPart u o/\Q o H') X.xe s
noncomputable def LY:TO:=fun _ H Q=>Q none H
noncomputable def LZ (t:TE):TO:=fun σ H Q=>t σ H fun x H1=>∃ i,x = .int i/\Q (some i) H1
theorem intsAre_of {ns:List Int}:∀ {us:List Value},Vals (ns.map V.int) us->IntsAre us ns:=by
 induction ns with
 | nil=>intro us r;rw[Yj] at r;cases r;exact .nil
 | cons n ns ih =>
  intro us r
  rw[Wr] at r
  cases r with
  | cons r1 r2 =>
   obtain⟨t,e⟩:=r1
   subst e
   exact .cons n t (ih r2)
section
variable {X:Cx} {e:Expr} {te:TE} {lo hi:Option Expr} {tl th:TO} {pos p2:Pos}
theorem DM:PO X none LY:=by
 intro pins s σ H Q I h
 rw[evalPart_none]
 exact D5 ⟨none,H,I,.none,h⟩
theorem vk (h:PE X e te):PO X (some e) (LZ te):=by
 intro pins s σ H Q I hw
 rw[evalPart_some]
 refine a6 (h pins s σ H _ I hw) fun u s1 h0_ => el5 h0_ fun x H1 I1 r1 q1 => ?_
 obtain⟨i,rfl,q⟩:=q1
 obtain⟨t,rfl⟩:=r1
 exact⟨some i,H1,I1,.int i t,q⟩
noncomputable def lK (X:Cx) (r:V->Option Int->Option Int->Hp->VK->Prop):Prop :=
 ∀ (pins:List (Addr × Obj)) (s:Shared) (σ : St) (H:Hp) (x:V) (v vl vu:Value) (lo hi:Option Int) (sl:Addr) (Q:VK),Inv X pins σ H s->RelV x v->s.heap.IsSliceOf sl vl vu .none->IsPart vl lo->IsPart vu hi->r x lo hi H Q →
  ∃ T id,typeLookup (.type T) "__getitem__" = pure (some (.builtin id))/\s.TypeIs v T/\wpAny (model X.prog X.w) X.A (getItem v (.ref sl)) (EP X pins σ Q) X.xe s
theorem lK.or {r r':V->Option Int->Option Int->Hp->VK->Prop} (h:lK X r) (h':lK X r'):lK X (fun x lo hi H Q=>r x lo hi H Q\/r' x lo hi H Q):=by
 intro pins s σ H x v vl vu lo hi sl Q I rx hs pl pu q
 rcases q with q | q
 ·exact h pins s σ H x v vl vu lo hi sl Q I rx hs pl pu q
 ·exact h' pins s σ H x v vl vu lo hi sl Q I rx hs pl pu q
noncomputable def DN (r:V->Option Int->Option Int->Hp->VK->Prop) (te:TE) (tl th:TO):TE:=fun σ H Q=>te σ H fun x H1=>tl σ H1 fun l H2=>th σ H2 fun u H3=>r x l u H3 Q
theorem L1 {r:V->Option Int->Option Int->Hp->VK->Prop} (hr:lK X r) (he:PE X e te) (hl:PO X lo tl) (hu:PO X hi th):PE X (.Subscript e (.Slice lo hi none p2) pos) (DN r te tl th):=by
 intro pins s σ H Q I h
 refine Subscript_ (a6 (he pins s σ H _ I h) fun v s1 h0_ => el5 h0_ fun x H1 I1 r1 q1 => ?_)
 refine wpAny_Slice (a6 (hl pins s1 σ H1 _ I1 q1) fun vl s2 h0_ => el5 h0_ fun l H2 I2 pl q2 =>a6 (hu pins s2 σ H2 _ I2 q2) fun vu s3 h0_ => el5 h0_ fun u H3 I3 pu q3 => ?_)
 rw[evalPart_none]
 refine D5 ?_
 have I4:Inv X pins σ H3 { s3 with heap:=s3.heap.push { cls := .type "slice",data := .fields #[vl,vu,.none] } }:=I3.kept (t':=s3.toks) fun b ob q=>sC _ q
 obtain⟨T,id,hT,ht,hg⟩:=hr pins { s3 with heap:=s3.heap.push { cls := .type "slice",data := .fields #[vl,vu,.none] } } σ H3 x v vl vu l u s3.heap.objs.size Q I4 r1 (Heap.IsSliceOf.new ..) pl pu q3
 show wpAny (model X.prog X.w) X.A (subscriptTail e (.Slice lo hi none p2) v (.ref s3.heap.objs.size)) (EP X pins σ Q) X.xe { s3 with heap:=s3.heap.push { cls := .type "slice",data := .fields #[vl,vu,.none] } }
 exact tail_any (ops:=[.ref s3.heap.objs.size,v]) ht hT hg (by with_unfolding_all rfl)
noncomputable def cF (xs:List V) (lo hi:Option Int):List V:=(xs.drop (HT.aZ xs.length 0 lo)).take (HT.aZ xs.length xs.length hi - HT.aZ xs.length 0 lo)
theorem DO (xs:List V) (lo hi:Option Int):(cF xs lo hi).length <= xs.length:=by
 unfold cF
 rw[Wu,Xw]
 omega
noncomputable def ym (K:PySem.W.Frag):V->Option Int->Option Int->Hp->VK->Prop:=fun x lo hi H Q=>∃ a xs,x = .ref a/\bC K H a xs ∧
 ¬ (HT.aZ xs.length 0 lo=0/\HT.aZ xs.length xs.length hi=xs.length)/\∀ p,H p=none->Q (.ref p) (upd H p (.tup (cF xs lo hi)))
theorem L5:lK X (ym X.K):=by
 intro pins s σ H x v vl vu lo hi sl Q I rx hs pl pu h
 obtain⟨a,xs,rfl,hx,hw,q⟩:=h
 cases rx
 obtain⟨aj,r,ht,hz⟩:=I.tuple hx
 have hlen:aj.toArray.size=xs.length:=by rw[vp];exact r.length.symm
 refine⟨"tuple",_,Xa.lookup,ht.typeIs,?_⟩
 refine HT.LW ht hs pl pu (by rw[hlen];exact hw) ?_ (by rw[hlen];exact hz)
 rw[hlen]
 refine⟨.ref s.heap.objs.size,_,I.laid (t':=s.toks) (o := .tup (cF xs lo hi)) (fun b ob q=>sC _ q) (qx _) ?_,rfl,q _ (I.aJ.fresh (qx _))⟩
 exact⟨Xg (DO xs lo hi) hz,_,(r.drop (HT.aZ xs.length 0 lo)).take (HT.aZ xs.length xs.length hi - HT.aZ xs.length 0 lo),IsTup.new _ _⟩
noncomputable def yn (K:PySem.W.Frag):R2:=fun x y H Q=>∃ a b ns ms,x = .ref a/\y = .ref b/\bC K H a (ns.map V.int)/\bC K H b (ms.map V.int)/\Q (.bl (HT.lexLt ns ms)) H
theorem L7 (hu:X.A.units < cLine):cA X (compareOp .Lt) (yn X.K):=by
 intro pins s σ H x y v u Q I rx ry h
 obtain⟨a,b,ns,ms,rfl,rfl,ha,hb,q⟩:=h
 cases rx
 cases ry
 obtain⟨aj,r1,p1,_⟩:=I.tuple ha
 obtain⟨ba,r2,p2,_⟩:=I.tuple hb
 have i1:IntsAre aj.toArray.toList ns:=intsAre_of r1
 have i2:IntsAre ba.toArray.toList ms:=intsAre_of r2
 exact HT.yi p1 p2 i1 i2 hu ⟨.bl (HT.lexLt ns ms),H,I,rfl,q⟩
noncomputable def L8 (K:PySem.W.Frag):R2:=fun x y H Q=>∃ a b xs ys,x = .ref a/\y = .ref b/\bC K H a xs/\bC K H b ys/\xs≠[]/\xs.length + ys.length <= sizeLine ∧
 (ys=[]->Q (.ref a) H)/\(ys≠[]->∀ p,H p=none->Q (.ref p) (upd H p (.tup (xs ++ ys))))
theorem Vals.d4 {xs:List V} {us:List Value} (r:Vals xs us):us=[]↔xs=[]:=by
 cases r with
 | nil=>simp
 | cons _ _=>simp
theorem L9:cA X (binaryOp .Add) (L8 X.K):=by
 intro pins s σ H x y v u Q I rx ry h
 obtain⟨a,b,xs,ys,rfl,rfl,ha,hb,hx,hz,q1,q2⟩:=h
 cases rx
 cases ry
 obtain⟨aj,r1,p1,_⟩:=I.tuple ha
 obtain⟨ba,r2,p2,_⟩:=I.tuple hb
 refine HT.LP p1 p2 (fun z=>hx (r1.d4.mp z)) (fun z=>⟨.ref a,H,I,rfl,q1 (r2.d4.mp z)⟩) (fun z => ?_) (by rw[<-r1.length,<-r2.length];exact hz)
 refine⟨.ref s.heap.objs.size,_,I.laid (t':=s.toks) (o := .tup (xs ++ ys)) (fun b ob q=>sC _ q) (qx _) ?_,rfl,q2 (fun w=>z (r2.d4.mpr w)) _ (I.aJ.fresh (qx _))⟩
 exact⟨by rw[D6];exact hz,_,r1.append r2,IsTup.new _ _⟩
end
noncomputable def iZ (n:Nat) (i:Int):Option Nat:=if 0 <= i then (if i < n then some i.toNat else none) else if -(n:Int) <= i then some (i + n).toNat else none
noncomputable def d_ {α : Type} (xs:List α) (i:Int):Option α := (iZ xs.length i).bind fun j=>xs[j]?
theorem DP {n:Nat} {i:Int} {j:Nat} (h:iZ n i=some j):seqIndex? i n=some j/\j < n /\ -(n:Int) <= i/\i < n:=by
 unfold iZ at h
 by_cases h0:0 <= i
 ·rw[We h0] at h
  by_cases h1:i < n
  ·rw[We h1] at h
   have e:i.toNat=j:=Wx h
   exact⟨by rw[seqIndex_of h0 h1,e],by omega,by omega,h1⟩
  ·rw[VG h1] at h;cases h
 ·rw[VG h0] at h
  by_cases h1 : -(n:Int) <= i
  ·rw[We h1] at h
   have e:(i + n).toNat=j:=Wx h
   exact⟨by rw[seqIndex_neg (by omega) h1,e],by omega,h1,by omega⟩
  ·rw[VG h1] at h;cases h
theorem yo {α : Type} {xs:List α} {i:Int} {v : α} (h:d_ xs i=some v):∃ j,seqIndex? i xs.length=some j/\xs[j]? = some v/\j < xs.length /\ -(xs.length:Int) <= i/\i < xs.length:=by
 unfold d_ at h
 cases e:iZ xs.length i with
 | none=>rw[e] at h;cases h
 | some j =>
  rw[e] at h
  obtain⟨h1,h2,h3,h4⟩:=DP e
  exact⟨j,h1,h,h2,h3,h4⟩
theorem mU {α : Type} {xs:List α} {j:Nat} {v : α} (h:xs[j]? = some v):d_ xs (j:Int)=some v:=by
 have hj:j < xs.length:=(oR.mp h).1
 have e:iZ xs.length (j:Int)=some j:=by
  unfold iZ
  rw[We (by omega),We (by omega)];simp
 unfold d_;rw[e];exact h
noncomputable def yp (b:Expr):Prop:=∀ o i,subscripted b false o i=operate [o,i] (getItem o i)
noncomputable def qv (X:Cx) (r:R2):Prop :=
 ∀ (value slice:Expr) (pins:List (Addr × Obj)) (s:Shared) (σ : St) (H:Hp) (x y:V) (v u:Value) (Q:VK),Inv X pins σ H s->RelV x v->RelV y u->r x y H Q →
  subscripted slice false v u=operate [v,u] (getItem v u)->wpAny (model X.prog X.w) X.A (subscriptTail value slice v u) (EP X pins σ Q) X.xe s
noncomputable def sx (X:Cx) (id:String) (r:V->List V->Hp->VK->Prop):Prop :=
 ∀ (pins:List (Addr × Obj)) (s:Shared) (σ : St) (H:Hp) (x:V) (xs:List V) (v:Value) (us:List Value) (Q:VK),Inv X pins σ H s->RelV x v->Vals xs us->r x xs H Q →
  wpAny (model X.prog X.w) X.A (call (.builtin id) (v :: us)) (EP X pins σ Q) X.xe s
section
variable {X:Cx} {a b:Expr} {ta tb:TE} {pos:Pos}
theorem L_ {r:R2} (hr:qv X r) (ha:PE X a ta) (hb:PE X b tb) (hs:yp b):PE X (.Subscript a b pos) (lD r ta tb):=by
 intro pins s σ H Q I h
 exact Subscript_ (oq ha hb I h fun v u s2 x y H2 I2 rx ry q=>hr a b pins s2 σ H2 x y v u Q I2 rx ry q (hs _ _))
noncomputable def yq (K:PySem.W.Frag):R2:=fun x y H Q=>∃ p xs i v,x = .ref p/\y = .int i/\a7 K H p xs/\d_ xs i=some v/\Q v H
noncomputable def yr (K:PySem.W.Frag):R2:=fun x y H Q=>∃ p xs i v,x = .ref p/\y = .int i/\bC K H p xs/\d_ xs i=some v/\Q v H
noncomputable def yt:R2:=fun x y H Q=>∃ z i c,x = .str z/\y = .int i/\z.length <= sizeLine/\d_ z.cps.toList i=some c/\Q (.str ⟨#[c]⟩) H
theorem DQ:qv X (yq X.K):=by
 intro value slice pins s σ H x y v u Q I rx ry h hs
 obtain⟨p,xs,i,z,rfl,rfl,hq,he,q⟩:=h
 cases rx
 obtain⟨t,rfl⟩:=ry
 obtain⟨aj,r,pl,hz⟩:=I.list hq
 obtain⟨j,h1,h2,h3,h4,h5⟩:=yo he
 obtain⟨w,ew,sy⟩:=r.get h2
 have hl:=r.length
 have hn:=ou
 have fin:EP X pins σ Q w s:=⟨z,H,I,sy,q⟩
 by_cases h0:0 <= i
 ·have hj:i.toNat=j:=by
   rw[seqIndex_of h0 h5] at h1
   exact Wx h1
  exact item_listR pl.isList h0 (by omega) (by rw[hj];simpa using ew) fin hs
 ·have hj:(i + (aj.toArray.size:Int)).toNat=j:=by
   rw[seqIndex_neg (by omega) h4] at h1
   rw[vp,<-hl]
   exact Wx h1
  exact subscriptTail_builtinR (x:=w) pl.isList.typeIs slot_list_getitem.lookup
   (wpAny_getItem_list_neg (Q:=fun r s'=>r=w/\EP X pins σ Q r s') pl.isList (by omega) (by rw[vp]<;>omega) (by omega) (by rw[hj];simpa using ew) ⟨rfl,fin⟩) hs
theorem Ma:qv X (yr X.K):=by
 intro value slice pins s σ H x y v u Q I rx ry h hs
 obtain⟨p,xs,i,z,rfl,rfl,hq,he,q⟩:=h
 cases rx
 obtain⟨t,rfl⟩:=ry
 obtain⟨aj,r,pl,hz⟩:=I.tuple hq
 obtain⟨j,h1,h2,h3,h4,h5⟩:=yo he
 obtain⟨w,ew,sy⟩:=r.get h2
 have hl:=r.length
 have hn:=ou
 have fin:EP X pins σ Q w s:=⟨z,H,I,sy,q⟩
 exact subscriptTail_builtinR (x:=w) pl.typeIs slot_tuple_getitem.lookup
  (getItem_tuple (j:=j) (Q:=fun r s'=>r=w/\EP X pins σ Q r s') pl (by omega) (by omega) (by rw[vp,<-hl];exact h1) (by simpa using ew) ⟨rfl,fin⟩) hs
theorem Mb:qv X yt:=by
 intro value slice pins s σ H x y v u Q I rx ry h hs
 obtain⟨z,i,c,rfl,rfl,hz,he,q⟩:=h
 obtain⟨t,rfl⟩:=rx
 obtain⟨t',rfl⟩:=ry
 obtain⟨j,h1,h2,h3,h4,h5⟩:=yo he
 have hl:z.cps.toList.length=z.length:=by simp[Str.length]
 rw[hl] at h1 h4 h5
 have hn:=ou
 exact tail_any (typeIs_str s z t) slot_str_getitem.lookup (getItem_str (c:=c) (by
  have e1:decide (i < -(2 ^ 63:Int))=false:=VF (by omega)
  have e2:decide (i ≥ 2 ^ 63)=false:=VF (by omega)
  rw[e1,e2,Bool.or_false]) (by rw[h1];simpa using h2) ⟨.str ⟨#[c]⟩,H,I.tok _,⟨_,rfl⟩,q⟩) hs
theorem Mc (aj:List Value) (n j:Nat) (u:Value):Obj.mapSeq (·.setIfInBounds j u) { cls := .type "list",data := .seq aj.toArray n }={ cls := .type "list",data := .seq (aj.set j u).toArray n }:=by
 simp[Obj.mapSeq]
theorem Inv.lst {pins:List (Addr × Obj)} {σ : St} {H:Hp} {s:Shared} {p:Addr} {xs:List V} (I:Inv X pins σ H s) (h:H p=some (.lst xs)) :
  ∃ (aj:List Value) (n:Nat),Vals xs aj/\s.heap.get? p=some { cls := .type "list",data := .seq aj.toArray n }/\xs.length <= sizeLine:=by
 obtain⟨z,aj,n,r,e⟩:=I.aJ p _ h
 exact⟨aj,n,r,e,z⟩
theorem Inv.oJ {pins:List (Addr × Obj)} {σ : St} {H:Hp} {s:Shared} {p:Addr} {xs ys:List V} {aj its':List Value} {n n':Nat} {f:Obj->Obj} (I:Inv X pins σ H s) (h:H p=some (.lst xs))
  (ho:s.heap.get? p=some { cls := .type "list",data := .seq aj.toArray n }) (hf:f { cls := .type "list",data := .seq aj.toArray n }={ cls := .type "list",data := .seq its'.toArray n' }) (r:Vals ys its') (hz:ys.length <= sizeLine) (t:Nat) :
  Inv X pins σ (upd H p (.lst ys)) { s with heap:=s.heap.update p f,toks:=t }:=by
 have e:(s.heap.update p f).get? p=some { cls := .type "list",data := .seq its'.toArray n' }:=by
  rw[YG f ho (by rw[hf]<;>rfl),hf]
 refine I.write (x:=p) (e:=p) (by rw[h];trivial) (.inl rfl) (fun b u hb q=>(Heap.get?_update_other _ _ (Yi hb)).trans q) ⟨_,e⟩ ?_
 exact⟨hz,its',n',r,e⟩
noncomputable def DR:V->V->V->Hp->(Hp->Prop)->Prop:=fun o i v H Q=>∃ p xs k j,o = .ref p/\i = .int k/\H p=some (.lst xs)/\iZ xs.length k=some j/\Q (upd H p (.lst (xs.set j v)))
theorem set_list:n_ X DR:=by
 intro pins s σ H o i v ov iv u Q I ro ri rv h
 obtain⟨p,xs,k,j,rfl,rfl,hp,hj,q⟩:=h
 cases ro
 obtain⟨t,rfl⟩:=ri
 obtain⟨aj,n,r,ho,hz⟩:=I.lst hp
 obtain⟨h1,h2,h3,h4⟩:=DP hj
 have hl:=r.length
 have hn:=ou
 have I':Inv X pins σ (upd H p (.lst (xs.set j v))) { s with heap:=s.heap.update p (Obj.mapSeq (·.setIfInBounds j u)) } :=
  I.oJ hp ho (Mc aj n j u) (r.set rv j) (by rw[XR];exact hz) s.toks
 by_cases h0:0 <= k
 ·have hk:k.toNat=j:=by
   rw[seqIndex_of h0 h4] at h1
   exact Wx h1
  exact PySem.W.ki_setAt ho h0 (by omega) (by rw[vp,<-hl];exact h4) (by rw[hk];exact⟨_,I',q⟩)
 ·have hk:(k + (aj.toArray.size:Int)).toNat=j:=by
   rw[seqIndex_neg (by omega) h3] at h1
   rw[vp,<-hl]
   exact Wx h1
  exact PySem.W.ki_setBack ho (by omega) (by rw[vp,<-hl];exact h3) (by omega) (by rw[hk];exact⟨_,I',q⟩)
theorem Md (lo hi:Option Int) (n:Nat):(sliceBounds lo hi none n).1=((HT.aZ n 0 lo:Nat):Int)/\(sliceBounds lo hi none n).2.1=((HT.aZ n n hi:Nat):Int)/\(sliceBounds lo hi none n).2.2=1:=by
 refine⟨?_,?_,rfl⟩
 ·cases lo with
  | none=>simp[sliceBounds,HT.aZ]
  | some i =>
   simp only[sliceBounds,HT.aZ,Zm,show (1:Int) > 0 by decide,Yy]
   by_cases h:i < 0
   ·simp only[h,Yy]<;>omega
   ·simp only[h,Xr]<;>omega
 ·cases hi with
  | none=>simp[sliceBounds,HT.aZ]
  | some i =>
   simp only[sliceBounds,HT.aZ,Zm,show (1:Int) > 0 by decide,Yy]
   by_cases h:i < 0
   ·simp only[h,Yy]<;>omega
   ·simp only[h,Xr]<;>omega
theorem Me (aj:List Value) (lo hi:Option Int):slicePick aj.toArray lo hi none=((aj.drop (HT.aZ aj.length 0 lo)).take (HT.aZ aj.length aj.length hi - HT.aZ aj.length 0 lo)).toArray:=by
 obtain⟨h1,h2,h3⟩:=Md lo hi aj.toArray.size
 unfold slicePick
 rw[h1,h2,h3]
 simp only[sliceRange_one,pick_run,vp]<;>rfl
noncomputable def yu (K:PySem.W.Frag):V->Option Int->Option Int->Hp->VK->Prop:=fun x lo hi H Q=>∃ a xs,x = .ref a/\a7 K H a xs/\∀ p,H p=none->Q (.ref p) (upd H p (.lst (cF xs lo hi)))
theorem fV:lK X (yu X.K):=by
 intro pins s σ H x v vl vu lo hi sl Q I rx hs pl pu h
 obtain⟨a,xs,rfl,hx,q⟩:=h
 cases rx
 obtain⟨aj,r,ht,hz⟩:=I.list hx
 have hlen:=r.length
 refine⟨"list",_,slot_list_getitem.lookup,ht.isList.typeIs,?_⟩
 refine wpAny_getItem_list_slice ht.isList hs pl pu .none (by simp) ?_ (by rw[vp]<;>omega)
 rw[Me,<-hlen]
 refine⟨.ref s.heap.objs.size,_,I.laid (t':=s.toks) (o := .lst (cF xs lo hi)) (fun b ob q=>sC _ q) (qx _) ?_,rfl,q _ (I.aJ.fresh (qx _))⟩
 exact⟨Xg (DO xs lo hi) hz,_,0,(r.drop (HT.aZ xs.length 0 lo)).take (HT.aZ xs.length xs.length hi - HT.aZ xs.length 0 lo),VH _ rfl⟩
noncomputable def kQ:V->Bool
 | .non=>true
 | .bl _=>true
 | .int _=>true
 | .str _=>true
 | _=>false
noncomputable def iJ:V->V->Bool
 | .non,.non=>true
 | .bl a,.bl b=>a == b
 | .bl a,.int b=>(if a then 1 else 0) == b
 | .int a,.bl b=>a == (if b then 1 else 0)
 | .int a,.int b=>a == b
 | .str a,.str b=>a == b
 | _,_=>false
theorem Mf {A:Around} {s:Shared} {y x:V} {u v:Value} (ry:RelV y u) (rx:RelV x v) (fy:kQ y=true) (fx:kQ x=true):SeqAt.EqAt A s u v (iJ y x):=by
 cases y with
 | non =>
  cases ry
  cases x with
  | non=>cases rx;exact Zt _
  | bl b=>cases rx;exact SeqAt.EqAt.none_bool b
  | int b=>obtain⟨t,rfl⟩:=rx;exact SeqAt.EqAt.none_int b t
  | str b=>obtain⟨t,rfl⟩:=rx;exact SeqAt.EqAt.none_str b t
  | _=>exact absurd (show false=true from fx) Wf
 | bl a =>
  cases ry
  cases x with
  | non=>cases rx;exact SeqAt.EqAt.bool_none a
  | bl b=>cases rx;exact SeqAt.EqAt.bool_bool a b
  | int b=>obtain⟨t,rfl⟩:=rx;exact SeqAt.EqAt.bool_int a b t
  | str b=>obtain⟨t,rfl⟩:=rx;exact SeqAt.EqAt.bool_str a b t
  | _=>exact absurd (show false=true from fx) Wf
 | int a =>
  obtain⟨t',rfl⟩:=ry
  cases x with
  | non=>cases rx;exact SeqAt.EqAt.int_none a t'
  | bl b=>cases rx;exact SeqAt.EqAt.int_bool a t' b
  | int b=>obtain⟨t,rfl⟩:=rx;exact ZE a t' b t
  | str b=>obtain⟨t,rfl⟩:=rx;exact ZA a t' b t
  | _=>exact absurd (show false=true from fx) Wf
 | str a =>
  obtain⟨t',rfl⟩:=ry
  cases x with
  | non=>cases rx;exact SeqAt.EqAt.str_none a t'
  | bl b=>cases rx;exact SeqAt.EqAt.str_bool a t' b
  | int b=>obtain⟨t,rfl⟩:=rx;exact ZC a t' b t
  | str b=>obtain⟨t,rfl⟩:=rx;exact SeqAt.EqAt.str_str a t' b t
  | _=>exact absurd (show false=true from fx) Wf
 | _=>exact absurd (show false=true from fy) Wf
noncomputable def sA (x:V) (u:Value):Bool:=match u with
 | .none=>iJ .non x
 | .bool b=>iJ (.bl b) x
 | .int i _=>iJ (.int i) x
 | .str z _=>iJ (.str z) x
 | _=>false
theorem DT {x y:V} {u:Value} (r:RelV y u) (f:kQ y=true):sA x u=iJ y x:=by
 cases y with
 | non=>cases r;rfl
 | bl b=>cases r;rfl
 | int i=>obtain⟨t,rfl⟩:=r;rfl
 | str z=>obtain⟨t,rfl⟩:=r;rfl
 | _=>exact absurd (show false=true from f) Wf
theorem DU {A:Around} {s:Shared} {x:V} {v:Value} (rx:RelV x v) (fx:kQ x=true):∀ {xs:List V} {us:List Value},Vals xs us->xs.all kQ=true->∀ u∈us,SeqAt.EqAt A s u v (sA x u)
 | _,_,.nil,_=>fun u hu=>by cases hu
 | y :: xs,u :: us,.cons r t,f=>fun u' hu=>by
  rw[ZS,WH] at f
  rcases VE.mp hu with rfl | hu
  ·rw[DT r f.1];exact Mf r rx f.1 fx
  ·exact DU rx fx t f.2 u' hu
theorem DW:eN X (.builtin "len") (fun xs H Q=>∃ p ys,xs=[.ref p]/\(a7 X.K H p ys\/bC X.K H p ys)/\Q (.int ys.length) H):=by
 intro pins s σ H xs us Q I r h
 obtain⟨p,ys,rfl,hq,q⟩:=h
 obtain⟨u,rfl,rx⟩:=vals1 r
 cases rx
 have hn:=ou
 rcases hq with hq | hq
 ·obtain⟨aj,r',pl,hz⟩:=I.list hq
  have hlen:=r'.length
  exact Calls.call_len_list pl.isList (by simp only[vp]<;>omega) ⟨.int ys.length,H,I.tok _,⟨s.toks + 1,by rw[vp,hlen]⟩,q⟩
 ·obtain⟨aj,r',pl,hz⟩:=I.tuple hq
  have hlen:=r'.length
  exact len_tuple pl (by simp only[vp]<;>omega) ⟨.int ys.length,H,I.tok _,⟨s.toks + 1,by rw[vp,hlen]⟩,q⟩
theorem Mg:eN X (.builtin "len") (fun xs H Q=>∃ z,xs=[.str z]/\z.length <= sizeLine/\Q (.int z.length) H):=by
 intro pins s σ H xs us Q I r h
 obtain⟨z,rfl,hz,q⟩:=h
 obtain⟨u,rfl,t,rfl⟩:=vals1 r
 have hn:=ou
 exact len_str (by omega) ⟨.int z.length,H,I.tok _,⟨_,rfl⟩,q⟩
theorem yw:eN X (.type "list") (fun xs H Q=>∃ p ys,xs=[.ref p]/\(a7 X.K H p ys\/bC X.K H p ys)/\∀ l,H l=none->Q (.ref l) (upd H l (.lst ys))):=by
 intro pins s σ H xs us Q I r h
 obtain⟨p,ys,rfl,hq,q⟩:=h
 obtain⟨u,rfl,rx⟩:=vals1 r
 cases rx
 have fin:∀ (aj:List Value),Vals ys aj->ys.length <= sizeLine->∀ (h':Heap) (c':Nat),(∀ b o',s.heap.get? b=some o'->h'.get? b=some o') →
   h'.get? s.heap.objs.size=some { cls := .type "list",dict:=none,data := .seq aj.toArray c',slots := #[] }->EP X pins σ Q (.ref s.heap.objs.size) { s with heap:=h' }:=fun aj r' hz h' c' kp e =>
  ⟨.ref s.heap.objs.size,_,I.laid (t':=s.toks) kp (qx _) (show aI X.prog X.w _ h' _ (.lst ys) from ⟨hz,aj,c',r',e⟩),rfl,q _ (I.aJ.fresh (qx _))⟩
 rcases hq with hq | hq
 ·obtain⟨aj,r',pl,hz⟩:=I.list hq
  have hlen:=r'.length
  obtain⟨o,ho,hc,n,hd⟩:=pl.isList
  exact call_list_seq p (.inl rfl) ho hc hd (fun h' c' kp e=>fin aj r' hz h' c' kp e) (by simp only[vp]<;>omega)
 ·obtain⟨aj,r',pl,hz⟩:=I.tuple hq
  have hlen:=r'.length
  obtain⟨o,ho,hc,n,hd⟩:=pl
  exact call_list_seq p (.inr rfl) ho hc hd (fun h' c' kp e=>fin aj r' hz h' c' kp e) (by simp only[vp]<;>omega)
theorem DX:eN X (.type "tuple") (fun xs H Q=>∃ p ys,xs=[.ref p]/\((a7 X.K H p ys/\∀ l,H l=none->Q (.ref l) (upd H l (.tup ys)))\/(bC X.K H p ys/\Q (.ref p) H))):=by
 intro pins s σ H xs us Q I r h
 obtain⟨p,ys,rfl,h⟩:=h
 obtain⟨u,rfl,rx⟩:=vals1 r
 cases rx
 rcases h with⟨hq,q⟩ | ⟨hq,q⟩
 ·obtain⟨aj,r',pl,hz⟩:=I.list hq
  have hlen:=r'.length
  refine call_tuple_list pl.isList (fun h' kp => ?_) (by simp only[vp]<;>omega)
  have I1:Inv X pins σ H { s with heap:=h' }:=I.kept (t':=s.toks) kp
  have I2:Inv X pins σ (upd H h'.objs.size (.tup ys)) { s with heap:=h'.push { cls := .type "tuple",data := .seq aj.toArray } } :=
   I1.laid (t':=s.toks) (fun b o e=>sC _ e) (qx _) (show aI X.prog X.w _ _ _ (.tup ys) from ⟨hz,aj,r',IsTup.new _ _⟩)
  exact⟨.ref h'.objs.size,_,I2,rfl,q _ (I1.aJ.fresh (qx _))⟩
 ·obtain⟨aj,r',pl,hz⟩:=I.tuple hq
  exact call_tuple_same pl ⟨.ref p,H,I,rfl,q⟩
noncomputable def vn (K:PySem.W.Frag) (T:String) (x:V) (H:Hp):Prop:=match x with
 | .str _=>T = "str"
 | .int _=>T = "int"
 | .ref p=>(T = "list" /\ ∃ xs,a7 K H p xs)\/(T = "tuple" /\ ∃ o,K.lookup p=some o/\o.cls = .type "tuple" /\ o.dict=none) ∨
   (T = "dict" /\ ((∃ kvs,H p=some (.dK kvs))\/∃ kvs,H p=some (.dT kvs)))\/(T = "set" /\ ∃ S n,H p=some (.set S n))
 | _=>False
theorem DY {pins:List (Addr × Obj)} {σ : St} {H:Hp} {s:Shared} {T:String} {x:V} {v:Value} (I:Inv X pins σ H s) (r:RelV x v) (ty:vn X.K T x H) :
  s.TypeIs v T/\∀ a,v = .ref a->∃ ob,s.heap.get? a=some ob/\ob.dict=none:=by
 cases x with
 | str z =>
  obtain⟨t,rfl⟩:=r
  cases (show T = "str" from ty)
  exact⟨typeIs_str s z t,fun _ e=>nomatch e⟩
 | int i =>
  obtain⟨t,rfl⟩:=r
  cases (show T = "int" from ty)
  exact⟨typeIs_int s i t,fun _ e=>nomatch e⟩
 | ref p =>
  cases r
  rcases ty with⟨rfl,xs,hq⟩ | ⟨rfl,o,hk,hc,hd⟩ | ⟨rfl,hk⟩ | ⟨rfl,S,n,hk⟩
  ·obtain⟨aj,_,pl,_⟩:=I.list hq
   refine⟨pl.isList.typeIs,fun a e => ?_⟩
   cases e
   obtain⟨o,n,e,c,hd,_⟩:=pl
   exact⟨o,e,hd⟩
  ·refine⟨⟨o,I.gx p o hk,hc⟩,fun a e => ?_⟩
   cases e
   exact⟨o,I.gx _ o hk,hd⟩
  ·have z:∃ o,s.heap.get? p=some o/\o.ExactDict:=by
    rcases hk with⟨kvs,hk⟩ | ⟨kvs,hk⟩
    ·obtain⟨_,_,_,_,o,_,_,e,ex,_⟩:=I.aJ p _ hk
     exact⟨o,e,ex⟩
    ·obtain⟨_,_,_,_,o,_,_,e,ex,_⟩:=I.aJ p _ hk
     exact⟨o,e,ex⟩
   obtain⟨o,e,ex⟩:=z
   refine⟨⟨o,e,ex.1⟩,fun a e2 => ?_⟩
   cases e2
   exact⟨o,e,ex.2.1⟩
  ·obtain⟨o,_,_,_,e,ex,_⟩:=I.aJ p _ hk
   refine⟨⟨o,e,ex.1⟩,fun a e2 => ?_⟩
   cases e2
   exact⟨o,e,ex.2.1⟩
 | _=>exact False.elim ty
noncomputable def oK (K:PySem.W.Frag) (T:String) (r:V->List V->Hp->VK->Prop) (to:TE):TE:=fun σ H Q=>to σ H fun x H1=>vn K T x H1/\r x [] H1 Q
noncomputable def lL (K:PySem.W.Frag) (T:String) (r:V->List V->Hp->VK->Prop) (to:TE) (t:TA):TE:=fun σ H Q=>to σ H fun x H1=>vn K T x H1/\t σ H1 fun xs H2=>r x xs H2 Q
variable {o e:Expr} {es:List Expr} {to:TE} {t:TA} {name:Str} {apos bY:Pos} {T id:String} {r:V->List V->Hp->VK->Prop}
theorem Mh (pa:PlainAttrs T) (slot:Slot T name id) (oM:typeOf (.builtin id)=pure (.type "method_descriptor")) (hm:sx X id r) (ho:PE X o to)
  (eA:attributeBase o name X.env (eval o X.env)=eval o X.env:=by rfl) (eB:(apos.endLine == bY.line)=true:=by rfl):PE X (.Call (.Attribute o name apos) [] [] bY) (oK X.K T r to):=by
 intro pins s σ H Q I h
 refine wpAny_Call_method0_late eA eB (a6 (ho pins s σ H _ I h) fun v s1 ⟨x,H1,I1,r1,ty,q1⟩ => ?_)
 obtain⟨h1,h2⟩:=DY I1 r1 ty
 exact⟨T,id,pa,slot,oM,h1,h2,Calls.callWith_builtin rfl (PySem.evalArgs_none (hm pins s1 σ H1 x [] v [] Q I1 r1 .nil q1))⟩
theorem Mi (pa:PlainAttrs T) (slot:Slot T name id) (oM:typeOf (.builtin id)=pure (.type "method_descriptor")) (hm:sx X id r) (ho:PE X o to) (ha:PA X (e :: es) t)
  (eA:attributeBase o name X.env (eval o X.env)=eval o X.env:=by rfl)
  (oN:((backTo bY (starEach (e :: es) X.env)).all (fun x => !x.1) && (backToKw bY (keywordEach [] X.env)).all (fun x=>x.1.isSome)
   && decide ((e :: es).length + ([]:List Keyword).length + (if ([]:List Keyword).isEmpty then 0 else 1) < 30))=true:=by rfl)
  (eB:(apos.endLine == bY.line)=true:=by rfl) (hs:starEach (e :: es) X.env=(false,eval e X.env) :: starEach es X.env:=by rfl) (hplain:(backTo bY (starEach es X.env)).any (·.1)=false:=by rfl) :
  PE X (.Call (.Attribute o name apos) (e :: es) [] bY) (lL X.K T r to t):=by
 intro pins s σ H Q I h
 refine wpAny_Call_method_late eA oN eB rfl (a6 (ho pins s σ H _ I h) fun v s1 ⟨x,H1,I1,r1,ty,q1⟩ => ?_)
 obtain⟨h1,h2⟩:=DY I1 r1 ty
 refine⟨T,id,pa,slot,oM,h1,h2,?_⟩
 have hA:=ha bY pins s1 σ H1 _ I1 q1
 rw[hs] at hA ⊢
 refine Calls.callWith_builtin (by show (false || (backTo bY (starEach es X.env)).any (·.1))=false;rw[hplain]<;>rfl) (Calls.evalArgs_plain ?_)
 exact a6 hA fun us s2 h0_ => el5 h0_ fun vs H2 I2 r2 q2 =>hm pins s2 σ H2 x vs v us Q I2 r1 r2 q2
end
noncomputable def qw (X:Cx) (id:String) (r:V->List V->Hp->VK->Prop):Prop :=
 ∀ (pins:List (Addr × Obj)) (s:Shared) (σ : St) (H:Hp) (x:V) (xs:List V) (v:Value) (us:List Value) (Q:VK),Inv X pins σ H s->RelV x v->Vals xs us->r x xs H Q →
  wpAny (model X.prog X.w) X.A (call (.builtin id) (v :: us)) (EP X pins σ Q) X.xe s
theorem Vals.one:∀ {x:V} {us:List Value},Vals [x] us->∃ u,us=[u]/\RelV x u:=by
 intro x us h
 cases h with
 | cons r h=>cases h;exact⟨_,rfl,r⟩
theorem Vals.two:∀ {x y:V} {us:List Value},Vals [x,y] us->∃ u v,us=[u,v]/\RelV x u/\RelV y v:=by
 intro x y us h
 cases h with
 | cons r h =>
  obtain⟨v,rfl,q⟩:=Vals.one h
  exact⟨_,_,rfl,r,q⟩
theorem Vals.eraseIdx:∀ {xs:List V} {us:List Value} (i:Nat),Vals xs us->Vals (xs.eraseIdx i) (us.eraseIdx i)
 | _,_,_,.nil => .nil
 | _,_,0,.cons _ t=>t
 | _,_,i + 1,.cons r t => .cons r (Vals.eraseIdx i t)
theorem Vals.rep {xs:List V} {us:List Value} (h:Vals xs us):∀ k:Nat,Vals (List.replicate k xs).flatten (List.replicate k us).flatten
 | 0 => .nil
 | k + 1=>by
  rw[Xn,Xn,XO,XO]
  exact Vals.append h (Vals.rep h k)
theorem DZ {α : Type}:∀ (l:List α) (i:Nat),(l.eraseIdx i).length <= l.length
 | [],_=>qx _
 | _ :: _,0=>ZN _
 | _ :: r,i + 1=>Nat.succ_le_succ (DZ r i)
theorem foldl_rep (aj:List Value):∀ (k:Nat) (acc:List Value),
  List.foldl (fun x1 x2=>x1 ++ x2) acc.toArray (List.replicate k aj.toArray)=(acc ++ (List.replicate k aj).flatten).toArray
 | 0,acc=>by simp
 | k + 1,acc=>by
  have e:acc.toArray ++ aj.toArray=(acc ++ aj).toArray:=by simp
  have e2:(acc ++ aj) ++ (List.replicate k aj).flatten=acc ++ (List.replicate (k + 1) aj).flatten:=by
   rw[Xn,XO,Yh]
  rw[<-e2,<-foldl_rep aj k (acc ++ aj),<-e,Xn,Zs]
section
variable {X:Cx} {pins:List (Addr × Obj)} {σ : St} {H:Hp} {s:Shared} {l b:Addr} {xs ys zs:List V}
theorem Inv.oO {aj its':List Value} {n:Nat} {f:Array Value->Array Value} {t':Nat} (I:Inv X pins σ H s) (hH:H l=some (.lst xs))
  (e:s.heap.get? l=some { cls := .type "list",data := .seq aj.toArray n }) (hf:f aj.toArray=its'.toArray) (hv:Vals ys its') (hz:ys.length <= sizeLine) :
  Inv X pins σ (upd H l (.lst ys)) { s with heap:=s.heap.update l (Obj.mapSeq f),toks:=t' }:=by
 have q:=PySem.IsL.update e f
 rw[hf] at q
 refine I.write (x:=l) (e:=l) (by rw[hH];exact trivial) (.inl rfl) (fun b' u hb hu=>(Heap.get?_update_other s.heap (Obj.mapSeq f) (Yi hb)).trans hu) ⟨_,q⟩ ?_
 exact⟨hz,its',_,hv,q⟩
theorem Inv.bR {aj:List Value} {t':Nat} (I:Inv X pins σ H s) (hv:Vals ys aj) (hz:ys.length <= sizeLine) :
  Inv X pins σ (upd H s.heap.objs.size (.lst ys)) { s with heap:=s.heap.push { cls := .type "list",data := .seq aj.toArray },toks:=t' } :=
 I.laid (fun _ _ q=>sC _ q) (qx _) ⟨hz,aj,0,hv,VH _ rfl⟩
theorem Inv.fresh (I:Inv X pins σ H s):H s.heap.objs.size=none:=I.aJ.fresh (qx _)
theorem Inv.h8 (I:Inv X pins σ H s) (hH:H l=some (.lst xs)):xs.length <= sizeLine/\∃ (aj:List Value) (n:Nat),Vals xs aj/\xs.length=aj.length/\s.heap.get? l=some { cls := .type "list",data := .seq aj.toArray n }:=by
 obtain⟨z,aj,n,r,e⟩:=I.aJ l _ hH
 exact⟨z,aj,n,r,r.length,e⟩
theorem D0 {n:Nat} (h:n <= sizeLine):Builtin.List.listTooLong n=false:=by
 unfold Builtin.List.listTooLong
 exact VF (by omega)
end
section
variable {X:Cx}
noncomputable def yx:V->List V->Hp->VK->Prop:=fun x vs H Q=>∃ l xs y,x = .ref l/\vs=[y]/\H l=some (.lst xs)/\xs.length < sizeLine/\Q .non (upd H l (.lst (xs ++ [y])))
theorem sD:qw X "list.append" yx:=by
 intro pins s σ H x vs v us Q I rx rv h
 obtain⟨l,xs,y,rfl,rfl,hH,hz,q⟩:=h
 cases rx
 obtain⟨u,rfl,ru⟩:=rv.one
 obtain⟨z,aj,n,r,hl,e⟩:=I.h8 hH
 refine ZG F.slot_list_append ⟨_,e,rfl⟩ F.entry_list_append (F.args_list_append_2 _ _) (PySem.list_append l aj.toArray n u (by rw[vp];omega)) ⟨e,?_⟩
 refine⟨.non,_,I.oO (its':=aj ++ [u]) hH e (by simp) (r.append (.cons ru .nil)) ?_,rfl,q⟩
 rw[D6,Wt]
 omega
noncomputable def D1:V->List V->Hp->VK->Prop:=fun x vs H Q=>∃ l b xs zs,x = .ref l/\vs=[.ref b]/\H l=some (.lst xs)/\H b=some (.lst zs)/\xs.length + zs.length <= sizeLine/\Q .non (upd H l (.lst (xs ++ zs)))
theorem Mj:qw X "list.extend" D1:=by
 intro pins s σ H x vs v us Q I rx rv h
 obtain⟨l,b,xs,zs,rfl,rfl,hH,hB,hz,q⟩:=h
 cases rx
 obtain⟨u,rfl,ru⟩:=rv.one
 cases ru
 obtain⟨z,aj,n,r,hl,e⟩:=I.h8 hH
 obtain⟨z2,ba,n2,r2,sE,e2⟩:=I.h8 hB
 have hsz:aj.toArray.size + ba.toArray.size <= sizeLine:=by rw[vp,vp];omega
 have jU:¬ (!aj.toArray.isEmpty && Builtin.List.listTooLong (aj.toArray.size + ba.toArray.size))=true:=by
  rw[D0 hsz,Bool.and_false]
  exact Wf
 refine ZG F.slot_list_extend ⟨_,e,rfl⟩ F.entry_list_extend (F.args_list_extend_2 _ _)
  (AutoSeq1.list_extend_list_list_0 l aj.toArray n b ba.toArray n2 jU (by rw[vp];omega) (by omega)) ⟨e,e2,?_⟩
 refine⟨.non,_,I.oO (its':=aj ++ ba) hH e (by simp) (r.append r2) ?_,rfl,q⟩
 rw[D6]
 omega
noncomputable def D2:V->List V->Hp->VK->Prop:=fun x vs H Q=>∃ l xs i k y,x = .ref l/\vs=[.int i]/\H l=some (.lst xs) /\ -(2 ^ 63) <= i/\i < 2 ^ 63/\seqIndex? i xs.length=some k/\xs[k]? = some y/\Q y (upd H l (.lst (xs.eraseIdx k)))
theorem Ml:qw X "list.pop" D2:=by
 intro pins s σ H x vs v us Q I rx rv h
 obtain⟨l,xs,i,k,y,rfl,rfl,hH,h1,h2,hk,hy,q⟩:=h
 cases rx
 obtain⟨u,rfl,ru⟩:=rv.one
 obtain⟨t,rfl⟩:=ru
 obtain⟨z,aj,n,r,hl,e⟩:=I.h8 hH
 obtain⟨w,hw,sy⟩:=r.get hy
 refine ZG F.slot_list_pop ⟨_,e,rfl⟩ F.entry_list_pop (F.args_list_pop_2 _ _)
  (MeetsSeq.list_pop_at l aj.toArray n i t k w (fitsIndex_both h1 h2) (by rw[vp,<-hl];exact hk) (by rw[<-Wq];exact hw) (by rw[vp];omega)) ⟨e,?_⟩
 refine⟨y,_,I.oO (its':=aj.eraseIdx k) hH e ?_ (r.eraseIdx k) ?_,sy,q⟩
 ·show aj.toArray.eraseIdxIfInBounds k=(aj.eraseIdx k).toArray
  rw[List.eraseIdxIfInBounds_toArray]
 ·have:=DZ xs k
  omega
noncomputable def yy:R2:=fun x y H Q=>∃ l b xs zs,x = .ref l/\y = .ref b/\H l=some (.lst xs)/\H b=some (.lst zs)/\xs.length + zs.length <= sizeLine/\∀ p,H p=none->Q (.ref p) (upd H p (.lst (xs ++ zs)))
theorem D3:cA X (binaryOp .Add) yy:=by
 intro pins s σ H x y v u Q I rx ry h
 obtain⟨l,b,xs,zs,rfl,rfl,hH,hB,hz,q⟩:=h
 cases rx
 cases ry
 obtain⟨z,aj,n,r,hl,e⟩:=I.h8 hH
 obtain⟨z2,ba,n2,r2,sE,e2⟩:=I.h8 hB
 refine PySem.P.add_list e e2 ?_ (by rw[vp,vp];omega)
 have ea:aj.toArray ++ ba.toArray=(aj ++ ba).toArray:=by simp
 rw[ea]
 exact⟨.ref _,_,I.bR (t':=s.toks) (r.append r2) (by rw[D6];omega),rfl,q _ I.fresh⟩
noncomputable def yz:R2:=fun x y H Q=>∃ l k xs,x = .ref l/\y = .int k/\H l=some (.lst xs) /\ -(2 ^ 63) <= k/\k < 2 ^ 63/\xs.length * k.toNat <= sizeLine ∧
 ∀ p,H p=none->Q (.ref p) (upd H p (.lst (List.replicate k.toNat xs).flatten))
theorem len_rep {α : Type} (xs:List α) (k:Nat):(List.replicate k xs).flatten.length=k * xs.length:=by
 induction k with
 | zero=>simp
 | succ k ih=>rw[Xn,XO,D6,ih,Nat.succ_mul,Nat.add_comm]
theorem Mm:cA X (binaryOp .Mult) yz:=by
 intro pins s σ H x y v u Q I rx ry h
 obtain⟨l,k,xs,rfl,rfl,hH,h1,h2,hz,q⟩:=h
 cases rx
 obtain⟨t,rfl⟩:=ry
 obtain⟨z,aj,n,r,hl,e⟩:=I.h8 hH
 have hlen:aj.toArray.size * k.toNat <= sizeLine:=by rw[vp,<-hl];exact hz
 have yA:¬ aj.toArray.size * k.toNat > (2 ^ 63 - 1) / 8:=by
  have:(sizeLine:Nat) <= (2 ^ 63 - 1) / 8:=by decide
  omega
 have yB:¬ (!Builtin.List.listFitsIndex k)=true:=by
  rw[fitsIndex_both h1 h2]
  exact Wf
 have jU:¬ Builtin.List.listTooLong (aj.toArray.size * k.toNat)=true:=by
  rw[D0 hlen]
  exact Wf
 have yC:List.foldl (fun x1 x2=>x1 ++ x2) #[] (List.replicate (if aj.toArray.isEmpty=true then 0 else k.toNat) aj.toArray)=(List.replicate k.toNat aj).flatten.toArray:=by
  have f0:∀ m:Nat,List.foldl (fun x1 x2=>x1 ++ x2) #[] (List.replicate m aj.toArray)=(List.replicate m aj).flatten.toArray:=fun m=>by
   have:=foldl_rep aj m []
   rw[List.nil_append] at this
   exact this
  rw[f0]
  cases aj with
  | nil=>simp
  | cons a r'=>rw[VG (by simp)]
 refine wpAny_binaryOp_repeat_ref (T := "list") (U := "int") (by decide) ⟨_,e,rfl⟩ (fun s'=>typeIs_int s' k t) noFill_list_mul F.fills_int_mul F.slot_int_rmul repeat_list F.slot_int_index.lookup
  (ZG F.slot_int_rmul (typeIs_int s k t) F.entry_int_rmul (F.args_int_rmul_2 _ _) (int___rmul___int_list k t l aj.toArray n)
   ⟨e,rfl,⟨_,e,rfl⟩,ZG F.slot_list_mul ⟨_,e,rfl⟩ F.entry_list_mul (F.args_list_mul_2 _ _) (AutoListH.list___mul___list_int_3 l aj.toArray n k t yB yA jU) ⟨e,?_⟩⟩)
 rw[yC]
 exact⟨.ref _,_,I.bR (t':=s.toks) (r.rep k.toNat) (by rw[len_rep,Nat.mul_comm];exact hz),rfl,q _ I.fresh⟩
end
section
variable {prog:Program} {w:World} {A:Around} {E:Value->Shared->Prop} {s:Shared}
end
section
variable {X:Cx}
end
end L2
namespace Att
open PySem PySem.W PySem.Calls PyProof.Rows
theorem dW {P:Params} {h:Heap}:∀ (ns:List Int) (vs:List Value),WellAll P h vs (ns.map WData.int)->IntsAre vs ns:=by
 intro ns
 induction ns with
 | nil =>
  intro vs w
  rw[Yj] at w
  cases w
  exact .nil
 | cons n ns ih =>
  intro vs w
  rw[Wr] at w
  cases w with
  | cons a b =>
   cases a
   exact .cons _ _ (ih _ b)
theorem i5 {l:OpenLaw} {n:Nat} (hn:l.most=some n) {P:Params} {h:Heap} {args:List WData} {vals:List Value}
  (lM:l.row.toRowW.claim.pre args=true) (yD:WellAll P h vals args) :
  ∃ a vs ns,vals=[Value.ref a]/\args=[WData.list (ns.map WData.int)]/\h.get? a=some { cls := .type "list",data := .seq vs.toArray }/\IntsAre vs ns/\ns.length <= n:=by
 have Mn:WShape.hasAll [] args [.list .int]=true:=(pre_splitW lM).1
 have hc:l.pre.holds [] { args:=args }=true:=(pre_splitW lM).2
 obtain⟨d,r,rfl,h1,h2⟩:=hasAllW_cons Mn
 obtain rfl:=hasAllW_nil h2
 obtain⟨xs,rfl,h3⟩:=hasW_list h1
 obtain⟨ns,rfl⟩:=items_int h3
 have hlen:ns.length <= n:=by
  unfold OpenLaw.pre at hc
  have h4:(WTm.not (.lt (.lit (.int (n:Int))) (.len (.arg 0)))).holds [] { args:=[.list (ns.map .int)] }=true:=by
   have h4:=(holds_andW hc).1
   rw[hn] at h4
   exact h4
  have h5:=condW_of h4 (w_not (w_lt w_lit (w_len_list (w_arg rfl))))
  rw[oS] at h5
  refine ZX fun q => ?_
  have q':(n:Int) < ((ns.length:Nat):Int):=by omega
  first
   | (rw[Mr q'] at h5;exact absurd h5 (by decide))
   | (simp at h5;omega)
 cases yD with
 | cons w1 w2 =>
  cases w2
  cases w1 with
  | list ho eT=>exact⟨_,_,ns,rfl,rfl,ho,dW ns _ eT,hlen⟩
theorem i7 (l:OpenLaw) (args:List WData):l.row.toRowW.claim.post args (.bool true) args=true :=
 postW_of (r:=l.row.toRowW) (X:=(true == true))
  (show WShape.has [] (.bool true) .bool=true by first | rfl | decide | simp[WShape.has,WShape.arms,WShape.armsAll])
  (show (WTm.eq .res (.lit (.bool true))).value [] { args:=args,res:=some (.bool true),after:=args }=some (.bool (true == true)) from w_eq_bool (w_res rfl) w_lit) rfl
theorem gC {l:OpenLaw} {n:Nat} {q:Program} {loose:List Str} {XP:(Str->Option Value)->Heap->Prop} {YP:World->Heap->Prop} {d:DefRec}
  (hn:l.most=some n) (sF:d.params.defaults=[])
  (call:∀ (w:World) (s₀ s₁ : Shared) (mg mb:Str->Option Value) (fa:Addr) (o:Obj) (pm cd doc:Value) (a:Addr) (vs:List Value) (ns:List Int),
   Ground q loose [] XP w s₀ mg mb s₁.heap->YP w s₁.heap →
   s₁.heap.get? fa=some o->o.data = .func (docDef d.name d.params d.body d.scope pm cd doc)->s₁.heap.CodeRec cd d.name->mg d.name=some (.ref fa) →
   s₁.heap.get? a=some { cls := .type "list",data := .seq vs.toArray }->IntsAre vs ns->ns.length <= n->s₁.gens = #[] →
   codeAny (model l.prog w) callerA (.call (.ref fa) ⟨[.ref a],[]⟩) (fun r s'=>r = .ok (.ret (.bool true))/\OldK s₁.heap s'.heap/\s'.os=s₁.os/\AllBare s'.gens) s₁) :
  WalkO q loose XP YP l.row.toRowW d [] (fun f vs=>PySem.call f vs):=by
 intro w s₀ s₁ mg mb G Y fa o pm cd doc dV kV ho hd d7 hD lN hg args vals as lM Mo VB yD VC
 obtain rfl:dV = .none:=Dflts.none hD sF
 obtain rfl:kV = .none:=Dflts.noKw hD
 obtain⟨a,vs,ns,rfl,rfl,oP,hints,hlen⟩:=i5 hn lM yD
 refine enter_call (Zy (call w s₀ s₁ mg mb fa o pm cd doc a vs ns G Y ho (fd_plain hd) d7 lN oP hints hlen hg) fun r s' hq => ?_)
 obtain⟨rfl,h2,h3,h4⟩:=hq
 exact⟨.inl ⟨.bool true,.bool true,[],rfl,fun _=>rfl,.bool true,i7 l _,fun _=>⟨List.Pairwise.nil,fun _ hm=>(nomatch hm)⟩⟩,h2,h3,h4⟩
section
variable {prog:Program} {w:World} {A:Around} {E:Value->Shared->Prop} {s:Shared} {K:Frag}
end
end Att
namespace L2
open PySem PySem.Spec PyProof.Rows
theorem D4:∀ {vs:List Value} {ns:List Int},IntsAre vs ns->Vals (ns.map V.int) vs
 | _,_,.nil => .nil
 | _,_,.cons n t h => .cons ⟨t,rfl⟩ (D4 h)
noncomputable def jD (s:Stmt):Arguments:=match s with
 | .FunctionDef _ a _ _ _ _ _ _ _ _=>a
 | _=>{ posonlyargs:=[],args:=[],vararg:=none,kwonlyargs:=[],kw_defaults:=[],kwarg:=none,defaults:=[] }
noncomputable def fW (s:Stmt):List Stmt:=match s with
 | .FunctionDef _ _ b _ _ _ _ _ _ _=>b
 | _=>[]
noncomputable def cB (s:Stmt):Scope:=match s with
 | .FunctionDef _ _ _ _ _ _ sc _ _ _=>sc
 | _=>{ kind := .function,names:=[],isGenerator:=false,isCoroutine:=false }
noncomputable abbrev fD:iX:=fun _ _ _ _ _ _=>False
noncomputable abbrev E0:XK:=fun _ _ _=>False
theorem vq {X:Cx}:vj fD X E0:=fun _ _ _ _ _ _ _ h=>h.elim
structure gD (K:PySem.W.Frag) (x qual:Str) (st:Stmt) (f:Addr) (fd:FuncData):Prop where
 ex:∃ (oc:Value) (od:Option Addr) (kV doc pm:Value) (an:Option Addr) (aU ct:Value) (lI:Array (Option Value)),
  fd=PySem.W.fnOf x qual (jD st) (fW st) (cB st) .none kV doc pm an aU ct/\K.lookup f=some ⟨oc,od,.func fd,lI⟩/\PySem.W.codeIn K aU qual=true
 kp:PySem.W.keepIn K (.ref f)=true
section
variable {P:Program} {w:World} {K:PySem.W.Frag} {mg:Str->Option Value} {base:Heap}
theorem gD.ok {x qual:Str} {st:Stmt} {f:Addr} {fd:FuncData} {N ps:List Str} {k:Nat} {sp:Sp} (F:gD K x qual st f fd) (S:kP N ps (cB st)) (len:∀ vs H Q E,sp vs H Q E->vs.length=ps.length)
  (dm:∀ (aU:Value) (A:Around) (outer:List Env) (s:Shared) (H:Hp) (vs:List V) (Q:VK) (E:XK),aY k (A.deeper (envOfC qual (cB st) s.heap.objs.size f aU))->sp vs H Q E →
   ∃ t,gz (dU fD P w K mg base N qual (cB st) f aU A outer s H E).jM (fW st) t/\t { nx:=fun _ H'=>Q .non H',rt:=Q } (start N vs) H):cE P w K mg base fD (k + 1) f fd ps sp:=by
 obtain⟨oc,od,kV,doc,pm,an,aU,ct,lI,rfl,lk,d7⟩:=F.ex
 refine DE lk d7 S len fun A outer s H vs Q E hr mS => ?_
 obtain⟨t,h,q⟩:=dm aU A outer s H vs Q E hr mS
 exact⟨t,h.jM,q⟩
theorem gD.binds {x qual:Str} {st:Stmt} {f:Addr} {fd:FuncData} {ps:List Str} (F:gD K x qual st f fd)
  (h:∀ (kV doc pm:Value) (an:Option Addr) (aU ct:Value) (us:List Value),us.length=ps.length->bindArgs (PySem.W.fnOf x qual (jD st) (fW st) (cB st) .none kV doc pm an aU ct) ⟨us,[]⟩=pure (ps.zip us)):Binds K fd ps []:=by
 obtain⟨oc,od,kV,doc,pm,an,aU,ct,lI,rfl,lk,d7⟩:=F.ex
 exact .all (h kV doc pm an aU ct)
theorem D9 {x qual:Str} {st:Stmt} {f:Addr} {oc:Value} {od an:Option Addr} {lI:Array (Option Value)} {kV doc pm aU ct:Value} (l:K.lookup f=some ⟨oc,od,.func (PySem.W.fnOf x qual (jD st) (fW st) (cB st) .none kV doc pm an aU ct),lI⟩)
  (c:PySem.W.codeIn K aU qual=true) (k:PySem.W.keepIn K (.ref f)=true):gD K x qual st f (PySem.W.fnOf x qual (jD st) (fW st) (cB st) .none kV doc pm an aU ct):=⟨⟨oc,od,kV,doc,pm,an,aU,ct,lI,rfl,l,c⟩,k⟩
end
theorem lP {n:Nat} (h:n <= 1000):n < sizeLine:=Y0 h (by decide)
section
variable {X:Cx}
theorem pv (i:Nat) {x:Str} {pos:Pos} (hN:X.N[i]? = some x:=by rfl) (hv:nZ X.env.scope x:=by first | exact Or.inl rfl | exact Or.inr (Or.inl rfl) | exact Or.inr (Or.inr rfl)) (hd:(x == ("__debug__" : Str))=false:=by decide)
  (d7:(x == ("__classdict__" : Str))=false:=by decide):PE X (.Name x pos) (eY i):=Dc hN hv hd d7
end
noncomputable def aB (H H':Hp):Prop:=∀ b o,H b=some o->H' b=some o
theorem aB.trans {H H1 H2:Hp} (a:aB H H1) (b:aB H1 H2):aB H H2:=fun c o h=>b c o (a c o h)
theorem aB.free {H H':Hp} (e:aB H H') {l:Addr} (h:H' l=Option.none):H l=Option.none:=by
 cases q:H l with
 | none=>rfl
 | some o =>
  rw[e l o q] at h
  cases h
theorem aB.seq {K:PySem.W.Frag} {H H':Hp} {a:Addr} {xs:List V} (e:aB H H') (h:a7 K H a xs):a7 K H' a xs:=by
 rcases h with (h | ⟨o,h⟩) | h
 ·exact .inl (.inl (e _ _ h))
 ·exact .inl (.inr ⟨o,e _ _ h⟩)
 ·exact .inr h
theorem Mu {prog:Program} {w:World} {A:Around} {R:Result->Shared->Prop} {s:Shared} {elt target iter:Expr} {ifs:List Expr} {scope:Scope} {pos:Pos} {it acc:Value} {env:Env} (I:Nat->Shared->Prop)
  (turn:∀ n s,I n s->wpAny (model prog w) A (pyNext it) (fun r s₁ => match r with
   | none=>R (.ok .next) s₁
   | some v=>wpAny (model prog w) A (letOwnedTupleGo target it v) (fun _ s₂ => wpAny (model prog w) A (assign target env v) (fun _ s₃ =>
     wpAny (model prog w) A (forIn ifs true fun c r=>if r=true then do let ok <- isTrue c env (eval c env);pure (ForInStep.yield ok) else pure (ForInStep.yield r)) (fun ok s₄ =>
      if ok=true then wpAny (model prog w) A (eval elt env) (fun x s₅ =>
       wpAny (model prog w) A (call (.builtin "list.append") [acc,x]) (fun _ s₆ => ∃ m,m < n/\I m s₆) (fun _ _=>False) s₅) (fun _ _=>False) s₄
      else ∃ m,m < n/\I m s₄) (fun _ _=>False) s₃) (fun _ _=>False) s₂) (fun _ _=>False) s₁) (fun _ _=>False) s)
  (n:Nat) (h:I n s) :
  codeAny (model prog w) A (.compLoop (.ListComp elt [⟨target,iter,ifs,0⟩] scope pos) 0 it acc env) R s:=by
 refine codeAny_loop rfl I (fun n s hI => ?_) n h
 show wpAny _ A ((compTurn (.ListComp elt [⟨target,iter,ifs,0⟩] scope pos) 0 it acc env).onRaise (fun x=>do noteFrame x env;theTreesLotGoes x)) _ _ s
 refine wpAny_noted ?_
 rw[compTurn_list]
 refine oQ (Ym (oQ (XW (turn n s hI) (fun r s₁ h₁ => ?_) fun _ _ h'=>False.elim h')))
 cases r with
 | none=>exact D5 h₁
 | some v =>
  refine oQ (XW h₁ (fun _ s₂ h₂ => ?_) fun _ _ h'=>False.elim h')
  refine oQ (XW h₂ (fun _ s₃ h₃ => oQ (XW h₃ (fun ok s₄ h₄ => ?_) fun _ _ h'=>False.elim h')) fun _ _ h'=>False.elim h')
  cases ok with
  | false=>exact D5 ⟨rfl,h₄⟩
  | true =>
   exact oQ (oQ (XW h₄ (fun x s₄ h₄ => oQ (XW h₄ (fun _ s₅ h₅ => D5 (D5 ⟨rfl,h₅⟩)) fun _ _ h'=>False.elim h')) fun _ _ h'=>False.elim h'))
theorem yF {env:Env}:∀ (names:List (Str × NameKind)) (acc:List (Str × Addr)),(∀ y∈names,y.2 = .free->∃ c,env.cells.lookup y.1=some c)->(∀ x c,acc.lookup x=some c->env.cells.lookup x=some c) →
  ∃ cl,(forIn names acc (fun (x:Str × NameKind) (cs:List (Str × Addr))=>if x.2 == NameKind.free then cellOf env x.1 >>= fun a=>pure (ForInStep.yield ((x.1,a) :: cs)) else pure (ForInStep.yield cs)):Sem (List (Str × Addr)))=pure cl ∧
   (∀ x c,cl.lookup x=some c->env.cells.lookup x=some c)/\(∀ y∈names,y.2 = .free->∃ c,cl.lookup y.1=some c)/\(∀ x c,acc.lookup x=some c->∃ c,cl.lookup x=some c)
 | [],acc,_,h2=>⟨acc,rfl,h2,fun _ hy=>absurd hy (by simp),fun x c e=>⟨c,e⟩⟩
 | (n,k) :: r,acc,h1,h2=>by
  rw[List.forIn_cons]
  by_cases hk:k = .free
  ·subst hk
   obtain⟨c,hc⟩:=h1 (n,.free) yE rfl
   have gy:env.cells.lookup n=some c:=hc
   have ec:cellOf env n=pure c:=by unfold cellOf;rw[gy]
   have gE:∀ x d,((n,c) :: acc).lookup x=some d->env.cells.lookup x=some d:=fun x d e=>by
    rw[Wv] at e
    cases q:x == n with
    | true =>
     rw[q] at e
     cases e
     rw[XD q];exact gy
    | false =>
     rw[q] at e
     exact h2 x d e
   obtain⟨cl,e,p1,p2,p3⟩:=yF r ((n,c) :: acc) (fun y hy=>h1 y (Mp _ hy)) gE
   refine⟨cl,?_,p1,fun y hy hf => ?_,fun x d e => ?_⟩
   ·dsimp only
    rw[We (by decide),ec]
    exact e
   ·rcases VE.mp hy with rfl | hy
    ·exact p3 n c (by simp)
    ·exact p2 y hy hf
   ·cases q:x == n with
    | true=>exact p3 x c (by rw[Wv,q])
    | false=>exact p3 x d (by rw[Wv,q];exact e)
  ·obtain⟨cl,e,p1,p2,p3⟩:=yF r acc (fun y hy=>h1 y (Mp _ hy)) h2
   refine⟨cl,?_,p1,fun y hy hf => ?_,p3⟩
   ·dsimp only
    rw[VG (by simpa using hk)]
    exact e
   ·rcases VE.mp hy with rfl | hy
    ·exact absurd hf hk
    ·exact p2 y hy hf
theorem yG {scope:Scope} {env:Env} (h:∀ y∈scope.names,y.2 = .free->∃ c,env.cells.lookup y.1=some c) :
  ∃ cl,closureFor scope env=pure cl/\(∀ x c,cl.lookup x=some c->env.cells.lookup x=some c)/\∀ y∈scope.names,y.2 = .free->∃ c,cl.lookup y.1=some c:=by
 obtain⟨cl,e,p1,p2,_⟩:=yF scope.names [] h (fun x c e=>by simp at e)
 refine⟨cl,?_,p1,p2⟩
 have e':closureFor scope env=(forIn scope.names ([]:List (Str × Addr)) (fun (x:Str × NameKind) (cs:List (Str × Addr))=>if x.2 == NameKind.free then cellOf env x.1 >>= fun a=>pure (ForInStep.yield ((x.1,a) :: cs)) else pure (ForInStep.yield cs)):Sem (List (Str × Addr))) >>= pure:=rfl
 rw[e',e]
 rfl
structure BD where
 cl:List (Str × Addr)
 C:Addr
 s:Shared
 H:Hp
 fp:List Addr
@[reducible] noncomputable def bZ (X:Cx) (scope:Scope) (Nb:List Str) (d:BD):Cx where
 prog:=X.prog
 w:=X.w
 K:=X.K
 mg:=X.mg
 base:=X.base
 A:=X.A
 N:=Nb
 s₀ := d.s
 H₀ := d.H
 env:=compEnvC scope d.cl d.C X.env
 outer:=X.stack
 stack:=X.stack
 ex:=d.fp
 fn:=fun x=>decide (scope.names.lookup x=some .cell)
 calm:=X.calm
 pn:=[]
 xe:=fun _ _=>False
noncomputable def g7 (cp:List (Option Nat)) (σ : St):St:=cp.map fun o=>match o with
 | some i=>(σ[i]?).join
 | none=>none
noncomputable def kR (N:List Str) (vt scope:Scope) (Nb:List Str) (cp:List (Option Nat)):Bool :=
 (scope.names.all fun y=>(decide (y.2 ≠ .cell) || decide (scope.names.lookup y.1=some .cell)) && (decide (y.2 ≠ .local) || decide (scope.names.lookup y.1=some .local)) && (decide (y.2 ≠ .free) || decide (vt.names.lookup y.1=some .cell) || decide (vt.names.lookup y.1=some .free))) &&
 decide (cp.length=Nb.length) && (cp.zip Nb).all fun z=>match z.1 with
  | none=>true
  | some i=>decide (N[i]? = some z.2) && decide (scope.names.lookup z.2=some .free)
structure vv (X:Cx) (scope:Scope) (Nb:List Str) (cp:List (Option Nat)):Prop where
 kind:scope.kind = .function
 cell:∀ y∈scope.names,y.2 = .cell->scope.names.lookup y.1=some .cell
 names:∀ y∈scope.names,y.2 = .local->scope.names.lookup y.1=some .local
 free:∀ y∈scope.names,y.2 = .free->(X.env.kindOf y.1=some .cell\/X.env.kindOf y.1=some .free)
 len:cp.length=Nb.length
 sG:∀ (j i:Nat) (x:Str),cp[j]? = some (some i)->Nb[j]? = some x->X.N[i]? = some x/\scope.names.lookup x=some .free
theorem q9C {X:Cx} {scope:Scope} {Nb:List Str} {cp:List (Option Nat)} (hk:scope.kind = .function) (h:kR X.N X.env.scope scope Nb cp=true):vv X scope Nb cp:=by
 unfold kR at h
 simp only[WH,WV,Bool.or_eq_true,Ww] at h
 obtain⟨⟨h1,h2⟩,h3⟩:=h
 refine⟨hk,fun y hy e=>(h1 y hy).1.1.resolve_left (fun z=>z e),fun y hy e => ?_,fun y hy e => ?_,h2,fun j i x e1 e2 => ?_⟩
 ·rcases (h1 y hy).1.2 with z | z
  ·exact absurd e z
  ·exact z
 ·rcases (h1 y hy).2 with (z | z) | z
  ·exact absurd e z
  ·exact .inl z
  ·exact .inr z
 ·have hm:(some i,x)∈cp.zip Nb:=by
   have:(cp.zip Nb)[j]? = some (some i,x):=by
    rw[List.getElem?_zip_eq_some];exact⟨e1,e2⟩
   exact Ws this
  have:=h3 _ hm
  simpa using this
theorem yH {env:Env} {x:Str}:∀ {names:List (Str × NameKind)} {k:NameKind},names.lookup x=some k →
  (names.map fun (n,k)=>if (k == NameKind.free && env.scope.kind == .function && env.kindOf n == some .cell) then (n,NameKind.cell) else (n,k)).lookup x =
   some (if (k == NameKind.free && env.scope.kind == .function && env.kindOf x == some .cell) then NameKind.cell else k)
 | [],k,h=>by simp at h
 | (n,k') :: r,k,h=>by
  have ih:=@yH env x r k
  show List.lookup x ((if (k' == NameKind.free && env.scope.kind == .function && env.kindOf n == some .cell)=true then (n,NameKind.cell) else (n,k')) :: _)=_
  cases hx:x == n with
  | true =>
   simp only[Wv,hx] at h
   cases h
   have e:x=n:=XD hx
   subst e
   by_cases hc:(k' == NameKind.free && env.scope.kind == .function && env.kindOf x == some .cell)=true
   ·rw[We hc,We hc];simp[Wv]
   ·rw[VG hc,VG hc];simp[Wv]
  | false =>
   simp only[Wv,hx] at h
   by_cases hc:(k' == NameKind.free && env.scope.kind == .function && env.kindOf n == some .cell)=true
   ·rw[We hc];simp only[Wv,hx];exact ih h
   ·rw[VG hc];simp only[Wv,hx];exact ih h
theorem D_ {env:Env} {x:Str}:∀ {names:List (Str × NameKind)},names.lookup x=none →
  (names.map fun (n,k)=>if (k == NameKind.free && env.scope.kind == .function && env.kindOf n == some .cell) then (n,NameKind.cell) else (n,k)).lookup x=none
 | [],h=>by simp
 | (n,k') :: r,h=>by
  have ih:=@D_ env x r
  show List.lookup x ((if (k' == NameKind.free && env.scope.kind == .function && env.kindOf n == some .cell)=true then (n,NameKind.cell) else (n,k')) :: _)=_
  cases hx:x == n with
  | true=>simp only[Wv,hx] at h;cases h
  | false =>
   simp only[Wv,hx] at h
   by_cases hc:(k' == NameKind.free && env.scope.kind == .function && env.kindOf n == some .cell)=true
   ·rw[We hc];simp only[Wv,hx];exact ih h
   ·rw[VG hc];simp only[Wv,hx];exact ih h
noncomputable def PF (X:Cx) (ifs:List Expr) (t:TT):Prop :=
 ∀ (pins:List (Addr × Obj)) (s:Shared) (σ : St) (H:Hp) (Q:Bool->Hp->Prop),Inv X pins σ H s->t σ H Q →
  wpAny (model X.prog X.w) X.A (forIn ifs true fun c r=>if r=true then do let ok <- isTrue c X.env (eval c X.env);pure (ForInStep.yield ok) else pure (ForInStep.yield r)) (TP X pins σ Q) X.xe s
noncomputable def sH:TT:=fun _ H Q=>Q true H
theorem Mv {X:Cx}:PF X [] sH:=fun _ _ _ H _ I h=>wpAny_tests_nil ⟨H,I,h⟩
theorem Mw {X:Cx} {c:Expr} {t:TT} (h:PT X c t):PF X [c] t:=fun pins s σ H Q I hw=>wpAny_tests_one (h pins s σ H Q I hw)
noncomputable def Mx (g:TG) (tf:TT) (te:TE) (l:Addr) (x:V) (τ : St) (H:Hp) (N:St->Hp->Prop):Prop :=
 g x τ H fun τ2 H2=>tf τ2 H2 fun b H3=>if b=true then te τ2 H3 fun y H4=>∃ ys,H4 l=some (.lst ys)/\ys.length < sizeLine/\N τ2 (upd H4 l (.lst (ys ++ [y]))) else N τ2 H3
noncomputable def Ea (J:It) (g:TG) (tf:TT) (te:TE) (l:Addr) (τ0:St) (H0:Hp) (Q:VK):Prop :=
 ∃ W:Nat->Nat->St->Hp->Prop,(∃ m,W 0 m τ0 H0)/\∀ i m τ H,W i m τ H →
  (J.stop i H/\Q (.ref l) H)\/(J.go i H/\∃ N:St->Hp->Prop,(∀ τ' H',N τ' H'->∃ m',m' < m/\W (i + 1) m' τ' H')/\∀ x H',J.qr i H x H'->Mx g tf te l x τ H' N)
noncomputable def oT (wi:TI) (cp:List (Option Nat)) (g:BD->TG) (tf:BD->TT) (te:BD->TE):TE:=fun σ H Q=>wi σ H fun J H1=>∀ (d:BD) (l:Addr),H1 l=none->Ea J (g d) (tf d) (te d) l (g7 cp σ) (upd H1 l (.lst [])) Q
theorem qy:∀ {names:List (Str × NameKind)} {n:Nat} {acc:List (Str × Addr)} {x:Str} {c:Addr},(cellsFrom n names acc).lookup x=some c->acc.lookup x=some c\/(n <= c/\(x,NameKind.cell)∈names)
 | [],n,acc,x,c,h => .inl h
 | (y,k) :: r,n,acc,x,c,h=>by
  unfold cellsFrom at h
  split at h
  ·rename_i hk
   have ek:k = .cell:=XD hk
   subst ek
   rcases qy h with h | ⟨h,m⟩
   ·rw[Wv] at h
    cases q:x == y with
    | true=>rw[q] at h;cases h;rw[XD q];exact .inr ⟨qx _,yE ..⟩
    | false=>rw[q] at h;exact .inl h
   ·exact .inr ⟨by omega,Mp _ m⟩
  ·rcases qy h with h | ⟨h,m⟩
   ·exact .inl h
   ·exact .inr ⟨h,Mp _ m⟩
theorem yI:∀ {names:List (Str × NameKind)} {n:Nat} {acc:List (Str × Addr)} {x:Str} {c:Addr},(x,NameKind.cell)∈names->(cellsFrom n names acc).lookup x=some c->n <= c
 | [],n,acc,x,c,m,h=>by cases m
 | (y,k) :: r,n,acc,x,c,m,h=>by
  unfold cellsFrom at h
  by_cases mr:(x,NameKind.cell)∈r
  ·split at h
   ·have:=yI mr h;omega
   ·exact yI mr h
  ·have e:(x,NameKind.cell)=(y,k):=by
    rcases VE.mp m with e | e
    ·exact e
    ·exact absurd e mr
   cases e
   rw[We (by decide)] at h
   rcases qy h with h | ⟨h,_⟩
   ·rw[Wv,beq_self_eq_true] at h
    cases h;exact qx _
   ·omega
theorem yJ:∀ {names:List (Str × NameKind)} {n:Nat} {acc:List (Str × Addr)} {x y:Str} {c:Addr},(∀ u v c,acc.lookup u=some c->acc.lookup v=some c->u=v)->(∀ u c,acc.lookup u=some c->c < n)->(cellsFrom n names acc).lookup x=some c->(cellsFrom n names acc).lookup y=some c->x=y
 | [],n,acc,x,y,c,hi,_,h1,h2=>hi x y c h1 h2
 | (z,k) :: r,n,acc,x,y,c,hi,hb,h1,h2=>by
  unfold cellsFrom at h1 h2
  split at h1
  ·rename_i hk
   rw[We hk] at h2
   refine yJ (fun u v c q1 q2 => ?_) (fun u c q => ?_) h1 h2
   ·rw[Wv] at q1 q2
    cases e1:u == z with
    | true =>
     rw[e1] at q1;cases q1
     cases e2:v == z with
     | true=>rw[XD e1,XD e2]
     | false=>rw[e2] at q2;exact absurd (hb v _ q2) (Xk _)
    | false =>
     rw[e1] at q1
     cases e2:v == z with
     | true=>rw[e2] at q2;cases q2;exact absurd (hb u _ q1) (Xk _)
     | false=>rw[e2] at q2;exact hi u v c q1 q2
   ·rw[Wv] at q
    cases e1:u == z with
    | true=>rw[e1] at q;cases q;exact Xv _
    | false=>rw[e1] at q;exact Xo (hb u c q)
  ·rename_i hk
   rw[VG hk] at h2
   exact yJ hi hb h1 h2
theorem yK:∀ {names:List (Str × NameKind)} {n:Nat} {acc:List (Str × Addr)} {x:Str},(x,NameKind.cell)∉names->(cellsFrom n names acc).lookup x=acc.lookup x
 | [],n,acc,x,_=>rfl
 | (y,k) :: r,n,acc,x,m=>by
  unfold cellsFrom
  split
  ·rename_i hk
   have ek:k = .cell:=XD hk
   subst ek
   rw[yK fun z=>m (Mp _ z),Wv]
   cases q:x == y with
   | true=>exact absurd (by rw[XD q];exact yE ..) m
   | false=>rfl
  ·exact yK fun z=>m (Mp _ z)
theorem yL:∀ {names:List (Str × NameKind)} {h:Heap} {acc:List (Str × Addr)} {x:Str} {c:Addr},(∀ u c,acc.lookup u=some c->∃ v,h.IsCell c v)->(cellsFrom h.objs.size names acc).lookup x=some c->∃ v,(pushCells h names).IsCell c v
 | [],h,acc,x,c,hc,e=>hc x c e
 | (y,k) :: r,h,acc,x,c,hc,e=>by
  unfold cellsFrom at e
  unfold pushCells
  split at e
  ·rename_i hk
   rw[We hk]
   have hz:(h.push { cls := .type "cell",data := .cell none }).objs.size=h.objs.size + 1:=Yb ..
   rw[<-hz] at e
   refine yL (fun u c q => ?_) e
   rw[Wv] at q
   cases e1:u == y with
   | true=>rw[e1] at q;cases q;exact⟨none,_,VH _ rfl,rfl⟩
   | false =>
    rw[e1] at q
    obtain⟨v,o,g1,g2⟩:=hc u c q
    exact⟨v,o,sC _ g1,g2⟩
  ·rename_i hk
   rw[VG hk]
   exact yL hc e
theorem Mz {M:Model} {A:Around} {E:Value->Shared->Prop} {s:Shared} {scope:Scope} {g:Addr} {cl:List (Str × Addr)} {qual:Str} {env:Env} {Q:Env->Shared->Prop}
  (h:Q (newEnv scope s.heap.objs.size g (cellsFrom (s.heap.objs.size + 1) scope.names cl) qual none .none (some env) builtinsNs) { s with heap:=pushCells (s.heap.push { cls := .type "dict",data := .dict #[] }) scope.names }) :
  wpAny M A (newFunctionEnv scope g cl [] qual none .none (some env)) Q E s:=by
 simp only[newFunctionEnv,Option.isSome_some,Yy]
 refine oQ (wpAny_alloc ?_)
 refine oQ (wpAny_layCells _ (fun name kind cells=>by cases MA:kind == NameKind.cell<;>simp[MA]) _ _ _ _ ?_)
 rw[show ({ s with heap:=s.heap.push { cls := .type "dict",data := .dict #[] } }:Shared).heap.objs.size=s.heap.objs.size + 1 from Yb ..]
 refine oQ ?_
 rw[List.forIn_nil]
 exact D5 (D5 h)
section
variable {X:Cx} {elt tg iter:Expr} {ifs:List Expr} {scope:Scope} {pos:Pos} {Nb:List Str} {cp:List (Option Nat)} {wi:TI} {g:BD->TG} {tf:BD->TT} {te:BD->TE}
variable {pins:List (Addr × Obj)} {σ : St} {H:Hp} {s:Shared}
noncomputable abbrev sI (scope:Scope) (s:Shared) (cl:List (Str × Addr)):List (Str × Addr):=cellsFrom (s.heap.objs.size + 1) scope.names cl
theorem MB {fp:List Addr} {cl:List (Str × Addr)} (S:vv X scope Nb cp) (I:Inv X pins σ H s) (hf:∀ b∈fp,a0 X pins H b) (ho:∀ b∈fp,∃ o,s.heap.get? b=some o)
  (c1:∀ x c,cl.lookup x=some c->X.env.cells.lookup x=some c) (c2:∀ y∈scope.names,y.2 = .free->∃ c,cl.lookup y.1=some c):(bZ X scope Nb ⟨sI scope s cl,s.heap.objs.size,s,H,fp⟩).Ok:=by
 have MC:∀ b∈fp,b∉jA X.stack:=fun b hb z=>by
  obtain⟨_,f1,f2,_⟩:=hf b hb
  rcases VE.mp (I.fQ b z) with e | e
  ·exact f1 e
  ·exact f2 e
 have lt:∀ u c,cl.lookup u=some c->c < s.heap.objs.size:=fun u c e=>by
  obtain⟨v,q⟩:=I.cell u c (c1 _ _ e)
  exact q.lt
 refine⟨I.ok.mod,?_,I.ok.glob,I.ok.blt,qx _,fun x y c h1 h2 => ?_,fun x hx => ?_,fun x c h hc => ?_,I.ok.hd,I.ok.frames,.inl rfl,fun b hb=>⟨?_,fun x c e => ?_⟩,I.bs,Xg I.ok.mN I.sz,fun b o e hb => ?_,MC,I.stack,I.iE⟩
 ·exact S.kind
 ·exact yJ (fun u v c q1 q2=>I.ok.inj u v c (c1 _ _ q1) (c1 _ _ q2)) (fun u c e=>Xo (lt u c e)) h1 h2
 ·cases q:scope.names.lookup x with
  | none =>
   have z:(relabel scope X.env).names.lookup x=none:=D_ q
   have g8:(relabel scope X.env).names.lookup x=some .cell\/(relabel scope X.env).names.lookup x=some .free:=hx
   rw[z] at g8
   rcases g8 with h | h<;>cases h
  | some k =>
   have hm:=Xm q
   have z:(relabel scope X.env).names.lookup x=_:=yH (env:=X.env) q
   have g8:(relabel scope X.env).names.lookup x=some .cell\/(relabel scope X.env).names.lookup x=some .free:=hx
   rw[z] at g8
   have kf:k = .free\/k = .cell:=by
    by_cases hk:k = .free
    ·exact .inl hk
    ·have:(k == NameKind.free)=false:=by simpa using hk
     simp only[this,q0y,Wn,Xr] at g8
     rcases g8 with h | h
     ·exact .inr (Wx h)
     ·exact absurd (Wx h) hk
   refine YT.mp (Zc scope.names _ cl ?_)
   rcases kf with rfl | rfl
   ·obtain⟨c,e⟩:=c2 (x,.free) hm rfl
    exact .inr (by rw[show cl.lookup x=some c from e];rfl)
   ·exact .inl q
 ·have hl:scope.names.lookup x=some .cell:=XC h
  have:=yI (Xm hl) hc
  exact Nat.le_of_succ_le this
 ·obtain⟨o,e⟩:=ho b hb
  exact Wi (My e)
 ·rcases qy e with e | ⟨e,_⟩
  ·exact (hf b hb).2.2.2.2.1 x c (c1 _ _ e)
  ·obtain⟨o,eo⟩:=ho b hb
   have yM:=My eo
   intro z
   subst z
   exact absurd (Nat.lt_of_succ_le e) (Nat.not_lt.mpr (XM yM))
 ·rcases (hf b hb).2.2.2.1 with z | z
  ·exact I.ok.jL b o e z
  ·exact absurd (Wk (My (I.ok.bs b o e).1) z) (Xk _)
theorem MD {cp:List (Option Nat)} {σ : St} {j:Nat} {v:V} (h:(g7 cp σ)[j]? = some (some v)):∃ i,cp[j]? = some (some i) /\ σ[i]? = some (some v):=by
 unfold g7 at h
 rw[D8] at h
 cases e:cp[j]? with
 | none=>rw[e] at h;cases h
 | some o =>
  rw[e] at h
  cases o with
  | none=>cases h
  | some i =>
   refine⟨i,rfl,?_⟩
   have h':(σ[i]?).join=some v:=Wx h
   cases q : σ[i]? with
   | none=>rw[q] at h';cases h'
   | some z =>
    rw[q] at h'
    have:z=some v:=h'
    rw[this]
theorem ME {fp:List Addr} {cl:List (Str × Addr)} {h1:Heap} {tk:Nat} (S:vv X scope Nb cp) (I:Inv X pins σ H s) (hf:∀ b∈fp,a0 X pins H b) (ho:∀ b∈fp,∃ o,s.heap.get? b=some o)
  (c1:∀ x c,cl.lookup x=some c->X.env.cells.lookup x=some c) (c2:∀ y∈scope.names,y.2 = .free->∃ c,cl.lookup y.1=some c)
  (hn:h1.Ns s.heap.objs.size (fun x=>([]:List (Str × Value)).reverse.lookup x)) (hk:∀ b o,s.heap.get? b=some o->h1.get? b=some o) (qu:∀ x c,(sI scope s cl).lookup x=some c->∃ v,h1.IsCell c v) :
  Inv (bZ X scope Nb ⟨sI scope s cl,s.heap.objs.size,s,H,fp⟩) [] (g7 cp σ) H { s with heap:=h1,toks:=tk }:=by
 refine⟨MB S I hf ho c1 c2,rfl,I.bare,Un.kept hk,⟨_,hn,fun j x v e1 e2 e3 => ?_⟩,qu,I.aJ.fresh (qx _),fun x c e => ?_,fun p hp=>absurd (show p∈([]:List (Addr × Obj)) from hp) (by simp),I.aJ.kept hk,?_⟩
 ·obtain⟨i,q1,q2⟩:=MD e2
  obtain⟨q3,q4⟩:=S.sG j i x q1 e1
  have hm:=Xm q4
  have mV:=S.free _ hm rfl
  obtain⟨m,_,hl⟩:=I.loc
  have MF:nZ X.env.scope x:=by
   rcases mV with h | h
   ·exact .inr (.inl h)
   ·exact .inr (.inr h)
  obtain⟨u,ru,lk⟩:=hl i x v q3 q2 MF
  refine⟨u,ru,?_⟩
  have nl:X.env.kindOf x≠some .local:=by
   rcases mV with h | h
   ·intro z;rw[h] at z;cases z
   ·intro z;rw[h] at z;cases z
  rcases lk with⟨k,_⟩ | ⟨_,c,ec,hc⟩
  ·exact absurd k nl
  ·obtain⟨c',Eb⟩:=c2 (x,.free) hm rfl
   have Ec:=c1 _ _ Eb
   rw[ec] at Ec;cases Ec
   have nc:(x,NameKind.cell)∉scope.names:=fun z=>by have:=S.cell _ z rfl;rw[show scope.names.lookup x=some .free from q4] at this;cases this
   refine .inr ⟨?_,c,(yK nc).trans Eb,?_⟩
   ·have z:(relabel scope X.env).names.lookup x=_:=yH (env:=X.env) q4
    show (relabel scope X.env).names.lookup x=some .cell\/(relabel scope X.env).names.lookup x=some .free
    rw[z]
    split
    ·exact .inl rfl
    ·exact .inr rfl
   ·obtain⟨o,e,d⟩:=hc
    exact⟨o,hk _ _ e,d⟩
 ·rcases qy e with e | ⟨e,_⟩
  ·exact I.cb x c (c1 _ _ e)
  ·exact I.aJ.fresh (Nat.le_of_succ_le e)
 ·unfold g7
  rw[oS]
  exact S.len
theorem MG {fp:List Addr} {d:BD} {it l:Addr} {tn:Nat->Heap->Prop} {J:It} {R:Result->Shared->Prop} {Q:VK} {H1:Hp} {s1:Shared} {τ : St} (hc:X.calm=true)
  (hg:PG (bZ X scope Nb d) tg (g d)) (hf:PF (bZ X scope Nb d) ifs (tf d)) (he:PE (bZ X scope Nb d) elt (te d)) (T:Turn X.prog X.w X.K tg J fp it tn)
  (VJ:d.fp=fp) (I1:Inv (bZ X scope Nb d) [] τ H1 s1) (jO:tn 0 s1.heap) (Ed:∀ b∈fp,a0 (bZ X scope Nb d) [] H1 b)
  (W:Nat->Nat->St->Hp->Prop) (w0:∃ m,W 0 m τ H1)
  (turn:∀ i m τ H,W i m τ H->(J.stop i H/\Q (.ref l) H)\/(J.go i H/\∃ N:St->Hp->Prop,(∀ τ' H',N τ' H'->∃ m',m' < m/\W (i + 1) m' τ' H')/\∀ x H',J.qr i H x H'->g d x τ H' fun τ2 H2=>tf d τ2 H2 fun b H3 =>
   if b=true then te d τ2 H3 fun y H4=>∃ ys,H4 l=some (.lst ys)/\ys.length < sizeLine/\N τ2 (upd H4 l (.lst (ys ++ [y]))) else N τ2 H3))
  (fin:∀ τ' H' s',Inv (bZ X scope Nb d) [] τ' H' s'->Q (.ref l) H'->R (.ok .next) s') :
  codeAny (model X.prog X.w) X.A (.compStart (.ListComp elt [⟨tg,iter,ifs,0⟩] scope pos) 0 (.ref it) (.ref l) (compEnvC scope d.cl d.C X.env)) R s1:=by
 have hX:∀ {H':Hp},(∀ b∈fp,H' b=none)->∀ b∈fp,a0 (bZ X scope Nb d) [] H' b:=fun hn b hb=>⟨hn b hb,(Ed b hb).2⟩
 have loop:codeAny (model X.prog X.w) X.A (.compLoop (.ListComp elt [⟨tg,iter,ifs,0⟩] scope pos) 0 (.ref it) (.ref l) (compEnvC scope d.cl d.C X.env)) R s1:=by
  obtain⟨m0,w0⟩:=w0
  refine Mu (fun n s'=>∃ i τ' H',Inv (bZ X scope Nb d) [] τ' H' s'/\tn i s'.heap/\(∀ b∈fp,H' b=none)/\W i n τ' H') ?_ m0 ⟨0,τ,H1,I1,jO,fun b hb=>(Ed b hb).1,w0⟩
  rintro n s3 ⟨i,σ3,H3,I3,qt,sd,w3⟩
  rcases turn i n σ3 H3 w3 with⟨stop,qn⟩ | ⟨go,N,hN,step⟩
  ·refine a6 (T.done (bZ X scope Nb d) rfl rfl rfl hc i [] s3 σ3 H3 (fun _ _=>False) I3 (hX sd) qt stop) fun r s4 ⟨hr,I4⟩ => ?_
   subst hr
   exact fin σ3 H3 s4 I4 qn
  ·refine a6 (T.item (bZ X scope Nb d) rfl rfl rfl hc i [] s3 σ3 H3 (fun _ _=>False) I3 (hX sd) qt go) fun r s4 ⟨u,hr,h4⟩ => ?_
   subst hr
   refine a6 h4 fun _ s5 ⟨x,H5,I5,r5,y5,oo,x9⟩ => ?_
   have x_:=I5.pinned (hX x9) (T.obj _ _ oo)
   refine a6 (hg _ s5 σ3 H5 x u _ x_ r5 (step x H5 y5)) fun _ s6 ⟨σ6,H6,I6,q6⟩ => ?_
   have again:∀ {σ7:St} {H7:Hp} {s7:Shared} {m':Nat},Inv (bZ X scope Nb d) ([] ++ r_ fp s5.heap) σ7 H7 s7->m' < n->W (i + 1) m' σ7 H7->∃ m,m < n/\∃ i σ' H',Inv (bZ X scope Nb d) [] σ' H' s7/\tn i s7.heap/\(∀ b∈fp,H' b=none)/\W i m σ' H':=fun {σ7 H7 s7 m'} I7 hm w7=>by
    refine⟨m',hm,i + 1,σ7,H7,I7.di,T.keep _ _ _ oo fun b hb o e=>(I7.pin (b,o) (Mq _ (Mq _ (vh hb e)))).1,fun b hb => ?_,w7⟩
    obtain⟨o,e,d⟩:=T.obj _ _ oo b hb
    exact (I7.pin (b,o) (Mq _ (Mq _ (vh hb e)))).2.1
   refine a6 (hf _ s6 σ6 H6 _ I6 q6) fun ok s7 h0_ => el3 h0_ fun H7 I7 q7 => ?_
   cases ok with
   | false =>
    rw[VG Wf] at q7 ⊢
    obtain⟨m',hm,w7⟩:=hN _ _ q7
    exact again I7 hm w7
   | true =>
    rw[We rfl] at q7 ⊢
    refine a6 (he _ s7 σ6 H7 _ I7 q7) fun y s8 ⟨yv,H8,I8,r8,ys,hy,hz,q8⟩ => ?_
    obtain⟨m',hm,w8⟩:=hN _ _ q8
    refine a6 (sD _ s8 σ6 H8 (.ref l) [yv] (.ref l) [y] (fun _ H9=>H9=upd H8 l (.lst (ys ++ [yv]))) I8 rfl (.cons r8 .nil) ⟨l,ys,yv,rfl,rfl,hy,hz,rfl⟩) fun _ s9 h0_ => el5 h0_ fun _ H9 I9 _ e9 => ?_
    subst e9
    exact again I9 hm w8
 exact codeAny_compStart_list loop (T.self _ 0 s1 _ _ jO loop)
theorem MH {fp:List Addr} {d:BD} {τ : St} {H1 H':Hp} {s1 s':Shared} (I1:Inv X pins σ H1 s1) (hs:d.s=s1) (hH:d.H=H1) (hd:d.fp=fp) (hf:∀ b∈fp,a0 X pins H1 b) (J:Inv (bZ X scope Nb d) [] τ H' s'):Inv X pins σ H' s':=by
 subst hs hH hd
 exact I1.rV (ch:=d.fp) J.os J.base J.aJ J.bare fun b hb=>⟨(hf b hb).2.2.2.1,(hf b hb).2.1,(hf b hb).2.2.2.2.1,(hf b hb).2.2.2.2.2⟩
theorem Ee {use:Option (Value->Sem Unit)} {P:Value->Shared->Prop} {Q:VK} (hc:X.calm=true) (S:vv X scope Nb cp) (hi:PI X tg iter wi) (hg:∀ d,PG (bZ X scope Nb d) tg (g d)) (hf:∀ d,PF (bZ X scope Nb d) ifs (tf d)) (he:∀ d,PE (bZ X scope Nb d) elt (te d))
  (hs:∀ x,foldedSetIterable iter X.env x=pure x) (I:Inv X pins σ H s) (h:oT wi cp g tf te σ H Q)
  (fin:∀ (l C:Addr) (H':Hp) (s':Shared) (m:Str->Option Value),Inv X pins σ H' s'->a0 X pins H' C->(∀ p c,X.env.cells.lookup p=some c->c≠C)->s'.heap.Ns C m->Q (.ref l) H'->compPost (model X.prog X.w) X.A X.xe use P (.ref l) C (.ok .next) s') :
  wpAny (model X.prog X.w) X.A (comprehension (.ListComp elt [⟨tg,iter,ifs,0⟩] scope pos) scope X.env (firstIterPos [⟨tg,iter,ifs,0⟩] pos) (newList []) false (eval iter X.env) use) P X.xe s:=by
 obtain⟨cl,MI,c1,c2⟩:=yG (scope:=scope) (env:=X.env) fun y hy MJ=>by
  rcases S.free y hy MJ with z | z
  ·exact I.ok.has _ (.inl z)
  ·exact I.ok.has _ (.inr z)
 refine wpAny_comprehension_free (cl:=cl) rfl hs MI S.kind S.names (a6 (hi pins s σ H _ I h) fun v s1 h1=>a6 h1 fun x6 s2 h2 => ?_)
 obtain⟨it,fp,tn,J,H2,e,I2,T,mR,f2,q2⟩:=h2
 subst e
 refine XN ?_
 have hl:H2 s2.heap.objs.size=none:=I2.fresh
 have I3:Inv X pins σ (upd H2 s2.heap.objs.size (.lst [])) { s2 with heap:=s2.heap.push { cls := .type "list",data := .seq ([]:List Value).toArray } }:=I2.bR (t':=s2.toks) (ys:=[]) .nil (W6 _)
 have k3:∀ b o,s2.heap.get? b=some o->(s2.heap.push { cls := .type "list",data := .seq ([]:List Value).toArray }).get? b=some o:=fun b o e=>sC _ e
 have f3:∀ b∈fp,a0 X pins (upd H2 s2.heap.objs.size (.lst [])) b:=fun b hb=>by
  obtain⟨o,e,_⟩:=T.obj _ _ mR b hb
  refine⟨?_,(f2 b hb).2⟩
  rw[aM (Wi (My e))]
  exact (f2 b hb).1
 generalize MK:upd H2 s2.heap.objs.size (.lst [])=H3 at I3 f3
 generalize ML:({ s2 with heap:=s2.heap.push { cls := .type "list",data := .seq ([]:List Value).toArray } }:Shared)=s3 at I3
 have Ef:∀ b o,s2.heap.get? b=some o->s3.heap.get? b=some o:=by rw[<-ML];exact k3
 have o3:∀ b∈fp,∃ o,s3.heap.get? b=some o:=fun b hb=>let ⟨o,e,_⟩:=T.obj _ _ mR b hb; ⟨o,Ef b o e⟩
 refine Mz ?_
 have k4:∀ b o,s3.heap.get? b=some o->(pushCells (s3.heap.push { cls := .type "dict",data := .dict #[] }) scope.names).get? b=some o:=fun b o e=>pushCells_keeps _ _ _ _ (sC _ e)
 have sJ:(pushCells (s3.heap.push { cls := .type "dict",data := .dict #[] }) scope.names).Ns s3.heap.objs.size (fun x=>([]:List (Str × Value)).reverse.lookup x):=(Heap.Ns.new s3.heap (.type "dict")).keeps (pushCells_keeps _ _)
 have I4:=ME (Nb:=Nb) (tk:=s3.toks) S I3 f3 o3 c1 c2 sJ k4 fun x c e=>by
  have hz:(s3.heap.push { cls := .type "dict",data := .dict #[] }).objs.size=s3.heap.objs.size + 1:=Yb ..
  have e':(cellsFrom (s3.heap.push { cls := .type "dict",data := .dict #[] }).objs.size scope.names cl).lookup x=some c:=by rw[hz];exact e
  refine yL (fun u c q => ?_) e'
  obtain⟨v,o,g1,g2⟩:=I3.cell u c (c1 _ _ q)
  exact⟨v,o,sC _ g1,g2⟩
 generalize VL:pushCells (s3.heap.push { cls := .type "dict",data := .dict #[] }) scope.names=h₁ at k4 sJ I4 ⊢
 obtain⟨W,w0,turn⟩:=q2 ⟨sI scope s3 cl,s3.heap.objs.size,s3,H3,fp⟩ s2.heap.objs.size hl
 rw[MK] at w0
 refine MG (d:=⟨sI scope s3 cl,s3.heap.objs.size,s3,H3,fp⟩) (fp:=fp) (tn:=tn) (J:=J) (Q:=Q) hc (hg _) (hf _) (he _) T rfl I4 (T.keep _ _ _ mR fun b hb o e=>k4 b o (Ef b o e)) (fun b hb => ?_) W w0 turn fun τ' H' s' I5 q5 => ?_
 ·obtain⟨o,e⟩:=o3 b hb
  refine⟨(f3 b hb).1,Wi (My e),fun z => ?_,.inl hb,fun x c ec => ?_,fun p hp=>absurd (show p∈([]:List (Addr × Obj)) from hp) (by simp)⟩
  ·rcases VE.mp (I3.fQ b z) with r | r
   ·exact (f3 b hb).2.1 r
   ·exact (f3 b hb).2.2.1 r
  ·rcases qy ec with q | ⟨q,_⟩
   ·exact (f3 b hb).2.2.2.2.1 x c (c1 _ _ q)
   ·have yM:=My e
    intro z
    subst z
    exact absurd (Nat.lt_of_succ_le q) (Nat.not_lt.mpr (XM yM))
 ·have I6:Inv X pins σ H' s':=MH I3 rfl rfl rfl f3 I5
  obtain⟨m,hn,_⟩:=I5.loc
  have fC:a0 X pins H' s3.heap.objs.size:=I3.d8 (qx _) I5.free
  exact fin _ _ _ _ m I6 fC (fun p c e=>fC.2.2.2.2.1 p c e) hn q5
theorem MM (cp:List (Option Nat)) (Nb:List Str) (hc:X.calm=true) (hi:PI X tg iter wi) (hg:∀ d,PG (bZ X scope Nb d) tg (g d)) (hf:∀ d,PF (bZ X scope Nb d) ifs (tf d)) (he:∀ d,PE (bZ X scope Nb d) elt (te d))
  (hk:scope.kind = .function:=by rfl) (ho:kR X.N X.env.scope scope Nb cp=true:=by first | rfl | kernel_rfl) (hs:∀ x,foldedSetIterable iter X.env x=pure x:=by intro _;rfl) :
  PE X (.ListComp elt [⟨tg,iter,ifs,0⟩] scope pos) (oT wi cp g tf te):=by
 intro pins s σ H Q I h
 rw[eval_ListComp]
 refine Ee (use:=none) hc (q9C hk ho) hi hg hf he hs I h fun l C H' s' m I' fC hcc hn q=>⟨m,hn,fun h' sL=>⟨.ref l,H',?_,rfl,q⟩⟩
 exact I'.turned (t':=s'.toks) (fun b o hb e=>(sL.2 b hb).trans e) fC.1 fC.2.1 fC.2.2.2.1 fC.2.2.2.2.1 fC.2.2.2.2.2
theorem MN (cp:List (Option Nat)) (Nb:List Str) {i:Nat} {x:Str} {pos' gF:Pos} (hN:X.N.Nodup) (hi:X.N[i]? = some x) (hx:Loc X.env.scope x) (hc:X.calm=true) (hit:PI X tg iter wi) (hg:∀ d,PG (bZ X scope Nb d) tg (g d)) (hf:∀ d,PF (bZ X scope Nb d) ifs (tf d)) (he:∀ d,PE (bZ X scope Nb d) elt (te d))
  (hk:scope.kind = .function:=by rfl) (ho:kR X.N X.env.scope scope Nb cp=true:=by first | rfl | kernel_rfl) (hs:∀ x,foldedSetIterable iter X.env x=pure x:=by intro _;rfl)
  (sM:swapsWith (.ListComp elt [⟨tg,iter,ifs,0⟩] scope pos) (some (.Name x pos')) gF.line X.env=pure true:=by rfl)
  (lB:X.fn x=true\/X.env.scope.names.lookup x=some .local:=by first | exact .inl rfl | exact .inr rfl | assumption) :
  PS X (.Assign [.Name x pos'] (.ListComp elt [⟨tg,iter,ifs,0⟩] scope pos) gF) (fR (oT wi cp g tf te) (kO i)):=by
 intro pins s σ H D I h
 rw[exec_Assign_Name_used _ _ _ _ sM]
 refine oQ (Ym (oQ ?_))
 show wpAny _ X.A (do let _ <- comprehension (.ListComp elt [⟨tg,iter,ifs,0⟩] scope pos) scope X.env _ (newList []) false (eval iter X.env) (some (assign (.Name x pos') X.env))) _ _ s
 refine oQ (a6 (Ee (use:=some (assign (.Name x pos') X.env)) (P:=fun _ s'=>SP X pins D .next s') hc (q9C hk ho) hit hg hf he hs I h fun l C H' s' m I' fC hcc hn q => ?_) fun _ s' hq=>D5 (D5 hq))
 show wpAny _ X.A (assign (.Name x pos') X.env (.ref l)) _ _ s'
 refine wpAny_assign_Name (C8 I' hN hi hx (v := .ref l) rfl (fun hZ MO ⟨a,sb,ha⟩ => ?_) lB)
 have nC:C≠a:=by
  rcases ha with e | e
  ·rw[e];exact fC.2.1
  ·exact Yi (hcc _ _ e)
 refine⟨m,hn.sameBut sb nC,fun h' sL=>⟨_,H',?_,q⟩⟩
 exact MO.turned (t':=hZ.toks) (fun b o hb e=>(sL.2 b hb).trans e) fC.1 fC.2.1 fC.2.2.2.1 fC.2.2.2.2.1 fC.2.2.2.2.2
end
section
variable {g:TG} {tf:TT} {te:TE}
end
section
variable {X:Cx} {pins:List (Addr × Obj)} {σ : St} {H:Hp} {s:Shared} {h':Heap} {T:Addr} {o:HO} {ch:List Addr} {t':Nat}
theorem Inv.gG (I:Inv X pins σ H s) (hf:∀ b∈ch,a0 X pins H b) (k:∀ b u,b∉ch->s.heap.get? b=some u->h'.get? b=some u) (hT:s.heap.objs.size <= T) (new:aI X.prog X.w (upd H T o) h' T o) :
  Inv X pins σ (upd H T o) { s with heap:=h',toks:=t' }:=by
 have hn:H T=none:=I.aJ.fresh hT
 have mO:∀ b u,H b=some u->b∉ch:=fun b u e hb=>by rw[(hf b hb).1] at e;cases e
 refine I.step (g':=s.gens) (d':=s.drawn) (ch:=ch) (fun b hb=>⟨(hf b hb).2.2.2.1,(hf b hb).2.1,(hf b hb).2.2.2.2.1,(hf b hb).2.2.2.2.2⟩) (fun b u _ _ hc e _=>k b u hc e) (fun b u _ _ hc e _=>⟨u.slots,k b u hc e⟩)
  (fun b u _ e n=>by rw[aM (Wi (Wk (My e) hT))];exact n) (fun b u hc e=>⟨u,k b u hc e⟩) (fun b xs e=>by rw[aM (cC e hn)];exact e)
  (fun b u xs e=>by rw[aM (cC e hn)];exact e) (fun b ps e=>⟨#[],by rw[aM (cC e hn),e];simp⟩) (fun m hm => ?_) (fun b u e => ?_) I.bare
 ·obtain⟨u,es,ep,ho,r⟩:=hm
  exact⟨u,es,ep,k _ u (fun hb=>(hf _ hb).2.1 rfl) ho,r⟩
 ·by_cases hb:b=T
  ·subst hb;rw[bA] at e;cases e;exact new
  ·rw[aM hb] at e
   refine (I.aJ b u e).eU (fun c v hc q=>k c v ?_ q) (fun c q=>by rw[aM (cC q hn)];exact q) fun c xs q=>by rw[aM (cC q hn)];exact q
   rcases hc with z | z
   ·rw[z];exact mO b u e
   ·exact mO c _ z
end
noncomputable def qz (K:PySem.W.Frag) (a:Addr):It :=
 ⟨fun i H=>∃ xs x,a7 K H a xs/\xs[i]? = some x,fun i H x H'=>∃ T v,x = .ref T/\H T=none/\H'=upd H T (.tup [.int (i:Nat),v])/\∀ xs,a7 K H a xs->xs[i]? = some v,fun i H=>∃ xs,a7 K H a xs/\xs.length <= i⟩
theorem Eg {P:Program} {w:World} {K:PySem.W.Frag} {elts:List Expr} {x1} {tp:Pos} (a e it:Addr) (h9:e≠it) :
  Turn P w K (.Tuple elts x1 tp) (qz K a) [e,it] e (fun i h=>(∃ old,IsEnum h e it (i:Nat) old)/\h.IsListIter it a i) where
 mem:=by simp
 obj:=fun i h st b hb=>by
  obtain⟨⟨old,he⟩,o,hi,hc,hd⟩:=st
  rcases VE.mp hb with rfl | hb
  ·exact⟨_,he,fun v z=>by cases z⟩
  ·have z:b=it:=by simpa using hb
   subst z
   exact⟨o,hi,fun v z=>by rw[hd] at z;cases z⟩
 keep:=fun i h h' st k=>by
  obtain⟨⟨old,he⟩,hi⟩:=st
  exact⟨⟨old,k e (by simp) _ he⟩,hi.at fun o q=>k it (by simp) o q⟩
 item:=by
  intro X hP hw hK hc i pins s σ H E I hf st hg
  subst hP hw hK
  obtain⟨⟨old,he⟩,hi⟩:=st
  obtain⟨xs,x,hq,hx⟩:=hg
  obtain⟨aj,rv,p,hz⟩:=I.list hq
  obtain⟨u,hu,ru⟩:=rv.get hx
  refine wpAny_pyNext_enum_item he hi p.isList (x:=u) (by simpa using hu) h9 fun h1 kJ yN sN hsz hk=>⟨_,rfl,?_⟩
  refine wpAny_letOwnedTupleGo_enum kJ fun h2 sO iH => ?_
  have hT:s.heap.objs.size≠e:=YN (My he)
  have i8:h2.get? s.heap.objs.size=some { cls := .type "tuple",data := .seq #[.int i s.toks,u] }:=(iH.2 _ hT).trans sN
  have k2:∀ b o,b∉[e,it]->s.heap.get? b=some o->h2.get? b=some o:=fun b o hb q=>by
   have sP:b≠e:=fun z=>hb (by simp[z])
   have gE:b≠it:=fun z=>hb (by simp[z])
   exact (iH.2 _ sP).trans (hk b o sP gE q)
  have hn:H s.heap.objs.size=none:=I.aJ.fresh (qx _)
  refine⟨.ref s.heap.objs.size,upd H s.heap.objs.size (.tup [.int i,x]),I.gG (ch:=[e,it]) (t':=s.toks + 1) hf k2 (qx _) ?_,rfl,⟨_,x,rfl,hn,rfl,fun ys hy=>by rw[I.gA hy hq];exact hx⟩,⟨⟨u,?_⟩,?_⟩,fun b hb => ?_⟩
  ·exact⟨by show 2 <= sizeLine;decide,[.int i s.toks,u],.cons ⟨_,rfl⟩ (.cons ru .nil),_,i8,rfl,_,rfl⟩
  ·have e3:((i:Int) + 1)=(((i + 1:Nat)):Int):=by omega
   rw[e3] at sO
   exact sO
  ·exact yN.at fun o q=>(iH.2 _ (Yi h9)).trans q
  ·have:b < s.heap.objs.size:=by
    obtain⟨o,q,_⟩:=hi
    rcases VE.mp hb with rfl | hb
    ·exact My he
    ·have z:b=it:=by simpa using hb
     subst z;exact My q
   rw[aM (Wi this)]
   exact (hf b hb).1
 done:=by
  intro X hP hw hK hc i pins s σ H E I hf st hg
  subst hP hw hK
  obtain⟨⟨old,he⟩,hi⟩:=st
  obtain⟨xs,hq,hx⟩:=hg
  obtain⟨aj,rv,p,hz⟩:=I.list hq
  have hl:=rv.length
  refine wpAny_pyNext_enum_end (I.ok.hd hc) he hi p.isList (by simp;omega) fun h1 eb=>⟨rfl,?_⟩
  obtain⟨f0,f1,f2,f3,f4,f5⟩:=hf it (by simp)
  exact I.turned (t':=s.toks) (fun b o hb q=>eb b o hb q) f0 f1 f3 f4 f5
 self:=fun A i s Q E st h=>by
  obtain⟨⟨old,he⟩,hi⟩:=st
  have hT:s.TypeIs (.ref e) "enumerate" := ⟨_,he,rfl⟩
  exact X0 he h
section
variable {X:Cx} {elts:List Expr} {x1:Nat} {tp:Pos}
noncomputable def yO (K:PySem.W.Frag) (ta:TA):TI:=fun σ H R=>ta σ H fun vs H1=>∃ a,vs=[.ref a]/\(∃ xs,a7 K H1 a xs)/\R (qz K a) H1
theorem Eh:bootBuiltins "enumerate" = some (.type "enumerate"):=by decide +kernel
theorem MP {a:Expr} {ta:TA} {p pos:Pos} (hg:Gl X "enumerate") (hm:X.mg "enumerate" = none) (ha:PA X [a] ta) (hs:starEach [a] X.env=[(false,eval a X.env)]:=by rfl) :
  PI X (.Tuple elts x1 tp) (.Call (.Name "enumerate" p) [a] [] pos) (yO X.K ta):=by
 intro pins s σ H R I h
 refine Call_ (kM I hg hm Eh (XI (a6 (ha pos pins s σ H _ I h) fun us s1 h0_ => el5 h0_ fun vs H1 I1 r1 q1 => ?_) hs rfl))
 obtain⟨l,e,⟨xs,hq⟩,q⟩:=q1
 subst e
 cases r1 with
 | cons r rr =>
  cases rr
  cases r
  obtain⟨aj,rv,p,hz⟩:=I1.list hq
  refine call_enumerate_list p.isList fun h' he hi hsz hk => ?_
  have I2:Inv X pins σ H1 { s1 with heap:=h' }:=I1.kept (t':=s1.toks) hk
  refine X0 he ?_
  refine⟨_,_,_,_,H1,rfl,I2,Eg l (s1.heap.objs.size + 1) s1.heap.objs.size (ZZ _),⟨⟨_,he⟩,hi⟩,fun b hb => ?_,q⟩
  have hb':s1.heap.objs.size <= b:=by
   rcases VE.mp hb with rfl | hb
   ·exact ZN _
   ·have z:b=s1.heap.objs.size:=by simpa using hb
    rw[z];exact qx _
  exact I1.d8 hb' (I1.aJ.fresh hb')
end
section
variable {X:Cx} {nm:Str} {tp:Pos}
end
end L2
namespace L2
open PySem PySem.Spec PyProof.Rows PySem.W
open Builtin Builtin.ObjectAttr
section
variable {prog:Program} {w:World} {A:Around} {E:Value->Shared->Prop} {s:Shared} {K:Frag} {x D:Addr} {ox:Obj} {VM:Option Obj} {name:Str}
variable {h:Heap} {g:Array GenState} {d:Drawn} {t:Nat} {os:OsState} {nm q:Str} {C N:Addr} {bs bm VN:List Value} {MQ:Bool} {sn:List Str} {sub:List Value} {ab:Bool} {col:Option Bool} {dd:Option Addr} {k0 k1 k2 k3 k5:Option Value} {B newId yP:String}
end
end L2
namespace L2
open PySem PySem.Spec PyProof.Rows
section
variable {X:Cx} {pins:List (Addr × Obj)} {σ : St} {H:Hp} {s:Shared} {C f:Addr} {CX:iX} {k:Nat} {fd:FuncData} {ps:List Str} {sp:Sp} {E:XK} {x:Str} {p pos pos':Pos} {e o value:Expr} {es:List Expr} {ta tv:TE} {t:TA}
end
section
variable {X:Cx}
noncomputable def sQ:V->Option Value
 | .ty n=>some (.type n)
 | .ref a=>some (.ref a)
 | _=>none
theorem MR {y:V} {u c:Value} (r:RelV y u) (e:sQ y=some c):u=c:=by
 cases y with
 | ty n=>cases e;exact r
 | ref a=>cases e;exact r
 | _=>cases e
theorem MS:eN X (.builtin "isinstance") (fun xs H Q=>∃ x y c t b,xs=[x,y]/\sQ y=some c/\dj X.K H x t/\PySem.W.kitOne X.K t c=some b/\Q (.bl b) H):=by
 intro pins s σ H xs us Q I rv h
 obtain⟨x,y,c,t,b,rfl,hc,ty,e,q⟩:=h
 obtain⟨u,w',rfl,rx,ry⟩:=rv.two
 rw[MR ry hc]
 exact Lz I rx ty e fun tk=>⟨.bl b,H,I.tok tk,rfl,q⟩
theorem IsList.parts {h:Heap} {l:Addr} {items:Array Value} (x:h.IsList l items):∃ dd n sl,h.get? l=some { cls := .type "list",dict:=dd,data := .seq items n,slots:=sl }:=by
 obtain⟨⟨cls,dd,data,sl⟩,ho,hc,n,hd⟩:=x
 simp only at hc hd
 subst hc hd
 exact⟨dd,n,sl,ho⟩
noncomputable def Ei (K:PySem.W.Frag):V->List V->Hp->VK->Prop:=fun x vs H Q=>∃ l xs y j,x = .ref l/\vs=[y]/\a7 K H l xs/\kQ y=true/\xs.all kQ=true/\j < xs.length/\(∀ z,xs[j]? = some z->iJ z y=true)/\(∀ m z,m < j->xs[m]? = some z->iJ z y=false)/\Q (.int (j:Nat)) H
theorem MT {x:V} {xs:List V} {us:List Value} (r:Vals xs us) (f:xs.all kQ=true) {j:Nat} {u:Value} (hu:us[j]? = some u):∃ z,xs[j]? = some z/\sA x u=iJ z x:=by
 have hl:=r.length
 have hj:j < us.length:=(oR.mp hu).1
 have hz:xs[j]? = some (xs[j]'(by omega)):=lO _
 obtain⟨u',e,ru⟩:=r.get hz
 rw[hu] at e;cases e
 exact⟨_,hz,DT ru ((WV.mp f) _ (Xl _))⟩
theorem Ej:qw X "list.index" (Ei X.K):=by
 intro pins s σ H x vs v us Q I rx rv h
 obtain⟨l,xs,y,j,rfl,rfl,hq,fy,fs,hj,h1,h2,q⟩:=h
 cases rx
 obtain⟨u,rfl,ru⟩:=rv.one
 obtain⟨aj,r,pl,hz⟩:=I.list hq
 obtain⟨dd,n,sl,e⟩:=IsList.parts pl.isList
 have hl:=r.length
 have line:=ou
 have at_:∀ (m:Nat) (hm:m < aj.toArray.size),∃ z,xs[m]? = some z/\sA y aj.toArray[m]=iJ z y:=fun m hm=>MT r fs (by simp[lO (show m < aj.length by simpa using hm)])
 refine ZG F.slot_list_index ⟨_,e,rfl⟩ F.entry_list_index (F.args_list_index_2 _ _) (SeqAt.list_indexAt l aj.toArray n dd sl u (sA y) j (by simp;omega) (by omega) ?_ ?_) ⟨e,fun w hw=>DU ru fy r fs w (by simpa using hw),?_⟩
 ·obtain⟨z,e1,e2⟩:=at_ j (by simp;omega)
  rw[e2];exact h1 z e1
 ·intro m hm MU
  obtain⟨z,e1,e2⟩:=at_ m hm
  rw[e2];exact h2 m z MU e1
 ·exact⟨.int _,H,I.tok _,⟨_,rfl⟩,q⟩
end
theorem Ek {K:PySem.W.Frag} {a:Addr} {xs:List V} {g:TG} {tb:TS} {D:Ends} {σ : St} {H:Hp} (Pv:Nat->St->Hp->Prop) (h0:Pv 0 σ H) (hl:∀ i σ H,i <= xs.length->Pv i σ H->a7 K H a xs)
  (hs:∀ i x T σ H,xs[i]? = some x->Pv i σ H->H T=none->g (.ref T) σ (upd H T (.tup [.int (i:Nat),x])) fun σ2 H2=>tb { D with nx:=Pv (i + 1),ct:=Pv (i + 1),bk:=D.nx } σ2 H2) (hd:∀ σ H,Pv xs.length σ H->D.nx σ H) :
  ∃ W:Nat->Nat->St->Hp->Prop,(∃ m,W 0 m σ H)/\∀ i m σ H,W i m σ H →
   ((qz K a).stop i H/\D.nx σ H)\/((qz K a).go i H/\∃ N:St->Hp->Prop,(∀ σ' H',N σ' H'->∃ m',m' < m/\W (i + 1) m' σ' H')/\∀ x H',(qz K a).qr i H x H'->g x σ H' fun σ2 H2=>tb { D with nx:=N,ct:=N,bk:=D.nx } σ2 H2):=by
 refine⟨fun i m σ H=>m=xs.length - i/\i <= xs.length/\Pv i σ H,⟨xs.length,by simp,W6 _,h0⟩,?_⟩
 rintro i m σ H ⟨rfl,hi,p⟩
 have q:=hl i σ H hi p
 by_cases bX:i < xs.length
 ·refine .inr ⟨⟨xs,xs[i],q,by simp[bX]⟩,Pv (i + 1),fun σ' H' p'=>⟨xs.length - (i + 1),by omega,rfl,bX,p'⟩,fun x H' y => ?_⟩
  obtain⟨T,v,rfl,hT,rfl,y⟩:=y
  exact hs i v T σ H (y xs q) p hT
 ·have e:i=xs.length:=by omega
  subst e
  exact .inl ⟨⟨xs,q,qx _⟩,hd σ H p⟩
section
variable {g:TG} {tf:TT} {te:TE} {l:Addr} {τ0:St} {H0:Hp} {Q:VK}
end
section
variable {X:Cx} {es:List Expr} {te:TE} {t:TA}
theorem yQ {c j p} (ha:PE X (.Constant c j p) te) (hr:PA X es t):PA X (.Constant c j p :: es) (eO te t):=oz ha hr rfl
theorem yR {x p} (ha:PE X (.Name x p) te) (hr:PA X es t):PA X (.Name x p :: es) (eO te t):=oz ha hr rfl
theorem yS {f a k p} (ha:PE X (.Call f a k p) te) (hr:PA X es t):PA X (.Call f a k p :: es) (eO te t):=oz ha hr rfl
theorem yT {a p} (ha:PE X (.List a p) te) (hr:PA X es t):PA X (.List a p :: es) (eO te t):=oz ha hr rfl
theorem yU {a k p} (ha:PE X (.Tuple a k p) te) (hr:PA X es t):PA X (.Tuple a k p :: es) (eO te t):=oz ha hr rfl
theorem yV {a k p} (ha:PE X (.Subscript a k p) te) (hr:PA X es t):PA X (.Subscript a k p :: es) (eO te t):=oz ha hr rfl
end
inductive D where
 | non | bl (b:Bool) | int (i:Int) | str (x:Str) | tup (xs:List D) | lst (xs:List D)
mutual
noncomputable def Is (H:Hp):D->V->Prop
 | .non,v=>v = .non
 | .bl b,v=>v = .bl b
 | .int i,v=>v = .int i
 | .str x,v=>v = .str x
 | .tup ds,v=>∃ a vs,v = .ref a/\H a=some (.tup vs)/\ae H ds vs
 | .lst ds,v=>∃ a vs,v = .ref a/\H a=some (.lst vs)/\ae H ds vs
noncomputable def ae (H:Hp):List D->List V->Prop
 | [],vs=>vs=[]
 | d :: ds,vs=>∃ v r,vs=v :: r/\Is H d v/\ae H ds r
end
mutual
theorem Is.same {H H':Hp} (s:aB H H'):∀ {d:D} {v:V},Is H d v->Is H' d v
 | .non,_,h=>h
 | .bl _,_,h=>h
 | .int _,_,h=>h
 | .str _,_,h=>h
 | .tup _,_,h=>by
  simp only[Is] at h ⊢
  obtain⟨a,vs,e,h1,h2⟩:=h
  exact⟨a,vs,e,s _ _ h1,ae.same s h2⟩
 | .lst _,_,h=>by
  simp only[Is] at h ⊢
  obtain⟨a,vs,e,h1,h2⟩:=h
  exact⟨a,vs,e,s _ _ h1,ae.same s h2⟩
theorem ae.same {H H':Hp} (s:aB H H'):∀ {d:List D} {v:List V},ae H d v->ae H' d v
 | [],_,h=>h
 | _ :: _,_,h=>by
  simp only[ae] at h ⊢
  obtain⟨v,r,e,h1,h2⟩:=h
  exact⟨v,r,e,Is.same s h1,ae.same s h2⟩
end
theorem ae.length {H:Hp}:∀ {ds:List D} {vs:List V},ae H ds vs->vs.length=ds.length
 | [],_,h=>by simp only[ae] at h;rw[h];rfl
 | _ :: _,_,h=>by
  simp only[ae] at h
  obtain⟨v,r,rfl,_,h2⟩:=h
  rw[D7,D7,ae.length h2]
theorem ae.get {H:Hp}:∀ {ds:List D} {vs:List V} {i:Nat} {v:V},ae H ds vs->vs[i]? = some v->∃ d,ds[i]? = some d/\Is H d v
 | [],_,i,v,h,e=>by simp only[ae] at h;rw[h] at e;simp at e
 | d :: ds,_,i,v,h,e=>by
  simp only[ae] at h
  obtain⟨v',r,rfl,h1,h2⟩:=h
  cases i with
  | zero=>simp at e;subst e;exact⟨d,rfl,h1⟩
  | succ i=>simp at e;simpa using ae.get h2 e
theorem ae.nil {H:Hp}:ae H [] []:=by simp only[ae]
theorem ae.cons {H:Hp} {d:D} {ds:List D} {v:V} {vs:List V} (h:Is H d v) (r:ae H ds vs):ae H (d :: ds) (v :: vs):=by
 simp only[ae]
 exact⟨v,vs,rfl,h,r⟩
theorem ae.snoc {H:Hp} {d:D} {v:V}:∀ {ds:List D} {vs:List V},ae H ds vs->Is H d v->ae H (ds ++ [d]) (vs ++ [v])
 | [],_,h,q=>by simp only[ae] at h;subst h;exact .cons q .nil
 | _ :: _,_,h,q=>by
  simp only[ae] at h
  obtain⟨v',r,rfl,h1,h2⟩:=h
  exact .cons h1 (ae.snoc h2 q)
mutual
noncomputable def dep:D->Nat
 | .tup ds=>bS ds + 1
 | .lst ds=>bS ds + 1
 | _=>0
noncomputable def bS:List D->Nat
 | []=>0
 | d :: ds=>max (dep d) (bS ds)
end
mutual
noncomputable def MV:D->Bool
 | .tup _=>false
 | .lst ds=>decide (ds.length <= 1000) && El ds
 | _=>true
noncomputable def El:List D->Bool
 | []=>true
 | d :: ds=>MV d && El ds
end
theorem yW:∀ {ds:List D} {i:Nat} {d:D},ds[i]? = some d->dep d <= bS ds
 | [],i,d,e=>by simp at e
 | d' :: ds,0,d,e=>by simp at e;subst e;simp only[bS];exact Nat.le_max_left _ _
 | d' :: ds,i + 1,d,e=>by simp at e;simp only[bS];exact Xg (yW e) (Nat.le_max_right _ _)
noncomputable def e_:D->String
 | .non => "NoneType" | .bl _ => "bool" | .int _ => "int" | .str _ => "str" | .tup _ => "tuple" | .lst _ => "list"
theorem Is.ty {K:PySem.W.Frag} {H:Hp}:∀ {d:D} {v:V},Is H d v->dj K H v (.type (e_ d))
 | .non,_,h=>by cases (show _=_ from h);exact .non
 | .bl b,_,h=>by cases (show _=_ from h);exact .bl b
 | .int i,_,h=>by cases (show _=_ from h);exact .int i
 | .str x,_,h=>by cases (show _=_ from h);exact .str x
 | .tup _,_,h=>by
  simp only[Is] at h
  obtain⟨a,vs,rfl,h1,_⟩:=h
  exact .tup h1
 | .lst _,_,h=>by
  simp only[Is] at h
  obtain⟨a,vs,rfl,h1,_⟩:=h
  exact .lst h1
noncomputable def c7 (T c:String):Bool:=T == c || (T == "bool" && c == "int")
section
variable {K:PySem.W.Frag}
theorem MW:∀ T∈["NoneType", "bool", "int", "str", "tuple", "list"],PySem.W.kitOne K (.type T) (.type "bool")=some (c7 T "bool"):=by
 intro T hT
 simp only[VE,W5,Zp] at hT
 rcases hT with rfl | rfl | rfl | rfl | rfl | rfl<;>kernel_rfl
theorem MX:∀ T∈["NoneType", "bool", "int", "str", "tuple", "list"],PySem.W.kitOne K (.type T) (.type "int")=some (c7 T "int"):=by
 intro T hT
 simp only[VE,W5,Zp] at hT
 rcases hT with rfl | rfl | rfl | rfl | rfl | rfl<;>kernel_rfl
theorem kit_tuple:∀ T∈["NoneType", "bool", "int", "str", "tuple", "list"],PySem.W.kitOne K (.type T) (.type "tuple")=some (c7 T "tuple"):=by
 intro T hT
 simp only[VE,W5,Zp] at hT
 rcases hT with rfl | rfl | rfl | rfl | rfl | rfl<;>kernel_rfl
theorem MY:∀ T∈["NoneType", "bool", "int", "str", "tuple", "list"],PySem.W.kitOne K (.type T) (.type "list")=some (c7 T "list"):=by
 intro T hT
 simp only[VE,W5,Zp] at hT
 rcases hT with rfl | rfl | rfl | rfl | rfl | rfl<;>kernel_rfl
theorem vw (d:D):e_ d∈["NoneType", "bool", "int", "str", "tuple", "list"]:=by cases d<;>simp[e_]
end
section
variable {X:Cx}
theorem PE.weak {e:Expr} {t t':TE} (h:PE X e t) (k:∀ σ H Q,t' σ H Q->t σ H Q):PE X e t':=fun pins s σ H Q I q=>h pins s σ H Q I (k σ H Q q)
theorem PT.weak {e:Expr} {t t':TT} (h:PT X e t) (k:∀ σ H Q,t' σ H Q->t σ H Q):PT X e t':=fun pins s σ H Q I q=>h pins s σ H Q I (k σ H Q q)
theorem PA.weak {es:List Expr} {t t':TA} (h:PA X es t) (k:∀ σ H Q,t' σ H Q->t σ H Q):PA X es t':=fun pos pins s σ H Q I q=>h pos pins s σ H Q I (k σ H Q q)
theorem PS.weak {st:Stmt} {t t':TS} (h:PS X st t) (k:∀ D σ H,t' D σ H->t D σ H):PS X st t':=fun pins s σ H D I q=>h pins s σ H D I (k D σ H q)
theorem gz.weak {st:List Stmt} {t t':TS} (h:gz X st t) (k:∀ D σ H,t' D σ H->t D σ H):gz X st t':=fun pins s σ H D I q=>h pins s σ H D I (k D σ H q)
end
section
variable {κ : Type} [DecidableEq κ]
noncomputable def bK (kvs:List (κ × V)) (k : κ):Option V:=(kvs.find? fun kv=>decide (kv.1=k)).map (·.2)
noncomputable def putK (kvs:List (κ × V)) (k : κ) (v:V):List (κ × V) :=
 if (kvs.any fun kv=>decide (kv.1=k))=true then kvs.map (fun kv=>if kv.1=k then (kv.1,v) else kv) else kvs ++ [(k,v)]
theorem sR {p : κ × V} {r:List (κ × V)} {k : κ} (e:p.1=k):bK (p :: r) k=some p.2:=by simp[bK,YD,e]
theorem sS {p : κ × V} {r:List (κ × V)} {k : κ} (e:¬ p.1=k):bK (p :: r) k=bK r k:=by simp[bK,YD,e]
theorem yX (k : κ):∀ kvs:List (κ × V),(kvs.any fun kv=>decide (kv.1=k))=(bK kvs k).isSome
 | []=>rfl
 | p :: r=>by
  rw[Yn]
  by_cases e:p.1=k
  ·simp only[sR e,Mr e,Bool.true_or,Option.isSome_some]
  ·rw[sS e,VF e,Bool.false_or];exact yX k r
theorem yY (kvs:List (κ × V)) (k : κ) (v:V):(putK kvs k v).length <= kvs.length + 1:=by
 unfold putK
 split
 ·rw[oS];omega
 ·rw[D6,D7,XF];omega
theorem MZ {kvs:List (κ × V)} {k : κ} (v:V) (h:bK kvs k=none):putK kvs k v=kvs ++ [(k,v)]:=by
 unfold putK
 rw[yX,h]
 exact VG (by decide)
theorem hW.dG {o:Option V} {u:Option Value} (r:hW o u):o.isSome=u.isSome:=by
 cases o with
 | none=>cases u with
  | none=>rfl
  | some _=>exact (show False from r).elim
 | some _=>cases u with
  | none=>exact (show False from r).elim
  | some _=>rfl
theorem KV.val {kvs:List (κ × V)} {vs:List (κ × Value)} (r:KV kvs vs) (k : κ):hW (bK kvs k) (valueAt vs k):=by
 unfold KV at r
 induction r with
 | nil=>exact True.intro
 | @cons p q ps qs h t ih =>
  obtain⟨h1,h2⟩:=h
  by_cases e:p.1=k
  ·have e':q.1=k:=h1.symm.trans e
   have b:valueAt (q :: qs) k=some q.2:=by simp[valueAt,YD,e']
   rw[sR e,b];exact h2
  ·have e':¬ q.1=k:=fun z=>e (h1.trans z)
   have b:valueAt (q :: qs) k=valueAt qs k:=by simp[valueAt,YD,e']
   rw[sS e,b];exact ih
theorem KV.any {kvs:List (κ × V)} {vs:List (κ × Value)} (r:KV kvs vs) (k : κ):(kvs.any fun kv=>decide (kv.1=k))=vs.any fun kv=>decide (kv.1=k):=by
 unfold KV at r
 induction r with
 | nil=>rfl
 | cons h t ih=>rw[Yn,Yn,ih,h.1]
theorem KV.h_ {kvs:List (κ × V)} {vs:List (κ × Value)} (r:KV kvs vs) (k : κ) {y:V} {u:Value} (ry:RelV y u) :
  KV (kvs.map fun kv=>if kv.1=k then (kv.1,y) else kv) (vs.map fun kv=>if kv.1=k then (kv.1,u) else kv):=by
 unfold KV at r ⊢
 induction r with
 | nil=>exact .nil
 | @cons p q ps qs h t ih =>
  rw[Wr,Wr]
  refine .cons ?_ ih
  obtain⟨h1,h2⟩:=h
  by_cases e:p.1=k
  ·rw[We e,We (h1.symm.trans e)];exact⟨h1,ry⟩
  ·rw[VG e,VG (fun z=>e (h1.trans z))];exact⟨h1,h2⟩
theorem KV.put {kvs:List (κ × V)} {vs:List (κ × Value)} (r:KV kvs vs) (k : κ) {y:V} {u:Value} (ry:RelV y u):KV (putK kvs k y) (stored vs k u):=by
 unfold putK stored
 rw[r.any k]
 by_cases e:(vs.any fun kv=>decide (kv.1=k))=true
 ·rw[We e,We e];exact r.h_ k ry
 ·rw[VG e,VG e];exact Paired.snoc r ⟨rfl,ry⟩
theorem KV.length {kvs:List (κ × V)} {vs:List (κ × Value)} (r:KV kvs vs):kvs.length=vs.length:=Paired.length r
end
theorem vx {P:Program} {w:World} {k:Key} {u:Value} (r:RelV (kV k) u):(gw P w).is k u=true:=by
 cases k with
 | inl i=>obtain⟨t,e⟩:=(show ∃ t,u=Value.int i t from r);subst e;exact Ki P w i t
 | inr x=>obtain⟨t,e⟩:=(show ∃ t,u=Value.str x t from r);subst e;exact Kj P w x t
theorem Em {P:Program} {w:World}:∀ {ks:List Key} {us:List Value},Vals (ks.map kV) us->ItemsAre (gw P w) ks us
 | [],_,r=>by rw[Yj] at r;cases r;exact .nil
 | k :: ks,_,r=>by
  rw[Wr] at r
  cases r with
  | cons h t=>exact .cons (vx h) (Em t)
noncomputable abbrev KT (H:Hp):List (List Key × V)->List (List Key × Addr × Value)->Prop:=Paired fun p q=>p.1=q.1/\H q.2.1=some (.tup (p.1.map kV))/\RelV p.2 q.2.2
theorem KT.val {H:Hp} {kvs:List (List Key × V)} {xs:List (List Key × Addr × Value)} (r:KT H kvs xs) (k:List Key):hW (bK kvs k) ((atKey xs k).map (·.2)):=by
 induction r with
 | nil=>exact True.intro
 | @cons p q ps qs h t ih =>
  obtain⟨h1,_,h2⟩:=h
  by_cases e:p.1=k
  ·have e':q.1=k:=h1.symm.trans e
   have b:atKey (q :: qs) k=some q.2:=by simp[atKey,YD,e']
   rw[sR e,b];exact h2
  ·have e':¬ q.1=k:=fun z=>e (h1.trans z)
   have b:atKey (q :: qs) k=atKey qs k:=by simp[atKey,YD,e']
   rw[sS e,b];exact ih
theorem KT.h_ {H:Hp} {kvs:List (List Key × V)} {xs:List (List Key × Addr × Value)} (r:KT H kvs xs) (k:List Key) {y:V} {u:Value} (ry:RelV y u) :
  KT H (kvs.map fun kv=>if kv.1=k then (kv.1,y) else kv) (xs.map (putAt k u)):=by
 induction r with
 | nil=>exact .nil
 | @cons p q ps qs h t ih =>
  rw[Wr,Wr]
  refine .cons ?_ ih
  obtain⟨h1,h2,h3⟩:=h
  unfold putAt
  by_cases e:p.1=k
  ·rw[We e,We (h1.symm.trans e)];exact⟨h1,h2,ry⟩
  ·rw[VG e,VG (fun z=>e (h1.trans z))];exact⟨h1,h2,h3⟩
theorem KT.put {H:Hp} {kvs:List (List Key × V)} {xs:List (List Key × Addr × Value)} (r:KT H kvs xs) (k:List Key) {b:Addr} {y:V} {u:Value} (hb:H b=some (.tup (k.map kV))) (ry:RelV y u) :
  KT H (putK kvs k y) (storedH xs k b u):=by
 have e:(kvs.any fun kv=>decide (kv.1=k))=(atKey xs k).isSome:=by
  rw[yX,(r.val k).dG,Option.isSome_map]
 unfold putK storedH
 rw[e]
 by_cases q:(atKey xs k).isSome=true
 ·rw[We q,We q];exact r.h_ k ry
 ·rw[VG q,VG q];exact Paired.snoc r ⟨rfl,hb,ry⟩
theorem KT.keeps {H H':Hp} {kvs:List (List Key × V)} {xs:List (List Key × Addr × Value)} (r:KT H kvs xs) (ht:∀ b ys,H b=some (.tup ys)->H' b=some (.tup ys)):KT H' kvs xs :=
 Paired.nX r fun _ _ z=>⟨z.1,ht _ _ z.2.1,z.2.2⟩
section
variable {P:Program} {w:World} {H:Hp} {h:Heap} {a:Addr}
theorem En {u:HO} (ok:df P w H h) (e:Rd H a u):aI P w H h a u:=e.ok ok
theorem Eo {kvs:List (Key × V)} (ok:df P w H h) (e:Rd H a (.dK kvs)):kvs.length <= sizeLine/\(a == sysModules)=false/\∃ vs,KV kvs vs/\h.DictOf (gw P w) a vs :=
 show aI P w H h a (.dK kvs) from En ok e
theorem vy {kvs:List (Key × V)} (ok:df P w H h) (e:H a=some (.dK kvs)):kvs.length <= sizeLine/\(a == sysModules)=false/\∃ vs,KV kvs vs/\h.DictOf (gw P w) a vs:=Eo ok (.inl e)
theorem yZ {ks:List Key} (ok:df P w H h) (e:H a=some (.tup (ks.map kV))):(tupleKind (gw P w)).is h ks a:=by
 obtain⟨_,aj,r,o,h1,h2,n,h3⟩:=(show aI P w H h a (.tup (ks.map kV)) from ok a _ e)
 exact⟨o,aj.toArray,n,h1,h2,h3,by simpa using Em r⟩
theorem Ep {kvs:List (List Key × V)} (ok:df P w H h) (e:Rd H a (.dT kvs)):kvs.length <= sizeLine/\(a == sysModules)=false ∧
  ∃ xs,KT H kvs xs/\h.DictOfH (tupleKind (gw P w)) a xs:=by
 obtain⟨z,y,xs,r,o,es,ep,h1,h2,h3,h4,h5⟩:=(show aI P w H h a (.dT kvs) from En ok e)
 refine⟨z,y,xs,r,o,es,ep,h1,h2,h3,h4,fun x hx => ?_,h5⟩
 have all:∀ {l:List (List Key × V)} {m:List (List Key × Addr × Value)},KT H l m->∀ x∈m,(tupleKind (gw P w)).is h x.1 x.2.1:=by
  intro l m q
  induction q with
  | nil=>intro x hx;exact nomatch hx
  | @cons p q ps qs hq t ih =>
   intro x hx
   rcases VE.mp hx with e | hx
   ·subst e
    exact yZ ok (by rw[<-hq.1];exact hq.2.1)
   ·exact ih x hx
 exact all r x hx
theorem M0 {kvs:List (List Key × V)} (ok:df P w H h) (e:H a=some (.dT kvs)):kvs.length <= sizeLine/\(a == sysModules)=false ∧
  ∃ xs,KT H kvs xs/\h.DictOfH (tupleKind (gw P w)) a xs:=Ep ok (.inl e)
end
noncomputable def i9 (H:Hp) (a:Addr) (y:V) (r:Option V):Prop :=
 (∃ kvs k,Rd H a (.dK kvs)/\y=kV k/\r=bK kvs k)\/∃ kvs k b,Rd H a (.dT kvs)/\y = .ref b/\H b=some (.tup (k.map kV))/\r=bK kvs k
noncomputable def jV (H:Hp) (a:Addr) (y v:V) (H':Hp):Prop :=
 (∃ kvs k,H a=some (.dK kvs)/\y=kV k/\kvs.length < sizeLine/\H'=upd H a (.dK (putK kvs k v))) ∨
 ∃ kvs k b,H a=some (.dT kvs)/\y = .ref b/\H b=some (.tup (k.map kV))/\kvs.length < sizeLine/\H'=upd H a (.dT (putK kvs k v))
theorem i9.k {H:Hp} {a:Addr} {kvs:List (Key × V)} {k:Key} (e:H a=some (.dK kvs)):i9 H a (kV k) (bK kvs k) := .inl ⟨kvs,k,.inl e,rfl,rfl⟩
theorem jV.k {H:Hp} {a:Addr} {kvs:List (Key × V)} {k:Key} {v:V} (e:H a=some (.dK kvs)) (hl:kvs.length < sizeLine):jV H a (kV k) v (upd H a (.dK (putK kvs k v))) := .inl ⟨kvs,k,e,rfl,hl,rfl⟩
section
variable {X:Cx} {pins:List (Addr × Obj)} {σ : St} {H:Hp} {s:Shared} {a:Addr} {y v:V} {u r:Value} {o:Option V} {A:Around} {E:Value->Shared->Prop}
theorem Inv.big (I:Inv X pins σ H s):sysModules < s.heap.objs.size:=by
 have h:mainGlobals < s.heap.objs.size:=(I.mod.glob.keeps I.bk).lt
 exact Zx (by decide) h
theorem y0 {Q:Value->Shared->Prop} (hu:A.units + 1 < cLine) (I:Inv X pins σ H s) (g:i9 H a y o) (ry:RelV y u) (h:∀ s',Inv X pins σ H s'->Q (.bool o.isSome) s') :
  wpAny (model X.prog X.w) A (compareOp .In u (.ref a)) Q E s:=by
 rcases g with⟨kvs,k,e,ey,l⟩ | ⟨kvs,k,b,e,ey,eb,l⟩
 ·subst ey
  obtain⟨z,hd,vs,rel,dd⟩:=Eo I.aJ e
  refine wpAny_in_of (vx ry) hd dd.mapOf ?_
  rw[<-(rel.val k).dG,<-l]
  exact h _ (I.tok _)
 ·subst ey
  cases (show u=Value.ref b from ry)
  obtain⟨z,hd,xs,rel,dd⟩:=Ep I.aJ e
  refine wpAny_in_heap (tupleKind_room_in1 hu) (yZ I.aJ eb) hd dd ?_
  have q:=(rel.val k).dG
  rw[Option.isSome_map] at q
  rw[<-q,<-l]
  exact h _ (I.tok _)
theorem y3 {h':Heap} {t':Nat} {ob:HO} (I:Inv X pins σ H s) (mu:rR (H a)) (hs:Heap.SameBut a s.heap h') (he:∃ q,h'.get? a=some q) (new:aI X.prog X.w (upd H a ob) h' a ob) :
  Inv X pins σ (upd H a ob) { s with heap:=h',toks:=t' } :=
 I.write (x:=a) (e:=a) mu (.inl rfl) (fun b q hb z=>(hs.2 b hb).trans z) he new
theorem Er {P:Program} {w:World} {H':Hp} {h':Heap} {kvs:List (Key × V)} {vs:List (Key × Value)} (z:kvs.length <= sizeLine) (hd:(a == sysModules)=false) (rel:KV kvs vs) (dd:h'.DictOf (gw P w) a vs) :
  aI P w H' h' a (.dK kvs):=⟨z,hd,vs,rel,dd⟩
theorem M1 {H':Hp} {Q:Unit->Shared->Prop} (hu:A.units + 1 < cLine) (I:Inv X pins σ H s) (g:jV H a y v H') (ry:RelV y u) (rv:RelV v r) (h:∀ s',Inv X pins σ H' s'->Q () s') :
  wpAny (model X.prog X.w) A (setItem (.ref a) u r) Q E s:=by
 rcases g with⟨kvs,k,e,ey,l,eH⟩ | ⟨kvs,k,b,e,ey,eb,l,eH⟩
 ·subst ey eH
  obtain⟨z,hd,vs,rel,dd⟩:=vy I.aJ e
  have hz:vs.length <= sizeLine:=by rw[<-rel.length];exact z
  have hl:(putK kvs k v).length <= sizeLine:=by have:=yY kvs k v;omega
  refine wpAny_setItem_pairs (hsz:=hz) (vx ry) dd fun h' oU hs=>h _ ?_
  have he:∃ q,h'.get? a=some q:=let ⟨q,_,_,hq,_⟩:=oU; ⟨q,hq⟩
  exact y3 I (by rw[e];exact True.intro) hs he (Er hl hd (rel.put k rv) oU)
 ·subst ey eH
  cases (show u=Value.ref b from ry)
  obtain⟨z,hd,xs,rel,dd⟩:=M0 I.aJ e
  have hz:xs.length <= sizeLine:=by rw[<-Paired.length rel];exact z
  have hl:(putK kvs k v).length <= sizeLine:=by have:=yY kvs k v;omega
  refine wpAny_setItem_heap (hsz:=hz) (tupleKind_room_in1 hu) (yZ I.aJ eb) dd fun h' oU hs=>h _ ?_
  obtain⟨q,es,ep,hq,h2,h3,h4,_,h5⟩:=oU
  refine y3 I (by rw[e];exact True.intro) hs ⟨q,hq⟩ ⟨hl,hd,_,(rel.put k eb rv).keeps fun c ys ec => ?_,q,es,ep,hq,h2,h3,h4,h5⟩
  rw[aM (Kk ec e (fun z=>nomatch z))]
  exact ec
end
section
variable {X:Cx} {pins:List (Addr × Obj)} {σ : St} {H:Hp} {s:Shared} {a:Addr} {kvs:List (Key × V)} {k:Key} {u:Value} {A:Around} {E:Value->Shared->Prop}
end
noncomputable def oV (ty td:TE):TE:=fun σ H Q=>ty σ H fun y H1=>td σ H1 fun x H2=>∃ a o,x = .ref a/\i9 H2 a y o/\Q (.bl o.isSome) H2
noncomputable def Es (td ty tv:TE):TS:=fun D σ H=>tv σ H fun v H1=>td σ H1 fun x H2=>ty σ H2 fun y H3=>∃ a H4,x = .ref a/\jV H3 a y v H4/\D.nx σ H4
section
variable {X:Cx} {o i e value:Expr} {pos pos' ye:Pos} {td ty tv:TE}
theorem M3 (hu:X.A.units + 1 < cLine) (hi:PE X i ty) (ho:PE X o td):PC X .In i o (oV ty td):=by
 intro pins s σ H Q I h
 refine a6 (hi pins s σ H _ I h) fun iv s1 h0_ => el5 h0_ fun y H1 I1 ry q1 =>a6 (ho pins s1 σ H1 _ I1 q1) fun u s2 ⟨x,H2,I2,rx,a,ov,ex,g,q2⟩ => ?_
 subst ex
 obtain rfl:u=Value.ref a:=rx
 exact y0 hu I2 g ry fun s3 I3=>⟨.bl ov.isSome,H2,I3,rfl,q2⟩
theorem M4 (hu:X.A.units + 1 < cLine) (ho:PE X o td) (hi:PE X i ty) (hv:PE X value tv) (hs:swapsWith value (some (.Subscript o i pos')) pos.line X.env=pure false) :
  PS X (.Assign [.Subscript o i pos'] value pos) (Es td ty tv):=by
 intro pins s σ H D I h
 refine wpAny_Assign_Subscript (a6 (hv pins s σ H _ I h) fun r s1 h0_ => el5 h0_ fun v H1 I1 rv q1 =>a6 (ho pins s1 σ H1 _ I1 q1) fun u s2 h0_ => el5 h0_ fun x H2 I2 rx q2 =>a6 (hi pins s2 σ H2 _ I2 q2) fun iv s3 ⟨y,H3,I3,ry,a,H4,ex,g,q3⟩ => ?_) hs
 subst ex
 obtain rfl:u=Value.ref a:=rx
 exact M1 hu I3 g ry rv fun s4 I4=>⟨σ,H4,I4,q3⟩
end
theorem M5 {P:Program} {w:World} {H:Hp} (h:Heap) (hb:sysModules < h.objs.size):aI P w H (h.push { cls := .type "dict",data := .dict #[] }) h.objs.size (.dK []) :=
 ⟨W6 _,beq_eq_false_iff_ne.mpr (Yi (Wi hb)),[],.nil,Heap.DictOf.new h⟩
noncomputable def y4:TE:=fun _ H Q=>∀ p,H p=none->Q (.ref p) (upd H p (.dK []))
section
variable {X:Cx} {pos:Pos}
theorem M6:PE X (.Dict [] [] pos) y4:=fun pins s σ H Q I h =>
 wpAny_Dict_empty ⟨.ref s.heap.objs.size,_,I.laid (a:=s.heap.objs.size) (o := .dK []) (t':=s.toks) (fun _ _ q=>sC _ q) (qx _) (M5 s.heap I.big),rfl,h _ (I.aJ.fresh (qx _))⟩
end
section
variable {X:Cx} {pins:List (Addr × Obj)} {σ : St} {H:Hp} {s:Shared} {a:Addr} {y d:V} {u r:Value} {o:Option V} {A:Around} {E:Value->Shared->Prop}
end
section
variable {X:Cx} {o e f:Expr} {apos bY:Pos} {td ty tx:TE}
end
section
variable {X:Cx} {pins:List (Addr × Obj)} {σ : St} {H:Hp} {s:Shared} {a:Addr} {kvs:List (Key × V)} {A:Around} {E:Value->Shared->Prop}
end
section
variable {X:Cx} {pins:List (Addr × Obj)} {σ : St} {H:Hp} {s:Shared} {a:Addr} {y:V} {u:Value} {A:Around} {E:Value->Shared->Prop}
end
end L2
namespace L2
section
variable {κ : Type} [DecidableEq κ]
end
end L2
namespace L2
open PySem PySem.Spec PyProof.Rows
structure JE (X:Cx) (e:Expr) (t:TE):Prop where
 out:PE X e t
structure JT (X:Cx) (e:Expr) (t:TT):Prop where
 out:PT X e t
structure JW (X:Cx) (e:Expr) (t:TT):Prop where
 out:PW X e t
structure JA (X:Cx) (es:List Expr) (t:TA):Prop where
 out:PA X es t
structure JS (X:Cx) (st:Stmt) (t:TS):Prop where
 out:PS X st t
structure eC (X:Cx) (st:List Stmt) (t:TS):Prop where
 out:gz X st t
structure JF (X:Cx) (ifs:List Expr) (t:TT):Prop where
 out:PF X ifs t
structure JG (X:Cx) (tg:Expr) (t:TG):Prop where
 out:PG X tg t
structure jE (X:Cx) (ts:List Expr) (t:iF):Prop where
 out:rY X ts t
structure JI (X:Cx) (tg iter:Expr) (wi:TI):Prop where
 out:PI X tg iter wi
structure JC (X:Cx) (op:CmpOp) (a b:Expr) (t:TE):Prop where
 out:PC X op a b t
theorem JE.weak {X:Cx} {e:Expr} {t t':TE} (h:JE X e t) (k:∀ σ H Q,t' σ H Q->t σ H Q):JE X e t':=⟨PE.weak h.out k⟩
theorem JT.weak {X:Cx} {e:Expr} {t t':TT} (h:JT X e t) (k:∀ σ H Q,t' σ H Q->t σ H Q):JT X e t':=⟨PT.weak h.out k⟩
theorem JA.weak {X:Cx} {es:List Expr} {t t':TA} (h:JA X es t) (k:∀ σ H Q,t' σ H Q->t σ H Q):JA X es t':=⟨PA.weak h.out k⟩
theorem JS.weak {X:Cx} {st:Stmt} {t t':TS} (h:JS X st t) (k:∀ D σ H,t' D σ H->t D σ H):JS X st t':=⟨PS.weak h.out k⟩
theorem eC.weak {X:Cx} {st:List Stmt} {t t':TS} (h:eC X st t) (k:∀ D σ H,t' D σ H->t D σ H):eC X st t':=⟨gz.weak h.out k⟩
theorem JW.jt {X:Cx} {e:Expr} {t:TT} (h:JW X e t):JT X e t:=⟨PW.pt h.out⟩
theorem M7 {X:Cx} {i:Nat} {x:Str} {pos:Pos} (hN:X.N[i]? = some x) (hv:nZ X.env.scope x) (hd:(x == ("__debug__" : Str))=false:=by decide) (d7:(x == ("__classdict__" : Str))=false:=by decide):JE X (.Name x pos) (eY i):=⟨L2.Dc hN hv hd d7⟩
theorem cG {X:Cx} {i j pos}:JE X (.Constant (.int i) j pos) (tC (.int i)):=⟨L2.Kq⟩
theorem M8 {X:Cx} {b j pos}:JE X (.Constant (.bool b) j pos) (tC (.bl b)):=⟨L2.Kr⟩
theorem M9 {X:Cx} {j pos}:JE X (.Constant .none j pos) (tC .non):=⟨L2.Ks⟩
theorem M_ {X:Cx} {x:Str} {v:V} {u:Value} {pos:Pos} (hg:Gl X x) (hm:X.mg x=some u) (r:RelV v u) (hd:(x == ("__debug__" : Str))=false:=by decide):JE X (.Name x pos) (tC v):=⟨L2.Kt hg hm r hd⟩
theorem Na {X:Cx} {x:Str} {v:V} {u:Value} {pos:Pos} (hg:Gl X x) (hm:X.mg x=none) (hv:bootBuiltins x=some u) (r:RelV v u) (hn:x ≠ "__name__" := by decide) (hd:(x == ("__debug__" : Str))=false:=by decide):JE X (.Name x pos) (tC v):=⟨L2.Ku hg hm hv r hn hd⟩
theorem Nc {X:Cx} {a b:Expr} {pos:Pos} {op:CmpOp} {t:TE} (h:JC X op a b t) (h1:behindInMarks op b=false:=by first | exact Kw _ (by decide) (by decide) | rfl):JT X (.Compare a [op] [b] pos) (tB t):=⟨L2.Kv h.out h1⟩
theorem Nd {X:Cx} {e:Expr} {t:TE} (h:JE X e t) (he:∀ whole,isTrue e X.env whole=(do let v <- whole;standAt e.pos;holding [v] (truthy v)):=by intro _;rfl):JT X e (tB t):=⟨L2.Kx h.out he⟩
theorem Nf {X:Cx} {a:Expr} {pos:Pos} {tA:TT} (ha:JT X a tA):JW X (.BoolOp .And [a] pos) tA:=⟨L2.Ky ha.out⟩
theorem Ng {X:Cx} {a:Expr} {pos:Pos} {tA:TT} (ha:JT X a tA):JW X (.BoolOp .Or [a] pos) tA:=⟨L2.Kz ha.out⟩
theorem Nh {X:Cx} {a b:Expr} {pos:Pos} {tA kN:TT} {rest:List Expr} (ha:JT X a tA) (hb:JW X (.BoolOp .And (b :: rest) pos) kN):JW X (.BoolOp .And (a :: b :: rest) pos) (n8 tA kN):=⟨L2.KC ha.out hb.out⟩
theorem Ni {X:Cx} {a b:Expr} {pos:Pos} {tA kN:TT} {rest:List Expr} (ha:JT X a tA) (hb:JW X (.BoolOp .Or (b :: rest) pos) kN):JW X (.BoolOp .Or (a :: b :: rest) pos) (xZ tA kN):=⟨L2.KD ha.out hb.out⟩
theorem Nj {X:Cx} {a:Expr} {pos:Pos} {tA:TT} (ha:JT X a tA):JT X (.UnaryOp .Not a pos) (rW tA):=⟨L2.KG ha.out⟩
theorem Nk {X:Cx} {a:Expr} {pos:Pos} {op} {t:TE} (h:JE X a t):JE X (.BoolOp op [a] pos) t:=⟨L2.KH h.out⟩
theorem Nl {X:Cx} {a b:Expr} {ta tb:TE} {pos:Pos} {rest:List Expr} (ha:JE X a ta) (hb:JE X (.BoolOp .And (b :: rest) pos) tb):JE X (.BoolOp .And (a :: b :: rest) pos) (Df ta tb):=⟨L2.KI ha.out hb.out⟩
theorem Nm {X:Cx} {a:Expr} {ta:TE} {pos:Pos} (ha:JE X a ta):JE X (.UnaryOp .Not a pos) (Dg ta):=⟨L2.KJ ha.out⟩
theorem Nn {X:Cx} {a b:Expr} {ta tb:TE} {pos:Pos} {tA:TT} {c:Expr} (hc:JT X c tA) (ha:JE X a ta) (hb:JE X b tb):JE X (.IfExp c a b pos) (Dh tA ta tb):=⟨L2.KN hc.out ha.out hb.out⟩
theorem lQ {X:Cx}  : eC X [] Di:=⟨L2.KO⟩
theorem oW {X:Cx} {st:Stmt} {rest:List Stmt} {t u:TS} (h1:JS X st t) (h2:eC X rest u):eC X (st :: rest) (jN t u):=⟨L2.KP h1.out h2.out⟩
theorem sT {X:Cx} {st:Stmt} {t:TS} (h1:JS X st t):eC X [st] t:=⟨L2.KQ h1.out⟩
theorem Et {X:Cx} {e:Expr} {te:TE} {pos:Pos} (he:JE X e te) (hs:swapsWith e none pos.line X.env=pure false:=by rfl):JS X (.Expr e pos) (x5 te):=⟨L2.KR he.out hs⟩
theorem y6 {X:Cx} {e:Expr} {te:TE} {pos:Pos} (he:JE X e te):JS X (.Return (some e) pos) (n9 te):=⟨L2.KU he.out⟩
theorem Np {X:Cx} {t u:TS} {pos:Pos} {c:Expr} {a b:List Stmt} {tc:TT} (hc:JT X c tc) (ha:eC X a t) (hb:eC X b u):JS X (.If c a b pos) (rX tc t u):=⟨L2.KW hc.out ha.out hb.out⟩
theorem sU {X:Cx} {pos:Pos} {i:Nat} {x:Str} (hN:X.N.Nodup) (hi:X.N[i]? = some x) (hx:Loc X.env.scope x) (hf:X.fn x=true\/X.env.scope.names.lookup x=some .local:=by first | exact .inl rfl | exact .inr rfl | assumption):JG X (.Name x pos) (kO i):=⟨L2.KY hN hi hx hf⟩
theorem fX {X:Cx}  : jE X [] oa:=⟨L2.KZ⟩
theorem sV {X:Cx} {e:Expr} {es:List Expr} {t:TG} {u:iF} (h1:JG X e t) (h2:jE X es u) (hs:(assignEach (e :: es) X.env).map (·.2)=assign e X.env :: (assignEach es X.env).map (·.2):=by rfl):jE X (e :: es) (vg t u):=⟨L2.K1 h1.out h2.out hs⟩
theorem y7 {X:Cx} {pos:Pos} {es:List Expr} {k:Nat} {t:iF} {n:Nat} (hc:X.calm=true) (h:jE X es t) (hn:(assignEach es X.env).length=n:=by rfl) (jO:(assignEach es X.env).findIdx? (·.1)=none:=by rfl):JG X (.Tuple es k pos) (oe X.K n t):=⟨L2.K4 hc h.out hn jO⟩
theorem sW {X:Cx} {pos:Pos} {o i:Expr} {to ti:TE} {t:lC} (ho:JE X o to) (hi:JE X i ti) (hs:n_ X t) (ha:∀ v,assign (.Subscript o i pos) X.env v=(do
   let ov <- holding [v] (eval o X.env)
   let iv <- holding [v,ov] (eval i X.env)
   standAt pos
   holding [v,ov,iv] (setItem ov iv v)
   release [v,ov,iv] []):=by intro _;rfl):JG X (.Subscript o i pos) (oh to ti t):=⟨L2.K5 ho.out hi.out hs ha⟩
theorem qA {X:Cx} {pos:Pos} {tg e:Expr} {te:TE} {g:TG} (he:JE X e te) (hg:JG X tg g) (hs:swapsWithSole [tg] e pos.line X.env=pure false:=by rfl) (hw:swappedStores [tg] e X.env=pure none:=by rfl) (h1:(assignEach [tg] X.env).map (·.2)=[assign tg X.env]:=by rfl):JS X (.Assign [tg] e pos) (fR te g):=⟨L2.K6 he.out hg.out hs hw h1⟩
theorem vz {X:Cx} {pos:Pos} {i:Nat} {x:Str} {e:Expr} {te:TE} {pos':Pos} (hN:X.N.Nodup) (hi:X.N[i]? = some x) (hx:Loc X.env.scope x) (he:JE X e te) (hs:swapsWith e (some (.Name x pos')) pos.line X.env=pure false:=by rfl) (hf:X.fn x=true\/X.env.scope.names.lookup x=some .local:=by first | exact .inl rfl | exact .inr rfl | assumption):JS X (.Assign [.Name x pos'] e pos) (fR te (kO i)):=⟨L2.K7 hN hi hx he.out hs hf⟩
theorem Nq {X:Cx} {tg:Expr} {a:Expr} {ta:TA} {p pos:Pos} (hg:Gl X "range") (hm:X.mg "range" = none) (ha:JA X [a] ta) (hs:starEach [a] X.env=[(false,eval a X.env)]:=by rfl):JI X tg (.Call (.Name "range" p) [a] [] pos) (Dq ta):=⟨L2.La hg hm ha.out hs⟩
theorem Nr {X:Cx} {tg:Expr} {a b:Expr} {ta:TA} {p pos:Pos} (hg:Gl X "range") (hm:X.mg "range" = none) (ha:JA X [a,b] ta) (hs:starEach [a,b] X.env=[(false,eval a X.env),(false,eval b X.env)]:=by rfl) (iH:starEach [b] X.env=[(false,eval b X.env)]:=by rfl):JI X tg (.Call (.Name "range" p) [a,b] [] pos) (Dr ta):=⟨L2.Lb hg hm ha.out hs iH⟩
theorem y8 {X:Cx} {tg:Expr} {iter:Expr} {body:List Stmt} {wi:TI} {g:TG} {tb:TS} {pos:Pos} (hp:PassesOwn (model X.prog X.w) X.A X.env X.xe) (hc:X.calm=true) (hi:JI X tg iter wi) (hg:JG X tg g) (hb:eC X body tb) (hs:∀ x,foldedSetIterable iter X.env x=pure x:=by intro _;rfl):JS X (.For tg iter body [] pos) (oj wi g tb):=⟨L2.Ld hp hc hi.out hg.out hb.out hs⟩
theorem sX {X:Cx} {a b:Expr} {ta tb:TE} {pos:Pos} {op:Operator} {r:R2} (ho:cA X (binaryOp op) r) (ha:JE X a ta) (hb:JE X b tb):JE X (.BinOp a op b pos) (lD r ta tb):=⟨L2.Le ho ha.out hb.out⟩
theorem Nt {X:Cx} {a b:Expr} {ta tb:TE} {pos:Pos} {op:CmpOp} {r:R2} (ho:cA X (compareOp op) r) (ha:JE X a ta) (hb:JE X b tb) (hm:behindInMarks op b=false):JE X (.Compare a [op] [b] pos) (lD r ta tb):=⟨L2.Lp ho ha.out hb.out hm⟩
theorem Nu {X:Cx} {a b:Expr} {ta tb:TE} {pos:Pos} {op:CmpOp} {r:R2} (ho:cA X (compareOp op) r) (ha:JE X a ta) (hb:JE X b tb) (hm:behindInMarks op b=false):JT X (.Compare a [op] [b] pos) (Du (lD r ta tb)):=⟨L2.Lq ho ha.out hb.out hm⟩
theorem Nv {X:Cx} {a b c:Expr} {ta tb tc:TE} {pos:Pos} {op jQ:CmpOp} {r r':R2} (ho:cA X (compareOp op) r) (iW:cA X (compareOp jQ) r') (ha:JE X a ta) (hb:JE X b tb) (hc:JE X c tc) (hm:lastMarks [op,jQ] [b,c]=false:=by with_unfolding_all rfl):JE X (.Compare a [op,jQ] [b,c] pos) (Dv r r' ta tb tc):=⟨L2.Lr ho iW ha.out hb.out hc.out hm⟩
theorem bo {X:Cx}  : JA X [] gB:=⟨L2.LA⟩
theorem oX {X:Cx} {e:Expr} {es:List Expr} {te:TE} {t:TA} (ha:JE X e te) (hr:JA X es t) (hs:starEach (e :: es) X.env=(false,eval e X.env) :: starEach es X.env:=by rfl):JA X (e :: es) (eO te t):=⟨L2.oz ha.out hr.out hs⟩
theorem Nx {X:Cx} {es:List Expr} {t:TA} {pos:Pos} {x1} (h:JA X es t):JE X (.Tuple es x1 pos) (si t):=⟨L2.LB h.out⟩
theorem vA {X:Cx} {es:List Expr} {t:TA} {pos:Pos} (h:JA X es t):JE X (.List es pos) (oA t):=⟨L2.LC h.out⟩
theorem vB {X:Cx} {CX:iX} {k:Nat} {f:Addr} {fd:FuncData} {ps:List Str} {sp:Sp} {jR:List V} {ds:List Value} {E:XK} {x:Str} {p pos:Pos} {e:Expr} {es:List Expr} {t:TA} (F:cE X.prog X.w X.K X.mg X.base CX k f fd ps sp) (hr:aY k X.A) (hg:Gl X x) (hm:X.mg x=some (.ref f)) (hk:PySem.W.keepIn X.K (.ref f)=true) (hb:Binds X.K fd ps ds) (hd:Vals jR ds) (hx:vj CX X E) (ha:JA X (e :: es) t) (dS:(x == ("__debug__" : Str))=false:=by decide) (he:starEach (e :: es) X.env=(false,eval e X.env) :: starEach es X.env:=by rfl) (dM:(backTo pos (starEach es X.env)).any (·.1)=false:=by rfl):JE X (.Call (.Name x p) (e :: es) [] pos) (sk sp jR E t):=⟨L2.LG F hr hg hm hk hb hd hx ha.out dS he dM⟩
theorem vC {X:Cx} {x:Str} {p pos:Pos} {e:Expr} {es:List Expr} {t:TA} {id:String} {r:List V->Hp->VK->Prop} (hc:eN X (.builtin id) r) (hg:Gl X x) (hm:X.mg x=none) (hv:bootBuiltins x=some (.builtin id)) (ha:JA X (e :: es) t) (hn:x ≠ "__name__" := by decide) (dS:(x == ("__debug__" : Str))=false:=by decide) (he:starEach (e :: es) X.env=(false,eval e X.env) :: starEach es X.env:=by rfl) (dM:(backTo pos (starEach es X.env)).any (·.1)=false:=by rfl):JE X (.Call (.Name x p) (e :: es) [] pos) (oC r t):=⟨L2.LI hc hg hm hv ha.out hn dS he dM⟩
theorem lR {X:Cx} {x:Str} {p pos:Pos} {e:Expr} {es:List Expr} {t:TA} {T:String} {r:List V->Hp->VK->Prop} (hc:eN X (.type T) r) (hg:Gl X x) (hm:X.mg x=none) (hv:bootBuiltins x=some (.type T)) (ha:JA X (e :: es) t) (hn:x ≠ "__name__" := by decide) (dS:(x == ("__debug__" : Str))=false:=by decide) (he:starEach (e :: es) X.env=(false,eval e X.env) :: starEach es X.env:=by rfl) (dM:(backTo pos (starEach es X.env)).any (·.1)=false:=by rfl):JE X (.Call (.Name x p) (e :: es) [] pos) (oC r t):=⟨L2.LL hc hg hm hv ha.out hn dS he dM⟩
theorem y9 {X:Cx} {e:Expr} {te:TE} {lo hi:Option Expr} {tl th:TO} {pos p2:Pos} {r:V->Option Int->Option Int->Hp->VK->Prop} (hr:lK X r) (he:JE X e te) (hl:PO X lo tl) (hu:PO X hi th):JE X (.Subscript e (.Slice lo hi none p2) pos) (DN r te tl th):=⟨L2.L1 hr he.out hl hu⟩
theorem Eu {X:Cx} {a b:Expr} {ta tb:TE} {pos:Pos} {r:R2} (hr:qv X r) (ha:JE X a ta) (hb:JE X b tb) (hs:yp b):JE X (.Subscript a b pos) (lD r ta tb):=⟨L2.L_ hr ha.out hb.out hs⟩
theorem Ny {X:Cx} {o:Expr} {to:TE} {name:Str} {apos bY:Pos} {T id:String} {r:V->List V->Hp->VK->Prop} (pa:PlainAttrs T) (slot:Slot T name id) (oM:typeOf (.builtin id)=pure (.type "method_descriptor")) (hm:sx X id r) (ho:JE X o to) (eA:attributeBase o name X.env (eval o X.env)=eval o X.env:=by rfl) (eB:(apos.endLine == bY.line)=true:=by rfl):JE X (.Call (.Attribute o name apos) [] [] bY) (oK X.K T r to):=⟨L2.Mh pa slot oM hm ho.out eA eB⟩
theorem lS {X:Cx} {o e:Expr} {es:List Expr} {to:TE} {t:TA} {name:Str} {apos bY:Pos} {T id:String} {r:V->List V->Hp->VK->Prop} (pa:PlainAttrs T) (slot:Slot T name id) (oM:typeOf (.builtin id)=pure (.type "method_descriptor")) (hm:sx X id r) (ho:JE X o to) (ha:JA X (e :: es) t) (eA:attributeBase o name X.env (eval o X.env)=eval o X.env:=by rfl) (oN:((backTo bY (starEach (e :: es) X.env)).all (fun x => !x.1) && (backToKw bY (keywordEach [] X.env)).all (fun x=>x.1.isSome)
   && decide ((e :: es).length + ([]:List Keyword).length + (if ([]:List Keyword).isEmpty then 0 else 1) < 30))=true:=by rfl) (eB:(apos.endLine == bY.line)=true:=by rfl) (hs:starEach (e :: es) X.env=(false,eval e X.env) :: starEach es X.env:=by rfl) (hplain:(backTo bY (starEach es X.env)).any (·.1)=false:=by rfl):JE X (.Call (.Attribute o name apos) (e :: es) [] bY) (lL X.K T r to t):=⟨L2.Mi pa slot oM hm ho.out ha.out eA oN eB hs hplain⟩
theorem jv {X:Cx} (i:Nat) {x:Str} {pos:Pos} (hN:X.N[i]? = some x:=by rfl) (hv:nZ X.env.scope x:=by first | exact Or.inl rfl | exact Or.inr (Or.inl rfl) | exact Or.inr (Or.inr rfl)) (hd:(x == ("__debug__" : Str))=false:=by decide) (d7:(x == ("__classdict__" : Str))=false:=by decide):JE X (.Name x pos) (eY i):=⟨L2.pv i hN hv hd d7⟩
theorem Nz {X:Cx} {o i:Expr} {td ty:TE} (hu:X.A.units + 1 < cLine) (hi:JE X i ty) (ho:JE X o td):JC X .In i o (oV ty td):=⟨L2.M3 hu hi.out ho.out⟩
theorem NA {X:Cx} {o i value:Expr} {pos pos':Pos} {td ty tv:TE} (hu:X.A.units + 1 < cLine) (ho:JE X o td) (hi:JE X i ty) (hv:JE X value tv) (hs:swapsWith value (some (.Subscript o i pos')) pos.line X.env=pure false):JS X (.Assign [.Subscript o i pos'] value pos) (Es td ty tv):=⟨L2.M4 hu ho.out hi.out hv.out hs⟩
theorem gH {X:Cx} {pos:Pos}  : JE X (.Dict [] [] pos) y4:=⟨L2.M6⟩
theorem oY {X:Cx}:JF X [] sH:=⟨L2.Mv⟩
theorem NB {X:Cx} {c:Expr} {t:TT} (h:JT X c t):JF X [c] t:=⟨L2.Mw h.out⟩
theorem Ew {X:Cx} {elt tg iter:Expr} {ifs:List Expr} {scope:Scope} {pos:Pos} {wi:TI} {g:BD->TG} {tf:BD->TT} {te:BD->TE} (cp:List (Option Nat)) (Nb:List Str) (hc:X.calm=true) (hi:JI X tg iter wi) (hg:∀ d,JG (bZ X scope Nb d) tg (g d)) (hf:∀ d,JF (bZ X scope Nb d) ifs (tf d)) (he:∀ d,JE (bZ X scope Nb d) elt (te d)) (hk:scope.kind = .function:=by rfl) (ho:kR X.N X.env.scope scope Nb cp=true:=by first | rfl | kernel_rfl) (hs:∀ x,foldedSetIterable iter X.env x=pure x:=by intro _;rfl):JE X (.ListComp elt [⟨tg,iter,ifs,0⟩] scope pos) (oT wi cp g tf te):=⟨L2.MM cp Nb hc hi.out (fun dd=>(hg dd).out) (fun dd=>(hf dd).out) (fun dd=>(he dd).out) hk ho hs⟩
theorem NC {X:Cx} {elt tg iter:Expr} {ifs:List Expr} {scope:Scope} {pos:Pos} {wi:TI} {g:BD->TG} {tf:BD->TT} {te:BD->TE} (cp:List (Option Nat)) (Nb:List Str) {i:Nat} {x:Str} {pos' gF:Pos} (hN:X.N.Nodup) (hi:X.N[i]? = some x) (hx:Loc X.env.scope x) (hc:X.calm=true) (hit:JI X tg iter wi) (hg:∀ d,JG (bZ X scope Nb d) tg (g d)) (hf:∀ d,JF (bZ X scope Nb d) ifs (tf d)) (he:∀ d,JE (bZ X scope Nb d) elt (te d)) (hk:scope.kind = .function:=by rfl) (ho:kR X.N X.env.scope scope Nb cp=true:=by first | rfl | kernel_rfl) (hs:∀ x,foldedSetIterable iter X.env x=pure x:=by intro _;rfl) (sM:swapsWith (.ListComp elt [⟨tg,iter,ifs,0⟩] scope pos) (some (.Name x pos')) gF.line X.env=pure true:=by rfl) (lB:X.fn x=true\/X.env.scope.names.lookup x=some .local:=by first | exact .inl rfl | exact .inr rfl | assumption):JS X (.Assign [.Name x pos'] (.ListComp elt [⟨tg,iter,ifs,0⟩] scope pos) gF) (fR (oT wi cp g tf te) (kO i)):=⟨L2.MN cp Nb hN hi hx hc hit.out (fun dd=>(hg dd).out) (fun dd=>(hf dd).out) (fun dd=>(he dd).out) hk ho hs sM lB⟩
theorem Ex {X:Cx} {elts:List Expr} {x1:Nat} {tp:Pos} {a:Expr} {ta:TA} {p pos:Pos} (hg:Gl X "enumerate") (hm:X.mg "enumerate" = none) (ha:JA X [a] ta) (hs:starEach [a] X.env=[(false,eval a X.env)]:=by rfl):JI X (.Tuple elts x1 tp) (.Call (.Name "enumerate" p) [a] [] pos) (yO X.K ta):=⟨L2.MP hg hm ha.out hs⟩
theorem y_ {X:Cx} {es:List Expr} {te:TE} {t:TA} {c j p} (ha:JE X (.Constant c j p) te) (hr:JA X es t):JA X (.Constant c j p :: es) (eO te t):=⟨L2.yQ ha.out hr.out⟩
theorem ib {X:Cx} {es:List Expr} {te:TE} {t:TA} {x p} (ha:JE X (.Name x p) te) (hr:JA X es t):JA X (.Name x p :: es) (eO te t):=⟨L2.yR ha.out hr.out⟩
theorem ie {X:Cx} {es:List Expr} {te:TE} {t:TA} {f a k p} (ha:JE X (.Call f a k p) te) (hr:JA X es t):JA X (.Call f a k p :: es) (eO te t):=⟨L2.yS ha.out hr.out⟩
theorem za {X:Cx} {es:List Expr} {te:TE} {t:TA} {a p} (ha:JE X (.List a p) te) (hr:JA X es t):JA X (.List a p :: es) (eO te t):=⟨L2.yT ha.out hr.out⟩
theorem zb {X:Cx} {es:List Expr} {te:TE} {t:TA} {a k p} (ha:JE X (.Tuple a k p) te) (hr:JA X es t):JA X (.Tuple a k p :: es) (eO te t):=⟨L2.yU ha.out hr.out⟩
theorem zc {X:Cx} {es:List Expr} {te:TE} {t:TA} {a k p} (ha:JE X (.Subscript a k p) te) (hr:JA X es t):JA X (.Subscript a k p :: es) (eO te t):=⟨L2.yV ha.out hr.out⟩
theorem gD.vD {P:Program} {w:World} {K:PySem.W.Frag} {mg:Str->Option Value} {base:Heap} {x qual:Str} {st:Stmt} {f:Addr} {fd:FuncData} {N ps:List Str} {k:Nat} {sp:Sp} (F:gD K x qual st f fd) (S:kP N ps (cB st)) (len:∀ vs H Q E,sp vs H Q E->vs.length=ps.length)
  (dm:∀ (aU:Value) (A:Around) (outer:List Env) (s:Shared) (H:Hp) (vs:List V) (Q:VK) (E:XK),aY k (A.deeper (envOfC qual (cB st) s.heap.objs.size f aU))->sp vs H Q E →
   ∃ t,eC (dU fD P w K mg base N qual (cB st) f aU A outer s H E).jM (fW st) t/\t { nx:=fun _ H'=>Q .non H',rt:=Q } (start N vs) H):cE P w K mg base fD (k + 1) f fd ps sp :=
 F.ok S len fun aU A outer s H vs Q E hr h=>let ⟨t,g,q⟩:=dm aU A outer s H vs Q E hr h; ⟨t,g.out,q⟩
end L2
namespace LJS
open PySem
noncomputable def hp (i j:Int):Int:=reduceHash (Builtin.Tuple.tupleHashOf [hashInt i,hashInt j])
theorem Ey {prog:Program} {w:World} (i j:Int):hT prog w [i,j]=hp i j:=rfl
noncomputable def vE:List (Int × Int):=(List.range 12).flatMap fun j=>(List.range j).map fun i:Nat=>(Int.ofNat i,Int.ofNat j)
theorem ND:∀ a∈vE,∀ b∈vE,hp a.1 a.2=hp b.1 b.2->a=b:=by decide +kernel
theorem Ez {i j:Int} (h0:0 <= i) (h1:i < j) (h2:j < 12):(i,j)∈vE:=by
 obtain⟨a,rfl⟩:∃ a:Nat,i=a:=⟨i.toNat,by omega⟩
 obtain⟨b,rfl⟩:∃ b:Nat,j=b:=⟨j.toNat,by omega⟩
 unfold vE
 exact List.mem_flatMap.mpr ⟨b,Wl.mpr (by omega),Mt.mpr ⟨a,Wl.mpr (by omega),rfl⟩⟩
end LJS
namespace L2
open PySem PySem.Spec PyProof.Rows
noncomputable def jW (S:Addr) (n:Nat):HO := .ext fun h=>∃ hs:List Int,hs.length=n/\LJS.jK h S hs
theorem NF {P:Program} {w:World} {H:Hp} {h:Heap} {S:Addr} {hs:List Int} {n:Nat} (e:LJS.jK h S hs) (hn:hs.length=n):aI P w H h S (jW S n) :=
 ⟨⟨hs,hn,e⟩,let ⟨o,_,_,_,ho,_⟩:=e; ⟨o,ho⟩,fun h1 h2 ⟨vF,en,e1⟩ k=>⟨vF,en,LJS.Ka e1 fun o eo=>k o eo⟩⟩
section
variable {X:Cx}
theorem EA:∀ {ps:List Addr} {aj:List Value},Vals (ps.map V.ref) aj->aj=ps.map Value.ref
 | [],_,.nil=>rfl
 | _ :: _,_,.cons r rs=>by cases r;rw[EA rs];rfl
theorem NG:eN X (.builtin "len") (fun xs H Q=>∃ (p:Addr) (n:Nat),xs=[.ref p]/\H p=some (jW p n)/\n < 1000/\Q (.int n) H):=by
 intro pins s σ H xs us Q I r h
 obtain⟨p,n,rfl,hp,hn,q⟩:=h
 obtain⟨u,rfl,rx⟩:=vals1 r
 cases rx
 obtain⟨⟨hs,hl,o,es,ep,t,ho,hex,hd,T⟩,_⟩:=I.aJ p _ hp
 have e:es.size=n:=by rw[T.num,hl]
 refine call_len_set ho hex hd T.fits (by omega) ⟨.int n,H,I.tok _,⟨_,by rw[e]⟩,q⟩
theorem EB:∀ {bs:List Bool} {aj:List Value},Vals (bs.map V.bl) aj->aj=bs.map Value.bool
 | [],_,.nil=>rfl
 | _ :: _,_,.cons r rs=>by cases r;rw[EB rs];rfl
theorem all_range (bs:List Bool):(List.range bs.length).all (fun i=>bs.getD i true)=bs.all id:=by
 rw[Bool.eq_iff_iff,WV,WV]
 constructor
 ·intro h b hb
  obtain⟨i,hi⟩:=VD.mp hb
  have hl:=(oR.mp hi).1
  have:=h i (Wl.mpr hl)
  rw[vo,hi] at this
  exact this
 ·intro h i hi
  have hl:=Wl.mp hi
  rw[vo,lO hl]
  exact h _ (Xl hl)
theorem NH (hc:X.calm=true):eN X (.builtin "all") (fun xs H Q=>∃ (l:Addr) (bs:List Bool),xs=[.ref l]/\a7 X.K H l (bs.map V.bl)/\Q (.bl (bs.all id)) H):=by
 intro pins s σ H xs us Q I r h
 obtain⟨l,bs,rfl,hq,q⟩:=h
 obtain⟨u,rfl,rx⟩:=vals1 r
 cases rx
 obtain⟨aj,r',pl,_⟩:=I.list hq
 obtain rfl:=EB r'
 have hL:=pl.isList
 have ll:l < s.heap.objs.size:=by obtain⟨o,e,_⟩:=hL;exact My e
 have nI:l≠s.heap.objs.size:=Wi ll
 refine call_all_walk (XQ hL ?_)
 refine⟨s.heap.objs.size,_,_,_,_,_,fun i=>bs.getD i true,rfl,YJ (by rw[Yc];exact I.ok.hd hc) s.heap.objs.size l nI _,⟨⟨_,VH _ rfl,rfl,rfl⟩,hL.push _⟩,fun i v s' Q' E' hv vG => ?_,fun h' tk kp => ?_⟩
 ·have hv:(bs.map Value.bool).toArray[i]? = some v:=hv
  have vG:Q' (bs.getD i true) s':=vG
  rw[Ye,D8] at hv
  obtain⟨b,eb,rfl⟩:=VI.mp hv
  rw[vo,eb] at vG
  exact XB vG
 ·refine⟨.bl (bs.all id),H,I.kept (t':=tk) fun b o e=>kp b o (fun z => ?_) (sC _ e),?_,q⟩
  ·have:=My e
   rw[WB.mp z] at this
   exact Xk _ this
  ·show Value.bool _=Value.bool _
   rw[vp,oS,all_range]
end
end L2
namespace LJ
open PySem L2
structure Fn (P:Program) (w:World) (K:PySem.W.Frag) (mg:Str->Option Value) (base:Heap) (k:Nat) (x:Str) (ps:List Str) (sp:Sp) (f:Addr) (fd:FuncData):Prop where
 ok:cE P w K mg base fD k f fd ps sp
 vH:mg x=some (.ref f)
 kp:PySem.W.keepIn K (.ref f)=true
 bd:Binds K fd ps []
theorem NI:bootBuiltins "bool" = some (.type "bool"):=by decide +kernel
theorem EC:bootBuiltins "int" = some (.type "int"):=by decide +kernel
theorem ze:bootBuiltins "tuple" = some (.type "tuple"):=by decide +kernel
theorem qB:bootBuiltins "list" = some (.type "list"):=by decide +kernel
theorem NJ:bootBuiltins "set" = some (.type "set"):=by decide +kernel
theorem NK:bootBuiltins "all" = some (.builtin "all"):=by decide +kernel
section
variable {K:PySem.W.Frag}
end
structure bg (many:Int) (ys:List (Int × Int × Int)):Prop where
 m1:1 <= many
 gJ:many <= 12
 gK:ys.length <= 30
 ends:∀ y∈ys,0 <= y.1/\y.1 < y.2.1/\y.2.1 < many/\0 <= y.2.2/\y.2.2 <= 1000000000
 unlike:(ys.map fun y=>(y.1,y.2.1)).Nodup
end LJ
namespace L2
open PySem PySem.Spec PyProof.Rows
section
variable {X:Cx}
end
end L2
namespace LJ
open PySem L2
noncomputable def iK:Nat->List (Int × Int)
 | 0=>[]
 | n + 1=>iK n ++ (List.range n).map fun a:Nat=>(Int.ofNat a,Int.ofNat n)
theorem zf:∀ {n:Nat} {k:Int × Int},k∈iK n->0 <= k.1/\k.1 < k.2/\k.2 < n
 | 0,_,h=>nomatch h
 | n + 1,k,h=>by
  rcases WD.mp h with h | h
  ·have:=zf h;omega
  ·obtain⟨a,ha,rfl⟩:=Mt.mp h
   have:=Wl.mp ha
   refine⟨Int.natCast_nonneg a,?_,?_⟩
   ·show (a:Int) < (n:Int);omega
   ·show (n:Int) < ((n + 1:Nat):Int);omega
theorem ED:∀ n:Nat,(iK n).Nodup
 | 0=>YK
 | n + 1=>by
  refine Xp.mpr ⟨ED n,?_,fun k h1 k' h2 e => ?_⟩
  ·refine Xe.mpr (Zk.imp fun {a b} ne e=>ne ?_)
   exact Int.ofNat.inj (congrArg Prod.fst e)
  ·subst e
   obtain⟨a,ha,rfl⟩:=Mt.mp h2
   have:=(zf h1).2.2
   have:(n:Int) < (n:Int):=this
   omega
theorem EE:∀ n:Nat,n <= 12->(iK n).length <= 66:=by
 intro n h
 rcases n with _ | _ | _ | _ | _ | _ | _ | _ | _ | _ | _ | _ | _ | n
 all_goals first | decide | omega
end LJ
namespace LJ
open PySem
theorem NL {j n:Nat} (h:j < n):seqIndex? (j:Int) n=some j:=by
 unfold seqIndex?
 first | (simp;omega) | skip
end LJ
namespace L2
open PySem PySem.Spec PyProof.Rows
section
variable {X:Cx}
theorem zg:eN X (.type "range") (fun xs H Q=>∃ j:Int,xs=[.int j]/\∀ r,H r=none->Q (.ref r) (upd H r (.rng 0 j))):=by
 intro pins s σ H xs us Q I r h
 obtain⟨j,rfl,q⟩:=h
 obtain⟨u,rfl,t,rfl⟩:=vals1 r
 refine call_range_1 ⟨.ref s.heap.objs.size,_,I.laid (t':=s.toks + 1 + 1) (o := .rng 0 j) (fun b o e=>sC _ e) (qx _) ?_,rfl,q _ (I.aJ.fresh (qx _))⟩
 exact⟨_,_,_,VH _ rfl⟩
noncomputable def aL (n:Nat):List Int:=(List.range n).map fun a:Nat=>(a:Int)
theorem zh:∀ {ns:List Int} {us:List Value},us.length=ns.length->(∀ (i:Nat) (u:Value),us[i]? = some u->∃ t,u = .int (ns.getD i 0) t)->Vals (ns.map V.int) us
 | [],[],_,_ => .nil
 | [],_ :: _,h,_=>by simp at h
 | _ :: _,[],h,_=>by simp at h
 | n :: ns,u :: us,h,g=>by
  obtain⟨t,e⟩:=g 0 u rfl
  refine .cons ⟨t,e⟩ (zh (by simpa using h) fun i v e2 => ?_)
  obtain⟨t,e⟩:=g (i + 1) v (by simpa using e2)
  exact⟨t,by simpa using e⟩
theorem EF (hc:X.calm=true):eN X (.type "list") (fun xs H Q=>∃ (r:Addr) (n:Nat),xs=[.ref r]/\H r=some (.rng 0 (n:Int))/\n <= 1000/\∀ l,H l=none->Q (.ref l) (upd H l (.lst ((aL n).map V.int)))):=by
 intro pins s σ H xs us Q I r h
 obtain⟨a,n,rfl,ha,hn,q⟩:=h
 obtain⟨u,rfl,rx⟩:=vals1 r
 cases rx
 obtain⟨t,u,v,e⟩:=(show ∃ t u v,s.heap.get? a=some { cls := .type "range",data := .fields #[.int 0 t,.int (n:Int) u,.int 1 v] } from I.aJ a _ ha)
 have hs:Builtin.Range.rangeSize 0 (n:Int) 1=n:=by rw[rangeSize_one];split<;>omega
 refine call_list_range (n:=n) (I.ok.hd hc) e (small_one (by omega) (by omega) (by omega) (by omega)) hs (by omega) fun h' tk acc c' kp e' it => ?_
 refine⟨.ref s.heap.objs.size,_,I.laid (t':=tk) (o := .lst ((aL n).map V.int)) kp (qx _) ?_,rfl,q _ (I.aJ.fresh (qx _))⟩
 refine⟨XM (lP (by rw[oS,aL,oS,Xd];exact hn)),acc.toList,c',?_,by simpa using e'⟩
 refine zh ?_ fun i u e => ?_
 ·rw[Ms,it.1,aL,oS,Xd]
 ·rw[Wq] at e
  obtain⟨t',e2⟩:=it.2 i u e
  have hi:i < n:=by rw[<-it.1];exact (Xq.mp e).1
  refine⟨t',e2.trans ?_⟩
  rw[aL,vo,D8,W0 hi]
  show Value.int (0 + (i:Int) * 1) t'=Value.int (i:Int) t'
  rw[Int.zero_add,Int.mul_one]
theorem zi:∀ (ns:List Int) (j:Nat),j <= ns.length->PySem.preSum (fun i=>ns.getD i 0) j=(ns.take j).sum
 | ns,0,_=>by rw[Zf];rfl
 | ns,j + 1,h=>by
  show PySem.preSum _ j + ns.getD j 0=_
  have hj:j < ns.length:=by omega
  rw[zi ns j (by omega),List.take_add_one,lO hj,vo,lO hj,List.sum_append]
  simp
theorem EG:∀ {ns:List Int},(∀ x∈ns,0 <= x/\x <= 1000000000)->0 <= ns.sum/\ns.sum <= ns.length * 1000000000
 | [],_=>by simp
 | n :: ns,h=>by
  have ih:=EG fun x hx=>h x (Mp _ hx)
  have:=h n (yE ..)
  rw[Yo,D7]
  omega
theorem NM (hc:X.calm=true):eN X (.builtin "sum") (fun xs H Q=>∃ (l:Addr) (ns:List Int),xs=[.ref l]/\a7 X.K H l (ns.map V.int)/\(∀ x∈ns,0 <= x/\x <= 1000000000)/\ns.length <= 1000/\Q (.int ns.sum) H):=by
 intro pins s σ H xs us Q I r h
 obtain⟨l,ns,rfl,hq,bd,EH,q⟩:=h
 obtain⟨u,rfl,rx⟩:=vals1 r
 cases rx
 obtain⟨aj,r',pl,_⟩:=I.list hq
 have hl:=r'.length
 rw[oS] at hl
 have hL:=pl.isList
 have ll:l < s.heap.objs.size:=by obtain⟨o,e,_⟩:=hL;exact My e
 have nI:l≠s.heap.objs.size:=Wi ll
 have sz:aj.toArray.size=ns.length:=by rw[vp];exact hl.symm
 refine call_sum_walk (XQ hL ?_)
 refine⟨s.heap.objs.size,_,_,_,_,_,fun i=>ns.getD i 0,rfl,YJ (by rw[Yc];exact I.ok.hd hc) s.heap.objs.size l nI _,⟨⟨_,VH _ rfl,rfl,rfl⟩,hL.push _⟩,fun b hb => ?_,fun i v hv => ?_,fun j hj => ?_,fun h' tk t' kp => ?_⟩
 ·simp only[VE,W5,Zp] at hb
  rw[Yb]
  rcases hb with e | e
  ·rw[e];exact Xv _
  ·rw[e];exact Xo ll
 ·have hv:aj.toArray[i]? = some v:=hv
  rw[Ye] at hv
  have hi:i < ns.length:=by rw[hl];exact (oR.mp hv).1
  obtain⟨u,e1,t,e2⟩:=r'.get (x:=V.int (ns.getD i 0)) (i:=i) (by rw[D8,lO hi,vo,lO hi];rfl)
  rw[hv] at e1
  cases e1
  exact⟨t,e2⟩
 ·rw[sz] at hj
  have a1:=bd _ (Xl hj)
  have e1:ns.getD j 0=ns[j]:=by rw[vo,lO hj];rfl
  have a2:=EG (ns:=ns.take (j + 1)) fun x hx=>bd x (List.mem_of_mem_take hx)
  have a3:(ns.take (j + 1)).length <= 1000:=by rw[Wu];omega
  rw[zi ns (j + 1) (by omega)]
  show InLong (ns.getD j 0)/\_
  rw[e1]
  refine⟨⟨by omega,by omega⟩,⟨by omega,by omega⟩⟩
 ·refine⟨.int ns.sum,H,I.kept (t':=tk) fun b o e=>kp b o (fun z => ?_) (sC _ e),⟨t',?_⟩,q⟩
  ·have:=My e
   rw[WB.mp z] at this
   exact Xk _ this
  ·rw[sz,zi ns ns.length (qx _),WM (qx _)]
theorem EI:∀ {us:List Value} {ns:List Int},IntsAre us ns->Vals (ns.map V.int) us
 | _,_,.nil => .nil
 | _,_,.cons n t r => .cons ⟨t,rfl⟩ (EI r)
theorem NN:eN X (.builtin "sorted") (fun xs H Q=>∃ (l:Addr) (ns:List Int),xs=[.ref l]/\a7 X.K H l (ns.map V.int)/\ns.length < 64/\∀ (r:Addr) (e7:List Int),e7.Perm ns->e7.Pairwise (· <= ·)->H r=none->Q (.ref r) (upd H r (.lst (e7.map V.int)))):=by
 intro pins s σ H xs us Q I r h
 obtain⟨l,ns,rfl,hq,mW,q⟩:=h
 obtain⟨u,rfl,rx⟩:=vals1 r
 cases rx
 obtain⟨aj,r',pl,_⟩:=I.list hq
 have hl:=r'.length
 rw[oS] at hl
 refine sorted_ints pl.isList (by simpa using intsAre_of r') (by omega) fun out e7 hI pm pw => ?_
 have hf:H (s.heap.objs.size + 1)=none:=I.aJ.fresh (ZN _)
 obtain⟨e,he⟩:=sortedAll_at s.heap aj out
 refine⟨.ref (s.heap.objs.size + 1),_,I.laid (t':=s.toks) (o := .lst (e7.map V.int)) (fun b o e=>sortedAll_old e) (ZN _) ?_,rfl,q _ e7 pm pw hf⟩
 refine⟨XM (lP (by rw[oS,pm.length_eq];omega)),out.toList,e,EI hI,?_⟩
 simpa [seqObj] using he
theorem EJ {prog:Program} {w:World} {A:Around} {E:Value->Shared->Prop} {I l:Addr} {items:Array Value} (W:Walks prog w A I [I,l] [I] items.size (fun i v=>items[i]? = some v) (fun i h=>h.IsListIter I l i/\h.IsList l items)) :
  ∀ (k i:Nat) (s:Shared) (Q:List Value->Shared->Prop),i + k <= items.size->(s.heap.IsListIter I l i/\s.heap.IsList l items) →
   (∀ h' tk,(h'.IsListIter I l (i + k)/\h'.IsList l items)->(∀ b o,b∉[I]->s.heap.get? b=some o->h'.get? b=some o)->Q ((items.toList.drop i).take k) { s with heap:=h',toks:=tk })->wpAny (model prog w) A (draw (.ref I) k) Q E s
 | 0,i,s,Q,_,st,g=>by
  show wpAny _ _ (pure []) Q E s
  refine D5 ?_
  have:=g s.heap s.toks st fun _ _ _ e=>e
  rw[Zf] at this
  exact this
 | k + 1,i,s,Q,hk,st,g=>by
  have hi:i < items.size:=by omega
  show wpAny _ _ (pyNext (.ref I) >>= _) Q E s
  refine oQ (W.item i s _ _ hi st fun v h1 jF hv oZ zj => ?_)
  refine oQ (WK (EJ W k (i + 1) _ _ (by omega) oZ fun h2 zk mR zo=>D5 ?_))
  have e:items.toList.drop i=v :: items.toList.drop (i + 1):=by
   rw[XA (by rw[Ms];exact hi)]
   congr 1
   have EK:items[i]? = some v:=hv
   rw[Wh hi] at EK
   simpa using EK
  have:=g h2 zk (by rw[show i + (k + 1)=i + 1 + k by omega];exact mR) fun b o hb e=>zo b o hb (zj b o hb e)
  rw[e,List.take_succ_cons] at this
  exact this
theorem NO {prog:Program} {w:World} {A:Around} {E:Value->Shared->Prop} {s:Shared} {l:Addr} {items:Array Value} {Q:List Value->Shared->Prop} (hh:A.handled=none) (hl:s.heap.IsList l items)
  (g:∀ h' tk,(∀ b o,b≠s.heap.objs.size->s.heap.get? b=some o->h'.get? b=some o)->Q items.toList { s with heap:=h',toks:=tk }):wpAny (model prog w) A (unpackItems (.ref l) items.size none) Q E s:=by
 have ll:l < s.heap.objs.size:=by obtain⟨o,e,_⟩:=hl;exact My e
 have W:=YJ (prog:=prog) (w:=w) hh s.heap.objs.size l (Wi ll) items
 unfold unpackItems
 refine oQ ?_
 unfold notIterableAtAll
 refine oQ (wpAny_specialOf hl.typeIs slot_list_iter.lookup (D5 ?_))
 simp only[Wn,Xr]
 refine oQ (WK (XQ hl ?_))
 refine oQ (WK (EJ W items.size 0 _ _ (by omega) ⟨⟨_,VH _ rfl,rfl,rfl⟩,hl.push _⟩ fun h1 jF oZ zj => ?_))
 rw[Zb,WM (by rw[Ms];exact qx _),VG (by rw[Ms];exact Xk _)]
 rw[WN] at oZ
 refine oQ (WK (W.done _ _ _ oZ fun h2 zk zo => ?_))
 simp only[Option.isSome_none,Wn,Xr]
 refine D5 (g h2 zk fun b o hb e=>zo b o (by simpa using hb) (zj b o (by simpa using hb) (sC _ e)))
noncomputable def NP (K:PySem.W.Frag) (n:Nat) (t:iF):TG:=fun v σ H Q=>∃ a xs,v = .ref a/\a7 K H a xs/\xs.length=n/\t xs σ H Q
theorem NQ {es:List Expr} {k:Nat} {t:iF} {n:Nat} {pos:Pos} (hc:X.calm=true) (h:jE X es t)
  (hn:(assignEach es X.env).length=n:=by rfl) (jO:(assignEach es X.env).findIdx? (·.1)=none:=by rfl):JG X (.Tuple es k pos) (NP X.K n t):=by
 refine⟨?_⟩
 intro pins s σ H v u Q I r hw
 obtain⟨a,xs,e1,hq,hl,hw⟩:=hw
 subst e1
 cases r
 obtain⟨aj,rv,ht,hz⟩:=I.list hq
 have hlen:=rv.length
 rw[assign_Tuple]
 refine oQ (Ym ?_)
 unfold unpack
 rw[jO,show (assignEach es X.env).length=aj.toArray.size by rw[hn,<-hl,hlen];simp]
 refine oQ (WK (NO (I.ok.hd hc) ht.isList fun h' tk kp => ?_))
 have I1:Inv X pins σ H { s with heap:=h',toks:=tk }:=I.kept fun b o e=>kp b o (Wi (My e)) e
 exact h.out pins _ σ H xs _ Q I1 (by simpa using rv) hw
theorem NR:qw X "dict.setdefault" (fun x vs H Q=>∃ (d:Addr) (kvs:List (Key × V)) (k:Key) (dv:V),x = .ref d/\vs=[kV k,dv]/\H d=some (.dK kvs)/\kvs.length < sizeLine/\(∀ v,bK kvs k=some v->Q v H)/\(bK kvs k=none->Q dv (upd H d (.dK (putK kvs k dv))))):=by
 intro pins s σ H x xs v us Q I rx rv h
 obtain⟨d,kvs,k,dv,rfl,rfl,hd,hz,q1,q2⟩:=h
 cases rx
 cases rv with
 | cons rk rr =>
  cases rr with
  | cons rd rn =>
   cases rn
   rename_i uk ud
   obtain⟨z,lo,vs,rel,dd⟩:=vy I.aJ hd
   have rl:=rel.val k
   refine call_meetsIn Zu dd.typeIs PySem.F.entry_dict_setdefault (PySem.F.args_dict_setdefault_3 _ _ _) (PySem.kt_meets_setdefault (gw X.prog X.w) d (vx rk) lo ud) ⟨vs,dd,by rw[<-rel.length];exact z,fun v hv => ?_,fun hn h' oU hs => ?_⟩
   ·rw[hv] at rl
    cases e:bK kvs k with
    | none=>rw[e] at rl;exact rl.elim
    | some y =>
     rw[e] at rl
     exact⟨y,H,I.tok _,rl,q1 y e⟩
   ·rw[hn] at rl
    cases e:bK kvs k with
    | some y=>rw[e] at rl;exact rl.elim
    | none =>
     have he:∃ q,h'.get? d=some q:=let ⟨q,_,_,hq,_⟩:=oU; ⟨q,hq⟩
     have hl:=yY kvs k dv
     exact⟨dv,_,y3 (t':=s.toks + 1) I (by rw[hd];exact True.intro) hs he (Er (by omega) lo (rel.put k rd) oU),rd,q2 e⟩
noncomputable def gL (v d:Addr):HO := .ext fun h=>h.IsValuesView v d
theorem NS:qw X "dict.values" (fun x vs H Q=>∃ (d:Addr) (kvs:List (Key × V)),x = .ref d/\vs=[]/\H d=some (.dK kvs)/\∀ r,H r=none->Q (.ref r) (upd H r (gL r d))):=by
 intro pins s σ H x xs v us Q I rx rv h
 obtain⟨d,kvs,rfl,rfl,hd,q⟩:=h
 cases rx
 cases rv
 obtain⟨z,lo,vs,rel,dd⟩:=vy I.aJ hd
 refine call_meetsIn ZT dd.typeIs PySem.F.entry_dict_values (PySem.F.args_dict_values_1 _) (meets_dict_values (gw X.prog X.w) d lo) ⟨⟨vs,dd⟩,?_⟩
 have e:(s.heap.push { cls := .type "dict_values",data := .fields #[.ref d] }).IsValuesView s.heap.objs.size d:=⟨_,VH _ rfl,rfl,rfl⟩
 refine⟨.ref s.heap.objs.size,_,I.laid (t':=s.toks) (o:=gL s.heap.objs.size d) (fun b o e=>sC _ e) (qx _) ⟨e,⟨_,VH _ rfl⟩,fun h1 h2 ⟨o,ho,r⟩ k=>⟨o,k o ho,r⟩⟩,rfl,q _ (I.aJ.fresh (qx _))⟩
theorem EL:∀ {kvs:List (Key × V)} {vs:List (Key × Value)},KV kvs vs->Vals (kvs.map (·.2)) (vs.map (·.2))
 | [],_,.nil => .nil
 | _ :: _,_,.cons r rs => .cons r.2 (EL rs)
theorem NT (hc:X.calm=true):eN X (.type "list") (fun xs H Q=>∃ (r d:Addr) (kvs:List (Key × V)),xs=[.ref r]/\H r=some (gL r d)/\H d=some (.dK kvs)/\∀ l,H l=none->Q (.ref l) (upd H l (.lst (kvs.map (·.2))))):=by
 intro pins s σ H xs us Q I r' h
 obtain⟨r,d,kvs,rfl,hr,hd,q⟩:=h
 obtain⟨u,rfl,rx⟩:=vals1 r'
 cases rx
 obtain⟨iv,_⟩:=I.aJ r _ hr
 obtain⟨z,lo,vs,rel,dd⟩:=vy I.aJ hd
 obtain⟨o,es,ep,ho,rest⟩:=dd
 have da:s.heap.DictAt (gw X.prog X.w) d vs ep:=⟨o,es,ho,rest⟩
 have lv:=rel.length
 refine PySem.W.kdl_call (PySem.W.kdl_values (r:=r) (d:=d) (kvs:=vs) (ep:=ep) (knd:=gw X.prog X.w)) (I.ok.hd hc) ⟨iv,da⟩ (by omega) fun h' tk acc c' kp e' it => ?_
 have ea:acc.toList=vs.map (·.2):=PySem.W.kdl_vals_eq acc.toList (by rw[Ms];exact it.1) fun j v e=>it.2 j v (by rw[<-Wq];exact e)
 refine⟨.ref s.heap.objs.size,_,I.laid (t':=tk) (o := .lst (kvs.map (·.2))) kp (qx _) ?_,rfl,q _ (I.aJ.fresh (qx _))⟩
 exact⟨by rw[oS];exact z,acc.toList,c',by rw[ea];exact EL rel,by simpa using e'⟩
end
section
variable {X:Cx} {e:Expr} {te:TE} {pos p2 p3 p4:Pos}
end
inductive DV where
 | p (d:D) | o (k:Nat)
inductive OV where
 | lst (ds:List D) | dct (kvs:List (Key × D))
structure az where
 sl:List (Option DV)
 mu:List (Option OV)
noncomputable def eE (F:Hp):List (Key × D)->List (Key × V)->Prop
 | [],ws=>ws=[]
 | kd :: r,ws=>∃ v t,ws=(kd.1,v) :: t/\Is F kd.2 v/\eE F r t
noncomputable def d5 (F:Hp):OV->HO->Prop
 | .lst ds,o=>∃ vs,o = .lst vs/\ae F ds vs
 | .dct kvs,o=>∃ ws,o = .dK ws/\eE F kvs ws
theorem eE.same {F F':Hp} (s:aB F F'):∀ {fg:List (Key × D)} {ws:List (Key × V)},eE F fg ws->eE F' fg ws
 | [],_,h=>h
 | _ :: _,_,⟨v,t,e,h1,h2⟩=>⟨v,t,e,h1.same s,eE.same s h2⟩
theorem d5.same {F F':Hp} (s:aB F F'):∀ {ov:OV} {o:HO},d5 F ov o->d5 F' ov o
 | .lst _,_,⟨vs,e,h⟩=>⟨vs,e,h.same s⟩
 | .dct _,_,⟨ws,e,h⟩=>⟨ws,e,h.same s⟩
noncomputable def fE (F:Hp) (ad:List Addr):DV->V->Prop
 | .p d,v=>Is F d v
 | .o k,v=>∃ a,ad[k]? = some a/\v = .ref a
noncomputable def Lv (ad:List Addr) (mu:List (Option OV)) (a:Addr):Prop:=∃ (k:Nat) (ov:OV),ad[k]? = some a/\mu[k]? = some (some ov)
class aE where
 ad:List Addr
 ok:Hp->Prop
 same:∀ {H H':Hp},ok H->aB H H'->ok H'
 put:∀ {H:Hp} {a:Addr} {o o':HO},ok H->H a=some o->((∃ vs,o = .lst vs)\/∃ ws,o = .dK ws)->ok (upd H a o')
 tb:∀ {H:Hp} {a:Addr},ok H->a∈ad->∃ ps,H a=some (.tbl ps)
theorem d5.kind {F:Hp}:∀ {ov:OV} {o:HO},d5 F ov o->(∃ vs,o = .lst vs)\/∃ ws,o = .dK ws
 | .lst _,_,⟨vs,e,_⟩ => .inl ⟨vs,e⟩
 | .dct _,_,⟨ws,e,_⟩ => .inr ⟨ws,e⟩
variable [aE]
structure SR (F:Hp) (ad:List Addr) (δ : az) (σ : St) (H:Hp):Prop where
 sub:aB F H
 off:∀ a,Lv ad δ.mu a->F a=none
 bW:ad.length = δ.mu.length
 inj:∀ (k l:Nat) (a:Addr) (ov ow:OV),ad[k]? = some a->ad[l]? = some a -> δ.mu[k]? = some (some ov) -> δ.mu[l]? = some (some ow)->k=l
 mu:∀ (k:Nat) (ov:OV),δ.mu[k]? = some (some ov)->∃ a o,ad[k]? = some a/\H a=some o/\d5 F ov o
 sl:∀ (i:Nat) (x:DV),δ.sl[i]? = some (some x)->∃ v,σ[i]? = some (some v)/\fE F ad x v
 len : σ.length = δ.sl.length
 tab:aE.ok H
 nt:∀ a∈aE.ad,F a=none
structure Ext (F:Hp) (ad:List Addr) (mu:List (Option OV)) (H:Hp) (F':Hp) (aG:List Addr) (cO:List (Option OV)) (H':Hp):Prop where
 same:aB F F'
 new:∀ a o,F' a=some o->F a=some o\/H a=none\/Lv ad mu a
 keep:∀ a o,H a=some o->¬ Lv ad mu a->a∉aE.ad->H' a=some o
 pre:∀ (k:Nat) (a:Addr),ad[k]? = some a->aG[k]? = some a
 bR:∀ a,Lv aG cO a->Lv ad mu a\/H a=none
 gM:∀ a o,H a=some o->∃ o',H' a=some o'
section
variable {F F' EM H H' ig:Hp} {ad aG sY:List Addr} {mu cO sZ:List (Option OV)} {δ : az} {σ : St}
theorem cX {H:Hp} {a:Addr} {o:HO} (h:H a=none):aB H (upd H a o):=fun b u e=>by rw[aM (cC e h)];exact e
theorem Ext.refl:Ext F ad mu H F ad mu H:=⟨fun _ _ e=>e,fun _ _ e => .inl e,fun _ _ e _ _=>e,fun _ _ e=>e,fun _ e => .inl e,fun _ o e=>⟨o,e⟩⟩
theorem Ext.trans (x:Ext F ad mu H F' aG cO H') (y:Ext F' aG cO H' EM sY sZ ig):Ext F ad mu H EM sY sZ ig where
 same:=x.same.trans y.same
 new:=fun a o e=>by
  rcases y.new a o e with h | h | h
  ·exact x.new a o h
  ·refine .inr (.inl ?_)
   cases q:H a with
   | none=>rfl
   | some u=>obtain⟨u',h'⟩:=x.gM a u q;rw[h] at h';cases h'
  ·rcases x.bR a h with h | h
   ·exact .inr (.inr h)
   ·exact .inr (.inl h)
 keep:=fun a o e n t=>y.keep a o (x.keep a o e n t) (fun l=>by
  rcases x.bR a l with h | h
  ·exact n h
  ·rw[e] at h;cases h) t
 pre:=fun k a e=>y.pre k a (x.pre k a e)
 bR:=fun a l=>by
  rcases y.bR a l with h | h
  ·exact x.bR a h
  ·refine .inr ?_
   cases q:H a with
   | none=>rfl
   | some u=>obtain⟨u',h'⟩:=x.gM a u q;rw[h] at h';cases h'
 gM:=fun a o e=>let ⟨o1,e1⟩:=x.gM a o e;y.gM a o1 e1
theorem fE.ext {x:DV} {v:V} (h:fE F ad x v) (e:Ext F ad mu H F' aG cO H'):fE F' aG x v:=by
 cases x with
 | p d=>exact Is.same e.same h
 | o k=>obtain⟨a,h1,h2⟩:=h;exact⟨a,e.pre k a h1,h2⟩
noncomputable def Nw (F H H':Hp):Hp:=fun a=>match H a with
 | none=>H' a
 | some _=>F a
theorem Nw.same (s:aB F H):aB F (Nw F H H'):=fun a o e=>by
 unfold Nw;rw[s a o e];exact e
theorem Nw.sub (s:aB F H) (k:aB H H'):aB (Nw F H H') H':=fun a o e=>by
 unfold Nw at e
 cases q:H a with
 | none=>rw[q] at e;exact e
 | some u=>rw[q] at e;exact k a o (s a o e)
theorem Nw.upd {p:Addr} {o:HO} (s:aB F H) (hp:H p=none):Nw F H (upd H p o)=upd F p o:=by
 funext a
 unfold Nw L2.upd
 by_cases c:a=p
 ·subst c;rw[hp,We rfl];simp
 ·rw[VG c,VG c]
  cases q:H a with
  | none =>
   cases q2:F a with
   | none=>rfl
   | some u=>rw[s a u q2] at q;cases q
  | some u=>rfl
theorem Nw.refl (s:aB F H):Nw F H H=F:=by
 funext a
 unfold Nw
 cases q:H a with
 | none =>
  cases q2:F a with
  | none=>rfl
  | some u=>rw[s a u q2] at q;cases q
 | some u=>rfl
theorem SR.al (S:SR F ad δ σ H) (k:aB H H'):SR (Nw F H H') ad δ σ H':=by
 have sm:=Nw.same (H':=H') S.sub
 refine⟨Nw.sub S.sub k,fun a l => ?_,S.bW,S.inj,fun i ov e => ?_,fun i x e => ?_,S.len,aE.same S.tab k,fun a ha=>by obtain⟨ps,q⟩:=aE.tb S.tab ha;unfold Nw;rw[q];exact S.nt a ha⟩
 ·obtain⟨i,ov,e1,e2⟩:=l
  obtain⟨a',o,e3,e4,_⟩:=S.mu i ov e2
  rw[e1] at e3;cases e3
  unfold Nw;rw[e4];exact S.off a ⟨i,ov,e1,e2⟩
 ·obtain⟨a,o,e1,e2,h⟩:=S.mu i ov e
  exact⟨a,o,e1,k a o e2,h.same sm⟩
 ·obtain⟨v,e1,h⟩:=S.sl i x e
  refine⟨v,e1,?_⟩
  cases x with
  | p d=>exact Is.same sm h
  | o k=>exact h
theorem Ext.al (S:SR F ad δ σ H) (k:aB H H'):Ext F ad δ.mu H (Nw F H H') ad δ.mu H' where
 same:=Nw.same S.sub
 new:=fun a o e=>by
  unfold Nw at e
  cases q:H a with
  | none=>exact .inr (.inl rfl)
  | some u=>rw[q] at e;exact .inl e
 keep:=fun a o e _ _=>k a o e
 pre:=fun _ _ e=>e
 bR:=fun _ l => .inl l
 gM:=fun a o e=>⟨o,k a o e⟩
theorem SR.own {p:Addr} {o:HO} {ov:OV} (S:SR F ad δ σ H) (hp:H p=none) (h:d5 F ov o):SR F (ad ++ [p]) ⟨δ.sl,δ.mu ++ [some ov]⟩ σ (upd H p o):=by
 have old:∀ {k:Nat} {w:OV},(δ.mu ++ [some ov])[k]? = some (some w)->(k < δ.mu.length /\ δ.mu[k]? = some (some w))\/(k = δ.mu.length/\w=ov):=fun {k w} e=>by
  by_cases c:k < δ.mu.length
  ·rw[Wd c] at e;exact .inl ⟨c,e⟩
  ·have hl:=(oR.mp e).1
   rw[D6,Wt] at hl
   have ek:k = δ.mu.length:=by omega
   subst ek
   rw[Wg (qx _),W7] at e
   exact .inr ⟨rfl,by simpa using e.symm⟩
 have pre:∀ {k:Nat},k < δ.mu.length->(ad ++ [p])[k]? = ad[k]? := fun {k} c=>Wd (by rw[S.bW];exact c)
 have last:(ad ++ [p])[δ.mu.length]? = some p:=by rw[<-S.bW,Wg (qx _),W7];rfl
 have np:∀ {k:Nat} {a:Addr} {w:OV},ad[k]? = some a -> δ.mu[k]? = some (some w)->a≠p:=fun {k a w} e1 e2=>by
  obtain⟨a',u,e3,e4,_⟩:=S.mu k w e2
  rw[e1] at e3;cases e3
  exact cC e4 hp
 refine⟨fun a u e => ?_,fun a l => ?_,by rw[D6,D6,S.bW];rfl,fun k l a w w' e1 e2 e3 e4 => ?_,fun k w e => ?_,fun i x e => ?_,S.len,aE.same S.tab (cX hp),S.nt⟩
 ·have:=S.sub a u e
  rw[aM (cC this hp)];exact this
 ·obtain⟨k,w,e1,e2⟩:=l
  rcases old e2 with⟨c,e3⟩ | ⟨c,e3⟩
  ·rw[pre c] at e1;exact S.off a ⟨k,w,e1,e3⟩
  ·subst c;rw[last] at e1;cases e1
   cases q:F p with
   | none=>rfl
   | some u=>rw[S.sub p u q] at hp;cases hp
 ·rcases old e3 with⟨c,q⟩ | ⟨c,q⟩
  ·rw[pre c] at e1
   rcases old e4 with⟨c',q'⟩ | ⟨c',q'⟩
   ·rw[pre c'] at e2;exact S.inj k l a w w' e1 e2 q q'
   ·subst c';rw[last] at e2;cases e2;exact absurd rfl (np e1 q)
  ·subst c;rw[last] at e1;cases e1
   rcases old e4 with⟨c',q'⟩ | ⟨c',q'⟩
   ·rw[pre c'] at e2;exact absurd rfl (np e2 q')
   ·exact c'.symm
 ·rcases old e with⟨c,q⟩ | ⟨c,q⟩
  ·obtain⟨a,u,e1,e2,h'⟩:=S.mu k w q
   exact⟨a,u,by rw[pre c];exact e1,by rw[aM (np e1 q)];exact e2,h'⟩
  ·subst c;subst q;exact⟨p,o,last,bA,h⟩
 ·obtain⟨v,e1,h'⟩:=S.sl i x e
  refine⟨v,e1,?_⟩
  cases x with
  | p d=>exact h'
  | o k =>
   obtain⟨a,e2,e3⟩:=h'
   exact⟨a,by rw[Wd (oR.mp e2).1];exact e2,e3⟩
theorem Ext.own {p:Addr} {o:HO} {ov:OV} (S:SR F ad δ σ H) (hp:H p=none):Ext F ad δ.mu H F (ad ++ [p]) (δ.mu ++ [some ov]) (upd H p o) where
 same:=fun _ _ e=>e
 new:=fun _ _ e => .inl e
 keep:=fun a u e _ _=>by rw[aM (cC e hp)];exact e
 pre:=fun k a e=>by rw[Wd (oR.mp e).1];exact e
 bR:=fun a l=>by
  obtain⟨k,w,e1,e2⟩:=l
  by_cases c:k < δ.mu.length
  ·rw[Wd c] at e2
   rw[Wd (by rw[S.bW];exact c)] at e1
   exact .inl ⟨k,w,e1,e2⟩
  ·have hl:=(oR.mp e2).1
   rw[D6,Wt] at hl
   have ek:k=ad.length:=by rw[S.bW];omega
   subst ek
   rw[Wg (qx _),W7] at e1
   have:p=a:=by simpa using e1
   subst this;exact .inr hp
 gM:=fun a u e=>⟨u,by rw[aM (cC e hp)];exact e⟩
theorem SR.put {k:Nat} {a:Addr} {o:HO} {ov ow:OV} (S:SR F ad δ σ H) (hk : δ.mu[k]? = some (some ow)) (ha:ad[k]? = some a) (h:d5 F ov o):SR F ad ⟨δ.sl,δ.mu.set k (some ov)⟩ σ (upd H a o):=by
 have kl:=(oR.mp hk).1
 have old:∀ {l:Nat} {w:OV},(δ.mu.set k (some ov))[l]? = some (some w)->(l≠k /\ δ.mu[l]? = some (some w))\/(l=k/\w=ov):=fun {l w} e=>by
  by_cases c:k=l
  ·subst c;rw[Xh kl] at e;exact .inr ⟨rfl,by simpa using e.symm⟩
  ·rw[Xf c] at e;exact .inl ⟨fun z=>c z.symm,e⟩
 have lv:∀ {l:Nat} {w:OV} {b:Addr},ad[l]? = some b->(δ.mu.set k (some ov))[l]? = some (some w)->Lv ad δ.mu b:=fun {l w b} e1 e2=>by
  rcases old e2 with⟨_,q⟩ | ⟨c,_⟩
  ·exact⟨l,w,e1,q⟩
  ·subst c;exact⟨l,ow,e1,hk⟩
 have tk:aE.ok (upd H a o):=by
  obtain⟨a',u,e1,e2,h'⟩:=S.mu k ow hk
  rw[ha] at e1;cases e1
  exact aE.put S.tab e2 h'.kind
 refine⟨fun b u e => ?_,fun b l => ?_,by rw[XR];exact S.bW,fun l l' b w w' e1 e2 e3 e4 => ?_,fun l w e => ?_,fun i x e => ?_,S.len,tk,S.nt⟩
 ·have nb:b≠a:=fun z=>by
   subst z
   rw[S.off b ⟨k,ow,ha,hk⟩] at e;cases e
  rw[aM nb];exact S.sub b u e
 ·obtain⟨l,w,e1,e2⟩:=l
  exact S.off b (lv e1 e2)
 ·have h1:∃ w,δ.mu[l]? = some (some w):=by
   rcases old e3 with⟨_,q⟩ | ⟨c,_⟩
   ·exact⟨_,q⟩
   ·subst c;exact⟨_,hk⟩
  have h2:∃ w,δ.mu[l']? = some (some w):=by
   rcases old e4 with⟨_,q⟩ | ⟨c,_⟩
   ·exact⟨_,q⟩
   ·subst c;exact⟨_,hk⟩
  obtain⟨w1,q1⟩:=h1
  obtain⟨w2,q2⟩:=h2
  exact S.inj l l' b _ _ e1 e2 q1 q2
 ·rcases old e with⟨c,q⟩ | ⟨c,q⟩
  ·obtain⟨b,u,e1,e2,h'⟩:=S.mu l w q
   have nb:b≠a:=fun z=>by subst z;exact c (S.inj l k b _ _ e1 ha q hk)
   exact⟨b,u,e1,by rw[aM nb];exact e2,h'⟩
  ·subst c;subst q;exact⟨a,o,ha,bA,h⟩
 ·exact S.sl i x e
theorem Ext.put {k:Nat} {a:Addr} {o:HO} {ov ow:OV} (S:SR F ad δ σ H) (hk : δ.mu[k]? = some (some ow)) (ha:ad[k]? = some a):Ext F ad δ.mu H F ad (δ.mu.set k (some ov)) (upd H a o) where
 same:=fun _ _ e=>e
 new:=fun _ _ e => .inl e
 keep:=fun b u e n _=>by rw[aM fun z=>n (by subst z;exact⟨k,ow,ha,hk⟩)];exact e
 pre:=fun _ _ e=>e
 bR:=fun b l=>by
  obtain⟨l,w,e1,e2⟩:=l
  by_cases c:k=l
  ·subst c;exact .inl ⟨k,ow,e1,hk⟩
  ·rw[Xf c] at e2;exact .inl ⟨l,w,e1,e2⟩
 gM:=fun b u e=>by
  by_cases c:b=a
  ·subst c;exact⟨o,bA⟩
  ·exact⟨u,by rw[aM c];exact e⟩
theorem SR.fix {k:Nat} {a:Addr} {o:HO} {ow:OV} (S:SR F ad δ σ H) (hk : δ.mu[k]? = some (some ow)) (ha:ad[k]? = some a) (ho:H a=some o):SR (upd F a o) ad ⟨δ.sl,δ.mu.set k none⟩ σ H:=by
 have kl:=(oR.mp hk).1
 have fa:=S.off a ⟨k,ow,ha,hk⟩
 have sm:aB F (upd F a o):=fun b u e=>by rw[aM (cC e fa)];exact e
 have old:∀ {l:Nat} {w:OV},(δ.mu.set k none)[l]? = some (some w)->l≠k /\ δ.mu[l]? = some (some w):=fun {l w} e=>by
  by_cases c:k=l
  ·subst c;rw[Xh kl] at e;cases e
  ·rw[Xf c] at e;exact⟨fun z=>c z.symm,e⟩
 refine⟨fun b u e => ?_,fun b l => ?_,by rw[XR];exact S.bW,fun l l' b w w' e1 e2 e3 e4=>S.inj l l' b w w' e1 e2 (old e3).2 (old e4).2,fun l w e => ?_,fun i x e => ?_,S.len,S.tab,fun b hb => ?_⟩
 ·by_cases c:b=a
  ·subst c;rw[bA] at e;cases e;exact ho
  ·rw[aM c] at e;exact S.sub b u e
 ·obtain⟨l,w,e1,e2⟩:=l
  obtain⟨c,q⟩:=old e2
  have nb:b≠a:=fun z=>by subst z;exact c (S.inj l k b _ _ e1 ha q hk)
  rw[aM nb];exact S.off b ⟨l,w,e1,q⟩
 ·obtain⟨b,u,e1,e2,h'⟩:=S.mu l w (old e).2
  exact⟨b,u,e1,e2,h'.same sm⟩
 ·obtain⟨v,e1,h'⟩:=S.sl i x e
  refine⟨v,e1,?_⟩
  cases x with
  | p d=>exact Is.same sm h'
  | o k=>exact h'
 ·obtain⟨ps,q⟩:=aE.tb S.tab hb
  have nb:b≠a:=fun z=>by
   subst z
   obtain⟨a',u,e1,e2,h'⟩:=S.mu k ow hk
   rw[ha] at e1;cases e1
   rw[q] at e2;cases e2
   rcases h'.kind with⟨_,z⟩ | ⟨_,z⟩<;>cases z
  rw[aM nb];exact S.nt b hb
theorem Ext.fix {k:Nat} {a:Addr} {o:HO} {ow:OV} (S:SR F ad δ σ H) (hk : δ.mu[k]? = some (some ow)) (ha:ad[k]? = some a):Ext F ad δ.mu H (upd F a o) ad (δ.mu.set k none) H where
 same:=fun b u e=>by rw[aM (cC e (S.off a ⟨k,ow,ha,hk⟩))];exact e
 new:=fun b u e=>by
  by_cases c:b=a
  ·subst c;exact .inr (.inr ⟨k,ow,ha,hk⟩)
  ·rw[aM c] at e;exact .inl e
 keep:=fun b u e _ _=>e
 pre:=fun _ _ e=>e
 bR:=fun b l=>by
  obtain⟨l,w,e1,e2⟩:=l
  by_cases c:k=l
  ·subst c;rw[Xh (oR.mp hk).1] at e2;cases e2
  ·rw[Xf c] at e2;exact .inl ⟨l,w,e1,e2⟩
 gM:=fun b u e=>⟨u,e⟩
theorem SR.set {i:Nat} {x:DV} {v:V} (S:SR F ad δ σ H) (h:fE F ad x v):SR F ad ⟨δ.sl.set i (some x),δ.mu⟩ (σ.set i (some v)) H:=by
 refine⟨S.sub,S.off,S.bW,S.inj,S.mu,fun j y e => ?_,by rw[XR,XR];exact S.len,S.tab,S.nt⟩
 by_cases c:i=j
 ·subst c
  have hl:=(oR.mp e).1
  rw[XR] at hl
  rw[Xh hl] at e
  cases e
  exact⟨v,Xh (by rw[S.len];exact hl),h⟩
 ·rw[Xf c] at e
  obtain⟨w,e1,h1⟩:=S.sl j y e
  exact⟨w,by rw[Xf c];exact e1,h1⟩
end
noncomputable abbrev WE:=az->(DV->az->Prop)->Prop
noncomputable abbrev WA:=az->(List DV->az->Prop)->Prop
noncomputable abbrev WT:=az->(Bool->az->Prop)->Prop
noncomputable def dq (F:Hp) (ad:List Addr):List DV->List V->Prop
 | [],vs=>vs=[]
 | x :: xs,vs=>∃ v r,vs=v :: r/\fE F ad x v/\dq F ad xs r
theorem dq.ext {F F' H H':Hp} {ad aG:List Addr} {mu cO:List (Option OV)} (e:Ext F ad mu H F' aG cO H'):∀ {xs:List DV} {vs:List V},dq F ad xs vs->dq F' aG xs vs
 | [],_,h=>h
 | _ :: _,_,⟨v,r,q,h1,h2⟩=>⟨v,r,q,h1.ext e,dq.ext e h2⟩
noncomputable def tD (f:WE):TE:=fun σ H Q=>∃ F ad δ K,SR F ad δ σ H/\f δ K/\∀ x δ',K x δ'->∀ v F' aG H',Ext F ad δ.mu H F' aG δ'.mu H'->SR F' aG δ' σ H'->fE F' aG x v->Q v H'
noncomputable def bL (f:WA):TA:=fun σ H Q=>∃ F ad δ K,SR F ad δ σ H/\f δ K/\∀ xs δ',K xs δ'->∀ vs F' aG H',Ext F ad δ.mu H F' aG δ'.mu H'->SR F' aG δ' σ H'->dq F' aG xs vs->Q vs H'
noncomputable def cP (f:WT):TT:=fun σ H Q=>∃ F ad δ K,SR F ad δ σ H/\f δ K/\∀ b δ',K b δ'->∀ F' aG H',Ext F ad δ.mu H F' aG δ'.mu H'->SR F' aG δ' σ H'->Q b H'
noncomputable def fY (F H:Hp):D->V->Prop
 | .lst ds,v=>∃ a vs,v = .ref a/\H a=some (.lst vs)/\ae F ds vs
 | d,v=>Is F d v
noncomputable def fZ (x:DV) (δ : az) (K:D->Prop):Prop:=match x with
 | .p d=>K d
 | .o k=>match δ.mu[k]? with
  | some (some (.lst ds))=>K (.lst ds)
  | _=>False
theorem fY.of {F H:Hp} (s:aB F H):∀ {d:D} {v:V},Is F d v->fY F H d v
 | .lst _,_,h=>by
  simp only[Is] at h
  obtain⟨a,vs,e,h1,h2⟩:=h
  exact⟨a,vs,e,s _ _ h1,h2⟩
 | .tup _,_,h=>h
 | .non,_,h=>h
 | .bl _,_,h=>h
 | .int _,_,h=>h
 | .str _,_,h=>h
theorem fY.is {F H:Hp} (s:aB F H):∀ {d:D} {v:V},fY F H d v->Is H d v
 | .lst _,_,h=>by
  obtain⟨a,vs,e,h1,h2⟩:=h
  simp only[Is]
  exact⟨a,vs,e,h1,h2.same s⟩
 | .tup _,_,h=>Is.same s h
 | .non,_,h=>Is.same s h
 | .bl _,_,h=>Is.same s h
 | .int _,_,h=>Is.same s h
 | .str _,_,h=>Is.same s h
theorem iL {F H:Hp} {ad:List Addr} {δ : az} {σ : St} {x:DV} {v:V} {K:D->Prop} (S:SR F ad δ σ H) (hv:fE F ad x v) (h:fZ x δ K):∃ d,K d/\fY F H d v:=by
 cases x with
 | p d=>exact⟨d,h,fY.of S.sub hv⟩
 | o k =>
  unfold fZ at h
  dsimp only at h
  split at h
  ·rename_i ds e
   obtain⟨a,e1,rfl⟩:=hv
   obtain⟨a',o,e2,e3,vs,rfl,h4⟩:=S.mu k _ e
   rw[e1] at e2;cases e2
   exact⟨_,h,a,vs,rfl,e3,h4⟩
  ·exact h.elim
noncomputable def i_:List DV->az->(List D->Prop)->Prop
 | [],_,K=>K []
 | x :: xs,δ,K=>fZ x δ fun d=>i_ xs δ fun ds=>K (d :: ds)
noncomputable def f6 (F H:Hp):List D->List V->Prop
 | [],vs=>vs=[]
 | d :: ds,vs=>∃ v r,vs=v :: r/\fY F H d v/\f6 F H ds r
theorem s_ {F H:Hp} {ad:List Addr} {δ : az} {σ : St} (S:SR F ad δ σ H):∀ {xs:List DV} {vs:List V} {K:List D->Prop},dq F ad xs vs->i_ xs δ K->∃ ds,K ds/\f6 F H ds vs
 | [],_,_,hv,h=>⟨[],h,hv⟩
 | x :: xs,_,_,⟨v,r,rfl,h1,h2⟩,h=>by
  obtain⟨d,h',rd⟩:=iL S h1 h
  obtain⟨ds,qC,jX⟩:=s_ S h2 h'
  exact⟨d :: ds,qC,v,r,rfl,rd,jX⟩
noncomputable abbrev Made (F H:Hp) (K:D->Prop) (Q:VK):Prop:=∀ z v H',K z->aB H H'->Is (Nw F H H') z v->Q v H'
noncomputable def dO (X:Cx) (f:Value->Value->Sem Value) (g:D->D->(D->Prop)->Prop):Prop :=
 cA X f fun x y H Q=>∃ F d e K,aB F H/\fY F H d x/\fY F H e y/\g d e K/\Made F H K Q
noncomputable def EN (X:Cx) (g:D->D->(D->Prop)->Prop):Prop :=
 qv X fun x y H Q=>∃ F d e K,aB F H/\fY F H d x/\fY F H e y/\g d e K/\Made F H K Q
noncomputable def cH (X:Cx) (f:Value) (g:List D->(D->Prop)->Prop):Prop :=
 eN X f fun xs H Q=>∃ F ds K,aB F H/\f6 F H ds xs/\g ds K/\Made F H K Q
noncomputable def d2 (f g:WE) (op:D->D->(D->Prop)->Prop):WE:=fun δ K=>f δ fun x δ1=>g δ1 fun y δ2=>fZ x δ2 fun d=>fZ y δ2 fun e=>op d e fun z=>K (.p z) δ2
noncomputable def d1 (f:WE) (op:D->(D->Prop)->Prop):WE:=fun δ K=>f δ fun x δ1=>fZ x δ1 fun d=>op d fun z=>K (.p z) δ1
noncomputable def dN (f:WA) (op:List D->(D->Prop)->Prop):WE:=fun δ K=>f δ fun xs δ1=>i_ xs δ1 fun ds=>op ds fun z=>K (.p z) δ1
noncomputable def dC (d:D):WE:=fun δ K=>K (.p d) δ
noncomputable def aa (i:Nat):WE:=fun δ K=>match δ.sl[i]? with
 | some (some x)=>K x δ
 | _=>False
noncomputable def af:WA:=fun δ K=>K [] δ
noncomputable def ai (f:WE) (g:WA):WA:=fun δ K=>f δ fun x δ1=>g δ1 fun xs δ2=>K (x :: xs) δ2
section
variable {X:Cx} {a b c:Expr} {f g h:WE} {fa:WA} {pos:Pos}
theorem vI {e:Expr} {d:D} {v:V} (h:JE X e (tC v)) (hi:∀ F,Is F d v):JE X e (tD (dC d)):=h.weak fun σ H Q h0_ => el7 h0_ fun F ad δ K S q k =>k _ _ q _ _ _ _ .refl S (hi F)
theorem av {i j pos}:JE X (.Constant (.int i) j pos) (tD (dC (.int i))):=vI cG fun _=>rfl
theorem gn {i j pos}:JE X (.Constant (.bool i) j pos) (tD (dC (.bl i))):=vI M8 fun _=>rfl
theorem qD {j pos}:JE X (.Constant .none j pos) (tD (dC .non)):=vI M9 fun _=>rfl
theorem NU {x:Str} {i:Int} {u:Value} {pos:Pos} (hg:Gl X x) (hm:X.mg x=some u) (r:RelV (.int i) u) (hd:(x == ("__debug__" : Str))=false:=by decide):JE X (.Name x pos) (tD (dC (.int i))):=vI (M_ hg hm r hd) fun _=>rfl
theorem dv (i:Nat) {x:Str} {pos:Pos} (hN:X.N[i]? = some x:=by rfl) (hv:nZ X.env.scope x:=by first | exact Or.inl rfl | exact Or.inr (Or.inl rfl) | exact Or.inr (Or.inr rfl))
  (hd:(x == ("__debug__" : Str))=false:=by decide) (d7:(x == ("__classdict__" : Str))=false:=by decide):JE X (.Name x pos) (tD (aa i)) :=
 (M7 hN hv hd d7).weak fun σ H Q h0_ => el7 h0_ fun F ad δ K S q k =>by
  unfold aa at q
  split at q
  ·rename_i x e
   obtain⟨v,e1,h1⟩:=S.sl i x e
   exact⟨v,e1,k _ _ q _ _ _ _ .refl S h1⟩
  ·exact q.elim
theorem vJ {r:R2} {ta tb:TE} {op:D->D->(D->Prop)->Prop} (hr:∀ x y H Q,(∃ F d e K,aB F H/\fY F H d x/\fY F H e y/\op d e K/\Made F H K Q)->r x y H Q):∀ σ H Q,tD (d2 f g op) σ H Q->lD r (tD f) (tD g) σ H Q:=by
 rintro σ H Q ⟨F,ad,δ,K,S,q,k⟩
 refine⟨F,ad,δ,_,S,q,fun x δ1 h1 v1 F1 aK H1 E1 S1 V1=>⟨F1,aK,δ1,_,S1,h1,fun y δ2 h2 v2 F2 bT H2 E2 S2 V2=>hr _ _ _ _ ?_⟩⟩
 obtain⟨d,h3,rd⟩:=iL S2 (V1.ext E2) h2
 obtain⟨e,h4,re⟩:=iL S2 V2 h3
 exact⟨F2,d,e,_,S2.sub,rd,re,h4,fun z v H' hz sm is=>k _ _ hz _ _ _ _ ((E1.trans E2).trans (Ext.al S2 sm)) (S2.al sm) is⟩
theorem bh {op:Operator} {o:D->D->(D->Prop)->Prop} (ho:dO X (binaryOp op) o) (ha:JE X a (tD f)) (hb:JE X b (tD g)):JE X (.BinOp a op b pos) (tD (d2 f g o)) :=
 (sX ho ha hb).weak (vJ (ta:=tD f) (tb:=tD g) fun _ _ _ _ h=>h)
theorem iM {op:CmpOp} {o:D->D->(D->Prop)->Prop} (ho:dO X (compareOp op) o) (ha:JE X a (tD f)) (hb:JE X b (tD g)) (hm:behindInMarks op b=false):JE X (.Compare a [op] [b] pos) (tD (d2 f g o)) :=
 (Nt ho ha hb hm).weak (vJ (ta:=tD f) (tb:=tD g) fun _ _ _ _ h=>h)
theorem aV {o:D->D->(D->Prop)->Prop} (ho:EN X o) (ha:JE X a (tD f)) (hb:JE X b (tD g)) (hs:yp b):JE X (.Subscript a b pos) (tD (d2 f g o)) :=
 (Eu ho ha hb hs).weak (vJ (ta:=tD f) (tb:=tD g) fun _ _ _ _ h=>h)
theorem ay:JA X [] (bL af):=bo.weak fun σ H Q h0_ => el7 h0_ fun F ad δ K S q k =>k _ _ q _ _ _ _ .refl S rfl
theorem qE:∀ σ H Q,bL (ai f fa) σ H Q->eO (tD f) (bL fa) σ H Q:=by
 rintro σ H Q ⟨F,ad,δ,K,S,q,k⟩
 exact⟨F,ad,δ,_,S,q,fun x δ1 h1 v1 F1 aK H1 E1 S1 V1=>⟨F1,aK,δ1,_,S1,h1,fun xs δ2 h2 vs F2 bT H2 E2 S2 V2=>k _ _ h2 _ _ _ _ (E1.trans E2) S2 ⟨v1,vs,rfl,V1.ext E2,V2⟩⟩⟩
theorem dP {e:Expr} {es:List Expr} (ha:JE X e (tD f)) (hr:JA X es (bL fa)) (hs:starEach (e :: es) X.env=(false,eval e X.env) :: starEach es X.env:=by rfl):JA X (e :: es) (bL (ai f fa)):=(oX ha hr hs).weak qE
theorem a5 {es:List Expr} {c j p} (ha:JE X (.Constant c j p) (tD f)) (hr:JA X es (bL fa)):JA X (.Constant c j p :: es) (bL (ai f fa)):=(y_ ha hr).weak qE
theorem ag {es:List Expr} {x p} (ha:JE X (.Name x p) (tD f)) (hr:JA X es (bL fa)):JA X (.Name x p :: es) (bL (ai f fa)):=(ib ha hr).weak qE
theorem bU {es:List Expr} {x y k p} (ha:JE X (.Call x y k p) (tD f)) (hr:JA X es (bL fa)):JA X (.Call x y k p :: es) (bL (ai f fa)):=(ie ha hr).weak qE
theorem o5 {es:List Expr} {x k p} (ha:JE X (.Tuple x k p) (tD f)) (hr:JA X es (bL fa)):JA X (.Tuple x k p :: es) (bL (ai f fa)):=(zb ha hr).weak qE
theorem a9 {es:List Expr} {x k p} (ha:JE X (.Subscript x k p) (tD f)) (hr:JA X es (bL fa)):JA X (.Subscript x k p :: es) (bL (ai f fa)):=(zc ha hr).weak qE
theorem EO {r:List V->Hp->VK->Prop} {op:List D->(D->Prop)->Prop} (hr:∀ xs H Q,(∃ F ds K,aB F H/\f6 F H ds xs/\op ds K/\Made F H K Q)->r xs H Q):∀ σ H Q,tD (dN fa op) σ H Q->oC r (bL fa) σ H Q:=by
 rintro σ H Q ⟨F,ad,δ,K,S,q,k⟩
 refine⟨F,ad,δ,_,S,q,fun xs δ1 h1 vs F1 aK H1 E1 S1 V1=>hr _ _ _ ?_⟩
 obtain⟨ds,h2,jX⟩:=s_ S1 V1 h1
 exact⟨F1,ds,_,S1.sub,jX,h2,fun z v H' hz sm is=>k _ _ hz _ _ _ _ (E1.trans (Ext.al S1 sm)) (S1.al sm) is⟩
theorem fh {x:Str} {p:Pos} {e:Expr} {es:List Expr} {id:String} {o:List D->(D->Prop)->Prop} (hc:cH X (.builtin id) o) (hg:Gl X x) (hm:X.mg x=none) (hv:bootBuiltins x=some (.builtin id)) (ha:JA X (e :: es) (bL fa)) (hn:x ≠ "__name__" := by decide) (dS:(x == ("__debug__" : Str))=false:=by decide)
  (he:starEach (e :: es) X.env=(false,eval e X.env) :: starEach es X.env:=by rfl) (dM:(backTo pos (starEach es X.env)).any (·.1)=false:=by rfl):JE X (.Call (.Name x p) (e :: es) [] pos) (tD (dN fa o)) :=
 (vC hc hg hm hv ha hn dS he dM).weak (EO fun _ _ _ h=>h)
theorem zp {x:Str} {p:Pos} {e:Expr} {es:List Expr} {T:String} {o:List D->(D->Prop)->Prop} (hc:cH X (.type T) o) (hg:Gl X x) (hm:X.mg x=none) (hv:bootBuiltins x=some (.type T)) (ha:JA X (e :: es) (bL fa)) (hn:x ≠ "__name__" := by decide) (dS:(x == ("__debug__" : Str))=false:=by decide)
  (he:starEach (e :: es) X.env=(false,eval e X.env) :: starEach es X.env:=by rfl) (dM:(backTo pos (starEach es X.env)).any (·.1)=false:=by rfl):JE X (.Call (.Name x p) (e :: es) [] pos) (tD (dN fa o)) :=
 (lR hc hg hm hv ha hn dS he dM).weak (EO fun _ _ _ h=>h)
end
noncomputable def ER (k:Nat) (ds:List D):Option DV->Option DV
 | some (.o j)=>if j=k then some (.p (.lst ds)) else some (.o j)
 | s=>s
noncomputable def az.fix (δ : az) (k:Nat) (ds:List D):az:=⟨δ.sl.map (ER k ds),δ.mu.set k none⟩
noncomputable def lT (x:DV) (δ : az) (K:D->az->Prop):Prop:=match x with
 | .p d=>K d δ
 | .o k=>match δ.mu[k]? with
  | some (some (.lst ds))=>K (.lst ds) (δ.fix k ds)
  | _=>False
noncomputable def ja:List DV->az->(List D->az->Prop)->Prop
 | [],δ,K=>K [] δ
 | x :: xs,δ,K=>lT x δ fun d δ1=>ja xs δ1 fun ds δ2=>K (d :: ds) δ2
section
variable {F F' H H':Hp} {ad aG:List Addr} {δ δ':az} {σ σ':St}
theorem SR.fixed {k:Nat} {a:Addr} {vs:List V} {ds:List D} (S:SR F ad δ σ H) (hk : δ.mu[k]? = some (some (.lst ds))) (ha:ad[k]? = some a) (ho:H a=some (.lst vs)) (hi:ae F ds vs):SR (upd F a (.lst vs)) ad (δ.fix k ds) σ H:=by
 have S1:=S.fix hk ha ho
 have sm:aB F (upd F a (.lst vs)):=(Ext.fix (o := .lst vs) S hk ha).same
 refine⟨S1.sub,S1.off,S1.bW,S1.inj,S1.mu,fun i x e => ?_,by rw[S.len];unfold az.fix;rw[oS],S1.tab,S1.nt⟩
 unfold az.fix at e
 rw[D8] at e
 obtain⟨s,e1,e2⟩:=VI.mp e
 match s,e2 with
 | none,e2=>cases e2
 | some (.p d),e2 =>
  cases (show some (DV.p d)=some x from e2)
  exact S1.sl i _ e1
 | some (.o j),e2 =>
  have e3:(if j=k then some (DV.p (.lst ds)) else some (DV.o j))=some x:=e2
  clear e2
  obtain⟨v,h1,a',h2,h3⟩:=S.sl i _ e1
  by_cases c:j=k
  ·rw[We c] at e3
   subst c
   cases e3
   rw[ha] at h2;cases h2
   refine⟨v,h1,?_⟩
   show Is _ (.lst ds) v
   simp only[Is]
   exact⟨a,vs,h3,bA,hi.same sm⟩
  ·rw[VG c] at e3
   cases e3
   exact⟨v,h1,a',h2,h3⟩
theorem tj {x:DV} {v:V} {K:D->az->Prop} (S:SR F ad δ σ H) (hv:fE F ad x v) (h:lT x δ K):∃ d δ' F',K d δ'/\Ext F ad δ.mu H F' ad δ'.mu H/\SR F' ad δ' σ H/\Is F' d v:=by
 cases x with
 | p d=>exact⟨d,δ,F,h,.refl,S,hv⟩
 | o k =>
  unfold lT at h
  dsimp only at h
  split at h
  ·rename_i ds e
   obtain⟨a,e1,rfl⟩:=hv
   obtain⟨a',o,e2,e3,vs,rfl,h4⟩:=S.mu k _ e
   rw[e1] at e2;cases e2
   refine⟨_,_,_,h,Ext.fix S e e1,S.fixed e e1 e3 h4,?_⟩
   simp only[Is]
   exact⟨a,vs,rfl,bA,h4.same (Ext.fix (o := .lst vs) S e e1).same⟩
  ·exact h.elim
theorem vK:∀ {xs:List DV} {vs:List V} {δ : az} {F:Hp} {K:List D->az->Prop},SR F ad δ σ H->dq F ad xs vs->ja xs δ K->∃ ds δ' F',K ds δ'/\Ext F ad δ.mu H F' ad δ'.mu H/\SR F' ad δ' σ H/\ae F' ds vs
 | [],_,δ,F,_,S,hv,h=>⟨[],δ,F,h,.refl,S,by simp only[ae];exact hv⟩
 | x :: xs,_,δ,F,_,S,⟨v,r,e,h1,h2⟩,h=>by
  subst e
  obtain⟨d,δ1,F1,h',E1,S1,i1⟩:=tj S h1 h
  obtain⟨ds,δ2,F2,qC,E2,S2,i2⟩:=vK S1 (h2.ext E1) h'
  exact⟨d :: ds,δ2,F2,qC,E1.trans E2,S2,.cons (i1.same E2.same) i2⟩
end
noncomputable def dr (fa:WA):WE:=fun δ K=>fa δ fun xs δ1=>ja xs δ1 fun ds δ2=>ds.length <= 1000/\K (.p (.tup ds)) δ2
noncomputable def eF (fa:WA):WE:=fun δ K=>fa δ fun xs δ1=>ja xs δ1 fun ds δ2=>ds.length <= 1000/\K (.p (.lst ds)) δ2
noncomputable def qF (fa:WA):WE:=fun δ K=>fa δ fun xs δ1=>ja xs δ1 fun ds δ2=>ds.length <= 1000/\K (.o δ2.mu.length) ⟨δ2.sl,δ2.mu ++ [some (.lst ds)]⟩
section
variable {X:Cx} {a b c:Expr} {es:List Expr} {f g h:WE} {fa:WA} {t u:WT} {pos:Pos}
theorem jY {n:Nat} (h:n <= 1000):n <= sizeLine:=XM (lP h)
theorem jG {x1} (ha:JA X es (bL fa)):JE X (.Tuple es x1 pos) (tD (dr fa)):=(Nx ha).weak fun σ H Q h0_ => el7 h0_ fun F ad δ K S q k =>
 ⟨F,ad,δ,_,S,q,fun xs δ1 h1 vs F1 aK H1 E1 S1 V1=>by
  obtain⟨ds,δ2,F2,⟨hl,h2⟩,E2,S2,i2⟩:=vK S1 V1 h1
  refine⟨jY (by rw[i2.length];exact hl),fun p hp => ?_⟩
  have sm:aB H1 (upd H1 p (.tup vs)):=cX hp
  refine k _ _ h2 _ _ _ _ ((E1.trans E2).trans (Ext.al S2 sm)) (S2.al sm) ?_
  show Is _ (.tup ds) _
  simp only[Is]
  rw[Nw.upd S2.sub hp]
  refine⟨p,vs,rfl,bA,i2.same fun b o e => ?_⟩
  rw[aM (cC (S2.sub b o e) hp)];exact e⟩
theorem mX (ha:JA X es (bL fa)):JE X (.List es pos) (tD (eF fa)):=(vA ha).weak fun σ H Q h0_ => el7 h0_ fun F ad δ K S q k =>
 ⟨F,ad,δ,_,S,q,fun xs δ1 h1 vs F1 aK H1 E1 S1 V1=>by
  obtain⟨ds,δ2,F2,⟨hl,h2⟩,E2,S2,i2⟩:=vK S1 V1 h1
  refine⟨jY (by rw[i2.length];exact hl),fun p hp => ?_⟩
  have sm:aB H1 (upd H1 p (.lst vs)):=cX hp
  refine k _ _ h2 _ _ _ _ ((E1.trans E2).trans (Ext.al S2 sm)) (S2.al sm) ?_
  show Is _ (.lst ds) _
  simp only[Is]
  rw[Nw.upd S2.sub hp]
  refine⟨p,vs,rfl,bA,i2.same fun b o e => ?_⟩
  rw[aM (cC (S2.sub b o e) hp)];exact e⟩
theorem vL (ha:JA X es (bL fa)):JE X (.List es pos) (tD (qF fa)):=(vA ha).weak fun σ H Q h0_ => el7 h0_ fun F ad δ K S q k =>
 ⟨F,ad,δ,_,S,q,fun xs δ1 h1 vs F1 aK H1 E1 S1 V1=>by
  obtain⟨ds,δ2,F2,⟨hl,h2⟩,E2,S2,i2⟩:=vK S1 V1 h1
  refine⟨jY (by rw[i2.length];exact hl),fun p hp => ?_⟩
  have oi:d5 F2 (.lst ds) (.lst vs):=⟨vs,rfl,i2⟩
  refine k _ _ h2 _ _ _ _ ((E1.trans E2).trans (Ext.own S2 hp)) (S2.own hp oi) ⟨p,?_,rfl⟩
  rw[<-S2.bW,Wg (qx _),W7];rfl⟩
noncomputable def qG (x:DV) (P:Bool->Prop):Prop:=match x with
 | .p (.bl b)=>P b
 | _=>False
noncomputable def dT (f:WE):WT:=fun δ K=>f δ fun x δ1=>qG x fun b=>K b δ1
noncomputable def gN (t u:WT):WT:=fun δ K=>t δ fun b δ1=>if b=true then u δ1 K else K false δ1
noncomputable def mY (t u:WT):WT:=fun δ K=>t δ fun b δ1=>if b=true then K true δ1 else u δ1 K
noncomputable def cQ (t:WT):WT:=fun δ K=>t δ fun b δ1=>K (!b) δ1
noncomputable def zq (t:WT) (f g:WE):WE:=fun δ K=>t δ fun b δ1=>if b=true then f δ1 K else g δ1 K
noncomputable def kU (f g:WE):WE:=fun δ K=>f δ fun x δ1=>qG x fun b=>if b=true then g δ1 K else K (.p (.bl false)) δ1
noncomputable def zr (f:WE):WE:=fun δ K=>f δ fun x δ1=>qG x fun b=>K (.p (.bl (!b))) δ1
theorem tu {F:Hp} {ad:List Addr} {x:DV} {v:V} {P:Bool->Prop} (hv:fE F ad x v) (h:qG x P):∃ b,v = .bl b/\P b:=by
 unfold qG at h
 split at h
 ·rename_i b
  exact⟨b,hv,h⟩
 ·exact h.elim
theorem g9 (ha:JE X a (tD f)) (he:∀ whole,isTrue a X.env whole=(do let v <- whole;standAt a.pos;holding [v] (truthy v)):=by intro _;rfl):JT X a (cP (dT f)) :=
 (Nd ha he).weak fun σ H Q h0_ => el7 h0_ fun F ad δ K S q k =>⟨F,ad,δ,_,S,q,fun x δ1 h1 v F1 aK H1 E1 S1 V1=>by
  obtain⟨b,rfl,h2⟩:=tu V1 h1
  exact⟨b,rfl,k _ _ h2 _ _ _ E1 S1⟩⟩
theorem cf {op:CmpOp} {o:D->D->(D->Prop)->Prop} (ho:dO X (compareOp op) o) (ha:JE X a (tD f)) (hb:JE X b (tD g)) (hm:behindInMarks op b=false):JT X (.Compare a [op] [b] pos) (cP (dT (d2 f g o))) :=
 (Nu ho ha hb hm).weak fun σ H Q h0_ => el7 h0_ fun F ad δ K S q k =>vJ (ta:=tD f) (tb:=tD g) (fun _ _ _ _ h=>h) σ H _ ⟨F,ad,δ,_,S,q,fun x δ1 h1 v F1 aK H1 E1 S1 V1=>by
  obtain⟨b,rfl,h2⟩:=tu V1 h1
  exact⟨b,rfl,k _ _ h2 _ _ _ E1 S1⟩⟩
theorem iN (ha:JT X a (cP t)):JT X (.UnaryOp .Not a pos) (cP (cQ t)):=(Nj ha).weak fun σ H Q h0_ => el7 h0_ fun F ad δ K S q k =>⟨F,ad,δ,_,S,q,fun b δ1 h1 F1 aK H1 E1 S1=>k _ _ h1 _ _ _ E1 S1⟩
theorem NV:∀ σ H Q,cP (gN t u) σ H Q->n8 (cP t) (cP u) σ H Q:=fun σ H Q h0_ => el7 h0_ fun F ad δ K S q k =>⟨F,ad,δ,_,S,q,fun b δ1 h1 F1 aK H1 E1 S1=>by
 cases b with
 | true =>
  rw[We rfl] at h1 ⊢
  exact⟨F1,aK,δ1,_,S1,h1,fun b δ2 h2 F2 bT H2 E2 S2=>k _ _ h2 _ _ _ (E1.trans E2) S2⟩
 | false =>
  rw[VG Wf] at h1 ⊢
  exact k _ _ h1 _ _ _ E1 S1⟩
theorem NW:∀ σ H Q,cP (mY t u) σ H Q->xZ (cP t) (cP u) σ H Q:=fun σ H Q h0_ => el7 h0_ fun F ad δ K S q k =>⟨F,ad,δ,_,S,q,fun b δ1 h1 F1 aK H1 E1 S1=>by
 cases b with
 | false =>
  rw[VG Wf] at h1 ⊢
  exact⟨F1,aK,δ1,_,S1,h1,fun b δ2 h2 F2 bT H2 E2 S2=>k _ _ h2 _ _ _ (E1.trans E2) S2⟩
 | true =>
  rw[We rfl] at h1 ⊢
  exact k _ _ h1 _ _ _ E1 S1⟩
theorem JW.weak {e:Expr} {t t':TT} (h:JW X e t) (k:∀ σ H Q,t' σ H Q->t σ H Q):JW X e t':=⟨fun wh pins s σ H Q I q=>h.out wh pins s σ H Q I (k σ H Q q)⟩
theorem vM (ha:JT X a (cP t)):JW X (.BoolOp .And [a] pos) (cP t):=Nf ha
theorem vN (ha:JT X a (cP t)):JW X (.BoolOp .Or [a] pos) (cP t):=Ng ha
theorem vO {rest:List Expr} (ha:JT X a (cP t)) (hb:JW X (.BoolOp .And (b :: rest) pos) (cP u)):JW X (.BoolOp .And (a :: b :: rest) pos) (cP (gN t u)):=(Nh ha hb).weak NV
theorem tE {rest:List Expr} (ha:JT X a (cP t)) (hb:JW X (.BoolOp .Or (b :: rest) pos) (cP u)):JW X (.BoolOp .Or (a :: b :: rest) pos) (cP (mY t u)):=(Ni ha hb).weak NW
theorem mZ {op} (ha:JE X a (tD f)):JE X (.BoolOp op [a] pos) (tD f):=Nk ha
theorem m8 {rest:List Expr} (ha:JE X a (tD f)) (hb:JE X (.BoolOp .And (b :: rest) pos) (tD g)):JE X (.BoolOp .And (a :: b :: rest) pos) (tD (kU f g)) :=
 (Nl ha hb).weak fun σ H Q h0_ => el7 h0_ fun F ad δ K S q k =>⟨F,ad,δ,_,S,q,fun x δ1 h1 v F1 aK H1 E1 S1 V1=>by
  obtain⟨b,rfl,h2⟩:=tu V1 h1
  refine⟨b,rfl,?_⟩
  cases b with
  | true =>
   rw[We rfl] at h2 ⊢
   exact⟨F1,aK,δ1,_,S1,h2,fun x δ2 h3 v F2 bT H2 E2 S2 V2=>k _ _ h3 _ _ _ _ (E1.trans E2) S2 V2⟩
  | false =>
   rw[VG Wf] at h2 ⊢
   exact k _ _ h2 _ _ _ _ E1 S1 rfl⟩
theorem NX (ha:JE X a (tD f)):JE X (.UnaryOp .Not a pos) (tD (zr f)) :=
 (Nm ha).weak fun σ H Q h0_ => el7 h0_ fun F ad δ K S q k =>⟨F,ad,δ,_,S,q,fun x δ1 h1 v F1 aK H1 E1 S1 V1=>by
  obtain⟨b,rfl,h2⟩:=tu V1 h1
  exact⟨b,rfl,k _ _ h2 _ _ _ _ E1 S1 rfl⟩⟩
theorem NY (hc:JT X c (cP t)) (ha:JE X a (tD f)) (hb:JE X b (tD g)):JE X (.IfExp c a b pos) (tD (zq t f g)) :=
 (Nn hc ha hb).weak fun σ H Q h0_ => el7 h0_ fun F ad δ K S q k =>⟨F,ad,δ,_,S,q,fun b δ1 h1 F1 aK H1 E1 S1=>by
  cases b with
  | true =>
   rw[We rfl] at h1 ⊢
   exact⟨F1,aK,δ1,_,S1,h1,fun x δ2 h3 v F2 bT H2 E2 S2 V2=>k _ _ h3 _ _ _ _ (E1.trans E2) S2 V2⟩
  | false =>
   rw[VG Wf] at h1 ⊢
   exact⟨F1,aK,δ1,_,S1,h1,fun x δ2 h3 v F2 bT H2 E2 S2 V2=>k _ _ h3 _ _ _ _ (E1.trans E2) S2 V2⟩⟩
end
structure KS where
 nx:az->Prop
 rt:DV->az->Prop
 bk:az->Prop:=fun _=>False
 ct:az->Prop:=fun _=>False
noncomputable abbrev WS:=KS->az->Prop
noncomputable def Cn (F:Hp) (ad:List Addr) (mu:List (Option OV)) (H:Hp) (P:az->Prop) (R:St->Hp->Prop):Prop:=∀ δ',P δ'->∀ F' aG σ' H',Ext F ad mu H F' aG δ'.mu H'->SR F' aG δ' σ' H'->R σ' H'
structure vP (F:Hp) (ad:List Addr) (mu:List (Option OV)) (H:Hp) (K:KS) (D:Ends):Prop where
 nx:Cn F ad mu H K.nx D.nx
 bk:Cn F ad mu H K.bk D.bk
 ct:Cn F ad mu H K.ct D.ct
 rt:∀ x δ',K.rt x δ'->∀ v F' aG σ' H',Ext F ad mu H F' aG δ'.mu H'->SR F' aG δ' σ' H'->fE F' aG x v->D.rt v H'
theorem Cn.ext {F F' H H':Hp} {ad aG:List Addr} {mu cO:List (Option OV)} {P:az->Prop} {R:St->Hp->Prop} (c:Cn F ad mu H P R) (e:Ext F ad mu H F' aG cO H'):Cn F' aG cO H' P R:=fun δ' h _ _ _ _ E S=>c δ' h _ _ _ _ (e.trans E) S
theorem vP.ext {F F' H H':Hp} {ad aG:List Addr} {mu cO:List (Option OV)} {K:KS} {D:Ends} (c:vP F ad mu H K D) (e:Ext F ad mu H F' aG cO H'):vP F' aG cO H' K D :=
 ⟨c.nx.ext e,c.bk.ext e,c.ct.ext e,fun x δ' h _ _ _ _ _ E S V=>c.rt x δ' h _ _ _ _ _ (e.trans E) S V⟩
noncomputable def dH (G:WS):TS:=fun D σ H=>∃ F ad δ K,SR F ad δ σ H/\G K δ /\ vP F ad δ.mu H K D
noncomputable def au (G G':WS):WS:=fun K δ => G { K with nx:=G' K } δ
noncomputable def cR:WS:=fun K δ => K.nx δ
noncomputable def aC (i:Nat) (f:WE):WS:=fun K δ => f δ fun x δ1=>K.nx ⟨δ1.sl.set i (some x),δ1.mu⟩
noncomputable def jc (f:WE):WS:=fun K δ => f δ fun _ δ1=>K.nx δ1
noncomputable def aF (f:WE):WS:=fun K δ => f δ fun x δ1=>K.rt x δ1
noncomputable def a_ (t:WT) (G G':WS):WS:=fun K δ => t δ fun b δ1=>if b=true then G K δ1 else G' K δ1
section
variable {X:Cx} {e c:Expr} {st:Stmt} {rest:List Stmt} {f:WE} {t:WT} {G G':WS} {pos:Pos}
theorem c8:eC X [] (dH cR):=lQ.weak fun D σ H h0_ => el7 h0_ fun F ad δ K S q k =>k.nx _ q _ _ _ _ .refl S
theorem aX (h:JS X st (dH G)):eC X [st] (dH G):=sT h
theorem aO (h:JS X st (dH G)) (r:eC X rest (dH G')):eC X (st :: rest) (dH (au G G')) :=
 (oW h r).weak fun D σ H h0_ => el7 h0_ fun F ad δ K S q k =>⟨F,ad,δ,_,S,q,⟨fun δ' h _ _ _ _ E S'=>⟨_,_,δ',K,S',h,k.ext E⟩,k.bk,k.ct,k.rt⟩⟩
theorem NZ {i:Nat}:∀ D σ H,dH (aC i f) D σ H->fR (tD f) (kO i) D σ H:=fun D σ H h0_ => el7 h0_ fun F ad δ K S q k =>⟨F,ad,δ,_,S,q,fun x δ1 h1 v F1 aK H1 E1 S1 V1=>k.nx _ h1 _ _ _ _ E1 (S1.set V1)⟩
theorem bD {i:Nat} {x:Str} {pos':Pos} (hN:X.N.Nodup) (hi:X.N[i]? = some x) (hx:Loc X.env.scope x) (he:JE X e (tD f)) (hs:swapsWith e (some (.Name x pos')) pos.line X.env=pure false:=by rfl)
  (hf:X.fn x=true\/X.env.scope.names.lookup x=some .local:=by first | exact .inl rfl | exact .inr rfl | assumption):JS X (.Assign [.Name x pos'] e pos) (dH (aC i f)):=(vz hN hi hx he hs hf).weak NZ
theorem jZ (he:JE X e (tD f)) (hs:swapsWith e none pos.line X.env=pure false:=by rfl):JS X (.Expr e pos) (dH (jc f)) :=
 (Et he hs).weak fun D σ H h0_ => el7 h0_ fun F ad δ K S q k =>⟨F,ad,δ,_,S,q,fun x δ1 h1 v F1 aK H1 E1 S1 V1=>k.nx _ h1 _ _ _ _ E1 S1⟩
theorem bx (he:JE X e (tD f)):JS X (.Return (some e) pos) (dH (aF f)) :=
 (y6 he).weak fun D σ H h0_ => el7 h0_ fun F ad δ K S q k =>⟨F,ad,δ,_,S,q,fun x δ1 h1 v F1 aK H1 E1 S1 V1=>k.rt _ _ h1 _ _ _ _ _ E1 S1 V1⟩
theorem cY {a b:List Stmt} (hc:JT X c (cP t)) (ha:eC X a (dH G)) (hb:eC X b (dH G')):JS X (.If c a b pos) (dH (a_ t G G')) :=
 (Np hc ha hb).weak fun D σ H h0_ => el7 h0_ fun F ad δ K S q k =>⟨F,ad,δ,_,S,q,fun b δ1 h1 F1 aK H1 E1 S1=>by
  cases b with
  | true =>
   rw[We rfl] at h1 ⊢
   exact⟨F1,aK,δ1,K,S1,h1,k.ext E1⟩
  | false =>
   rw[VG Wf] at h1 ⊢
   exact⟨F1,aK,δ1,K,S1,h1,k.ext E1⟩⟩
noncomputable def o6:WS:=fun _ _=>False
noncomputable abbrev WG:=DV->az->(az->Prop)->Prop
noncomputable def j2 (g:WG):TG:=fun v σ H Q=>∃ F ad δ x K,SR F ad δ σ H/\fE F ad x v/\g x δ K/\Cn F ad δ.mu H K Q
noncomputable abbrev o7:=List D->az->(az->Prop)->Prop
noncomputable def lU (g:o7):iF:=fun vs σ H Q=>∃ F ad δ ds K,SR F ad δ σ H/\ae F ds vs/\g ds δ K/\Cn F ad δ.mu H K Q
noncomputable def bE (i:Nat):WG:=fun x δ K=>K ⟨δ.sl.set i (some x),δ.mu⟩
noncomputable def j3:o7:=fun ds δ K=>match ds with
 | []=>K δ
 | _=>False
noncomputable def gO (g:WG) (g':o7):o7:=fun ds δ K=>match ds with
 | d :: r=>g (.p d) δ fun δ1=>g' r δ1 K
 | []=>False
theorem JG.weak {tg:Expr} {t t':TG} (h:JG X tg t) (k:∀ v σ H Q,t' v σ H Q->t v σ H Q):JG X tg t':=⟨fun pins s σ H v u Q I r q=>h.out pins s σ H v u Q I r (k v σ H Q q)⟩
theorem jE.weak {ts:List Expr} {t t':iF} (h:jE X ts t) (k:∀ v σ H Q,t' v σ H Q->t v σ H Q):jE X ts t':=⟨fun pins s σ H v u Q I r q=>h.out pins s σ H v u Q I r (k v σ H Q q)⟩
theorem b7 {i:Nat} {x:Str} (hN:X.N.Nodup) (hi:X.N[i]? = some x) (hx:Loc X.env.scope x) (hf:X.fn x=true\/X.env.scope.names.lookup x=some .local:=by first | exact .inl rfl | exact .inr rfl | assumption):JG X (.Name x pos) (j2 (bE i)) :=
 (sU hN hi hx hf).weak fun v σ H Q ⟨F,ad,δ,x,K,S,V,q,k⟩=>k _ q _ _ _ _ .refl (S.set V)
theorem qH:jE X [] (lU j3):=fX.weak fun vs σ H Q ⟨F,ad,δ,ds,K,S,V,q,k⟩=>by
 unfold j3 at q
 split at q
 ·simp only[ae] at V
  exact⟨V,k _ q _ _ _ _ .refl S⟩
 ·exact q.elim
theorem jH {es:List Expr} {g:WG} {g':o7} (h1:JG X e (j2 g)) (h2:jE X es (lU g')) (hs:(assignEach (e :: es) X.env).map (·.2)=assign e X.env :: (assignEach es X.env).map (·.2):=by rfl):jE X (e :: es) (lU (gO g g')) :=
 (sV h1 h2 hs).weak fun vs σ H Q ⟨F,ad,δ,ds,K,S,V,q,k⟩=>by
  unfold gO at q
  split at q
  ·rename_i d r
   simp only[ae] at V
   obtain⟨v,r',e,i1,i2⟩:=V
   exact⟨v,r',e,F,ad,δ,.p d,_,S,i1,q,fun δ' h _ _ _ _ E S'=>⟨_,_,δ',r,K,S',i2.same E.same,h,k.ext E⟩⟩
  ·exact q.elim
noncomputable def kW (n:Nat) (g:o7):WG:=fun x δ K=>fZ x δ fun d=>match d with
 | .tup ds=>ds.length=n/\g ds δ K
 | .lst ds=>ds.length=n/\g ds δ K
 | _=>False
theorem JG.or {tg:Expr} {t t':TG} (h:JG X tg t) (h':JG X tg t'):JG X tg (fun v σ H Q=>t v σ H Q\/t' v σ H Q):=⟨fun pins s σ H v u Q I r q=>q.elim (fun q=>h.out pins s σ H v u Q I r q) fun q=>h'.out pins s σ H v u Q I r q⟩
theorem qJ {es:List Expr} {k:Nat} {g:o7} {n:Nat} (hc:X.calm=true) (h:jE X es (lU g)) (hn:(assignEach es X.env).length=n:=by rfl) (jO:(assignEach es X.env).findIdx? (·.1)=none:=by rfl):JG X (.Tuple es k pos) (j2 (kW n g)) :=
 ((y7 hc h hn jO).or (NQ hc h hn jO)).weak fun v σ H Q ⟨F,ad,δ,x,K,S,V,q,k⟩=>by
  obtain⟨d,q,rd⟩:=iL S V q
  split at q
  ·rename_i ds
   have vQ:Is F (.tup ds) v:=rd
   simp only[Is] at vQ
   obtain⟨a,vs,e,h1,h2⟩:=vQ
   exact .inl ⟨a,vs,e,bC.of (S.sub _ _ h1),by rw[h2.length];exact q.1,F,ad,δ,ds,K,S,h2,q.2,k⟩
  ·rename_i ds
   obtain⟨a,vs,e,h1,h2⟩:=rd
   exact .inr ⟨a,vs,e,a7.of h1,by rw[h2.length];exact q.1,F,ad,δ,ds,K,S,h2,q.2,k⟩
  ·exact q.elim
noncomputable def lV (f:WE) (g:WG):WS:=fun K δ => f δ fun x δ1=>g x δ1 K.nx
theorem ES {tg:Expr} {g:WG} (he:JE X e (tD f)) (hg:JG X tg (j2 g)) (hs:swapsWithSole [tg] e pos.line X.env=pure false:=by rfl) (hw:swappedStores [tg] e X.env=pure none:=by rfl)
  (h1:(assignEach [tg] X.env).map (·.2)=[assign tg X.env]:=by rfl):JS X (.Assign [tg] e pos) (dH (lV f g)) :=
 (qA he hg hs hw h1).weak fun D σ H h0_ => el7 h0_ fun F ad δ K S q k =>⟨F,ad,δ,_,S,q,fun x δ1 h1 v F1 aK H1 E1 S1 V1=>⟨F1,aK,δ1,x,K.nx,S1,V1,h1,k.nx.ext E1⟩⟩
end
structure o8 where
 items:List D
 bu:az->Prop
noncomputable abbrev WI:=az->(o8->az->Prop)->Prop
noncomputable def o9 (F:Hp) (ad:List Addr) (it:o8) (J:It):Prop:=∀ (F':Hp) (aG:List Addr) (δ : az) (σ : St) (H:Hp),aB F F'->(∀ (k:Nat) (a:Addr),ad[k]? = some a->aG[k]? = some a)->SR F' aG δ σ H->it.bu δ →
 J.stop it.items.length H/\∀ (i:Nat) (d:D),it.items[i]? = some d->J.go i H/\∀ x H',J.qr i H x H'->aB H H'/\Is (Nw F' H H') d x
noncomputable def kX (w:WI):TI:=fun σ H R=>∃ F ad δ K,SR F ad δ σ H/\w δ K/\∀ it δ',K it δ'->∀ J F' aG H',Ext F ad δ.mu H F' aG δ'.mu H'->SR F' aG δ' σ H'->o9 F' aG it J->R J H'
noncomputable def vR (n:Nat):Option DV->Option DV->Option DV
 | none,_=>none
 | some _,some (.o k)=>if k < n then some (.o k) else none
 | some _,s=>s
noncomputable def fm (n:Nat):List (Option DV)->List (Option DV)->List (Option DV)
 | s0 :: r0,s :: r=>vR n s0 s :: fm n r0 r
 | [],_ :: r=>none :: fm n [] r
 | _,[]=>[]
noncomputable def az.trim (δ0 δ : az):az:=⟨fm δ0.mu.length δ0.sl δ.sl,δ.mu.take δ0.mu.length⟩
theorem zt {n:Nat}:∀ (l0 l:List (Option DV)),(fm n l0 l).length=l.length
 | _ :: r0,_ :: r=>by rw[fm,D7,D7,zt r0 r]
 | [],_ :: r=>by rw[fm,D7,D7,zt [] r]
 | [],[]=>rfl
 | _ :: _,[]=>rfl
theorem zu {n:Nat}:∀ {l0 l:List (Option DV)} {i:Nat} {x:DV},(fm n l0 l)[i]? = some (some x)->l[i]? = some (some x)/\∀ k,x = .o k->k < n
 | s0 :: r0,s :: r,0,x,h=>by
  have h:vR n s0 s=some x:=by simpa [fm] using h
  match s0,s,h with
  | none,_,h=>cases h
  | some _,none,h=>cases h
  | some _,some (.p d),h=>cases (show some (DV.p d)=some x from h);exact⟨rfl,fun k e=>nomatch e⟩
  | some _,some (.o k),h =>
   have h:(if k < n then some (DV.o k) else none)=some x:=h
   by_cases c:k < n
   ·rw[We c] at h;cases h;exact⟨rfl,fun k' e=>by cases e;exact c⟩
   ·rw[VG c] at h;cases h
 | s0 :: r0,s :: r,i + 1,x,h=>by
  have h:(fm n r0 r)[i]? = some (some x):=by simpa [fm] using h
  simpa using zu h
 | [],s :: r,0,x,h=>by simp[fm] at h
 | [],s :: r,i + 1,x,h=>by
  have h:(fm n [] r)[i]? = some (some x):=by simpa [fm] using h
  simpa using zu h
 | [],[],i,x,h=>by simp[fm] at h
 | _ :: _,[],i,x,h=>by simp[fm] at h
section
variable {F F' H H':Hp} {ad aG:List Addr} {δ δ' δ0:az} {σ σ' τ : St} {mu cO:List (Option OV)} {l:Addr} {o:HO}
theorem Lv.take {n:Nat} {a:Addr} (h:Lv (ad.take n) (mu.take n) a):Lv ad mu a:=by
 obtain⟨k,ov,e1,e2⟩:=h
 have hk:k < n:=by
  have:=(oR.mp e1).1
  rw[Wu] at this;omega
 rw[WU hk] at e1 e2
 exact⟨k,ov,e1,e2⟩
theorem SR.trim (S:SR F ad δ σ H):SR F (ad.take δ0.mu.length) (δ0.trim δ) σ H:=by
 have tk:∀ {k:Nat} {a:Addr},(ad.take δ0.mu.length)[k]? = some a->k < δ0.mu.length/\ad[k]? = some a:=fun {k a} e=>by
  have hk:k < δ0.mu.length:=by
   have:=(oR.mp e).1
   rw[Wu] at this;omega
  rw[WU hk] at e;exact⟨hk,e⟩
 have tm:∀ {k:Nat} {w:Option OV},(δ.mu.take δ0.mu.length)[k]? = some w->k < δ0.mu.length /\ δ.mu[k]? = some w:=fun {k w} e=>by
  have hk:k < δ0.mu.length:=by
   have:=(oR.mp e).1
   rw[Wu] at this;omega
  rw[WU hk] at e;exact⟨hk,e⟩
 refine⟨S.sub,fun a x=>S.off a x.take,?_,fun k l a w w' e1 e2 e3 e4=>S.inj k l a w w' (tk e1).2 (tk e2).2 (tm e3).2 (tm e4).2,fun k ov e => ?_,fun i x e => ?_,?_,S.tab,S.nt⟩
 ·show (ad.take _).length=(δ.mu.take _).length
  rw[Wu,Wu,S.bW]
 ·obtain⟨a,o,e1,e2,h⟩:=S.mu k ov (tm e).2
  exact⟨a,o,by rw[WU (tm e).1];exact e1,e2,h⟩
 ·obtain⟨e1,e2⟩:=zu e
  obtain⟨v,h1,h2⟩:=S.sl i x e1
  refine⟨v,h1,?_⟩
  cases x with
  | p d=>exact h2
  | o k =>
   obtain⟨a,h3,h4⟩:=h2
   exact⟨a,by rw[WU (e2 k rfl)];exact h3,h4⟩
 ·show σ.length=(fm _ _ _).length
  rw[zt];exact S.len
theorem Ext.trim {n:Nat} (e:Ext F ad mu H F' aG cO H') (hn:ad.length=n):Ext F ad mu H F' (aG.take n) (cO.take n) H' :=
 ⟨e.same,e.new,e.keep,fun k a h=>by rw[WU (by rw[<-hn];exact (oR.mp h).1)];exact e.pre k a h,fun a x=>e.bR a x.take,e.gM⟩
theorem SR.other (S:SR F ad δ σ H) (hf:F l=none) (hl:¬ Lv ad δ.mu l) (tk:aE.ok (upd H l o)):SR F ad δ σ (upd H l o):=by
 refine⟨fun a u e => ?_,S.off,S.bW,S.inj,fun k ov e => ?_,S.sl,S.len,tk,S.nt⟩
 ·rw[aM (cC e hf)];exact S.sub a u e
 ·obtain⟨a,u,e1,e2,h⟩:=S.mu k ov e
  exact⟨a,u,e1,by rw[aM fun z=>hl (by subst z;exact⟨k,ov,e1,e⟩)];exact e2,h⟩
theorem Ext.other (e:Ext F ad mu H F' aG cO H') (hl:H l=none):Ext F ad mu H F' aG cO (upd H' l o) :=
 ⟨e.same,e.new,fun a u h n t=>by rw[aM (cC h hl)];exact e.keep a u h n t,e.pre,e.bR,fun a u h=>by rw[aM (cC h hl)];exact e.gM a u h⟩
theorem SR.adopt (S:SR F ad δ σ H) (hf:F l=none) (ho:H l=some o) (hl:¬ Lv ad δ.mu l) (no:∀ ps,o ≠ .tbl ps:=by intro _ z;cases z):SR (upd F l o) ad δ σ H:=by
 have sm:aB F (upd F l o):=cX hf
 refine⟨fun a u e => ?_,fun a x => ?_,S.bW,S.inj,fun k ov e => ?_,fun i x e => ?_,S.len,S.tab,fun a ha=>by
  obtain⟨ps,q⟩:=aE.tb S.tab ha
  rw[aM fun z=>by subst z;rw[ho] at q;exact no ps (Wx q)]
  exact S.nt a ha⟩
 ·by_cases c:a=l
  ·subst c;rw[bA] at e;cases e;exact ho
  ·rw[aM c] at e;exact S.sub a u e
 ·rw[aM fun z=>hl (by subst z;exact x)];exact S.off a x
 ·obtain⟨a,u,e1,e2,h⟩:=S.mu k ov e
  exact⟨a,u,e1,e2,h.same sm⟩
 ·obtain⟨v,e1,h⟩:=S.sl i x e
  refine⟨v,e1,?_⟩
  cases x with
  | p d=>exact Is.same sm h
  | o k=>exact h
theorem Ext.adopt (e:Ext F ad mu H F' aG cO H') (hl:H l=none) (hf:F' l=none):Ext F ad mu H (upd F' l o) aG cO H' :=
 ⟨e.same.trans (cX hf),fun a u h=>by
  by_cases c:a=l
  ·subst c;exact .inr (.inl hl)
  ·rw[aM c] at h;exact e.new a u h,e.keep,e.pre,e.bR,e.gM⟩
theorem SR.du {ov:OV} (S:SR F ad δ σ H) (hf:F l=none) (ho:H l=some o) (hl:¬ Lv ad δ.mu l) (h:d5 F ov o):SR F (ad ++ [l]) ⟨δ.sl,δ.mu ++ [some ov]⟩ σ H:=by
 have old:∀ {k:Nat} {w:OV},(δ.mu ++ [some ov])[k]? = some (some w)->(k < δ.mu.length /\ δ.mu[k]? = some (some w))\/(k = δ.mu.length/\w=ov):=fun {k w} e=>by
  by_cases c:k < δ.mu.length
  ·rw[Wd c] at e;exact .inl ⟨c,e⟩
  ·have hl:=(oR.mp e).1
   rw[D6,Wt] at hl
   have ek:k = δ.mu.length:=by omega
   subst ek
   rw[Wg (qx _),W7] at e
   exact .inr ⟨rfl,by simpa using e.symm⟩
 have pre:∀ {k:Nat},k < δ.mu.length->(ad ++ [l])[k]? = ad[k]? := fun {k} c=>Wd (by rw[S.bW];exact c)
 have last:(ad ++ [l])[δ.mu.length]? = some l:=by rw[<-S.bW,Wg (qx _),W7];rfl
 refine⟨S.sub,fun a x => ?_,by rw[D6,D6,S.bW];rfl,fun k k' a w w' e1 e2 e3 e4 => ?_,fun k w e => ?_,fun i x e => ?_,S.len,S.tab,S.nt⟩
 ·obtain⟨k,w,e1,e2⟩:=x
  rcases old e2 with⟨c,e3⟩ | ⟨c,e3⟩
  ·rw[pre c] at e1;exact S.off a ⟨k,w,e1,e3⟩
  ·subst c;rw[last] at e1;cases e1;exact hf
 ·rcases old e3 with⟨c,q⟩ | ⟨c,q⟩
  ·rw[pre c] at e1
   rcases old e4 with⟨c',q'⟩ | ⟨c',q'⟩
   ·rw[pre c'] at e2;exact S.inj k k' a w w' e1 e2 q q'
   ·subst c';rw[last] at e2;cases e2;exact absurd ⟨k,w,e1,q⟩ hl
  ·subst c;rw[last] at e1;cases e1
   rcases old e4 with⟨c',q'⟩ | ⟨c',q'⟩
   ·rw[pre c'] at e2;exact absurd ⟨k',w',e2,q'⟩ hl
   ·exact c'.symm
 ·rcases old e with⟨c,q⟩ | ⟨c,q⟩
  ·obtain⟨a,u,e1,e2,h'⟩:=S.mu k w q
   exact⟨a,u,by rw[pre c];exact e1,e2,h'⟩
  ·subst c;subst q;exact⟨l,o,last,ho,h⟩
 ·obtain⟨v,e1,h'⟩:=S.sl i x e
  refine⟨v,e1,?_⟩
  cases x with
  | p d=>exact h'
  | o k =>
   obtain⟨a,e2,e3⟩:=h'
   exact⟨a,by rw[Wd (oR.mp e2).1];exact e2,e3⟩
theorem Ext.du {ov:OV} (e:Ext F ad mu H F' aG cO H') (hl:H l=none) (hm:aG.length=cO.length):Ext F ad mu H F' (aG ++ [l]) (cO ++ [some ov]) H' :=
 ⟨e.same,e.new,e.keep,fun k a h=>by rw[Wd (oR.mp (e.pre k a h)).1];exact e.pre k a h,fun a x=>by
  obtain⟨k,w,e1,e2⟩:=x
  by_cases c:k < cO.length
  ·rw[Wd c] at e2
   rw[Wd (by rw[hm];exact c)] at e1
   exact e.bR a ⟨k,w,e1,e2⟩
  ·have gq:=(oR.mp e2).1
   rw[D6,Wt] at gq
   have ek:k=aG.length:=by rw[hm];omega
   subst ek
   rw[Wg (qx _),W7] at e1
   have:l=a:=by simpa using e1
   subst this;exact .inr hl,e.gM⟩
theorem SR.back {sl:List (Option DV)} (S0:SR F ad δ σ H) (e:Ext F ad δ.mu H F' aG cO H') (S:SR F' aG ⟨sl,cO⟩ τ H'):SR F' aG ⟨δ.sl,cO⟩ σ H' :=
 ⟨S.sub,S.off,S.bW,S.inj,S.mu,fun i x q=>let ⟨v,h1,h2⟩:=S0.sl i x q; ⟨v,h1,h2.ext e⟩,S0.len,S.tab,S.nt⟩
noncomputable def cS (cp:List (Option Nat)) (sl:List (Option DV)):List (Option DV):=cp.map fun o=>match o with
 | some i=>(sl[i]?).join
 | none=>none
theorem SR.o_ {cp:List (Option Nat)} (S:SR F ad δ σ H):SR F ad ⟨cS cp δ.sl,δ.mu⟩ (g7 cp σ) H:=by
 refine⟨S.sub,S.off,S.bW,S.inj,S.mu,fun j x e => ?_,by unfold g7 cS;rw[oS,oS],S.tab,S.nt⟩
 unfold cS at e
 rw[D8] at e
 obtain⟨o,e1,e2⟩:=VI.mp e
 match o,e2 with
 | none,e2=>cases e2
 | some i,e2 =>
  have e2:(δ.sl[i]?).join=some x:=e2
  cases q : δ.sl[i]? with
  | none=>rw[q] at e2;cases e2
  | some z =>
   rw[q] at e2
   have e3:z=some x:=e2
   subst e3
   obtain⟨v,h1,h2⟩:=S.sl i x q
   refine⟨v,?_,h2⟩
   unfold g7
   rw[D8,e1]
   show some ((σ[i]?).join)=some (some v)
   rw[h1];rfl
end
noncomputable def j4 (δ0:az) (bu:az->Prop) (g:WG) (b:WS) (K:KS):List D->az->Prop
 | [],δ => bu δ /\ K.nx δ
 | d :: r,δ => bu δ /\ g (.p d) δ fun δ1=>b { nx:=fun δ2=>j4 δ0 bu g b K r (δ0.trim δ2),ct:=fun δ2=>j4 δ0 bu g b K r (δ0.trim δ2),bk:=K.nx,rt:=K.rt } δ1
noncomputable def dw (w:WI) (g:WG) (b:WS):WS:=fun K δ => w δ fun it δ1=>j4 δ1 it.bu g b K it.items δ1
noncomputable def iO (δ0:az) (bu:az->Prop) (g:WG) (t:WT) (f:WE) (K:List D->az->Prop):List D->List D->az->Prop
 | [],acc,δ => bu δ /\ K acc δ
 | d :: r,acc,δ => bu δ /\ g (.p d) δ fun δ1=>t δ1 fun b δ2=>if b=true then f δ2 fun x δ3=>lT x δ3 fun e δ4=>acc.length < 1000/\iO δ0 bu g t f K r (acc ++ [e]) (δ0.trim δ4) else iO δ0 bu g t f K r acc (δ0.trim δ2)
noncomputable def fq (w:WI) (cp:List (Option Nat)) (g:WG) (t:WT) (f:WE):WE:=fun δ K=>w δ fun it δ1=>iO ⟨cS cp δ1.sl,δ1.mu⟩ it.bu g t f (fun acc δ'=>K (.p (.lst acc)) ⟨δ1.sl,δ'.mu⟩) it.items [] ⟨cS cp δ1.sl,δ1.mu⟩
noncomputable def pb (w:WI) (cp:List (Option Nat)) (g:WG) (t:WT) (f:WE):WE:=fun δ K=>w δ fun it δ1=>iO ⟨cS cp δ1.sl,δ1.mu⟩ it.bu g t f (fun acc δ'=>K (.o δ'.mu.length) ⟨δ1.sl,δ'.mu ++ [some (.lst acc)]⟩) it.items [] ⟨cS cp δ1.sl,δ1.mu⟩
section
variable {X:Cx} {tg iter elt:Expr} {body:List Stmt} {w:WI} {g:WG} {b:WS} {pos:Pos} {ifs:List Expr} {t:WT} {f:WE} {scope:Scope}
theorem kY (hp:PassesOwn (model X.prog X.w) X.A X.env X.xe) (hc:X.calm=true) (hi:JI X tg iter (kX w)) (hg:JG X tg (j2 g)) (hb:eC X body (dH b)) (hs:∀ x,foldedSetIterable iter X.env x=pure x:=by intro _;rfl) :
  JS X (.For tg iter body [] pos) (dH (dw w g b)):=(y8 hp hc hi hg hb hs).weak fun D σ H h0_ => el7 h0_ fun F ad δ K S q k =>by
 refine⟨F,ad,δ,_,S,q,fun it δ1 h1 J F1 aK H1 E1 S1 I1 => ?_⟩
 have k1:=k.ext E1
 refine⟨fun i m σ' H'=>∃ F' aG δ',i + m=it.items.length/\Ext F1 aK δ1.mu H1 F' aG δ'.mu H'/\SR F' aG δ' σ' H'/\j4 δ1 it.bu g b K (it.items.drop i) δ',⟨it.items.length,F1,aK,δ1,by omega,.refl,S1,h1⟩,?_⟩
 rintro i m σ' H' ⟨F',aG,δ',hm,E',S',h⟩
 by_cases bX:i < it.items.length
 ·rw[XA bX] at h
  obtain⟨ck,h⟩:=h
  obtain⟨go,yl⟩:=(I1 F' aG δ' σ' H' E'.same E'.pre S' ck).2 i _ (lO bX)
  refine .inr ⟨go,fun σ2 H2=>∃ F2 bT δ2,Ext F1 aK δ1.mu H1 F2 bT δ2.mu H2/\SR F2 bT δ2 σ2 H2/\j4 δ1 it.bu g b K (it.items.drop (i + 1)) δ2,fun σ2 H2 ⟨F2,bT,δ2,e1,e2,e3⟩=>⟨m - 1,by omega,F2,bT,δ2,by omega,e1,e2,e3⟩,fun x H2 y => ?_⟩
  obtain⟨sm,is⟩:=yl x H2 y
  have E2:=E'.trans (Ext.al S' sm)
  refine⟨_,aG,δ',.p _,_,S'.al sm,is,h,fun δ3 h3 F3 qK σ3 H3 E3 S3 => ?_⟩
  have vS:=E2.trans E3
  refine⟨F3,qK,δ3,_,S3,h3,⟨fun δ4 h4 F4 vT σ4 H4 E4 S4=>⟨F4,_,_,(vS.trans E4).trim S1.bW,S4.trim,h4⟩,k1.nx.ext vS,fun δ4 h4 F4 vT σ4 H4 E4 S4=>⟨F4,_,_,(vS.trans E4).trim S1.bW,S4.trim,h4⟩,(k1.ext vS).rt⟩⟩
 ·have ei:i=it.items.length:=by omega
  subst ei
  rw[List.drop_of_length_le (qx _)] at h
  obtain⟨ck,h⟩:=h
  exact .inl ⟨(I1 F' aG δ' σ' H' E'.same E'.pre S' ck).1,k1.nx _ h _ _ _ _ E' S'⟩
noncomputable def ft:WT:=fun δ K=>K true δ
theorem JF.weak {ifs:List Expr} {t t':TT} (h:JF X ifs t) (k:∀ σ H Q,t' σ H Q->t σ H Q):JF X ifs t':=⟨fun pins s σ H Q I q=>h.out pins s σ H Q I (k σ H Q q)⟩
theorem m9:JF X [] (cP ft):=oY.weak fun σ H Q h0_ => el7 h0_ fun F ad δ K S q k =>k _ _ q _ _ _ .refl S
theorem jd {c:Expr} (h:JT X c (cP t)):JF X [c] (cP t):=NB h
theorem ET {J:It} {l:Addr} {F1:Hp} {aK:List Addr} {δ1:az} {σ : St} {H1:Hp} {it:o8} {cp:List (Option Nat)} {Q:VK} {K:List D->az->Prop} (S1:SR F1 aK δ1 σ H1) (I1:o9 F1 aK it J) (hl:H1 l=none)
  (h:iO ⟨cS cp δ1.sl,δ1.mu⟩ it.bu g t f K it.items [] ⟨cS cp δ1.sl,δ1.mu⟩)
  (fin:∀ acc δ' F' aG τ H' ys,K acc δ'->Ext F1 aK δ1.mu H1 F' aG δ'.mu H'->SR F' aG δ' τ H'->H' l=some (.lst ys)->F' l=none->¬ Lv aG δ'.mu l->ae F' acc ys->Q (.ref l) H') :
  Ea J (j2 g) (cP t) (tD f) l (g7 cp σ) (upd H1 l (.lst [])) Q:=by
 have f1:F1 l=none:=by
  cases q:F1 l with
  | none=>rfl
  | some u=>rw[S1.sub l u q] at hl;cases hl
 have nl:∀ {ad mu},(∀ a,Lv ad mu a->Lv aK δ1.mu a\/H1 a=none)->True:=fun _=>trivial
 have l1:¬ Lv aK δ1.mu l:=fun ⟨k,ov,e1,e2⟩=>by
  obtain⟨a,o,e3,e4,_⟩:=S1.mu k ov e2
  rw[e1] at e3;cases e3
  rw[hl] at e4;cases e4
 have S0:SR F1 aK ⟨cS cp δ1.sl,δ1.mu⟩ (g7 cp σ) (upd H1 l (.lst [])):=S1.o_.other f1 l1 (aE.same S1.tab (cX hl))
 refine⟨fun i m τ H'=>∃ F' aG δ' acc ys,i + m=it.items.length/\Ext F1 aK δ1.mu H1 F' aG δ'.mu H'/\SR F' aG δ' τ H'/\H' l=some (.lst ys)/\F' l=none/\¬ Lv aG δ'.mu l/\ae F' acc ys/\iO ⟨cS cp δ1.sl,δ1.mu⟩ it.bu g t f K (it.items.drop i) acc δ',⟨it.items.length,F1,aK,_,[],[],by omega,Ext.refl.other hl,S0,bA,f1,l1,.nil,h⟩,?_⟩
 rintro i m τ H' ⟨F',aG,δ',acc,ys,hm,E',S',gq,lW,m_,ia,h⟩
 by_cases bX:i < it.items.length
 ·rw[XA bX] at h
  obtain⟨ck,h⟩:=h
  obtain⟨go,yl⟩:=(I1 F' aG δ' τ H' E'.same E'.pre S' ck).2 i _ (lO bX)
  have step:∀ {F2:Hp} {bT:List Addr} {zv:List (Option OV)} {H2:Hp},Ext F' aG δ'.mu H' F2 bT zv H2->H2 l=some (.lst ys)/\F2 l=none/\¬ Lv bT zv l/\ae F2 acc ys:=fun {F2 bT zv H2} e=>by
   refine⟨e.keep _ _ gq m_ (fun z=>by obtain⟨ps,q⟩:=aE.tb S1.tab z;rw[hl] at q;cases q),?_,fun z => ?_,ia.same e.same⟩
   ·cases q:F2 l with
    | none=>rfl
    | some u =>
     rcases e.new l u q with z | z | z
     ·rw[lW] at z;cases z
     ·rw[gq] at z;cases z
     ·exact absurd z m_
   ·rcases e.bR l z with z | z
    ·exact m_ z
    ·rw[gq] at z;cases z
  refine .inr ⟨go,fun τ2 H2=>∃ F2 bT δ2 lX vU,Ext F1 aK δ1.mu H1 F2 bT δ2.mu H2/\SR F2 bT δ2 τ2 H2/\H2 l=some (.lst vU)/\F2 l=none/\¬ Lv bT δ2.mu l/\ae F2 lX vU/\iO ⟨cS cp δ1.sl,δ1.mu⟩ it.bu g t f K (it.items.drop (i + 1)) lX δ2,
   fun τ2 H2 ⟨F2,bT,δ2,lX,vU,r⟩=>⟨m - 1,by omega,F2,bT,δ2,lX,vU,by omega,r⟩,fun x H2 y => ?_⟩
  obtain⟨sm,is⟩:=yl x H2 y
  have X2:=Ext.al S' sm
  refine⟨_,aG,δ',.p _,_,S'.al sm,is,h,fun δ3 h3 F3 qK σ3 H3 X3 S3 => ?_⟩
  refine⟨F3,qK,δ3,_,S3,h3,fun bb δ4 h4 F4 vT H4 X4 S4 => ?_⟩
  have zw:=(X2.trans X3).trans X4
  cases bb with
  | false =>
   dsimp only at h4 ⊢
   rw[VG Wf] at h4 ⊢
   obtain⟨a1,a2,a3,a4⟩:=step zw
   exact⟨F4,_,_,acc,ys,(E'.trans zw).trim S1.bW,S4.trim (δ0:=⟨cS cp δ1.sl,δ1.mu⟩),a1,a2,fun z=>a3 z.take,a4,h4⟩
  | true =>
   dsimp only at h4 ⊢
   rw[We rfl] at h4 ⊢
   refine⟨F4,vT,δ4,_,S4,h4,fun y δ5 h5 v F5 VO H5 X5 S5 V5 => ?_⟩
   obtain⟨e,δ6,F6,⟨hlen,h6⟩,X6,S6,i6⟩:=tj S5 V5 h5
   have EU:=(zw.trans X5).trans X6
   obtain⟨a1,a2,a3,a4⟩:=step EU
   refine⟨ys,a1,lP (by rw[a4.length];omega),F6,_,_,acc ++ [e],ys ++ [v],?_,(S6.other a2 a3 (aE.put S6.tab a1 (.inl ⟨_,rfl⟩))).trim (δ0:=⟨cS cp δ1.sl,δ1.mu⟩),bA,a2,fun z=>a3 z.take,a4.snoc i6,h6⟩
   exact ((E'.trans EU).other hl).trim S1.bW
 ·have ei:i=it.items.length:=by omega
  subst ei
  rw[List.drop_of_length_le (qx _)] at h
  obtain⟨ck,h⟩:=h
  exact .inl ⟨(I1 F' aG δ' τ H' E'.same E'.pre S' ck).1,fin _ _ _ _ _ _ _ h E' S' gq lW m_ ia⟩
theorem EV {cp:List (Option Nat)}:∀ σ H Q,tD (fq w cp g t f) σ H Q->oT (kX w) cp (fun _=>j2 g) (fun _=>cP t) (fun _=>tD f) σ H Q:=fun σ H Q h0_ => el7 h0_ fun F ad δ K S q k =>by
 refine⟨F,ad,δ,_,S,q,fun it δ1 h1 J F1 aK H1 E1 S1 I1=>fun d l hl => ?_⟩
 refine ET S1 I1 hl h1 fun acc δ' F' aG τ H' ys hk E' S' gq lW m_ ia => ?_
 have sm:aB F' (upd F' l (.lst ys)):=cX lW
 refine k _ _ hk _ _ _ _ (E1.trans (E'.adopt hl lW)) (SR.back (sl := δ'.sl) S1 (E'.adopt hl lW) (S'.adopt lW gq m_)) ?_
 show Is _ (.lst acc) _
 simp only[Is]
 exact⟨l,ys,rfl,bA,ia.same sm⟩
theorem N0 {cp:List (Option Nat)}:∀ σ H Q,tD (pb w cp g t f) σ H Q->oT (kX w) cp (fun _=>j2 g) (fun _=>cP t) (fun _=>tD f) σ H Q:=fun σ H Q h0_ => el7 h0_ fun F ad δ K S q k =>by
 refine⟨F,ad,δ,_,S,q,fun it δ1 h1 J F1 aK H1 E1 S1 I1=>fun d l hl => ?_⟩
 refine ET S1 I1 hl h1 fun acc δ' F' aG τ H' ys hk E' S' gq lW m_ ia => ?_
 have S2:=S'.du (ov := .lst acc) lW gq m_ ⟨ys,rfl,ia⟩
 have E2:=E'.du (ov := .lst acc) hl S'.bW
 refine k _ _ hk _ _ _ _ (E1.trans E2) (SR.back (sl := δ'.sl) S1 E2 S2) ⟨l,?_,rfl⟩
 rw[<-S'.bW,Wg (qx _),W7];rfl
theorem iP (cp:List (Option Nat)) (Nb:List Str) (hc:X.calm=true) (hi:JI X tg iter (kX w)) (hg:∀ d,JG (bZ X scope Nb d) tg (j2 g)) (hf:∀ d,JF (bZ X scope Nb d) ifs (cP t)) (he:∀ d,JE (bZ X scope Nb d) elt (tD f))
  (hk:scope.kind = .function:=by rfl) (ho:kR X.N X.env.scope scope Nb cp=true:=by first | rfl | kernel_rfl) (hs:∀ x,foldedSetIterable iter X.env x=pure x:=by intro _;rfl) :
  JE X (.ListComp elt [⟨tg,iter,ifs,0⟩] scope pos) (tD (fq w cp g t f)):=(Ew cp Nb hc hi hg hf he hk ho hs).weak EV
theorem vV (cp:List (Option Nat)) (Nb:List Str) (hc:X.calm=true) (hi:JI X tg iter (kX w)) (hg:∀ d,JG (bZ X scope Nb d) tg (j2 g)) (hf:∀ d,JF (bZ X scope Nb d) ifs (cP t)) (he:∀ d,JE (bZ X scope Nb d) elt (tD f))
  (hk:scope.kind = .function:=by rfl) (ho:kR X.N X.env.scope scope Nb cp=true:=by first | rfl | kernel_rfl) (hs:∀ x,foldedSetIterable iter X.env x=pure x:=by intro _;rfl) :
  JE X (.ListComp elt [⟨tg,iter,ifs,0⟩] scope pos) (tD (pb w cp g t f)):=(Ew cp Nb hc hi hg hf he hk ho hs).weak N0
theorem zx (cp:List (Option Nat)) (Nb:List Str) {i:Nat} {x:Str} {pos' gF:Pos} (hN:X.N.Nodup) (hi:X.N[i]? = some x) (hx:Loc X.env.scope x) (hc:X.calm=true) (hit:JI X tg iter (kX w)) (hg:∀ d,JG (bZ X scope Nb d) tg (j2 g)) (hf:∀ d,JF (bZ X scope Nb d) ifs (cP t)) (he:∀ d,JE (bZ X scope Nb d) elt (tD f))
  (hk:scope.kind = .function:=by rfl) (ho:kR X.N X.env.scope scope Nb cp=true:=by first | rfl | kernel_rfl) (hs:∀ x,foldedSetIterable iter X.env x=pure x:=by intro _;rfl)
  (sM:swapsWith (.ListComp elt [⟨tg,iter,ifs,0⟩] scope pos) (some (.Name x pos')) gF.line X.env=pure true:=by rfl)
  (lB:X.fn x=true\/X.env.scope.names.lookup x=some .local:=by first | exact .inl rfl | exact .inr rfl | assumption) :
  JS X (.Assign [.Name x pos'] (.ListComp elt [⟨tg,iter,ifs,0⟩] scope pos) gF) (dH (aC i (fq w cp g t f))) :=
 (NC cp Nb hN hi hx hc hit hg hf he hk ho hs sM lB).weak fun D σ H h0_ => el7 h0_ fun F ad δ K S q k =>EV σ H _ ⟨F,ad,δ,_,S,q,fun x δ1 h1 v F1 aK H1 E1 S1 V1=>k.nx _ h1 _ _ _ _ E1 (S1.set V1)⟩
end
inductive RV where
 | p (d:D) | n (ds:List D) | a (j:Nat)
noncomputable abbrev GD:=List DV->List OV->(RV->List OV->Prop)->Prop
structure vW (F:Hp) (ad:List Addr) (H:Hp) (r:RV) (ows:List OV) (v:V) (F' H':Hp):Prop where
 sub:aB F' H'
 same:aB F F'
 new:∀ a o,F' a=some o->F a=some o\/H a=none
 keep:∀ a o,H a=some o->a∉ad->a∉aE.ad->H' a=some o
 tab:aE.ok H'
 nt:∀ a∈aE.ad,F' a=none
 len:ows.length=ad.length
 own:∀ (j:Nat) (ow:OV),ows[j]? = some ow->∃ a o,ad[j]? = some a/\H' a=some o/\d5 F' ow o
 off:∀ a∈ad,F' a=none
 res:match r with
  | .p d=>Is F' d v
  | .n ds=>∃ a vs,v = .ref a/\H a=none/\H' a=some (.lst vs)/\F' a=none/\ae F' ds vs
  | .a j=>∃ a,ad[j]? = some a/\v = .ref a
noncomputable def lY (G:GD) (n:Nat):Sp:=fun vs H Q _=>vs.length=n/\∃ F ad ys ah K,SR F ad ⟨ys.map some,ah.map some⟩ (vs.map some) H/\G ys ah K/\∀ r ows,K r ows->∀ v F' H',vW F ad H r ows v F' H'->Q v H'
noncomputable def gP (n:Nat) (K:RV->List OV->Prop) (x:DV) (δ : az):Prop:=∃ ows,δ.mu.take n=ows.map some/\ows.length=n/\match x with
 | .p d=>K (.p d) ows
 | .o k=>if k < n then K (.a k) ows else match δ.mu[k]? with
  | some (some (.lst ds))=>K (.n ds) ows\/K (.p (.lst ds)) ows
  | _=>False
noncomputable def bJ (n:Nat) (K:RV->List OV->Prop):KS where
 nx:=gP n K (.p .non)
 rt:=gP n K
section
variable {F F' H H':Hp} {ad aG:List Addr} {σ σ':St}
theorem EW {α : Type} {l:List α} {i:Nat} {x : α} (h:(l.map some)[i]? = some (some x)):l[i]? = some x:=by
 rw[D8] at h
 obtain⟨y,e,q⟩:=VI.mp h
 cases q;exact e
theorem N4 {α : Type} {l:List α} {i:Nat} {x : α} (h:l[i]? = some x):(l.map some)[i]? = some (some x):=by
 rw[D8,h];rfl
theorem SR.start {ys:List DV} {mu:List (Option OV)} {vs:List V} {N:List Str} (S:SR F ad ⟨ys.map some,mu⟩ (vs.map some) H):SR F ad ⟨ys.map some ++ List.replicate (N.length - vs.length) none,mu⟩ (start N vs) H:=by
 have hl:vs.length=ys.length:=by
  have:=S.len
  rw[oS] at this
  show vs.length=ys.length
  rw[this];show (ys.map some).length=_;rw[oS]
 refine⟨S.sub,S.off,S.bW,S.inj,S.mu,fun i x e => ?_,?_,S.tab,S.nt⟩
 ·have hi:i < ys.length:=by
   by_cases c:i < ys.length
   ·exact c
   ·rw[Wg (by rw[oS];omega),Y4] at e
    split at e
    ·cases e
    ·cases e
  rw[Wd (by rw[oS];exact hi)] at e
  obtain⟨v,h1,h2⟩:=S.sl i x e
  exact⟨v,by unfold L2.start;rw[Wd (by rw[oS,hl];exact hi)];exact h1,h2⟩
 ·unfold L2.start
  show _=(ys.map some ++ _).length
  rw[D6,D6,Zj,Zj,oS,oS,hl]
theorem vX {ah:List OV} {δ : az} {x:DV} {v:V} {K:RV->List OV->Prop} {Q:VK} {sl:List (Option DV)} {τ : St} (S0:SR F ad ⟨sl,ah.map some⟩ τ H) (E:Ext F ad (ah.map some) H F' aG δ.mu H') (S:SR F' aG δ σ' H') (V:fE F' aG x v)
  (h:gP ah.length K x δ) (k:∀ r ows,K r ows->∀ v F' H',vW F ad H r ows v F' H'->Q v H'):Q v H':=by
 obtain⟨ows,tk,hl,h⟩:=h
 have al:ad.length=ah.length:=by have:=S0.bW;rwa [oS] at this
 have lv:∀ (j:Nat) (a:Addr),ad[j]? = some a->∃ ow,ows[j]? = some ow /\ δ.mu[j]? = some (some ow)/\Lv aG δ.mu a:=fun j a e=>by
  have hj:j < ah.length:=by rw[<-al];exact (oR.mp e).1
  have h1:(δ.mu.take ah.length)[j]? = some (some (ows[j]'(by rw[hl];exact hj))):=by
   rw[tk,D8,lO (by rw[hl];exact hj)];rfl
  rw[WU hj] at h1
  exact⟨_,lO (by rw[hl];exact hj),h1,j,_,E.pre j a e,h1⟩
 have j5:∀ a∈ad,F' a=none:=fun a ha=>by
  obtain⟨j,e⟩:=VD.mp ha
  obtain⟨_,_,_,l⟩:=lv j a e
  exact S.off a l
 have base:∀ {F2:Hp},aB F' F2->aB F2 H'->(∀ a o,F2 a=some o->F' a=some o\/(H a=none/\¬ a∈ad))->(∀ a∈ad,F2 a=none)->(∀ a∈aE.ad,F2 a=none)->∀ {r:RV},(match r with
   | .p d=>Is F2 d v
   | .n ds=>∃ a vs,v = .ref a/\H a=none/\H' a=some (.lst vs)/\F2 a=none/\ae F2 ds vs
   | .a j=>∃ a,ad[j]? = some a/\v = .ref a)->vW F ad H r ows v F2 H':=fun {F2} s1 s2 n2 o2 N5 {r} res=>by
  refine⟨s2,E.same.trans s1,fun a o e => ?_,fun a o e n t => ?_,S.tab,N5,by rw[hl,al],fun j ow e => ?_,o2,res⟩
  ·rcases n2 a o e with e | ⟨e,_⟩
   ·rcases E.new a o e with z | z | ⟨j,ov,z,_⟩
    ·exact .inl z
    ·exact .inr z
    ·rw[j5 a (VD.mpr ⟨j,z⟩)] at e;cases e
   ·exact .inr e
  ·exact E.keep a o e (fun ⟨j,ov,z,_⟩=>n (VD.mpr ⟨j,z⟩)) t
  ·have hj:j < ad.length:=by rw[al,<-hl];exact (oR.mp e).1
   obtain⟨zy,e1,e2,_⟩:=lv j _ (lO hj)
   rw[e] at e1;cases e1
   obtain⟨a,o,e3,e4,h5⟩:=S.mu j _ e2
   rw[E.pre j _ (lO hj)] at e3
   cases e3
   exact⟨_,o,lO hj,e4,h5.same s1⟩
 cases x with
 | p d=>exact k _ _ h _ _ _ (base (F2:=F') (fun _ _ e=>e) S.sub (fun _ _ e => .inl e) j5 S.nt V)
 | o i =>
  dsimp only at h
  obtain⟨a,e1,rfl⟩:=V
  by_cases c:i < ah.length
  ·rw[We c] at h
   have ei:ad[i]? = some a:=by
    have:=E.pre i _ (lO (by rw[al];exact c))
    rw[e1] at this
    rw[lO (by rw[al];exact c)]
    exact this.symm
   exact k _ _ h _ _ _ (base (F2:=F') (fun _ _ e=>e) S.sub (fun _ _ e => .inl e) j5 S.nt ⟨a,ei,rfl⟩)
  ·rw[VG c] at h
   split at h
   ·rename_i ds em
    obtain⟨a',o,e2,e3,vs,rfl,h4⟩:=S.mu i _ em
    rw[e1] at e2;cases e2
    have na:a∉ad:=fun z=>by
     obtain⟨j,e⟩:=VD.mp z
     obtain⟨ow,_,e5,_⟩:=lv j a e
     have:i=j:=S.inj i j a _ _ e1 (E.pre j a e) em e5
     subst this
     exact c (by rw[<-al];exact (oR.mp e).1)
    have fa:F' a=none:=S.off a ⟨i,_,e1,em⟩
    have ha:H a=none:=by
     rcases E.bR a ⟨i,_,e1,em⟩ with⟨j,ov,z,_⟩ | z
     ·exact absurd (VD.mpr ⟨j,z⟩) na
     ·exact z
    rcases h with h | h
    ·exact k _ _ h _ _ _ (base (F2:=F') (fun _ _ e=>e) S.sub (fun _ _ e => .inl e) j5 S.nt ⟨a,vs,rfl,ha,e3,fa,h4⟩)
    ·refine k _ _ h _ _ _ (base (F2:=upd F' a (.lst vs)) (cX fa) (fun b o e => ?_) (fun b o e => ?_) (fun b hb => ?_) (fun b hb => ?_) ?_)
     ·by_cases z:b=a
      ·subst z;rw[bA] at e;cases e;exact e3
      ·rw[aM z] at e;exact S.sub b o e
     ·by_cases z:b=a
      ·subst z;exact .inr ⟨ha,na⟩
      ·rw[aM z] at e;exact .inl e
     ·rw[aM fun z=>na (by subst z;exact hb)];exact j5 b hb
     ·obtain⟨ps,q⟩:=aE.tb S.tab hb
      rw[aM fun z=>by subst z;rw[e3] at q;cases q];exact S.nt b hb
     ·show Is _ (.lst ds) _
      simp only[Is]
      exact⟨a,vs,rfl,bA,h4.same (cX fa)⟩
   ·exact h.elim
end
theorem gD.N6 {P:Program} {w:World} {K:PySem.W.Frag} {mg:Str->Option Value} {base:Heap} {x qual:Str} {st:Stmt} {f:Addr} {fd:FuncData} {N ps:List Str} {k:Nat} {G:GD} (F:gD K x qual st f fd) (S:kP N ps (cB st))
  (dm:∀ (aU:Value) (A:Around) (outer:List Env) (s:Shared) (H:Hp) (E:XK),aY k (A.deeper (envOfC qual (cB st) s.heap.objs.size f aU)) →
   ∃ B:WS,eC (dU fD P w K mg base N qual (cB st) f aU A outer s H E).jM (fW st) (dH B)/\∀ ys ah K',ys.length=ps.length->G ys ah K'->B (bJ ah.length K') ⟨ys.map some ++ List.replicate (N.length - ps.length) none,ah.map some⟩) :
  cE P w K mg base fD (k + 1) f fd ps (lY G ps.length) :=
 F.vD S (fun vs H Q E h=>h.1) fun aU A outer s H vs Q E hr h=>by
  obtain⟨hl,Fz,ad,ys,ah,K',S0,g,kk⟩:=h
  obtain⟨B,jb,hb⟩:=dm aU A outer s H E hr
  have hy:ys.length=ps.length:=by
   have:=S0.len
   rw[oS] at this
   rw[<-hl,this];show _=(ys.map some).length;rw[oS]
  refine⟨_,jb,Fz,ad,⟨ys.map some ++ List.replicate (N.length - ps.length) none,ah.map some⟩,bJ ah.length K',by rw[<-hl];exact S0.start,hb ys ah K' hy g,⟨fun δ' h F' aG σ' H' E' S' => ?_,fun δ' h=>h.elim,fun δ' h=>h.elim,fun y δ' h v F' aG σ' H' E' S' V => ?_⟩⟩
  ·exact vX (σ' := σ') S0 E' S' (x := .p .non) (v := .non) rfl h kk
  ·exact vX (σ' := σ') S0 E' S' V h kk
noncomputable def passes (mu:List (Option OV)):List DV->Nat->Option (List DV × List (Nat × OV))
 | [],_=>some ([],[])
 | .p d :: xs,j=>match passes mu xs j with
  | some r=>some (.p d :: r.1,r.2)
  | none=>none
 | .o k :: xs,j=>match mu[k]? with
  | some (some ov)=>match passes mu xs (j + 1) with
   | some r=>some (.o j :: r.1,(k,ov) :: r.2)
   | none=>none
  | _=>none
noncomputable def eR (mu:List (Option OV)):List (Nat × OV)->List OV->List (Option OV)
 | (k,_) :: r,ow :: ows=>eR (mu.set k (some ow)) r ows
 | _,_=>mu
noncomputable def kZ:List (Nat × OV)->Bool
 | []=>true
 | (k,_) :: r => !(r.any fun e=>e.1 == k) && kZ r
noncomputable def pe (δ : az) (fF:List (Nat × OV)) (K:DV->az->Prop) (r:RV) (ows:List OV):Prop:=match r with
 | .p d=>K (.p d) ⟨δ.sl,eR δ.mu fF ows⟩
 | .n ds=>K (.p (.lst ds)) ⟨δ.sl,eR δ.mu fF ows⟩
 | .a j=>match fF[j]? with
  | some ko=>K (.o ko.1) ⟨δ.sl,eR δ.mu fF ows⟩
  | none=>False
noncomputable def pf (δ : az) (fF:List (Nat × OV)) (K:DV->az->Prop) (r:RV) (ows:List OV):Prop:=match r with
 | .n ds=>K (.o (eR δ.mu fF ows).length) ⟨δ.sl,eR δ.mu fF ows ++ [some (.lst ds)]⟩
 | _=>False
noncomputable def ak (n:Nat) (G:GD) (fa:WA):WE:=fun δ K=>fa δ fun xs δ1=>match passes δ1.mu xs 0 with
 | some r=>(kZ r.2=true/\r.1.length=n)/\G r.1 (r.2.map (·.2)) (pe δ1 r.2 K)
 | none=>False
noncomputable def tF (n:Nat) (G:GD) (fa:WA):WE:=fun δ K=>fa δ fun xs δ1=>match passes δ1.mu xs 0 with
 | some r=>(kZ r.2=true/\r.1.length=n)/\G r.1 (r.2.map (·.2)) (pf δ1 r.2 K)
 | none=>False
section
variable {F F' H H':Hp} {ad aG:List Addr} {δ : az} {σ σ':St}
theorem vY {mu:List (Option OV)} (hm:∀ (k:Nat) (ov:OV),mu[k]? = some (some ov)->∃ a o,ad[k]? = some a/\H a=some o/\d5 F ov o):∀ {xs:List DV} {vs:List V} {j:Nat} {r:List DV × List (Nat × OV)},passes mu xs j=some r->dq F ad xs vs →
  ∃ as:List Addr,as.length=r.2.length/\(∀ (i:Nat) (ko:Nat × OV),r.2[i]? = some ko->mu[ko.1]? = some (some ko.2)/\∃ a o,as[i]? = some a/\ad[ko.1]? = some a/\H a=some o/\d5 F ko.2 o) ∧
   ∀ (pre:List Addr),pre.length=j->∃ _u:Unit,vs.length=r.1.length/\∀ (i:Nat) (y:DV),r.1[i]? = some y->∃ v,vs[i]? = some v/\fE F (pre ++ as) y v
 | [],vs,j,r,h,hv=>by
  cases h
  have:vs=[]:=hv
  subst this
  exact⟨[],rfl,fun i ko e=>by simp at e,fun pre _=>⟨(),rfl,fun i y e=>by simp at e⟩⟩
 | .p d :: xs,_,j,r,h,⟨v,t,e,h1,h2⟩=>by
  subst e
  unfold passes at h
  split at h
  ·rename_i r' hr
   cases h
   obtain⟨as,l,b,c⟩:=vY hm hr h2
   refine⟨as,l,b,fun pre hp=>⟨(),?_,fun i y e => ?_⟩⟩
   ·obtain⟨_,c1,_⟩:=c pre hp
    rw[D7,D7,c1]
   ·obtain⟨_,_,c2⟩:=c pre hp
    cases i with
    | zero=>cases (show some (DV.p d)=some y by simpa using e);exact⟨v,rfl,h1⟩
    | succ i=>simpa using c2 i y (by simpa using e)
  ·cases h
 | .o k :: xs,_,j,r,h,⟨v,t,e,h1,h2⟩=>by
  subst e
  unfold passes at h
  split at h
  ·rename_i ov hk
   split at h
   ·rename_i r' hr
    cases h
    obtain⟨as,l,b,c⟩:=vY hm hr h2
    obtain⟨a,e1,rfl⟩:=h1
    obtain⟨a',o,e2,e3,e4⟩:=hm k ov hk
    rw[e1] at e2;cases e2
    refine⟨a :: as,by rw[D7,D7,l],fun i ko e => ?_,fun pre hp=>⟨(),?_,fun i y e => ?_⟩⟩
    ·cases i with
     | zero=>cases (show some (k,ov)=some ko by simpa using e);exact⟨hk,a,o,rfl,e1,e3,e4⟩
     | succ i=>simpa using b i ko (by simpa using e)
    ·obtain⟨_,c1,_⟩:=c (pre ++ [a]) (by rw[D6,hp];rfl)
     rw[D7,D7,c1]
    ·obtain⟨_,_,c2⟩:=c (pre ++ [a]) (by rw[D6,hp];rfl)
     cases i with
     | zero =>
      cases (show some (DV.o j)=some y by simpa using e)
      refine⟨_,rfl,a,?_,rfl⟩
      rw[Wg (by omega),hp,W7];rfl
     | succ i =>
      obtain⟨v',c3,c4⟩:=c2 i y (by simpa using e)
      exact⟨v',by simpa using c3,by rw[Yh] at c4;exact c4⟩
   ·cases h
  ·cases h
theorem EX:∀ {fF:List (Nat × OV)},kZ fF=true->∀ (i j:Nat) (k:Nat) (a b:OV),fF[i]? = some (k,a)->fF[j]? = some (k,b)->i=j
 | [],_,i,j,k,a,b,e,_=>by simp at e
 | (k',ov) :: r,h,i,j,k,a,b,e1,e2=>by
  unfold kZ at h
  simp only[WH,X1] at h
  have no:∀ (m:Nat) (c:OV),r[m]? = some (k',c)->False:=fun m c e=>by
   have:=YI.mp h.1 _ (VD.mpr ⟨m,e⟩)
   exact this (by simp)
  cases i with
  | zero =>
   cases (show some (k',ov)=some (k,a) by simpa using e1)
   cases j with
   | zero=>rfl
   | succ j=>exact (no j b (by simpa using e2)).elim
  | succ i =>
   cases j with
   | zero=>cases (show some (k',ov)=some (k,b) by simpa using e2);exact (no i a (by simpa using e1)).elim
   | succ j=>rw[EX h.2 i j k a b (by simpa using e1) (by simpa using e2)]
theorem EY:∀ (fF:List (Nat × OV)) (ows:List OV) (mu:List (Option OV)),(eR mu fF ows).length=mu.length
 | (k,_) :: r,ow :: ows,mu=>by rw[eR,EY r ows,XR]
 | [],_,_=>rfl
 | _ :: _,[],_=>rfl
theorem vZ:∀ (fF:List (Nat × OV)) (ows:List OV) (mu:List (Option OV)) (l:Nat),(∀ ko∈fF,ko.1≠l)->(eR mu fF ows)[l]? = mu[l]?
 | (k,_) :: r,ow :: ows,mu,l,h=>by
  rw[eR,vZ r ows _ l fun ko hk=>h ko (Mp _ hk),Xf (h _ yE)]
 | [],_,_,_,_=>rfl
 | _ :: _,[],_,_,_=>rfl
theorem EZ:∀ {fF:List (Nat × OV)} {ows:List OV} {mu:List (Option OV)} {i:Nat} {ko:Nat × OV} {ow:OV},kZ fF=true->fF[i]? = some ko->ows[i]? = some ow->ko.1 < mu.length->(eR mu fF ows)[ko.1]? = some (some ow)
 | (k,ov) :: r,zy :: ows,mu,0,ko,ow,h,e1,e2,hl=>by
  cases (show some (k,ov)=some ko by simpa using e1)
  cases (show some zy=some ow by simpa using e2)
  unfold kZ at h
  simp only[WH,X1] at h
  rw[eR,vZ r ows _ k fun ko hk z=>absurd (by simpa using z) (YI.mp h.1 ko hk),Xh hl]
 | (k,ov) :: r,zy :: ows,mu,i + 1,ko,ow,h,e1,e2,hl=>by
  unfold kZ at h
  simp only[WH,X1] at h
  rw[eR]
  exact EZ h.2 (by simpa using e1) (by simpa using e2) (by rw[XR];exact hl)
 | [],_,_,i,_,_,_,e1,_,_=>by simp at e1
 | _ :: _,[],_,i,_,_,_,_,e2,_=>by simp at e2
theorem zz {xs:List DV} {vs:List V} {r:List DV × List (Nat × OV)} {G:GD} {n:Nat} {Q:VK} {E:XK} {K:RV->List OV->Prop} (S:SR F ad δ σ H) (V:dq F ad xs vs) (hn:vs.length=n) (hp:passes δ.mu xs 0=some r) (nd:kZ r.2=true) (g:G r.1 (r.2.map (·.2)) K)
  (fin:∀ res ows v F' H',K res ows->Ext F ad δ.mu H F' ad (eR δ.mu r.2 ows) H'->SR F' ad ⟨δ.sl,eR δ.mu r.2 ows⟩ σ H'->(match res with
   | .p d=>Is F' d v
   | .n ds=>∃ a vs,v = .ref a/\H a=none/\H' a=some (.lst vs)/\F' a=none/\ae F' ds vs
   | .a j=>∃ ko a,r.2[j]? = some ko/\ad[ko.1]? = some a/\v = .ref a)->Q v H'):lY G n vs H Q E:=by
 obtain⟨as,al,b,c⟩:=vY S.mu hp V
 obtain⟨_,c1,c2⟩:=c [] rfl
 have qL:∀ (i:Nat) (a:Addr),as[i]? = some a->Lv ad δ.mu a/\∃ ko,r.2[i]? = some ko/\ad[ko.1]? = some a /\ δ.mu[ko.1]? = some (some ko.2):=fun i a e=>by
  have hi:i < r.2.length:=by rw[<-al];exact (oR.mp e).1
  obtain⟨m1,a',o,e1,e2,_,_⟩:=b i _ (lO hi)
  rw[e] at e1;cases e1
  exact⟨⟨_,_,e2,m1⟩,_,lO hi,e2,m1⟩
 refine⟨hn,F,as,r.1,r.2.map (·.2),K,⟨S.sub,fun a ⟨i,ov,e1,e2⟩=>S.off a (qL i a e1).1,by rw[al];show _=((r.2.map (·.2)).map some).length;rw[oS,oS],fun i j a ov ow e1 e2 _ _ => ?_,fun i ov e => ?_,fun i y e => ?_,?_,S.tab,S.nt⟩,g,fun res ows hk v F' H' P => ?_⟩
 ·obtain⟨_,ko,k1,k2,k3⟩:=qL i a e1
  obtain⟨_,kp,p1,p2,p3⟩:=qL j a e2
  have:ko.1=kp.1:=S.inj _ _ a _ _ k2 p2 k3 p3
  exact EX nd i j ko.1 ko.2 kp.2 k1 (by rw[this];exact p1)
 ·have e:=EW e
  rw[D8] at e
  obtain⟨ko,e1,rfl⟩:=VI.mp e
  obtain⟨_,a,o,e2,_,e4,e5⟩:=b i ko e1
  exact⟨a,o,e2,e4,e5⟩
 ·obtain⟨v,e1,e2⟩:=c2 i y (EW e)
  exact⟨v,N4 e1,by simpa using e2⟩
 ·show (vs.map some).length=(r.1.map some).length
  rw[oS,oS,c1]
 ·have ol:ows.length=r.2.length:=by rw[P.len,al]
  have mM:∀ (l:Nat) (ow:OV),(eR δ.mu r.2 ows)[l]? = some (some ow)->(∃ (i:Nat) (ko:Nat × OV),r.2[i]? = some ko/\ko.1=l/\ows[i]? = some ow)\/((∀ ko∈r.2,ko.1≠l) /\ δ.mu[l]? = some (some ow)):=fun l ow e=>by
   by_cases z:∃ ko∈r.2,ko.1=l
   ·obtain⟨ko,hk,rfl⟩:=z
    obtain⟨i,hi⟩:=VD.mp hk
    have ph:i < ows.length:=by rw[ol];exact (oR.mp hi).1
    have:=EZ (mu := δ.mu) nd hi (lO ph) (oR.mp (b i ko hi).1).1
    rw[e] at this
    cases this
    exact .inl ⟨i,ko,hi,rfl,lO ph⟩
   ·have z':∀ ko∈r.2,ko.1≠l:=fun ko hk q=>z ⟨ko,hk,q⟩
    rw[vZ _ _ _ _ z'] at e
    exact .inr ⟨z',e⟩
  have E5:∀ (l:Nat) (ow:OV) (a:Addr),ad[l]? = some a->(eR δ.mu r.2 ows)[l]? = some (some ow)->Lv ad δ.mu a:=fun l ow a e1 e2=>by
   rcases mM l ow e2 with⟨i,ko,hi,rfl,_⟩ | ⟨_,q⟩
   ·exact⟨_,_,e1,(b i ko hi).1⟩
   ·exact⟨_,_,e1,q⟩
  have N7:∀ a,a∈as->Lv ad δ.mu a:=fun a ha=>by
   obtain⟨i,e⟩:=VD.mp ha
   exact (qL i a e).1
  have ex:Ext F ad δ.mu H F' ad (eR δ.mu r.2 ows) H':=by
   refine⟨P.same,fun a o e => ?_,fun a o e n t=>P.keep a o e (fun z=>n (N7 a z)) t,fun _ _ e=>e,fun a ⟨l,ow,e1,e2⟩ => .inl (E5 l ow a e1 e2),fun a o e => ?_⟩
   ·rcases P.new a o e with z | z
    ·exact .inl z
    ·exact .inr (.inl z)
   ·by_cases z:a∈as
    ·obtain⟨i,e1⟩:=VD.mp z
     have hi:i < ows.length:=by rw[P.len];exact (oR.mp e1).1
     obtain⟨a',o',e2,e3,_⟩:=P.own i _ (lO hi)
     rw[e1] at e2;cases e2
     exact⟨o',e3⟩
    ·by_cases t:a∈aE.ad
     ·obtain⟨ps,q⟩:=aE.tb P.tab t
      exact⟨_,q⟩
     ·exact⟨o,P.keep a o e z t⟩
  have zA:∀ a,Lv ad δ.mu a->F' a=none:=fun a l=>by
   by_cases z:a∈as
   ·exact P.off a z
   ·cases q:F' a with
    | none=>rfl
    | some u =>
     rcases P.new a u q with y | y
     ·rw[S.off a l] at y;cases y
     ·obtain⟨k,ov,e1,e2⟩:=l
      obtain⟨a',o,e3,e4,_⟩:=S.mu k ov e2
      rw[e1] at e3;cases e3
      rw[y] at e4;cases e4
  have sr:SR F' ad ⟨δ.sl,eR δ.mu r.2 ows⟩ σ H':=by
   refine⟨P.sub,fun a ⟨l,ow,e1,e2⟩=>zA a (E5 l ow a e1 e2),by rw[S.bW];exact (EY _ _ _).symm,fun k l a ov ow e1 e2 e3 e4 => ?_,fun l ow e => ?_,fun i y e => ?_,S.len,P.tab,P.nt⟩
   ·have h3:∃ w,δ.mu[k]? = some (some w):=by
     rcases mM k ov e3 with⟨i,ko,hi,rfl,_⟩ | ⟨_,q⟩
     ·exact⟨_,(b i ko hi).1⟩
     ·exact⟨_,q⟩
    have h4:∃ w,δ.mu[l]? = some (some w):=by
     rcases mM l ow e4 with⟨i,ko,hi,rfl,_⟩ | ⟨_,q⟩
     ·exact⟨_,(b i ko hi).1⟩
     ·exact⟨_,q⟩
    obtain⟨_,h3⟩:=h3
    obtain⟨_,h4⟩:=h4
    exact S.inj k l a _ _ e1 e2 h3 h4
   ·rcases mM l ow e with⟨i,ko,hi,rfl,ho⟩ | ⟨z,q⟩
    ·obtain⟨_,a,o,e1,e2,_,_⟩:=b i ko hi
     obtain⟨a',o',e3,e4,h5⟩:=P.own i ow ho
     rw[e1] at e3;cases e3
     exact⟨a,o',e2,e4,h5⟩
    ·obtain⟨a,o,e1,e2,h⟩:=S.mu l ow q
     refine⟨a,o,e1,P.keep a o e2 (fun y => ?_) (fun t => ?_),h.same P.same⟩
     ·obtain⟨i,e3⟩:=VD.mp y
      obtain⟨_,ko,k1,k2,k3⟩:=qL i a e3
      exact z ko (VD.mpr ⟨i,k1⟩) (S.inj _ _ a _ _ k2 e1 k3 q)
     ·obtain⟨ps,q2⟩:=aE.tb S.tab t
      rw[e2] at q2
      cases q2
      rcases h.kind with⟨_,z⟩ | ⟨_,z⟩<;>cases z
   ·obtain⟨v,e1,h⟩:=S.sl i y e
    exact⟨v,e1,h.ext ex⟩
  refine fin res ows v F' H' hk ex sr ?_
  have px:=P.res
  cases res with
  | p d=>exact px
  | n ds=>exact px
  | a j =>
   obtain⟨a,e1,e2⟩:=px
   obtain⟨_,ko,k1,k2,_⟩:=qL j a e1
   exact⟨ko,a,k1,k2,e2⟩
end
section
variable {X:Cx} {fa:WA} {G:GD} {pos:Pos}
theorem E6 {F1 F2 H1 H2:Hp} {aK:List Addr} {δ1:az} {σ : St} {xs:List DV} {vs:List V} {r:List DV × List (Nat × OV)} {ows:List OV} {a:Addr} (S1:SR F1 aK δ1 σ H1) (V1:dq F1 aK xs vs) (hp:passes δ1.mu xs 0=some r) (n1:H1 a=none):¬ Lv aK (eR δ1.mu r.2 ows) a:=fun ⟨k,ov,e1,e2⟩=>by
 have c:∃ ov,δ1.mu[k]? = some (some ov):=by
  by_cases y:∃ ko∈r.2,ko.1=k
  ·obtain⟨ko,fu,rfl⟩:=y
   obtain⟨as,_,b,_⟩:=vY S1.mu hp V1
   obtain⟨i,hi⟩:=VD.mp fu
   exact⟨_,(b i ko hi).1⟩
  ·rw[vZ _ _ _ _ fun ko fu q=>y ⟨ko,fu,q⟩] at e2
   exact⟨_,e2⟩
 obtain⟨N8,c⟩:=c
 obtain⟨a',o,e3,e4,_⟩:=S1.mu k N8 c
 rw[e1] at e3;cases e3
 rw[n1] at e4;cases e4
theorem dq.length {F:Hp} {ad:List Addr}:∀ {xs:List DV} {vs:List V},dq F ad xs vs->vs.length=xs.length
 | [],vs,h=>by have h:vs=[]:=h;rw[h];rfl
 | x :: xs,vs,⟨v,r,e,_,h2⟩=>by rw[e,D7,D7,dq.length h2]
theorem v3 {mu:List (Option OV)}:∀ {xs:List DV} {j:Nat} {r:List DV × List (Nat × OV)},passes mu xs j=some r->r.1.length=xs.length
 | [],j,r,h=>by cases h;rfl
 | .p d :: xs,j,r,h=>by
  unfold passes at h
  split at h
  ·rename_i r' hr;cases h;show (DV.p d :: r'.1).length=_;rw[D7,D7,v3 hr]
  ·cases h
 | .o k :: xs,j,r,h=>by
  unfold passes at h
  split at h
  ·split at h
   ·rename_i r' hr;cases h;show (DV.o j :: r'.1).length=_;rw[D7,D7,v3 hr]
   ·cases h
  ·cases h
section
variable {k:Nat} {f:Addr} {fd:FuncData} {ps:List Str} {x:Str} {p:Pos} {e:Expr} {es:List Expr} {n:Nat}
theorem N9 {E:XK}:∀ σ H Q,tD (ak n G fa) σ H Q->sk (lY G n) [] E (bL fa) σ H Q:=fun σ H Q h0_ => el7 h0_ fun F ad δ K S q kk =>by
 refine⟨F,ad,δ,_,S,q,fun xs δ1 h1 vs F1 aK H1 E1 S1 V1 => ?_⟩
 split at h1
 ·rename_i r hp
  obtain⟨⟨nd,hn⟩,h1⟩:=h1
  rw[YC]
  refine zz S1 V1 (by rw[V1.length,<-v3 hp,hn]) hp nd h1 fun res ows v F2 H2 hk E2 S2 eG => ?_
  unfold pe at hk
  cases res with
  | p d=>exact kk _ _ hk _ _ _ _ (E1.trans E2) S2 eG
  | n ds =>
   obtain⟨a,us,rfl,n1,n2,n3,n4⟩:=eG
   refine kk _ _ hk _ _ _ _ (E1.trans (E2.adopt (o := .lst us) n1 n3)) (S2.adopt n3 n2 (E6 (F2:=F2) (H2:=H2) S1 V1 hp n1)) ?_
   show Is _ (.lst ds) _
   simp only[Is]
   exact⟨a,us,rfl,bA,n4.same (cX n3)⟩
  | a j =>
   obtain⟨ko,a,h1,h2,h3⟩:=eG
   dsimp only at hk
   rw[h1] at hk
   exact kk _ _ hk _ _ _ _ (E1.trans E2) S2 ⟨a,h2,h3⟩
 ·exact h1.elim
theorem N_ {E:XK}:∀ σ H Q,tD (tF n G fa) σ H Q->sk (lY G n) [] E (bL fa) σ H Q:=fun σ H Q h0_ => el7 h0_ fun F ad δ K S q kk =>by
 refine⟨F,ad,δ,_,S,q,fun xs δ1 h1 vs F1 aK H1 E1 S1 V1 => ?_⟩
 split at h1
 ·rename_i r hp
  obtain⟨⟨nd,hn⟩,h1⟩:=h1
  rw[YC]
  refine zz S1 V1 (by rw[V1.length,<-v3 hp,hn]) hp nd h1 fun res ows v F2 H2 hk E2 S2 eG => ?_
  unfold pf at hk
  cases res with
  | p d=>exact hk.elim
  | n ds =>
   obtain⟨a,us,rfl,n1,n2,n3,n4⟩:=eG
   have oi:d5 F2 (.lst ds) (.lst us):=⟨us,rfl,n4⟩
   refine kk _ _ hk _ _ _ _ (E1.trans (E2.du (ov := .lst ds) n1 S2.bW)) (S2.du n3 n2 (E6 (F2:=F2) (H2:=H2) S1 V1 hp n1) oi) ⟨a,?_,rfl⟩
   have:aK.length=(eR δ1.mu r.2 ows).length:=S2.bW
   rw[<-this,Wg (qx _),W7];rfl
  | a j=>exact hk.elim
 ·exact h1.elim
theorem Oa (Fn:cE X.prog X.w X.K X.mg X.base fD k f fd ps (lY G n)) (hr:aY k X.A) (hg:Gl X x) (hm:X.mg x=some (.ref f)) (hk:PySem.W.keepIn X.K (.ref f)=true) (hb:Binds X.K fd ps [])
  (ha:JA X (e :: es) (bL fa)) (dS:(x == ("__debug__" : Str))=false:=by decide) (he:starEach (e :: es) X.env=(false,eval e X.env) :: starEach es X.env:=by rfl) (dM:(backTo pos (starEach es X.env)).any (·.1)=false:=by rfl) :
  JE X (.Call (.Name x p) (e :: es) [] pos) (tD (ak n G fa)):=(vB Fn hr hg hm hk hb .nil vq ha dS he dM).weak N9
theorem Ob (Fn:cE X.prog X.w X.K X.mg X.base fD k f fd ps (lY G n)) (hr:aY k X.A) (hg:Gl X x) (hm:X.mg x=some (.ref f)) (hk:PySem.W.keepIn X.K (.ref f)=true) (hb:Binds X.K fd ps [])
  (ha:JA X (e :: es) (bL fa)) (dS:(x == ("__debug__" : Str))=false:=by decide) (he:starEach (e :: es) X.env=(false,eval e X.env) :: starEach es X.env:=by rfl) (dM:(backTo pos (starEach es X.env)).any (·.1)=false:=by rfl) :
  JE X (.Call (.Name x p) (e :: es) [] pos) (tD (tF n G fa)):=(vB Fn hr hg hm hk hb .nil vq ha dS he dM).weak N_
end
end
end L2
namespace PySem
open Sem (wp)
open AutoSeq1 (wpAny_loadPart')
theorem Oc (l:Addr) (items:Array Value) (n:Nat) (dct:Option Addr) (sl:Array (Option Value)) :
  Meets (Builtin.«enumerate.__new__» ⟨[.type "enumerate",.ref l],[]⟩) (fun _ R s=>s.heap.get? l=some { cls := .type "tuple",dict:=dct,data := .seq items n,slots:=sl } ∧
   R (.ok (.ret (.ref (s.heap.push { cls := .type "tuple_iterator",data := .fields #[.ref l,.int 0 0] }).objs.size)))
    { s with heap:=(s.heap.push { cls := .type "tuple_iterator",data := .fields #[.ref l,.int 0 0] }).push { cls := .type "enumerate",data := .fields #[.none,.bool false,.ref s.heap.objs.size,rawInt 0,.none,.none] } }) :=
 .of_wp fun prog w A R s h=>by
  obtain⟨hp,g,d,tk,os⟩:=s;obtain⟨hl,h⟩:=h
  have Od:=sub_enumerate
  have hL:Heap.IsTuple (Shared.heap ⟨hp,g,d,tk,os⟩) l items:=⟨_,hl,rfl,n,rfl⟩
  wp_walk using Xi hl
  refine wpAny_stack_any fun st=>D5 ?_
  split
  ·rename_i c _ _ _ _ _
   cases (c == Value.type "enumerate")
   ·wp_walk using Xi hl,Y2 hL
    exact⟨_,rfl,h⟩
   ·wp_walk using Xi hl,Y2 hL
    exact⟨_,rfl,h⟩
  ·wp_walk using Xi hl,Y2 hL
   exact⟨_,rfl,h⟩
section
variable {prog:Program} {w:World} {A:Around} {E:Value->Shared->Prop} {s:Shared}
theorem Oe {l:Addr} {items:Array Value} {Q:Value->Shared->Prop} (hL:s.heap.IsTuple l items)
  (h:∀ h',IsEnum h' (s.heap.objs.size + 1) s.heap.objs.size 0 .none->h'.IsTupleIter s.heap.objs.size l 0->h'.objs.size=s.heap.objs.size + 2 →
   (∀ b o,s.heap.get? b=some o->h'.get? b=some o)->Q (.ref (s.heap.objs.size + 1)) { s with heap:=h' }) :
  wpAny (model prog w) A (call (.type "enumerate") [.ref l]) Q E s:=by
 obtain⟨⟨c,dct,dt,sl⟩,hl,hc,n,hd⟩:=hL
 replace hc:c = .type "tuple" := hc
 replace hd:dt = .seq items n:=hd
 subst hc hd
 refine callType_new F.called_enumerate (by decide) (F.typeCall_enumerate_1 _) (F.newCall_enumerate_1 _) (fun obj=>F.args_object_init_2 obj _) F.entry_enumerate_new
  (Oc l items n dct sl) ⟨hl,?_⟩
 have hz:(s.heap.push { cls := .type "tuple_iterator",data := .fields #[.ref l,.int 0 0] }).objs.size=s.heap.objs.size + 1:=Yb ..
 show _/\_
 rw[hz]
 have he:IsEnum ((s.heap.push { cls := .type "tuple_iterator",data := .fields #[.ref l,.int 0 0] }).push
   { cls := .type "enumerate",data := .fields #[.none,.bool false,.ref s.heap.objs.size,rawInt 0,.none,.none] }) (s.heap.objs.size + 1) s.heap.objs.size 0 .none:=by
  have:=VH (s.heap.push { cls := .type "tuple_iterator",data := .fields #[.ref l,.int 0 0] })
   (o:={ cls := .type "enumerate",data := .fields #[.none,.bool false,.ref s.heap.objs.size,rawInt 0,.none,.none] }) rfl
  rw[hz] at this;exact this
 refine⟨⟨_,he,rfl⟩,h _ he ⟨_,sC _ (VH _ rfl),rfl,rfl⟩ (by rw[Yb,hz]) fun b o x=>sC _ (sC _ x)⟩
theorem Of {it l:Addr} {i:Nat} {items:Array Value} {x:Value} {Q:Value->Shared->Prop} (hit:s.heap.IsTupleIter it l i) (hl:s.heap.IsTuple l items) (hx:items[i]? = some x)
  (hQ:∀ h',h'.IsTupleIter it l (i + 1)->Heap.SameBut it s.heap h'->Q x { s with heap:=h' }):wpAny (model prog w) A (Builtin.SmallTypes.nextOf (.ref it)) Q E s:=by
 obtain⟨o,ho,hc,hd⟩:=id hit
 obtain⟨ol,zB,_,nl,lZ⟩:=hl
 have nn:¬ ((Value.ref l == Value.none)=true):=Wf
 unfold Builtin.SmallTypes.nextOf
 refine oQ (Yt (name:=Str.ofString "__next__") hit.typeIs Yd (Zl Yd hit.typeIs F.entry_tuple_iterator_next ?_ (Zv _)))
 show wpAny _ _ (field (.ref it) 0 >>= _) _ _ s;refine oQ (Y6 ho hd (x := .ref l) rfl ?_)
 show wpAny _ _ (if (Value.ref l == Value.none)=true then _ else _) _ _ s;rw[VG nn]
 show wpAny _ _ (field (.ref it) 1 >>= _) _ _ s;refine oQ (Y6 ho hd (x := .int i 0) rfl ?_)
 show wpAny _ _ (seqItems? (.ref l) >>= _) _ _ s;refine oQ (X_ zB lZ ?_)
 simp only[Wj,hx]
 refine oQ (wpAny_setField ho hd (by simp) (D5 ⟨x,rfl,D5 (hQ _ ⟨_,YG _ ho (Obj.isFreed_of_fields (Obj.data_mapFields hd _)),(Obj.cls_mapFields ..).trans hc,?_⟩ (WL ..))⟩))
 rw[Obj.data_mapFields hd];simp[rawInt]
theorem Og {it l:Addr} {i:Nat} {items:Array Value} {Q:Value->Shared->Prop} (hh:A.handled=none) (hit:s.heap.IsTupleIter it l i) (hl:s.heap.IsTuple l items) (hx:items[i]? = none)
  (hE:∀ h' e,Heap.ExtBut it s.heap h'->(∃ o,h'.get? e=some o/\o.cls = .type "StopIteration")->E (.ref e) { s with heap:=h' }):wpAny (model prog w) A (Builtin.SmallTypes.nextOf (.ref it)) Q E s:=by
 obtain⟨o,ho,hc,hd⟩:=id hit
 obtain⟨ol,zB,_,nl,lZ⟩:=hl
 have nn:¬ ((Value.ref l == Value.none)=true):=Wf
 unfold Builtin.SmallTypes.nextOf
 refine oQ (Yt (name:=Str.ofString "__next__") hit.typeIs Yd (Zl Yd hit.typeIs F.entry_tuple_iterator_next ?_ (Zv _)))
 show wpAny _ _ (field (.ref it) 0 >>= _) _ _ s;refine oQ (Y6 ho hd (x := .ref l) rfl ?_)
 show wpAny _ _ (if (Value.ref l == Value.none)=true then _ else _) _ _ s;rw[VG nn]
 show wpAny _ _ (field (.ref it) 1 >>= _) _ _ s;refine oQ (Y6 ho hd (x := .int i 0) rfl ?_)
 show wpAny _ _ (seqItems? (.ref l) >>= _) _ _ s;refine oQ (X_ zB lZ ?_)
 simp only[Wj,hx]
 refine oQ (q0g (oQ (wpAny_setField ho hd (by simp) ?_)))
 show wpAny _ _ (newExc (.type "StopIteration") [] >>= _) _ _ _;refine oQ ?_
 simp only[newExc,newTuple];refine oQ (XN ?_ (by size_fits))
 refine oQ (m:=firstArgMember _ _) (wpAny_of_eq (a:=Value.none) (by first | rfl | (simp only[firstArgMember];rfl)) (XN ?_ (by size_fits)))
 simp only[raiseNew];refine oQ (wpAny_handled ?_)
 first | rw[show A.in1.handled=none from hh] | rw[hh]
 refine oQ (D5 (wpAny_throw (hE _ _ (((WL ..).extBut.push _).push _) ⟨_,VH _ rfl,rfl⟩)))
theorem E7 (hh:A.handled=none) (it l:Addr) (h9:l≠it) (items:Array Value):Draws prog w A it [it,l] items.size (fun i v=>items[i]? = some v) (fun i h=>h.IsTupleIter it l i/\h.IsTuple l items) where
 live:=fun _ _ st=>let ⟨o,ho,_⟩:=st.1; ⟨o,ho⟩
 frame:=fun _ _ _ st hk=>⟨st.1.at fun o e=>hk it (by simp) o e,st.2.at fun o e=>hk l (by simp) o e⟩
 item:=fun i s Q E hi st hQ=>Of st.1 st.2 (x:=items[i]) (by simp[hi]) fun h' zC vF=>hQ _ h' s.toks (by simp[hi]) ⟨zC,st.2.extBut vF.extBut h9⟩ vF
 done:=fun s Q E st hE=>Og hh st.1 st.2 (by simp) hE
end
end PySem
namespace L2
open PySem PySem.Spec PyProof.Rows
noncomputable def tG (K:PySem.W.Frag) (a:Addr):It :=
 ⟨fun i H=>∃ xs x,bC K H a xs/\xs[i]? = some x,fun i H x H'=>∃ T v,x = .ref T/\H T=none/\H'=upd H T (.tup [.int (i:Nat),v])/\∀ xs,bC K H a xs->xs[i]? = some v,fun i H=>∃ xs,bC K H a xs/\xs.length=i⟩
theorem Oh {P:Program} {w:World} {K:PySem.W.Frag} {elts:List Expr} {x1} {tp:Pos} (a e it:Addr) (h9:e≠it) (Oi:a≠e) (E8:a≠it) :
  Turn P w K (.Tuple elts x1 tp) (tG K a) [e,it] e (fun i h=>(∃ old,IsEnum h e it (i:Nat) old)/\h.IsTupleIter it a i) where
 mem:=by simp
 obj:=fun i h st b hb=>by
  obtain⟨⟨old,he⟩,o,hi,hc,hd⟩:=st
  rcases VE.mp hb with rfl | hb
  ·exact⟨_,he,fun v z=>by cases z⟩
  ·have z:b=it:=by simpa using hb
   subst z
   exact⟨o,hi,fun v z=>by rw[hd] at z;cases z⟩
 keep:=fun i h h' st k=>by
  obtain⟨⟨old,he⟩,hi⟩:=st
  exact⟨⟨old,k e (by simp) _ he⟩,hi.at fun o q=>k it (by simp) o q⟩
 item:=by
  intro X hP hw hK hc i pins s σ H E I hf st hg
  subst hP hw hK
  obtain⟨⟨old,he⟩,hi⟩:=st
  obtain⟨xs,x,hq,hx⟩:=hg
  obtain⟨aj,rv,p,hz⟩:=I.tuple hq
  obtain⟨u,hu,ru⟩:=rv.get hx
  have D:=E7 (prog:=X.prog) (w:=X.w) (A:=X.A.in1) (by rw[Yc];exact I.ok.hd hc) it a E8 aj.toArray
  have ph:i < aj.toArray.size:=by rw[vp];exact (oR.mp hu).1
  refine wpAny_pyNext_enum_itemD D he ⟨hi,p⟩ ph h9 (by simp[h9,Yi Oi]) fun y h1 tk py kJ yN sN hsz hk=>⟨_,rfl,?_⟩
  have ey:y=u:=by
   have py:aj.toArray[i]? = some y:=py
   rw[Ye,hu] at py;cases py;rfl
  subst ey
  refine wpAny_letOwnedTupleGo_enum kJ fun h2 sO iH => ?_
  have hT:s.heap.objs.size≠e:=YN (My he)
  have i8:h2.get? s.heap.objs.size=some { cls := .type "tuple",data := .seq #[.int i tk,y] }:=(iH.2 _ hT).trans sN
  have k2:∀ b o,b∉[e,it]->s.heap.get? b=some o->h2.get? b=some o:=fun b o hb q=>by
   have sP:b≠e:=fun z=>hb (by simp[z])
   have gE:b≠it:=fun z=>hb (by simp[z])
   exact (iH.2 _ sP).trans (hk b o sP gE q)
  have hn:H s.heap.objs.size=none:=I.aJ.fresh (qx _)
  refine⟨.ref s.heap.objs.size,upd H s.heap.objs.size (.tup [.int i,x]),I.gG (ch:=[e,it]) (t':=tk + 1) hf k2 (qx _) ?_,rfl,⟨_,x,rfl,hn,rfl,fun ys hy=>by rw[I.fB hy hq];exact hx⟩,⟨⟨y,?_⟩,?_⟩,fun b hb => ?_⟩
  ·exact⟨by show 2 <= sizeLine;decide,[.int i tk,y],.cons ⟨_,rfl⟩ (.cons ru .nil),_,i8,rfl,_,rfl⟩
  ·have e3:((i:Int) + 1)=(((i + 1:Nat)):Int):=by omega
   rw[e3] at sO
   exact sO
  ·exact yN.1.at fun o q=>(iH.2 _ (Yi h9)).trans q
  ·have:b < s.heap.objs.size:=by
    obtain⟨o,q,_⟩:=hi
    rcases VE.mp hb with rfl | hb
    ·exact My he
    ·have z:b=it:=by simpa using hb
     subst z;exact My q
   rw[aM (Wi this)]
   exact (hf b hb).1
 done:=by
  intro X hP hw hK hc i pins s σ H E I hf st hg
  subst hP hw hK
  obtain⟨⟨old,he⟩,hi⟩:=st
  obtain⟨xs,hq,hx⟩:=hg
  obtain⟨aj,rv,p,hz⟩:=I.tuple hq
  have D:=E7 (prog:=X.prog) (w:=X.w) (A:=X.A.in1) (by rw[Yc];exact I.ok.hd hc) it a E8 aj.toArray
  have ph:aj.toArray.size=i:=by rw[vp,<-rv.length];exact hx
  refine wpAny_pyNext_enum_endD D he (by rw[ph];exact⟨hi,p⟩) fun h1 eb=>⟨rfl,?_⟩
  obtain⟨f0,f1,f2,f3,f4,f5⟩:=hf it (by simp)
  exact I.turned (t':=s.toks) (fun b o hb q=>eb b o hb q) f0 f1 f3 f4 f5
 self:=fun A i s Q E st h=>by
  obtain⟨⟨old,he⟩,hi⟩:=st
  exact X0 he h
section
variable {X:Cx} {elts:List Expr} {x1:Nat} {tp:Pos} {tg:Expr}
noncomputable def Oj (K:PySem.W.Frag) (ta:TA):TI:=fun σ H R=>ta σ H fun vs H1=>∃ a,vs=[.ref a]/\(((∃ xs,a7 K H1 a xs)/\R (qz K a) H1)\/((∃ xs,bC K H1 a xs)/\R (tG K a) H1))
theorem Ol {a:Expr} {ta:TA} {p pos:Pos} (hg:Gl X "enumerate") (hm:X.mg "enumerate" = none) (ha:JA X [a] ta) (hs:starEach [a] X.env=[(false,eval a X.env)]:=by rfl) :
  JI X (.Tuple elts x1 tp) (.Call (.Name "enumerate" p) [a] [] pos) (Oj X.K ta):=by
 refine⟨?_⟩
 intro pins s σ H R I h
 refine Call_ (kM I hg hm Eh (XI (a6 (ha.out pos pins s σ H _ I h) fun us s1 h0_ => el5 h0_ fun vs H1 I1 r1 q1 => ?_) hs rfl))
 obtain⟨l,e,q⟩:=q1
 subst e
 obtain⟨u,rfl,rx⟩:=vals1 r1
 cases rx
 have fp:∀ b∈[s1.heap.objs.size + 1,s1.heap.objs.size],a0 X pins H1 b:=fun b hb=>by
  have hb':s1.heap.objs.size <= b:=by
   rcases VE.mp hb with rfl | hb
   ·exact ZN _
   ·have z:b=s1.heap.objs.size:=by simpa using hb
    rw[z];exact qx _
  exact I1.d8 hb' (I1.aJ.fresh hb')
 rcases q with⟨⟨xs,hq⟩,q⟩ | ⟨⟨xs,hq⟩,q⟩
 ·obtain⟨aj,rv,p,hz⟩:=I1.list hq
  refine call_enumerate_list p.isList fun h' he hi hsz hk => ?_
  have I2:Inv X pins σ H1 { s1 with heap:=h' }:=I1.kept (t':=s1.toks) hk
  refine X0 he ?_
  exact⟨_,_,_,_,H1,rfl,I2,Eg l (s1.heap.objs.size + 1) s1.heap.objs.size (ZZ _),⟨⟨_,he⟩,hi⟩,fp,q⟩
 ·obtain⟨aj,rv,p,hz⟩:=I1.tuple hq
  have qM:l < s1.heap.objs.size:=by obtain⟨o,e,_⟩:=p;exact My e
  refine Oe p fun h' he hi hsz hk => ?_
  have I2:Inv X pins σ H1 { s1 with heap:=h' }:=I1.kept (t':=s1.toks) hk
  refine X0 he ?_
  exact⟨_,_,_,_,H1,rfl,I2,Oh l (s1.heap.objs.size + 1) s1.heap.objs.size (ZZ _) (Wi (Xo qM)) (Wi qM),⟨⟨_,he⟩,hi⟩,fp,q⟩
noncomputable def zD (K:PySem.W.Frag) (tl:TE):TI:=fun σ H R=>tl σ H fun x H1=>∃ a,x = .ref a/\(((∃ xs,a7 K H1 a xs)/\R (Dl K a) H1)\/((∃ xs,bC K H1 a xs)/\R (Dm K a) H1))
theorem Om {l:Expr} {tl:TE} (hl:JE X l tl):JI X tg l (zD X.K tl):=by
 refine⟨?_⟩
 intro pins s σ H R I h
 refine a6 (hl.out pins s σ H _ I h) fun v s1 h0_ => el5 h0_ fun x H1 I1 r1 q1 => ?_
 obtain⟨a,e,q⟩:=q1
 subst e
 cases r1
 have fp:∀ b∈[s1.heap.objs.size],a0 X pins H1 b:=fun b hb=>by
  have e:b=s1.heap.objs.size:=by simpa using hb
  subst e
  exact I1.d8 (qx _) (I1.aJ.fresh (qx _))
 rcases q with⟨⟨xs,hq⟩,q⟩ | ⟨⟨xs,hq⟩,q⟩
 ·obtain⟨aj,rv,p,hz⟩:=I1.list hq
  exact XQ p.isList ⟨s1.heap.objs.size,[s1.heap.objs.size],_,_,H1,rfl,I1.kept (t':=s1.toks) fun b o e=>sC _ e,K8 a _,⟨_,VH _ rfl,rfl,rfl⟩,fp,q⟩
 ·obtain⟨aj,rv,p,hz⟩:=I1.tuple hq
  exact Y2 (show s1.heap.IsTuple a aj.toArray from p) ⟨s1.heap.objs.size,[s1.heap.objs.size],_,_,H1,rfl,I1.kept (t':=s1.toks) fun b o e=>sC _ e,K9 a _,⟨_,VH _ rfl,rfl,rfl⟩,fp,q⟩
end
variable [aE]
noncomputable def bG (lo:Int) (n:Nat):List D:=(List.range n).map fun i:Nat=>D.int (lo + i)
noncomputable def jI:Nat->List D->List D
 | _,[]=>[]
 | i,d :: r => .tup [.int i,d] :: jI (i + 1) r
noncomputable def qN (x:DV) (δ : az) (K:o8->Prop):Prop:=match x with
 | .p (.lst ds)=>K ⟨ds,fun _=>True⟩
 | .p (.tup ds)=>K ⟨ds,fun _=>True⟩
 | .o k=>match δ.mu[k]? with
  | some (some (.lst ds))=>K ⟨ds,fun δ' => δ'.mu[k]? = some (some (.lst ds))⟩
  | _=>False
 | _=>False
noncomputable def bO (f:WE):WI:=fun δ K=>f δ fun x δ1=>qN x δ1 fun it=>K it δ1
noncomputable def k6 (fa:WA):WI:=fun δ K=>fa δ fun xs δ1=>match xs with
 | [.p (.int j)]=>(-(2 ^ 62) <= j/\j < 2 ^ 62)/\K ⟨bG 0 j.toNat,fun _=>True⟩ δ1
 | _=>False
noncomputable def zE (fa:WA):WI:=fun δ K=>fa δ fun xs δ1=>match xs with
 | [.p (.int i),.p (.int j)]=>(-(2 ^ 62) <= i/\i < 2 ^ 62 /\ -(2 ^ 62) <= j/\j < 2 ^ 62)/\K ⟨bG i (j - i).toNat,fun _=>True⟩ δ1
 | _=>False
noncomputable def je (fa:WA):WI:=fun δ K=>fa δ fun xs δ1=>match xs with
 | [x]=>qN x δ1 fun it=>K ⟨jI 0 it.items,it.bu⟩ δ1
 | _=>False
noncomputable def zF (x:DV) (δ : az) (K:o8->Prop):Prop:=match x with
 | .p (.lst ds)=>K ⟨ds,fun _=>True⟩
 | .o k=>match δ.mu[k]? with
  | some (some (.lst ds))=>K ⟨ds,fun δ' => δ'.mu[k]? = some (some (.lst ds))⟩
  | _=>False
 | _=>False
theorem j6 {lo:Int} {n i:Nat} {d:D} (h:(bG lo n)[i]? = some d):i < n/\d = .int (lo + i):=by
 unfold bG at h
 rw[D8] at h
 obtain⟨j,e,rfl⟩:=VI.mp h
 have hj:=(oR.mp e).1
 rw[Xd] at hj
 rw[W0 hj] at e
 cases e
 exact⟨hj,rfl⟩
theorem jJ (lo:Int) (n:Nat):(bG lo n).length=n:=by unfold bG;rw[oS,Xd]
theorem qO:∀ (ds:List D) (i:Nat),(jI i ds).length=ds.length
 | [],_=>rfl
 | d :: r,i=>by rw[jI,D7,D7,qO r]
theorem qP:∀ {ds:List D} {k i:Nat} {d:D},(jI k ds)[i]? = some d->∃ e,ds[i]? = some e/\d = .tup [.int ((k + i:Nat):Int),e]
 | [],k,i,d,h=>by simp[jI] at h
 | e :: r,k,0,d,h=>by
  cases (show some (D.tup [.int (k:Nat),e])=some d by simpa [jI] using h)
  exact⟨e,rfl,rfl⟩
 | e :: r,k,i + 1,d,h=>by
  obtain⟨e',h1,h2⟩:=qP (ds:=r) (k:=k + 1) (i:=i) (d:=d) (by simpa [jI] using h)
  exact⟨e',by simpa using h1,by rw[h2];congr 4;omega⟩
section
variable {X:Cx} {tg l a b:Expr} {f:WE} {fa:WA} {F H:Hp} {ad:List Addr} {δ : az} {σ : St}
theorem JI.weak {iter:Expr} {w w':TI} (h:JI X tg iter w) (k:∀ σ H R,w' σ H R->w σ H R):JI X tg iter w':=⟨fun pins s σ H R I q=>h.out pins s σ H R I (k σ H R q)⟩
theorem qQ {ds:List D} {vs:List V} (h:ae F ds vs) {i:Nat} {d:D} (e:ds[i]? = some d):∃ v,vs[i]? = some v/\Is F d v:=by
 have hl:=h.length
 have hi:i < vs.length:=by rw[hl];exact (oR.mp e).1
 obtain⟨d',e1,h1⟩:=h.get (lO hi)
 rw[e] at e1;cases e1
 exact⟨_,lO hi,h1⟩
theorem E9 {x:DV} {v:V} {K:o8->Prop} (S:SR F ad δ σ H) (V1:fE F ad x v) (h:zF x δ K):∃ a it,v = .ref a/\K it/\(∃ vs,H a=some (.lst vs)) ∧
  ∀ (F':Hp) (aG:List Addr) (δ':az) (σ':St) (H':Hp),aB F F'->(∀ (k:Nat) (a:Addr),ad[k]? = some a->aG[k]? = some a)->SR F' aG δ' σ' H'->it.bu δ'->∃ vs,H' a=some (.lst vs)/\ae F' it.items vs:=by
 unfold zF at h
 split at h
 ·rename_i ds
  have V2:Is F (.lst ds) v:=V1
  simp only[Is] at V2
  obtain⟨a,vs,rfl,h1,h2⟩:=V2
  exact⟨a,_,rfl,h,⟨vs,S.sub _ _ h1⟩,fun F' aG δ' σ' H' s _ S' _=>⟨vs,S'.sub _ _ (s _ _ h1),h2.same s⟩⟩
 ·rename_i k
  split at h
  ·rename_i ds e
   obtain⟨a,e1,rfl⟩:=V1
   obtain⟨a',o,e2,e3,vs,rfl,h4⟩:=S.mu k _ e
   rw[e1] at e2;cases e2
   refine⟨a,_,rfl,h,⟨vs,e3⟩,fun F' aG δ' σ' H' _ pre S' ck => ?_⟩
   obtain⟨VP,o,e5,e6,ws,rfl,h7⟩:=S'.mu k _ ck
   rw[pre k a e1] at e5;cases e5
   exact⟨ws,e6,h7⟩
  ·exact h.elim
 ·exact h.elim
theorem E_ {x:DV} {v:V} {K:o8->Prop} (S:SR F ad δ σ H) (V1:fE F ad x v) (h:qN x δ K):∃ a it,v = .ref a/\K it ∧
  (((∃ vs,H a=some (.lst vs))/\∀ (F':Hp) (aG:List Addr) (δ':az) (σ':St) (H':Hp),aB F F'->(∀ (k:Nat) (a:Addr),ad[k]? = some a->aG[k]? = some a)->SR F' aG δ' σ' H'->it.bu δ'->∃ vs,H' a=some (.lst vs)/\ae F' it.items vs) ∨
  ((∃ vs,H a=some (.tup vs))/\∀ (F':Hp) (aG:List Addr) (δ':az) (σ':St) (H':Hp),aB F F'->(∀ (k:Nat) (a:Addr),ad[k]? = some a->aG[k]? = some a)->SR F' aG δ' σ' H'->it.bu δ'->∃ vs,H' a=some (.tup vs)/\ae F' it.items vs)):=by
 unfold qN at h
 split at h
 ·rename_i ds
  obtain⟨a,it,e,k,r⟩:=E9 (x := .p (.lst ds)) S V1 h
  exact⟨a,it,e,k,.inl r⟩
 ·rename_i ds
  have V2:Is F (.tup ds) v:=V1
  simp only[Is] at V2
  obtain⟨a,vs,rfl,h1,h2⟩:=V2
  exact⟨a,_,rfl,h,.inr ⟨⟨vs,S.sub _ _ h1⟩,fun F' aG δ' σ' H' s _ S' _=>⟨vs,S'.sub _ _ (s _ _ h1),h2.same s⟩⟩⟩
 ·rename_i k
  obtain⟨a,it,e,k,r⟩:=E9 (x := .o k) S V1 h
  exact⟨a,it,e,k,.inl r⟩
 ·exact h.elim
theorem f7 (hl:JE X l (tD f)):JI X tg l (kX (bO f)):=(Om hl).weak fun σ H R h0_ => el7 h0_ fun F ad δ K S q k =>⟨F,ad,δ,_,S,q,fun x δ1 h1 v F1 aK H1 E1 S1 V1=>by
 obtain⟨a,it,rfl,hk,r⟩:=E_ S1 V1 h1
 refine⟨a,rfl,?_⟩
 rcases r with⟨⟨vs,e⟩,r⟩ | ⟨⟨vs,e⟩,r⟩
 ·refine .inl ⟨⟨vs,a7.of e⟩,k _ _ hk _ _ _ _ E1 S1 fun F' aG δ' σ' H' s pre S' ck => ?_⟩
  obtain⟨ws,e1,e2⟩:=r F' aG δ' σ' H' s pre S' ck
  refine⟨⟨ws,a7.of e1,by rw[e2.length];exact qx _⟩,fun i d ed => ?_⟩
  obtain⟨w,e3,e4⟩:=qQ e2 ed
  refine⟨⟨ws,w,a7.of e1,e3⟩,fun y ig ⟨eh,hy⟩ => ?_⟩
  subst eh
  refine⟨fun _ _ e=>e,?_⟩
  have:=hy ws (a7.of e1)
  rw[e3] at this;cases this
  rw[Nw.refl S'.sub];exact e4
 ·refine .inr ⟨⟨vs,bC.of e⟩,k _ _ hk _ _ _ _ E1 S1 fun F' aG δ' σ' H' s pre S' ck => ?_⟩
  obtain⟨ws,e1,e2⟩:=r F' aG δ' σ' H' s pre S' ck
  refine⟨⟨ws,bC.of e1,by rw[e2.length];exact qx _⟩,fun i d ed => ?_⟩
  obtain⟨w,e3,e4⟩:=qQ e2 ed
  refine⟨⟨ws,w,bC.of e1,e3⟩,fun y ig ⟨eh,hy⟩ => ?_⟩
  subst eh
  refine⟨fun _ _ e=>e,?_⟩
  have:=hy ws (bC.of e1)
  rw[e3] at this;cases this
  rw[Nw.refl S'.sub];exact e4⟩
theorem Fb {F H:Hp} {T:Addr} {d e:D} {x y:V} (s:aB F H) (hT:H T=none) (h1:Is F d x) (h2:Is F e y):Is (Nw F H (upd H T (.tup [x,y]))) (.tup [d,e]) (.ref T):=by
 rw[Nw.upd s hT]
 have hF:F T=none:=by
  cases q:F T with
  | none=>rfl
  | some u=>rw[s T u q] at hT;cases hT
 have sm:aB F (upd F T (.tup [x,y])):=cX hF
 simp only[Is]
 exact⟨T,_,rfl,bA,.cons (h1.same sm) (.cons (h2.same sm) .nil)⟩
theorem zG {elts:List Expr} {x1:Nat} {tp p pos:Pos} (hg:Gl X "enumerate") (hm:X.mg "enumerate" = none) (ha:JA X [a] (bL fa)) (hs:starEach [a] X.env=[(false,eval a X.env)]:=by rfl) :
  JI X (.Tuple elts x1 tp) (.Call (.Name "enumerate" p) [a] [] pos) (kX (je fa)):=(Ol hg hm ha hs).weak fun σ H R h0_ => el7 h0_ fun F ad δ K S q k =>⟨F,ad,δ,_,S,q,fun xs δ1 h1 vs F1 aK H1 E1 S1 V1=>by
 match xs,h1,V1 with
 | [x],g1,⟨v,r,e,W1,W2⟩ =>
  subst e
  have W3:r=[]:=W2
  subst W3
  obtain⟨a,it,rfl,hk,r⟩:=E_ S1 W1 g1
  refine⟨a,rfl,?_⟩
  rcases r with⟨⟨vs,e⟩,r⟩ | ⟨⟨vs,e⟩,r⟩
  ·refine .inl ⟨⟨vs,a7.of e⟩,k _ _ hk _ _ _ _ E1 S1 fun F' aG δ' σ' H' s pre S' ck => ?_⟩
   obtain⟨ws,e1,e2⟩:=r F' aG δ' σ' H' s pre S' ck
   refine⟨⟨ws,a7.of e1,by rw[e2.length,qO];exact qx _⟩,fun i d ed => ?_⟩
   obtain⟨d',zH,rfl⟩:=qP ed
   obtain⟨w,e3,e4⟩:=qQ e2 zH
   refine⟨⟨ws,w,a7.of e1,e3⟩,fun y ig ⟨T,v,ey,hT,eh,hy⟩ => ?_⟩
   subst eh ey
   have:=hy ws (a7.of e1)
   rw[e3] at this;cases this
   refine⟨cX hT,?_⟩
   rw[WN]
   exact Fb S'.sub hT rfl e4
  ·refine .inr ⟨⟨vs,bC.of e⟩,k _ _ hk _ _ _ _ E1 S1 fun F' aG δ' σ' H' s pre S' ck => ?_⟩
   obtain⟨ws,e1,e2⟩:=r F' aG δ' σ' H' s pre S' ck
   refine⟨⟨ws,bC.of e1,by rw[e2.length,qO]⟩,fun i d ed => ?_⟩
   obtain⟨d',zH,rfl⟩:=qP ed
   obtain⟨w,e3,e4⟩:=qQ e2 zH
   refine⟨⟨ws,w,bC.of e1,e3⟩,fun y ig ⟨T,v,ey,hT,eh,hy⟩ => ?_⟩
   subst eh ey
   have:=hy ws (bC.of e1)
   rw[e3] at this;cases this
   refine⟨cX hT,?_⟩
   rw[WN]
   exact Fb S'.sub hT rfl e4
 | [],h1,_=>exact h1.elim
 | _ :: _ :: _,h1,_=>exact h1.elim⟩
theorem Fc {F1:Hp} {aK:List Addr} {lo:Int} {n:Nat}:o9 F1 aK ⟨bG lo n,fun _=>True⟩ (rZ lo n):=fun F' aG δ' σ' H' s pre S' _=>by
 refine⟨by show n <= (bG lo n).length;rw[jJ];exact qx _,fun i d ed => ?_⟩
 obtain⟨hi,rfl⟩:=j6 ed
 refine⟨hi,fun x ig ⟨eh,ex⟩ => ?_⟩
 subst eh ex
 exact⟨fun _ _ e=>e,rfl⟩
theorem nh {p pos:Pos} (hg:Gl X "range") (hm:X.mg "range" = none) (ha:JA X [a] (bL fa)) (hs:starEach [a] X.env=[(false,eval a X.env)]:=by rfl):JI X tg (.Call (.Name "range" p) [a] [] pos) (kX (k6 fa)) :=
 (Nq hg hm ha hs).weak fun σ H R h0_ => el7 h0_ fun F ad δ K S q k =>⟨F,ad,δ,_,S,q,fun xs δ1 h1 vs F1 aK H1 E1 S1 V1=>by
  split at h1
  ·rename_i j
   obtain⟨v,r,e,V1,V2⟩:=V1
   have V2:r=[]:=V2
   have V1:v = .int j:=V1
   subst V2 V1 e
   exact⟨j,rfl,h1.1.1,h1.1.2,k _ _ h1.2 _ _ _ _ E1 S1 Fc⟩
  ·exact h1.elim⟩
theorem Oo {p pos:Pos} (hg:Gl X "range") (hm:X.mg "range" = none) (ha:JA X [a,b] (bL fa)) (hs:starEach [a,b] X.env=[(false,eval a X.env),(false,eval b X.env)]:=by rfl) (iH:starEach [b] X.env=[(false,eval b X.env)]:=by rfl) :
  JI X tg (.Call (.Name "range" p) [a,b] [] pos) (kX (zE fa)) :=
 (Nr hg hm ha hs iH).weak fun σ H R h0_ => el7 h0_ fun F ad δ K S q k =>⟨F,ad,δ,_,S,q,fun xs δ1 h1 vs F1 aK H1 E1 S1 V1=>by
  split at h1
  ·rename_i i j
   obtain⟨v,r,e,V1,w,r2,e2,V2,V3⟩:=V1
   have V3:r2=[]:=V3
   have V1:v = .int i:=V1
   have V2:w = .int j:=V2
   subst V3 V1 V2 e2 e
   exact⟨i,j,rfl,h1.1,k _ _ h1.2 _ _ _ _ E1 S1 Fc⟩
  ·exact h1.elim⟩
end
end L2
namespace L2
open PySem PySem.Spec PyProof.Rows
mutual
noncomputable def aA:D->D->Bool
 | .non,.non=>true
 | .bl a,.bl b=>a == b
 | .bl a,.int b=>(if a then 1 else 0) == b
 | .int a,.bl b=>a == (if b then 1 else 0)
 | .int a,.int b=>a == b
 | .str a,.str b=>a == b
 | .tup a,.tup b=>b8 a b
 | .lst a,.lst b=>b8 a b
 | _,_=>false
noncomputable def b8:List D->List D->Bool
 | [],[]=>true
 | a :: r,b :: s=>aA a b && b8 r s
 | _,_=>false
end
mutual
theorem jf:∀ d:D,aA d d=true
 | .non=>by simp[aA]
 | .bl a=>by simp[aA]
 | .int a=>by simp[aA]
 | .str a=>by simp[aA]
 | .tup a=>by simp only[aA];exact zI a
 | .lst a=>by simp only[aA];exact zI a
theorem zI:∀ ds:List D,b8 ds ds=true
 | []=>by simp[b8]
 | d :: r=>by simp only[b8,jf d,zI r,Bool.and_true]
end
mutual
theorem Is.inj {H:Hp}:∀ {d e:D} {v:V},Is H d v->Is H e v->d=e
 | .non,e,v,h,q=>by cases e<;>simp only[Is] at h q<;>first | rfl | (subst h;first | (obtain⟨_,_,z,_⟩:=q;cases z;done) | (cases q;done) | (cases q;rfl))
 | .bl a,e,v,h,q=>by cases e<;>simp only[Is] at h q<;>(subst h;first | (obtain⟨_,_,z,_⟩:=q;cases z;done) | (cases q;done) | (cases q;rfl))
 | .int a,e,v,h,q=>by cases e<;>simp only[Is] at h q<;>(subst h;first | (obtain⟨_,_,z,_⟩:=q;cases z;done) | (cases q;done) | (cases q;rfl))
 | .str a,e,v,h,q=>by cases e<;>simp only[Is] at h q<;>(subst h;first | (obtain⟨_,_,z,_⟩:=q;cases z;done) | (cases q;done) | (cases q;rfl))
 | .tup a,e,v,h,q=>by
  simp only[Is] at h
  obtain⟨p,vs,rfl,h1,h2⟩:=h
  cases e with
  | tup b =>
   simp only[Is] at q
   obtain⟨p',ws,z,q1,q2⟩:=q
   cases z
   rw[h1] at q1;cases q1
   rw[ae.inj h2 q2]
  | lst b =>
   simp only[Is] at q
   obtain⟨p',ws,z,q1,q2⟩:=q
   cases z
   rw[h1] at q1;cases q1
  | non=>simp only[Is] at q;cases q
  | bl _=>simp only[Is] at q;cases q
  | int _=>simp only[Is] at q;cases q
  | str _=>simp only[Is] at q;cases q
 | .lst a,e,v,h,q=>by
  simp only[Is] at h
  obtain⟨p,vs,rfl,h1,h2⟩:=h
  cases e with
  | lst b =>
   simp only[Is] at q
   obtain⟨p',ws,z,q1,q2⟩:=q
   cases z
   rw[h1] at q1;cases q1
   rw[ae.inj h2 q2]
  | tup b =>
   simp only[Is] at q
   obtain⟨p',ws,z,q1,q2⟩:=q
   cases z
   rw[h1] at q1;cases q1
  | non=>simp only[Is] at q;cases q
  | bl _=>simp only[Is] at q;cases q
  | int _=>simp only[Is] at q;cases q
  | str _=>simp only[Is] at q;cases q
theorem ae.inj {H:Hp}:∀ {ds es:List D} {vs:List V},ae H ds vs->ae H es vs->ds=es
 | [],es,vs,h,q=>by
  simp only[ae] at h;subst h
  cases es with
  | nil=>rfl
  | cons _ _=>simp only[ae] at q;obtain⟨_,_,z,_⟩:=q;cases z
 | d :: ds,es,vs,h,q=>by
  simp only[ae] at h
  obtain⟨v,r,rfl,h1,h2⟩:=h
  cases es with
  | nil=>simp only[ae] at q;cases q
  | cons e es =>
   simp only[ae] at q
   obtain⟨v',r',z,q1,q2⟩:=q
   cases z
   rw[Is.inj h1 q1,ae.inj h2 q2]
end
theorem tH:∀ {ds es:List D},ds.length≠es.length->b8 ds es=false
 | [],[],h=>absurd rfl h
 | [],_ :: _,_=>by simp[b8]
 | _ :: _,[],_=>by simp[b8]
 | d :: r,e :: s,h=>by simp only[b8];rw[tH (fun z=>h (by rw[D7,D7,z])),Bool.and_false]
noncomputable def pA (ds es:List D) (j:Nat):Bool:=match ds[j]?,es[j]? with
 | some a,some b=>aA a b
 | _,_=>true
theorem tI:∀ {ds es:List D},ds.length=es.length->(List.range ds.length).all (pA ds es)=b8 ds es
 | [],[],_=>by simp[b8]
 | [],_ :: _,h=>by simp at h
 | _ :: _,[],h=>by simp at h
 | d :: r,e :: s,h=>by
  have ih:=tI (ds:=r) (es:=s) (by simpa using h)
  rw[D7,List.range_succ_eq_map,ZS,List.all_map]
  simp only[b8]
  rw[<-ih]
  rfl
section
variable {X:Cx} {pins:List (Addr × Obj)} {σ : St} {H:Hp} {s:Shared}
theorem v5 {vs:List V} {aj:List Value} (r:Vals vs aj) {j:Nat} (h:j < aj.toArray.size):∃ v,vs[j]? = some v/\RelV v aj.toArray[j]:=by
 have hj:j < aj.length:=by simpa using h
 have hv:j < vs.length:=by rw[r.length];exact hj
 obtain⟨u,e,ru⟩:=r.get (lO hv)
 have:aj.toArray[j]=u:=by
  have:=(oR.mp e).2
  simpa using this
 rw[this]
 exact⟨_,lO hv,ru⟩
theorem cU (I:Inv X pins σ H s) {a:Addr} {vs:List V} (h:H a=some (.lst vs)):∃ aj:List Value,Vals vs aj/\s.heap.IsList a aj.toArray:=by
 obtain⟨aj,r,p,_⟩:=I.list (a7.of h)
 exact⟨aj,r,p.isList⟩
theorem cV (I:Inv X pins σ H s) {a:Addr} {vs:List V} (h:H a=some (.tup vs)):∃ aj:List Value,Vals vs aj/\s.heap.IsTuple a aj.toArray:=by
 obtain⟨aj,r,p,_⟩:=I.tuple (bC.of h)
 exact⟨aj,r,p⟩
theorem in1_units (A:Around):A.in1.units=A.units + 1:=rfl
theorem zJ (I:Inv X pins σ H s):∀ (n:Nat) {A:Around} {d e:D} {v u:V} {x y:Value},dep d <= n->A.units + n < cLine->Is H d v->Is H e u->RelV v x->RelV u y->SeqAt.EqAt A s x y (aA d e)/\SeqAt.RcAt A s x y (aA d e):=by
 intro n
 induction n with
 | zero =>
  intro A d e v u x y hd hu hv hw rv ru
  have nz:A.units < cLine:=by omega
  cases d with
  | tup ds=>simp[dep] at hd
  | lst ds=>simp[dep] at hd
  | non =>
   cases (show v = .non from hv);cases rv
   cases e with
   | non=>cases (show u = .non from hw);cases ru;simp only[aA];exact⟨Zt _,SeqAt.RcAt.none_none⟩
   | bl b=>cases (show u = .bl b from hw);cases ru;simp only[aA];exact⟨SeqAt.EqAt.none_bool _,SeqAt.RcAt.none_bool _⟩
   | int b=>cases (show u = .int b from hw);obtain⟨t,rfl⟩:=ru;simp only[aA];exact⟨SeqAt.EqAt.none_int _ _,SeqAt.RcAt.none_int _ _⟩
   | str b=>cases (show u = .str b from hw);obtain⟨t,rfl⟩:=ru;simp only[aA];exact⟨SeqAt.EqAt.none_str _ _,SeqAt.RcAt.none_str _ _⟩
   | tup es=>simp only[Is] at hw;obtain⟨a,vs,rfl,h1,_⟩:=hw;cases ru;obtain⟨_,_,p⟩:=cV I h1;simp only[aA];exact⟨SeqAt.EqAt.none_tuple p nz,SeqAt.RcAt.none_tuple p nz⟩
   | lst es=>simp only[Is] at hw;obtain⟨a,vs,rfl,h1,_⟩:=hw;cases ru;obtain⟨_,_,p⟩:=cU I h1;simp only[aA];exact⟨SeqAt.EqAt.none_list p nz,SeqAt.RcAt.none_list p nz⟩
  | bl b0 =>
   cases (show v = .bl b0 from hv);cases rv
   cases e with
   | non=>cases (show u = .non from hw);cases ru;simp only[aA];exact⟨SeqAt.EqAt.bool_none _,SeqAt.RcAt.bool_none _⟩
   | bl b=>cases (show u = .bl b from hw);cases ru;simp only[aA];exact⟨SeqAt.EqAt.bool_bool _ _,SeqAt.RcAt.bool_bool _ _⟩
   | int b=>cases (show u = .int b from hw);obtain⟨t,rfl⟩:=ru;simp only[aA];exact⟨SeqAt.EqAt.bool_int _ _ _,SeqAt.RcAt.bool_int _ _ _⟩
   | str b=>cases (show u = .str b from hw);obtain⟨t,rfl⟩:=ru;simp only[aA];exact⟨SeqAt.EqAt.bool_str _ _ _,SeqAt.RcAt.bool_str _ _ _⟩
   | tup es=>simp only[Is] at hw;obtain⟨a,vs,rfl,h1,_⟩:=hw;cases ru;obtain⟨_,_,p⟩:=cV I h1;simp only[aA];exact⟨SeqAt.EqAt.bool_tuple _ p nz,SeqAt.RcAt.bool_tuple _ p nz⟩
   | lst es=>simp only[Is] at hw;obtain⟨a,vs,rfl,h1,_⟩:=hw;cases ru;obtain⟨_,_,p⟩:=cU I h1;simp only[aA];exact⟨SeqAt.EqAt.bool_list _ p nz,SeqAt.RcAt.bool_list _ p nz⟩
  | int b0 =>
   cases (show v = .int b0 from hv);obtain⟨t0,rfl⟩:=rv
   cases e with
   | non=>cases (show u = .non from hw);cases ru;simp only[aA];exact⟨SeqAt.EqAt.int_none _ _,SeqAt.RcAt.int_none _ _⟩
   | bl b=>cases (show u = .bl b from hw);cases ru;simp only[aA];exact⟨SeqAt.EqAt.int_bool _ _ _,SeqAt.RcAt.int_bool _ _ _⟩
   | int b=>cases (show u = .int b from hw);obtain⟨t,rfl⟩:=ru;simp only[aA];exact⟨ZE _ _ _ _,SeqAt.RcAt.int_int _ _ _ _⟩
   | str b=>cases (show u = .str b from hw);obtain⟨t,rfl⟩:=ru;simp only[aA];exact⟨ZA _ _ _ _,SeqAt.RcAt.int_str _ _ _ _⟩
   | tup es=>simp only[Is] at hw;obtain⟨a,vs,rfl,h1,_⟩:=hw;cases ru;obtain⟨_,_,p⟩:=cV I h1;simp only[aA];exact⟨SeqAt.EqAt.int_tuple _ _ p nz,SeqAt.RcAt.int_tuple _ _ p nz⟩
   | lst es=>simp only[Is] at hw;obtain⟨a,vs,rfl,h1,_⟩:=hw;cases ru;obtain⟨_,_,p⟩:=cU I h1;simp only[aA];exact⟨SeqAt.EqAt.int_list _ _ p nz,SeqAt.RcAt.int_list _ _ p nz⟩
  | str b0 =>
   cases (show v = .str b0 from hv);obtain⟨t0,rfl⟩:=rv
   cases e with
   | non=>cases (show u = .non from hw);cases ru;simp only[aA];exact⟨SeqAt.EqAt.str_none _ _,SeqAt.RcAt.str_none _ _⟩
   | bl b=>cases (show u = .bl b from hw);cases ru;simp only[aA];exact⟨SeqAt.EqAt.str_bool _ _ _,SeqAt.RcAt.str_bool _ _ _⟩
   | int b=>cases (show u = .int b from hw);obtain⟨t,rfl⟩:=ru;simp only[aA];exact⟨ZC _ _ _ _,SeqAt.RcAt.str_int _ _ _ _⟩
   | str b=>cases (show u = .str b from hw);obtain⟨t,rfl⟩:=ru;simp only[aA];exact⟨SeqAt.EqAt.str_str _ _ _ _,SeqAt.RcAt.str_str _ _ _ _⟩
   | tup es=>simp only[Is] at hw;obtain⟨a,vs,rfl,h1,_⟩:=hw;cases ru;obtain⟨_,_,p⟩:=cV I h1;simp only[aA];exact⟨SeqAt.EqAt.str_tuple _ _ p nz,SeqAt.RcAt.str_tuple _ _ p nz⟩
   | lst es=>simp only[Is] at hw;obtain⟨a,vs,rfl,h1,_⟩:=hw;cases ru;obtain⟨_,_,p⟩:=cU I h1;simp only[aA];exact⟨SeqAt.EqAt.str_list _ _ p nz,SeqAt.RcAt.str_list _ _ p nz⟩
 | succ n ih =>
  intro A d e v u x y hd hu hv hw rv ru
  have nz:A.units < cLine:=by omega
  have step:∀ {ds es:List D} {vs us:List V} {aj ba:List Value} (r1:Vals vs aj) (r2:Vals us ba),bS ds <= n->ae H ds vs->ae H es us →
    ∀ (j:Nat) (h1:j < aj.toArray.size) (h2:j < ba.toArray.size),SeqAt.EqAt A.in1 s aj.toArray[j] ba.toArray[j] (pA ds es j):=fun {ds es vs us aj ba} r1 r2 hl i1 i2 j h1 h2=>by
   obtain⟨v1,e1,q1⟩:=v5 r1 h1
   obtain⟨v2,e2,q2⟩:=v5 r2 h2
   obtain⟨d1,f1,g1⟩:=i1.get e1
   obtain⟨d2,f2,g2⟩:=i2.get e2
   unfold pA
   rw[f1,f2]
   exact (ih (Xg (yW f1) hl) (by rw[in1_units];omega) g1 g2 q1 q2).1
  cases d with
  | tup ds =>
   have hl:bS ds <= n:=by simp only[dep] at hd;omega
   have zK:=hv
   simp only[Is] at hv
   obtain⟨a,vs,rfl,h1,i1⟩:=hv
   cases rv
   obtain⟨aj,r1,p1⟩:=cV I h1
   cases e with
   | tup es =>
    have zL:=hw
    simp only[Is] at hw
    obtain⟨b,us,rfl,h2,i2⟩:=hw
    cases ru
    obtain⟨ba,r2,p2⟩:=cV I h2
    have rc:SeqAt.RcAt A s (.ref a) (.ref b) (aA (.tup ds) (.tup es)):=by
     have:=SeqAt.RcAt.tuples p1 p2 nz (step r1 r2 hl i1 i2)
     have l1:aj.toArray.size=ds.length:=by rw[vp,<-r1.length,i1.length]
     have l2:ba.toArray.size=es.length:=by rw[vp,<-r2.length,i2.length]
     rw[l1,l2] at this
     have eb:((List.range (min ds.length es.length)).all (pA ds es) && ds.length == es.length)=aA (.tup ds) (.tup es):=by
      simp only[aA]
      by_cases c:ds.length=es.length
      ·rw[<-c,Nat.min_self,tI c];simp
      ·rw[tH c];simp[c]
     rw[eb] at this;exact this
    refine⟨?_,rc⟩
    by_cases c:a=b
    ·subst c
     have:=Is.inj zK zL
     rw[this,jf];exact Zt _
    ·exact SeqAt.EqAt.of_refs c rc
   | lst es =>
    simp only[Is] at hw
    obtain⟨b,us,rfl,h2,i2⟩:=hw
    cases ru
    obtain⟨ba,r2,p2⟩:=cU I h2
    simp only[aA];exact⟨SeqAt.EqAt.tuple_list p1 p2 nz,SeqAt.RcAt.tuple_list p1 p2 nz⟩
   | non=>cases (show u = .non from hw);cases ru;simp only[aA];exact⟨SeqAt.EqAt.tuple_none p1 nz,SeqAt.RcAt.tuple_none p1 nz⟩
   | bl b=>cases (show u = .bl b from hw);cases ru;simp only[aA];exact⟨SeqAt.EqAt.tuple_bool _ p1 nz,SeqAt.RcAt.tuple_bool _ p1 nz⟩
   | int b=>cases (show u = .int b from hw);obtain⟨t,rfl⟩:=ru;simp only[aA];exact⟨SeqAt.EqAt.tuple_int _ _ p1 nz,SeqAt.RcAt.tuple_int _ _ p1 nz⟩
   | str b=>cases (show u = .str b from hw);obtain⟨t,rfl⟩:=ru;simp only[aA];exact⟨SeqAt.EqAt.tuple_str _ _ p1 nz,SeqAt.RcAt.tuple_str _ _ p1 nz⟩
  | lst ds =>
   have hl:bS ds <= n:=by simp only[dep] at hd;omega
   have zK:=hv
   simp only[Is] at hv
   obtain⟨a,vs,rfl,h1,i1⟩:=hv
   cases rv
   obtain⟨aj,r1,p1⟩:=cU I h1
   cases e with
   | lst es =>
    have zL:=hw
    simp only[Is] at hw
    obtain⟨b,us,rfl,h2,i2⟩:=hw
    cases ru
    obtain⟨ba,r2,p2⟩:=cU I h2
    have l1:aj.toArray.size=ds.length:=by rw[vp,<-r1.length,i1.length]
    have l2:ba.toArray.size=es.length:=by rw[vp,<-r2.length,i2.length]
    have rc:SeqAt.RcAt A s (.ref a) (.ref b) (aA (.lst ds) (.lst es)):=by
     by_cases c:ds.length=es.length
     ·have:=SeqAt.RcAt.lists p1 p2 (by rw[l1,l2];exact c) nz (step r1 r2 hl i1 i2)
      rw[l1,tI c] at this
      simp only[aA];exact this
     ·simp only[aA];rw[tH c]
      exact SeqAt.RcAt.lists_lengths p1 p2 (by rw[l1,l2];simpa using c) nz
    refine⟨?_,rc⟩
    by_cases c:a=b
    ·subst c
     have:=Is.inj zK zL
     rw[this,jf];exact Zt _
    ·exact SeqAt.EqAt.of_refs c rc
   | tup es =>
    simp only[Is] at hw
    obtain⟨b,us,rfl,h2,i2⟩:=hw
    cases ru
    obtain⟨ba,r2,p2⟩:=cV I h2
    simp only[aA];exact⟨SeqAt.EqAt.list_tuple p1 p2 nz,SeqAt.RcAt.list_tuple p1 p2 nz⟩
   | non=>cases (show u = .non from hw);cases ru;simp only[aA];exact⟨SeqAt.EqAt.list_none p1 nz,SeqAt.RcAt.list_none p1 nz⟩
   | bl b=>cases (show u = .bl b from hw);cases ru;simp only[aA];exact⟨SeqAt.EqAt.list_bool _ p1 nz,SeqAt.RcAt.list_bool _ p1 nz⟩
   | int b=>cases (show u = .int b from hw);obtain⟨t,rfl⟩:=ru;simp only[aA];exact⟨SeqAt.EqAt.list_int _ _ p1 nz,SeqAt.RcAt.list_int _ _ p1 nz⟩
   | str b=>cases (show u = .str b from hw);obtain⟨t,rfl⟩:=ru;simp only[aA];exact⟨SeqAt.EqAt.list_str _ _ p1 nz,SeqAt.RcAt.list_str _ _ p1 nz⟩
  | non=>exact ih (by simp[dep]) (by omega) hv hw rv ru
  | bl b0=>exact ih (by simp[dep]) (by omega) hv hw rv ru
  | int b0=>exact ih (by simp[dep]) (by omega) hv hw rv ru
  | str b0=>exact ih (by simp[dep]) (by omega) hv hw rv ru
theorem Oq (I:Inv X pins σ H s) {A:Around} {d e:D} {v u:V} {x y:Value} (hd:dep d <= 60) (hu:A.units + 61 < cLine) (hv:Is H d v) (hw:Is H e u) (rv:RelV v x) (ru:RelV u y):SeqAt.RcNeAt A s x y (!aA d e):=by
 have nz:A.units < cLine:=by omega
 have step:∀ {ds es:List D} {vs us:List V} {aj ba:List Value} (r1:Vals vs aj) (r2:Vals us ba),bS ds <= 59->ae H ds vs->ae H es us →
   ∀ (j:Nat) (h1:j < aj.toArray.size) (h2:j < ba.toArray.size),SeqAt.EqAt A.in1 s aj.toArray[j] ba.toArray[j] (pA ds es j):=fun {ds es vs us aj ba} r1 r2 hl i1 i2 j h1 h2=>by
  obtain⟨v1,e1,q1⟩:=v5 r1 h1
  obtain⟨v2,e2,q2⟩:=v5 r2 h2
  obtain⟨d1,f1,g1⟩:=i1.get e1
  obtain⟨d2,f2,g2⟩:=i2.get e2
  unfold pA
  rw[f1,f2]
  exact (zJ I 59 (Xg (yW f1) hl) (by rw[in1_units];omega) g1 g2 q1 q2).1
 cases d with
 | tup ds =>
  have hl:bS ds <= 59:=by simp only[dep] at hd;omega
  simp only[Is] at hv
  obtain⟨a,vs,rfl,h1,i1⟩:=hv
  cases rv
  obtain⟨aj,r1,p1⟩:=cV I h1
  cases e with
  | tup es =>
   simp only[Is] at hw
   obtain⟨b,us,rfl,h2,i2⟩:=hw
   cases ru
   obtain⟨ba,r2,p2⟩:=cV I h2
   have:=SeqAt.RcNeAt.tuples p1 p2 nz (step r1 r2 hl i1 i2)
   have l1:aj.toArray.size=ds.length:=by rw[vp,<-r1.length,i1.length]
   have l2:ba.toArray.size=es.length:=by rw[vp,<-r2.length,i2.length]
   rw[l1,l2] at this
   have eb:((List.range (min ds.length es.length)).all (pA ds es) && ds.length == es.length)=aA (.tup ds) (.tup es):=by
    simp only[aA]
    by_cases c:ds.length=es.length
    ·rw[<-c,Nat.min_self,tI c];simp
    ·rw[tH c];simp[c]
   rw[eb] at this;exact this
  | lst es=>simp only[Is] at hw;obtain⟨b,us,rfl,h2,i2⟩:=hw;cases ru;obtain⟨ba,r2,p2⟩:=cU I h2;simp only[aA];exact SeqAt.RcNeAt.tuple_list p1 p2 nz
  | non=>cases (show u = .non from hw);cases ru;simp only[aA];exact SeqAt.RcNeAt.tuple_none p1 nz
  | bl b=>cases (show u = .bl b from hw);cases ru;simp only[aA];exact SeqAt.RcNeAt.tuple_bool _ p1 nz
  | int b=>cases (show u = .int b from hw);obtain⟨t,rfl⟩:=ru;simp only[aA];exact SeqAt.RcNeAt.tuple_int _ _ p1 nz
  | str b=>cases (show u = .str b from hw);obtain⟨t,rfl⟩:=ru;simp only[aA];exact SeqAt.RcNeAt.tuple_str _ _ p1 nz
 | lst ds =>
  have hl:bS ds <= 59:=by simp only[dep] at hd;omega
  simp only[Is] at hv
  obtain⟨a,vs,rfl,h1,i1⟩:=hv
  cases rv
  obtain⟨aj,r1,p1⟩:=cU I h1
  cases e with
  | lst es =>
   simp only[Is] at hw
   obtain⟨b,us,rfl,h2,i2⟩:=hw
   cases ru
   obtain⟨ba,r2,p2⟩:=cU I h2
   have l1:aj.toArray.size=ds.length:=by rw[vp,<-r1.length,i1.length]
   have l2:ba.toArray.size=es.length:=by rw[vp,<-r2.length,i2.length]
   by_cases c:ds.length=es.length
   ·have:=SeqAt.RcNeAt.lists p1 p2 (by rw[l1,l2];exact c) nz (step r1 r2 hl i1 i2)
    rw[l1,tI c] at this
    simp only[aA];exact this
   ·simp only[aA];rw[tH c]
    exact SeqAt.RcNeAt.lists_lengths p1 p2 (by rw[l1,l2];simpa using c) nz
  | tup es=>simp only[Is] at hw;obtain⟨b,us,rfl,h2,i2⟩:=hw;cases ru;obtain⟨ba,r2,p2⟩:=cV I h2;simp only[aA];exact SeqAt.RcNeAt.list_tuple p1 p2 nz
  | non=>cases (show u = .non from hw);cases ru;simp only[aA];exact SeqAt.RcNeAt.list_none p1 nz
  | bl b=>cases (show u = .bl b from hw);cases ru;simp only[aA];exact SeqAt.RcNeAt.list_bool _ p1 nz
  | int b=>cases (show u = .int b from hw);obtain⟨t,rfl⟩:=ru;simp only[aA];exact SeqAt.RcNeAt.list_int _ _ p1 nz
  | str b=>cases (show u = .str b from hw);obtain⟨t,rfl⟩:=ru;simp only[aA];exact SeqAt.RcNeAt.list_str _ _ p1 nz
 | non =>
  cases (show v = .non from hv);cases rv
  cases e with
  | non=>cases (show u = .non from hw);cases ru;simp only[aA];exact SeqAt.RcNeAt.none_none
  | bl b=>cases (show u = .bl b from hw);cases ru;simp only[aA];exact SeqAt.RcNeAt.none_bool _
  | int b=>cases (show u = .int b from hw);obtain⟨t,rfl⟩:=ru;simp only[aA];exact SeqAt.RcNeAt.none_int _ _
  | str b=>cases (show u = .str b from hw);obtain⟨t,rfl⟩:=ru;simp only[aA];exact SeqAt.RcNeAt.none_str _ _
  | tup es=>simp only[Is] at hw;obtain⟨a,vs,rfl,h1,_⟩:=hw;cases ru;obtain⟨_,_,p⟩:=cV I h1;simp only[aA];exact SeqAt.RcNeAt.none_tuple p nz
  | lst es=>simp only[Is] at hw;obtain⟨a,vs,rfl,h1,_⟩:=hw;cases ru;obtain⟨_,_,p⟩:=cU I h1;simp only[aA];exact SeqAt.RcNeAt.none_list p nz
 | bl b0 =>
  cases (show v = .bl b0 from hv);cases rv
  cases e with
  | non=>cases (show u = .non from hw);cases ru;simp only[aA];exact SeqAt.RcNeAt.bool_none _
  | bl b=>cases (show u = .bl b from hw);cases ru;simp only[aA];exact SeqAt.RcNeAt.bool_bool _ _
  | int b=>cases (show u = .int b from hw);obtain⟨t,rfl⟩:=ru;simp only[aA];exact SeqAt.RcNeAt.bool_int _ _ _
  | str b=>cases (show u = .str b from hw);obtain⟨t,rfl⟩:=ru;simp only[aA];exact SeqAt.RcNeAt.bool_str _ _ _
  | tup es=>simp only[Is] at hw;obtain⟨a,vs,rfl,h1,_⟩:=hw;cases ru;obtain⟨_,_,p⟩:=cV I h1;simp only[aA];exact SeqAt.RcNeAt.bool_tuple _ p nz
  | lst es=>simp only[Is] at hw;obtain⟨a,vs,rfl,h1,_⟩:=hw;cases ru;obtain⟨_,_,p⟩:=cU I h1;simp only[aA];exact SeqAt.RcNeAt.bool_list _ p nz
 | int b0 =>
  cases (show v = .int b0 from hv);obtain⟨t0,rfl⟩:=rv
  cases e with
  | non=>cases (show u = .non from hw);cases ru;simp only[aA];exact SeqAt.RcNeAt.int_none _ _
  | bl b=>cases (show u = .bl b from hw);cases ru;simp only[aA];exact SeqAt.RcNeAt.int_bool _ _ _
  | int b=>cases (show u = .int b from hw);obtain⟨t,rfl⟩:=ru;simp only[aA];exact SeqAt.RcNeAt.int_int _ _ _ _
  | str b=>cases (show u = .str b from hw);obtain⟨t,rfl⟩:=ru;simp only[aA];exact SeqAt.RcNeAt.int_str _ _ _ _
  | tup es=>simp only[Is] at hw;obtain⟨a,vs,rfl,h1,_⟩:=hw;cases ru;obtain⟨_,_,p⟩:=cV I h1;simp only[aA];exact SeqAt.RcNeAt.int_tuple _ _ p nz
  | lst es=>simp only[Is] at hw;obtain⟨a,vs,rfl,h1,_⟩:=hw;cases ru;obtain⟨_,_,p⟩:=cU I h1;simp only[aA];exact SeqAt.RcNeAt.int_list _ _ p nz
 | str b0 =>
  cases (show v = .str b0 from hv);obtain⟨t0,rfl⟩:=rv
  cases e with
  | non=>cases (show u = .non from hw);cases ru;simp only[aA];exact SeqAt.RcNeAt.str_none _ _
  | bl b=>cases (show u = .bl b from hw);cases ru;simp only[aA];exact SeqAt.RcNeAt.str_bool _ _ _
  | int b=>cases (show u = .int b from hw);obtain⟨t,rfl⟩:=ru;simp only[aA];exact SeqAt.RcNeAt.str_int _ _ _ _
  | str b=>cases (show u = .str b from hw);obtain⟨t,rfl⟩:=ru;simp only[aA];exact SeqAt.RcNeAt.str_str _ _ _ _
  | tup es=>simp only[Is] at hw;obtain⟨a,vs,rfl,h1,_⟩:=hw;cases ru;obtain⟨_,_,p⟩:=cV I h1;simp only[aA];exact SeqAt.RcNeAt.str_tuple _ _ p nz
  | lst es=>simp only[Is] at hw;obtain⟨a,vs,rfl,h1,_⟩:=hw;cases ru;obtain⟨_,_,p⟩:=cU I h1;simp only[aA];exact SeqAt.RcNeAt.str_list _ _ p nz
end
variable [aE]
noncomputable def intsOf:List D->Option (List Int)
 | []=>some []
 | .int i :: r=>match intsOf r with
  | some ns=>some (i :: ns)
  | none=>none
 | _=>none
theorem tJ:∀ ns:List Int,intsOf (ns.map D.int)=some ns
 | []=>rfl
 | n :: r=>by show (match intsOf (r.map D.int) with | some ns=>some (n :: ns) | none=>none)=_;rw[tJ r]
theorem qR:∀ {ds:List D} {ns:List Int},intsOf ds=some ns->ds=ns.map D.int
 | [],ns,h=>by cases h;rfl
 | .int i :: r,ns,h=>by
  unfold intsOf at h
  split at h
  ·rename_i ms e;cases h;rw[Wr,qR e]
  ·cases h
 | .non :: r,ns,h=>by cases h
 | .bl _ :: r,ns,h=>by cases h
 | .str _ :: r,ns,h=>by cases h
 | .tup _ :: r,ns,h=>by cases h
 | .lst _ :: r,ns,h=>by cases h
theorem k7 {F:Hp}:∀ {ns:List Int} {vs:List V},ae F (ns.map D.int) vs->vs=ns.map V.int
 | [],vs,h=>by simp only[Yj,ae] at h;exact h
 | n :: r,vs,h=>by
  simp only[Wr,ae] at h
  obtain⟨v,t,rfl,h1,h2⟩:=h
  have h1:v = .int n:=h1
  rw[k7 h2,h1];rfl
theorem ni {F:Hp}:∀ {ns:List Int},ae F (ns.map D.int) (ns.map V.int)
 | [] => .nil
 | n :: r => .cons (show _=_ from rfl) ni
theorem qT {F:Hp}:∀ {as bs:List D} {us vs:List V},ae F as us->ae F bs vs->ae F (as ++ bs) (us ++ vs)
 | [],bs,us,vs,h,q=>by simp only[ae] at h;subst h;exact q
 | a :: r,bs,us,vs,h,q=>by
  simp only[ae] at h
  obtain⟨v,t,rfl,h1,h2⟩:=h
  exact .cons h1 (qT h2 q)
theorem Fd {F:Hp}:∀ {as:List D} {us:List V} (n:Nat),ae F as us->ae F (as.take n) (us.take n)
 | as,us,0,_=>by rw[Zf,Zf];exact .nil
 | [],us,n + 1,h=>by simp only[ae] at h;subst h;exact .nil
 | a :: r,us,n + 1,h=>by
  simp only[ae] at h
  obtain⟨v,t,rfl,h1,h2⟩:=h
  exact .cons h1 (Fd n h2)
theorem zM {F:Hp}:∀ {as:List D} {us:List V} (n:Nat),ae F as us->ae F (as.drop n) (us.drop n)
 | as,us,0,h=>h
 | [],us,n + 1,h=>by simp only[ae] at h;subst h;exact .nil
 | a :: r,us,n + 1,h=>by
  simp only[ae] at h
  obtain⟨v,t,rfl,h1,h2⟩:=h
  exact zM n h2
theorem Fe {F:Hp}:∀ {as:List D} {us:List V} (n:Nat) {d:D} {v:V},ae F as us->Is F d v->ae F (as.set n d) (us.set n v)
 | [],us,n,d,v,h,_=>by simp only[ae] at h;subst h;exact .nil
 | a :: r,us,0,d,v,h,q=>by
  simp only[ae] at h
  obtain⟨w,t,rfl,h1,h2⟩:=h
  exact .cons q h2
 | a :: r,us,n + 1,d,v,h,q=>by
  simp only[ae] at h
  obtain⟨w,t,rfl,h1,h2⟩:=h
  exact .cons h1 (Fe n h2 q)
theorem Ff {F:Hp}:∀ {as:List D} {us:List V} (n:Nat),ae F as us->ae F (as.eraseIdx n) (us.eraseIdx n)
 | [],us,n,h=>by simp only[ae] at h;subst h;exact .nil
 | a :: r,us,0,h=>by
  simp only[ae] at h
  obtain⟨w,t,rfl,h1,h2⟩:=h
  exact h2
 | a :: r,us,n + 1,h=>by
  simp only[ae] at h
  obtain⟨w,t,rfl,h1,h2⟩:=h
  exact .cons h1 (Ff n h2)
theorem qU {F H:Hp} {p:Addr} {ds:List D} {vs:List V} (s:aB F H) (hp:H p=none) (h:ae F ds vs):Is (Nw F H (upd H p (.lst vs))) (.lst ds) (.ref p):=by
 rw[Nw.upd s hp]
 simp only[Is]
 exact⟨p,vs,rfl,bA,h.same (cX (s.free hp))⟩
theorem zN {F H:Hp} {p:Addr} {ds:List D} {vs:List V} (s:aB F H) (hp:H p=none) (h:ae F ds vs):Is (Nw F H (upd H p (.tup vs))) (.tup ds) (.ref p):=by
 rw[Nw.upd s hp]
 simp only[Is]
 exact⟨p,vs,rfl,bA,h.same (cX (s.free hp))⟩
theorem tK {F H:Hp} {d:D} {v:V} (s:aB F H) (h:Is F d v):Is (Nw F H H) d v:=by rw[Nw.refl s];exact h
noncomputable def pB:D->D->(D->Prop)->Prop
 | .int i,.int j,K=>K (.int (i + j))
 | .lst a,.lst b,K=>a.length + b.length <= 1000/\K (.lst (a ++ b))
 | .tup a,.tup b,K=>(a≠[]/\a.length + b.length <= 1000)/\K (.tup (a ++ b))
 | .str a,.str b,K=>a.length + b.length <= 1000/\K (.str (a ++ b))
 | _,_,_=>False
noncomputable def oI (f:Int->Int->D):D->D->(D->Prop)->Prop
 | .int i,.int j,K=>K (f i j)
 | _,_,_=>False
noncomputable def dy (C:Int->Int->Prop) (f:Int->Int->D):D->D->(D->Prop)->Prop
 | .int i,.int j,K=>C i j/\K (f i j)
 | _,_,_=>False
noncomputable def eI:D->D->(D->Prop)->Prop
 | .int i,.int j,K=>jP i j/\K (.int (i * j))
 | .lst a,.int j,K=>(-(2 ^ 63) <= j/\j < 2 ^ 63/\a.length * j.toNat <= 1000)/\K (.lst (List.replicate j.toNat a).flatten)
 | _,_,_=>False
section
variable {X:Cx}
theorem v7 {f:Value->Value->Sem Value} {g:Int->Int->V} {h:Int->Int->D} (op:cA X f (lE g)) (hg:∀ F i j,Is F (h i j) (g i j)):dO X f (oI h):=by
 rintro pins s σ H x y v u Q I rx ry ⟨F,d,e,K,sub,rd,re,q,md⟩
 unfold oI at q
 split at q
 ·rename_i i j
  exact op pins s σ H x y v u Q I rx ry ⟨i,j,rd,re,md _ _ _ q (fun _ _ e=>e) (hg _ i j)⟩
 ·exact q.elim
theorem zO {f:Value->Value->Sem Value} {C:Int->Int->Prop} {g:Int->Int->V} {h:Int->Int->D} (op:cA X f (rI C g)) (hg:∀ F i j,Is F (h i j) (g i j)):dO X f (dy C h):=by
 rintro pins s σ H x y v u Q I rx ry ⟨F,d,e,K,sub,rd,re,q,md⟩
 unfold dy at q
 split at q
 ·rename_i i j
  exact op pins s σ H x y v u Q I rx ry ⟨i,j,rd,re,q.1,md _ _ _ q.2 (fun _ _ e=>e) (hg _ i j)⟩
 ·exact q.elim
theorem v8:dO X (binaryOp .Add) pB:=by
 rintro pins s σ H x y v u Q I rx ry ⟨F,d,e,K,sub,rd,re,q,md⟩
 unfold pB at q
 split at q
 ·rename_i i j
  exact Ds pins s σ H x y v u Q I rx ry ⟨i,j,rd,re,md _ _ _ q (fun _ _ e=>e) rfl⟩
 ·rename_i as bs
  obtain⟨a,us,rfl,h1,h2⟩:=rd
  obtain⟨b,ws,rfl,h3,h4⟩:=re
  refine D3 pins s σ H _ _ v u Q I rx ry ⟨a,b,us,ws,rfl,rfl,h1,h3,jY (by rw[h2.length,h4.length];exact q.1),fun p hp=>md _ _ _ q.2 (cX hp) (qU sub hp (qT h2 h4))⟩
 ·rename_i as bs
  have cI:Is F (.tup as) x:=rd
  have gQ:Is F (.tup bs) y:=re
  simp only[Is] at cI gQ
  obtain⟨a,us,rfl,h1,h2⟩:=cI
  obtain⟨b,ws,rfl,h3,h4⟩:=gQ
  have ne:us≠[]:=fun z=>q.1.1 (XH.mp (by rw[<-h2.length,z];rfl))
  refine L9 pins s σ H _ _ v u Q I rx ry ⟨a,b,us,ws,rfl,rfl,bC.of (sub _ _ h1),bC.of (sub _ _ h3),ne,jY (by rw[h2.length,h4.length];exact q.1.2),fun z => ?_,fun z p hp=>md _ _ _ q.2 (cX hp) (zN sub hp (qT h2 h4))⟩
  have:bs=[]:=XH.mp (by rw[<-h4.length,z];rfl)
  subst this
  refine md _ _ _ q.2 (fun _ _ e=>e) (tK sub ?_)
  rw[YC];exact rd
 ·rename_i as bs
  have cI:x = .str as:=rd
  have gQ:y = .str bs:=re
  subst cI gQ
  exact Ls pins s σ H _ _ v u Q I rx ry ⟨as,bs,rfl,rfl,jY q.1,md _ _ _ q.2 (fun _ _ e=>e) rfl⟩
 ·exact q.elim
theorem j7:dO X (binaryOp .Sub) (oI fun i j => .int (i - j)):=v7 Lf fun _ _ _=>rfl
theorem nq:dO X (binaryOp .Mult) eI:=by
 rintro pins s σ H x y v u Q I rx ry ⟨F,d,e,K,sub,rd,re,q,md⟩
 unfold eI at q
 split at q
 ·rename_i i j
  exact Lg pins s σ H x y v u Q I rx ry ⟨i,j,rd,re,q.1,md _ _ _ q.2 (fun _ _ e=>e) rfl⟩
 ·rename_i as j
  obtain⟨a,us,rfl,h1,h2⟩:=rd
  refine Mm pins s σ H _ _ v u Q I rx ry ⟨a,j,us,rfl,re,h1,q.1.1,q.1.2.1,jY (by rw[h2.length];exact q.1.2.2),fun p hp=>md _ _ _ q.2 (cX hp) (qU sub hp ?_)⟩
  have:∀ k:Nat,ae F (List.replicate k as).flatten (List.replicate k us).flatten:=fun k=>by
   induction k with
   | zero=>exact .nil
   | succ k ih=>rw[Xn,Xn,XO,XO];exact qT h2 ih
  exact this _
 ·exact q.elim
theorem Ot:dO X (binaryOp .FloorDiv) (dy sh fun i j => .int (i.fdiv j)):=zO Lh fun _ _ _=>rfl
theorem jg:dO X (binaryOp .Mod) (dy (fun _ j=>0 < j) fun i j => .int (i % j)):=zO ya fun _ _ _=>rfl
theorem pC:dO X (binaryOp .Pow) (dy fU fun i j => .int (i ^ j.toNat)):=zO Li fun _ _ _=>rfl
noncomputable def oEq:D->D->(D->Prop)->Prop:=fun d e K=>dep d <= 60/\K (.bl (aA d e))
noncomputable def l3:D->D->(D->Prop)->Prop:=fun d e K=>dep d <= 60/\K (.bl (!aA d e))
theorem fG (hu:X.A.units + 64 < cLine):dO X (compareOp .Eq) oEq:=by
 rintro pins s σ H x y v u Q I rx ry ⟨F,d,e,K,sub,rd,re,q,md⟩
 exact (zJ I 60 q.1 (by omega) (rd.is sub) (re.is sub) rx ry).2 _ _ _ _ ⟨.bl _,H,I,rfl,md _ _ _ q.2 (fun _ _ e=>e) rfl⟩
theorem pD (hu:X.A.units + 64 < cLine):dO X (compareOp .NotEq) l3:=by
 rintro pins s σ H x y v u Q I rx ry ⟨F,d,e,K,sub,rd,re,q,md⟩
 exact Oq I q.1 (by omega) (rd.is sub) (re.is sub) rx ry _ _ _ _ ⟨.bl _,H,I,rfl,md _ _ _ q.2 (fun _ _ e=>e) rfl⟩
noncomputable def oLt:D->D->(D->Prop)->Prop
 | .int i,.int j,K=>K (.bl (decide (i < j)))
 | .tup a,.tup b,K=>match intsOf a,intsOf b with
  | some ns,some ms=>K (.bl (HT.lexLt ns ms))
  | _,_=>False
 | _,_,_=>False
theorem v9 (hu:X.A.units + 64 < cLine):dO X (compareOp .Lt) oLt:=by
 rintro pins s σ H x y v u Q I rx ry ⟨F,d,e,K,sub,rd,re,q,md⟩
 unfold oLt at q
 split at q
 ·rename_i i j
  exact Lj pins s σ H x y v u Q I rx ry ⟨i,j,rd,re,md _ _ _ q (fun _ _ e=>e) rfl⟩
 ·rename_i as bs
  split at q
  ·rename_i ns ms e1 e2
   rw[qR e1] at rd
   rw[qR e2] at re
   have cI:Is F (.tup (ns.map D.int)) x:=rd
   have gQ:Is F (.tup (ms.map D.int)) y:=re
   simp only[Is] at cI gQ
   obtain⟨a,us,rfl,h1,h2⟩:=cI
   obtain⟨b,ws,rfl,h3,h4⟩:=gQ
   rw[k7 h2] at h1
   rw[k7 h4] at h3
   exact L7 (by omega) pins s σ H _ _ v u Q I rx ry ⟨a,b,ns,ms,rfl,rfl,bC.of (sub _ _ h1),bC.of (sub _ _ h3),md _ _ _ q (fun _ _ e=>e) rfl⟩
  ·exact q.elim
 ·exact q.elim
theorem Fg:dO X (compareOp .LtE) (oI fun i j => .bl (decide (i <= j))):=v7 Lk fun _ _ _=>rfl
theorem tL:dO X (compareOp .Gt) (oI fun i j => .bl (decide (j < i))):=v7 Ll fun _ _ _=>rfl
theorem Ou:dO X (compareOp .GtE) (oI fun i j => .bl (decide (j <= i))):=v7 Lm fun _ _ _=>rfl
noncomputable def jh:D->D->(D->Prop)->Prop
 | .non,.non,K=>K (.bl true)
 | .bl _,.non,K=>K (.bl false)
 | .int _,.non,K=>K (.bl false)
 | .str _,.non,K=>K (.bl false)
 | .tup _,.non,K=>K (.bl false)
 | .lst _,.non,K=>K (.bl false)
 | _,_,_=>False
theorem Fh {F H:Hp} {d e:D} {x y:V} {K:D->Prop} (rd:fY F H d x) (re:fY F H e y) (q:jh d e K):y = .non/\K (.bl (decide (x = .non))):=by
 unfold jh at q
 split at q
 ·have:x = .non:=rd;have h2:y = .non:=re;subst this;exact⟨h2,q⟩
 ·rename_i b;have:x = .bl b:=rd;have h2:y = .non:=re;subst this;exact⟨h2,q⟩
 ·rename_i b;have:x = .int b:=rd;have h2:y = .non:=re;subst this;exact⟨h2,q⟩
 ·rename_i b;have:x = .str b:=rd;have h2:y = .non:=re;subst this;exact⟨h2,q⟩
 ·rename_i b;have rd:Is F (.tup b) x:=rd;simp only[Is] at rd;obtain⟨a,_,rfl,_⟩:=rd;exact⟨re,q⟩
 ·rename_i b;obtain⟨a,_,rfl,_⟩:=rd;exact⟨re,q⟩
 ·exact q.elim
noncomputable def zP:D->D->(D->Prop)->Prop:=fun d e K=>jh d e fun z=>match z with
 | .bl b=>K (.bl (!b))
 | _=>False
theorem Ov:dO X (compareOp .Is) jh:=by
 rintro pins s σ H x y v u Q I rx ry ⟨F,d,e,K,sub,rd,re,q,md⟩
 obtain⟨h1,h2⟩:=Fh rd re q
 exact Ln pins s σ H x y v u Q I rx ry ⟨h1,md _ _ _ h2 (fun _ _ e=>e) rfl⟩
theorem Ox:dO X (compareOp .IsNot) zP:=by
 rintro pins s σ H x y v u Q I rx ry ⟨F,d,e,K,sub,rd,re,q,md⟩
 obtain⟨h1,h2⟩:=Fh rd re q
 exact Lo pins s σ H x y v u Q I rx ry ⟨h1,md _ _ _ h2 (fun _ _ e=>e) rfl⟩
noncomputable def gs (neg:Bool):D->D->(D->Prop)->Prop
 | d,.lst es,K=>bS es <= 55/\K (.bl (if neg then !(es.any fun e=>aA e d) else es.any fun e=>aA e d))
 | d,.tup es,K=>bS es <= 55/\K (.bl (if neg then !(es.any fun e=>aA e d) else es.any fun e=>aA e d))
 | _,_,_=>False
noncomputable def g_ (H:Hp) (d:D) (u:Value):Bool:=by
 classical exact if ∃ e v,Is H e v/\RelV v u/\aA e d=true then true else false
theorem Fi {H:Hp} {d e:D} {v:V} {u:Value} (h:Is H e v) (r:RelV v u):g_ H d u=aA e d:=by
 unfold g_
 split
 ·rename_i z
  obtain⟨e',v',h',r',q⟩:=z
  have:v'=v:=r'.inj r
  subst this
  rw[Is.inj h h'];exact q.symm
 ·rename_i z
  cases q:aA e d with
  | false=>rfl
  | true=>exact absurd ⟨e,v,h,r,q⟩ z
theorem tM {H:Hp} {d:D}:∀ {es:List D} {vs:List V} {us:List Value},ae H es vs->Vals vs us->us.any (g_ H d)=es.any fun e=>aA e d
 | [],vs,us,h,r=>by simp only[ae] at h;subst h;cases r;rfl
 | e :: es,vs,us,h,r=>by
  simp only[ae] at h
  obtain⟨v,t,rfl,h1,h2⟩:=h
  cases r with
  | cons r1 r2=>rw[Yn,Yn,Fi h1 r1,tM h2 r2]
theorem tN {pins:List (Addr × Obj)} {σ : St} {H:Hp} {s:Shared} (I:Inv X pins σ H s) {A:Around} (hu:A.units + 60 < cLine) {d:D} {x:V} {w:Value} (hd:Is H d x) (rd:RelV x w):∀ {es:List D} {vs:List V} {us:List Value},bS es <= 55->ae H es vs->Vals vs us->∀ u∈us,SeqAt.EqAt A s u w (g_ H d u)
 | [],vs,us,_,h,r=>by simp only[ae] at h;subst h;cases r;intro u hu;cases hu
 | e :: es,vs,us,hp,h,r=>by
  simp only[ae] at h
  obtain⟨v,t,rfl,h1,h2⟩:=h
  simp only[bS] at hp
  cases r with
  | cons r1 r2 =>
   intro u hu'
   rcases VE.mp hu' with rfl | hu'
   ·rw[Fi h1 r1];exact (zJ I 55 (by omega) (by omega) h1 hd r1 rd).1
   ·exact tN I hu hd rd (by omega) h2 r2 u hu'
theorem pE (hu:X.A.units + 64 < cLine):dO X (compareOp .In) (gs false):=by
 rintro pins s σ H x y v u Q I rx ry ⟨F,d,e,K,sub,rd,re,q,md⟩
 unfold gs at q
 split at q
 ·rename_i es
  obtain⟨a,vs,rfl,h1,h2⟩:=re
  cases ry
  obtain⟨aj,r,p⟩:=cU I h1
  have gE:=h2.same sub
  refine SeqAt.in_listAt (g_ H d) p (fun w hw=>tN I (by rw[in1_units];omega) (rd.is sub) rx q.1 gE r w (by simpa using hw)) ⟨.bl _,H,I,rfl,?_⟩
  rw[show aj.toArray.any (g_ H d)=aj.any (g_ H d) by simp,tM gE r]
  exact md _ _ _ q.2 (fun _ _ e=>e) rfl
 ·rename_i es
  have gQ:Is F (.tup es) y:=re
  simp only[Is] at gQ
  obtain⟨a,vs,rfl,h1,h2⟩:=gQ
  cases ry
  obtain⟨aj,r,p⟩:=cV I (sub _ _ h1)
  have gE:=h2.same sub
  refine SeqAt.in_tupleAt (g_ H d) p (fun w hw=>tN I (by rw[in1_units];omega) (rd.is sub) rx q.1 gE r w (by simpa using hw)) ⟨.bl _,H,I,rfl,?_⟩
  rw[show aj.toArray.any (g_ H d)=aj.any (g_ H d) by simp,tM gE r]
  exact md _ _ _ q.2 (fun _ _ e=>e) rfl
 ·exact q.elim
theorem v_ (hu:X.A.units + 64 < cLine):dO X (compareOp .NotIn) (gs true):=by
 rintro pins s σ H x y v u Q I rx ry ⟨F,d,e,K,sub,rd,re,q,md⟩
 unfold gs at q
 split at q
 ·rename_i es
  obtain⟨a,vs,rfl,h1,h2⟩:=re
  cases ry
  obtain⟨aj,r,p⟩:=cU I h1
  have gE:=h2.same sub
  refine SeqAt.notIn_listAt (g_ H d) p (fun w hw=>tN I (by rw[in1_units];omega) (rd.is sub) rx q.1 gE r w (by simpa using hw)) ⟨.bl _,H,I,rfl,?_⟩
  rw[show aj.toArray.any (g_ H d)=aj.any (g_ H d) by simp,tM gE r]
  exact md _ _ _ q.2 (fun _ _ e=>e) rfl
 ·rename_i es
  have gQ:Is F (.tup es) y:=re
  simp only[Is] at gQ
  obtain⟨a,vs,rfl,h1,h2⟩:=gQ
  cases ry
  obtain⟨aj,r,p⟩:=cV I (sub _ _ h1)
  have gE:=h2.same sub
  refine SeqAt.notIn_tupleAt (g_ H d) p (fun w hw=>tN I (by rw[in1_units];omega) (rd.is sub) rx q.1 gE r w (by simpa using hw)) ⟨.bl _,H,I,rfl,?_⟩
  rw[show aj.toArray.any (g_ H d)=aj.any (g_ H d) by simp,tM gE r]
  exact md _ _ _ q.2 (fun _ _ e=>e) rfl
 ·exact q.elim
noncomputable def aQ:D->D->(D->Prop)->Prop
 | .lst ds,.int i,K=>match d_ ds i with
  | some d=>K d
  | none=>False
 | .tup ds,.int i,K=>match d_ ds i with
  | some d=>K d
  | none=>False
 | .str z,.int i,K=>z.length <= 1000/\match d_ z.cps.toList i with
  | some c=>K (.str ⟨#[c]⟩)
  | none=>False
 | _,_,_=>False
theorem Fj {F:Hp} {ds:List D} {vs:List V} {i:Int} {d:D} (h:ae F ds vs) (e:d_ ds i=some d):∃ v,d_ vs i=some v/\Is F d v:=by
 unfold d_ at e ⊢
 rw[h.length]
 cases q:iZ ds.length i with
 | none=>rw[q] at e;cases e
 | some j =>
  rw[q] at e
  exact qQ h (show ds[j]? = some d from e)
theorem aW:EN X aQ:=by
 rintro value slice pins s σ H x y v u Q I rx ry ⟨F,d,e,K,sub,rd,re,q,md⟩ hs
 unfold aQ at q
 split at q
 ·rename_i ds i
  split at q
  ·rename_i d' e1
   obtain⟨a,vs,rfl,h1,h2⟩:=rd
   obtain⟨w,e2,h3⟩:=Fj h2 e1
   exact DQ value slice pins s σ H _ _ v u Q I rx ry ⟨a,vs,i,w,rfl,re,a7.of h1,e2,md _ _ _ q (fun _ _ e=>e) (tK sub h3)⟩ hs
  ·exact q.elim
 ·rename_i ds i
  split at q
  ·rename_i d' e1
   have cI:Is F (.tup ds) x:=rd
   simp only[Is] at cI
   obtain⟨a,vs,rfl,h1,h2⟩:=cI
   obtain⟨w,e2,h3⟩:=Fj h2 e1
   exact Ma value slice pins s σ H _ _ v u Q I rx ry ⟨a,vs,i,w,rfl,re,bC.of (sub _ _ h1),e2,md _ _ _ q (fun _ _ e=>e) (tK sub h3)⟩ hs
  ·exact q.elim
 ·rename_i z i
  obtain⟨hz,q⟩:=q
  split at q
  ·rename_i c e1
   have cI:x = .str z:=rd
   subst cI
   exact Mb value slice pins s σ H _ _ v u Q I rx ry ⟨z,i,c,rfl,re,jY hz,e1,md _ _ _ q (fun _ _ e=>e) rfl⟩ hs
  ·exact q.elim
 ·exact q.elim
noncomputable def cutD (ds:List D) (lo hi:Option Int):List D:=(ds.drop (HT.aZ ds.length 0 lo)).take (HT.aZ ds.length ds.length hi - HT.aZ ds.length 0 lo)
theorem Fl {F:Hp} {ds:List D} {vs:List V} (h:ae F ds vs) (lo hi:Option Int):ae F (cutD ds lo hi) (cF vs lo hi):=by
 unfold cutD cF
 rw[h.length]
 exact Fd _ (zM _ h)
noncomputable abbrev WO:=az->(Option Int->az->Prop)->Prop
noncomputable def wa (f:WO):TO:=fun σ H Q=>∃ F ad δ K,SR F ad δ σ H/\f δ K/\∀ o δ',K o δ'->∀ F' aG H',Ext F ad δ.mu H F' aG δ'.mu H'->SR F' aG δ' σ H'->Q o H'
noncomputable def ji:WO:=fun δ K=>K none δ
noncomputable def qV (f:WE):WO:=fun δ K=>f δ fun x δ1=>match x with
 | .p (.int i)=>K (some i) δ1
 | _=>False
theorem wc:PO X none (wa ji):=fun pins s σ H Q I h0_ => el7 h0_ fun F ad δ K S q k =>DM pins s σ H Q I (k _ _ q _ _ _ .refl S)
theorem wd {e:Expr} {f:WE} (h:JE X e (tD f)):PO X (some e) (wa (qV f)):=fun pins s σ H Q I h0_ => el7 h0_ fun F ad δ K S q k =>vk h.out pins s σ H Q I ⟨F,ad,δ,_,S,q,fun x δ1 h1 v F1 aK H1 E1 S1 V1=>by
 split at h1
 ·rename_i i
  exact⟨i,V1,k _ _ h1 _ _ _ E1 S1⟩
 ·exact h1.elim⟩
noncomputable def we (f g h:WE) (o o':D->D->(D->Prop)->Prop):WE:=fun δ K=>f δ fun x δ1=>g δ1 fun y δ2=>fZ x δ2 fun d=>fZ y δ2 fun e=>o d e fun z=>match z with
 | .bl true=>h δ2 fun w δ3=>fZ y δ3 fun e'=>fZ w δ3 fun c=>o' e' c fun z'=>K (.p z') δ3
 | .bl false=>K (.p (.bl false)) δ2
 | _=>False
theorem Fm {a b c:Expr} {f g h:WE} {op jQ:CmpOp} {o o':D->D->(D->Prop)->Prop} {pos:Pos} (ho:dO X (compareOp op) o) (iW:dO X (compareOp jQ) o') (ha:JE X a (tD f)) (hb:JE X b (tD g)) (hc:JE X c (tD h))
  (hm:lastMarks [op,jQ] [b,c]=false:=by with_unfolding_all rfl):JE X (.Compare a [op,jQ] [b,c] pos) (tD (we f g h o o')) :=
 (Nv ho iW ha hb hc hm).weak fun σ H Q h0_ => el7 h0_ fun F ad δ K S q k =>by
  refine⟨F,ad,δ,_,S,q,fun x δ1 h1 v1 F1 aK H1 E1 S1 V1=>⟨F1,aK,δ1,_,S1,h1,fun y δ2 h2 v2 F2 bT H2 E2 S2 V2 => ?_⟩⟩
  obtain⟨d,h3,rd⟩:=iL S2 (V1.ext E2) h2
  obtain⟨e,h4,re⟩:=iL S2 V2 h3
  refine⟨F2,d,e,_,S2.sub,rd,re,h4,fun z v H' hz sm is => ?_⟩
  have S3:=S2.al sm
  have E3:=Ext.al S2 sm
  split at hz
  ·refine⟨true,is,?_⟩
   rw[We rfl]
   refine⟨_,bT,δ2,_,S3,hz,fun w δ4 h5 v4 F4 vT H4 E4 S4 V4 => ?_⟩
   obtain⟨d',h6,vQ⟩:=iL S4 ((V2.ext E3).ext E4) h5
   obtain⟨e',h7,Oy⟩:=iL S4 V4 h6
   exact⟨F4,d',e',_,S4.sub,vQ,Oy,h7,fun z v H' hz sm is=>k _ _ hz _ _ _ _ ((((E1.trans E2).trans E3).trans E4).trans (Ext.al S4 sm)) (S4.al sm) is⟩
  ·refine⟨false,is,?_⟩
   rw[VG Wf]
   exact k _ _ hz _ _ _ _ ((E1.trans E2).trans E3) S3 rfl
  ·exact hz.elim
end
noncomputable def sortI (ns:List Int):List Int:=ns.mergeSort fun a b=>decide (a <= b)
theorem sortI_perm (ns:List Int):(sortI ns).Perm ns:=List.mergeSort_perm ns _
theorem Fp (ns:List Int):(sortI ns).Pairwise (· <= ·):=by
 have:=List.pairwise_mergeSort (le:=fun a b:Int=>decide (a <= b)) (fun a b c h1 h2=>by simp at *;omega) (fun a b=>by simp;omega) ns
 exact this.imp fun h=>by simpa using h
theorem zQ:∀ {as bs:List Int},as.Perm bs->as.Pairwise (· <= ·)->bs.Pairwise (· <= ·)->as=bs
 | [],bs,p,_,_=>p.nil_eq
 | a :: as,[],p,_,_=>absurd p.length_eq (by simp)
 | a :: as,b :: bs,p,s,t=>by
  have e:a=b:=by
   have h1:a <= b:=by
    have hb:b∈a :: as:=p.mem_iff.mpr (yE ..)
    rcases VE.mp hb with h | h
    ·omega
    ·exact (W9.mp s).1 b h
   have h2:b <= a:=by
    have ha:a∈b :: bs:=p.mem_iff.mp (yE ..)
    rcases VE.mp ha with h | h
    ·omega
    ·exact (W9.mp t).1 a h
   omega
  subst e
  rw[zQ (List.perm_cons a |>.mp p) (W9.mp s).2 (W9.mp t).2]
theorem Fq {as bs:List Int} (p:as.Perm bs) (s:as.Pairwise (· <= ·)):as=sortI bs:=zQ (p.trans (sortI_perm bs).symm) s (Fp bs)
theorem Oz (ns:List Int):(sortI ns).length=ns.length:=(sortI_perm ns).length_eq
noncomputable def cq:List D->(D->Prop)->Prop
 | [.lst ds],K=>K (.int ds.length)
 | [.tup ds],K=>K (.int ds.length)
 | [.str z],K=>z.length <= 1000/\K (.int z.length)
 | _,_=>False
noncomputable def wg:List D->(D->Prop)->Prop
 | [.lst ds],K=>K (.lst ds)
 | [.tup ds],K=>K (.lst ds)
 | _,_=>False
noncomputable def wj:List D->(D->Prop)->Prop
 | [.lst ds],K=>K (.tup ds)
 | [.tup ds],K=>K (.tup ds)
 | _,_=>False
noncomputable def l4:List D->(D->Prop)->Prop
 | [.lst ds],K=>match intsOf ds with
  | some ns=>((∀ x∈ns,0 <= x/\x <= 1000000000)/\ns.length <= 1000)/\K (.int ns.sum)
  | none=>False
 | _,_=>False
noncomputable def pF:List D->Option (List Bool)
 | []=>some []
 | .bl b :: r=>match pF r with
  | some bs=>some (b :: bs)
  | none=>none
 | _=>none
theorem Fs:∀ bs:List Bool,pF (bs.map D.bl)=some bs
 | []=>rfl
 | n :: r=>by show (match pF (r.map D.bl) with | some ns=>some (n :: ns) | none=>none)=_;rw[Fs r]
theorem Ft:∀ {ds:List D} {bs:List Bool},pF ds=some bs->ds=bs.map D.bl
 | [],ns,h=>by cases h;rfl
 | .bl i :: r,ns,h=>by
  unfold pF at h
  split at h
  ·rename_i ms e;cases h;rw[Wr,Ft e]
  ·cases h
 | .non :: r,ns,h=>by cases h
 | .int _ :: r,ns,h=>by cases h
 | .str _ :: r,ns,h=>by cases h
 | .tup _ :: r,ns,h=>by cases h
 | .lst _ :: r,ns,h=>by cases h
theorem Fu {F:Hp}:∀ {bs:List Bool} {vs:List V},ae F (bs.map D.bl) vs->vs=bs.map V.bl
 | [],vs,h=>by simp only[Yj,ae] at h;exact h
 | n :: r,vs,h=>by
  simp only[Wr,ae] at h
  obtain⟨v,t,rfl,h1,h2⟩:=h
  have h1:v = .bl n:=h1
  rw[Fu h2,h1];rfl
noncomputable def l5:List D->(D->Prop)->Prop
 | [.lst ds],K=>match pF ds with
  | some bs=>K (.bl (bs.all id))
  | none=>False
 | _,_=>False
noncomputable def tO:List D->(D->Prop)->Prop
 | [.int i,.int j],K=>K (.int (min i j))
 | _,_=>False
noncomputable def wk:List D->(D->Prop)->Prop
 | [.int i,.int j],K=>K (.int (max i j))
 | _,_=>False
section
variable {X:Cx}
theorem cI {F H:Hp} {d:D} {xs:List V} (h:f6 F H [d] xs):∃ v,xs=[v]/\fY F H d v:=by
 obtain⟨v,r,rfl,h1,h2⟩:=h
 have h2:r=[]:=h2
 subst h2
 exact⟨v,rfl,h1⟩
theorem Fv {F H:Hp} {d e:D} {xs:List V} (h:f6 F H [d,e] xs):∃ v w,xs=[v,w]/\fY F H d v/\fY F H e w:=by
 obtain⟨v,r,rfl,h1,h2⟩:=h
 obtain⟨w,rfl,h3⟩:=cI h2
 exact⟨v,w,rfl,h1,h3⟩
theorem ik:cH X (.builtin "len") cq:=by
 rintro pins s σ H xs us Q I r ⟨F,ds,K,sub,rd,q,md⟩
 unfold cq at q
 split at q
 ·obtain⟨v,rfl,a,vs,rfl,h1,h2⟩:=cI rd
  exact DW pins s σ H _ us Q I r ⟨a,vs,rfl,.inl (a7.of h1),by rw[h2.length];exact md _ _ _ q (fun _ _ e=>e) rfl⟩
 ·rename_i es
  obtain⟨v,rfl,h⟩:=cI rd
  have h:Is F (.tup es) v:=h
  simp only[Is] at h
  obtain⟨a,vs,rfl,h1,h2⟩:=h
  exact DW pins s σ H _ us Q I r ⟨a,vs,rfl,.inr (bC.of (sub _ _ h1)),by rw[h2.length];exact md _ _ _ q (fun _ _ e=>e) rfl⟩
 ·rename_i z
  obtain⟨v,rfl,h⟩:=cI rd
  have h:v = .str z:=h
  subst h
  exact Mg pins s σ H _ us Q I r ⟨z,rfl,jY q.1,md _ _ _ q.2 (fun _ _ e=>e) rfl⟩
 ·exact q.elim
theorem OA:cH X (.type "list") wg:=by
 rintro pins s σ H xs us Q I r ⟨F,ds,K,sub,rd,q,md⟩
 unfold wg at q
 split at q
 ·obtain⟨v,rfl,a,vs,rfl,h1,h2⟩:=cI rd
  exact yw pins s σ H _ us Q I r ⟨a,vs,rfl,.inl (a7.of h1),fun l hl=>md _ _ _ q (cX hl) (qU sub hl h2)⟩
 ·rename_i es
  obtain⟨v,rfl,h⟩:=cI rd
  have h:Is F (.tup es) v:=h
  simp only[Is] at h
  obtain⟨a,vs,rfl,h1,h2⟩:=h
  exact yw pins s σ H _ us Q I r ⟨a,vs,rfl,.inr (bC.of (sub _ _ h1)),fun l hl=>md _ _ _ q (cX hl) (qU sub hl h2)⟩
 ·exact q.elim
theorem OB:cH X (.type "tuple") wj:=by
 rintro pins s σ H xs us Q I r ⟨F,ds,K,sub,rd,q,md⟩
 unfold wj at q
 split at q
 ·obtain⟨v,rfl,a,vs,rfl,h1,h2⟩:=cI rd
  exact DX pins s σ H _ us Q I r ⟨a,vs,rfl,.inl ⟨a7.of h1,fun l hl=>md _ _ _ q (cX hl) (zN sub hl h2)⟩⟩
 ·rename_i es
  obtain⟨v,rfl,h⟩:=cI rd
  have h0:Is F (.tup es) v:=h
  have h:Is F (.tup es) v:=h
  simp only[Is] at h
  obtain⟨a,vs,rfl,h1,h2⟩:=h
  exact DX pins s σ H _ us Q I r ⟨a,vs,rfl,.inr ⟨bC.of (sub _ _ h1),md _ _ _ q (fun _ _ e=>e) (tK sub h0)⟩⟩
 ·exact q.elim
theorem OC (hc:X.calm=true):cH X (.builtin "sum") l4:=by
 rintro pins s σ H xs us Q I r ⟨F,ds,K,sub,rd,q,md⟩
 unfold l4 at q
 split at q
 ·rename_i es
  split at q
  ·rename_i ns e
   obtain⟨v,rfl,a,vs,rfl,h1,h2⟩:=cI rd
   rw[qR e] at h2
   rw[k7 h2] at h1
   exact NM hc pins s σ H _ us Q I r ⟨a,ns,rfl,a7.of h1,q.1.1,q.1.2,md _ _ _ q.2 (fun _ _ e=>e) rfl⟩
  ·exact q.elim
 ·exact q.elim
theorem OD (hc:X.calm=true):cH X (.builtin "all") l5:=by
 rintro pins s σ H xs us Q I r ⟨F,ds,K,sub,rd,q,md⟩
 unfold l5 at q
 split at q
 ·rename_i es
  split at q
  ·rename_i bs e
   obtain⟨v,rfl,a,vs,rfl,h1,h2⟩:=cI rd
   rw[Ft e] at h2
   rw[Fu h2] at h1
   exact NH hc pins s σ H _ us Q I r ⟨a,bs,rfl,a7.of h1,md _ _ _ q (fun _ _ e=>e) rfl⟩
  ·exact q.elim
 ·exact q.elim
theorem Fw (hc:X.calm=true):cH X (.builtin "min") tO:=by
 rintro pins s σ H xs us Q I r ⟨F,ds,K,sub,rd,q,md⟩
 unfold tO at q
 split at q
 ·rename_i i j
  obtain⟨v,w,rfl,h1,h2⟩:=Fv rd
  have h1:v = .int i:=h1
  have h2:w = .int j:=h2
  subst h1 h2
  refine Lw hc pins s σ H _ us Q I r ⟨i,j,rfl,?_⟩
  have:(if j < i then j else i)=min i j:=by split<;>omega
  rw[this]
  exact md _ _ _ q (fun _ _ e=>e) rfl
 ·exact q.elim
theorem OE (hc:X.calm=true):cH X (.builtin "max") wk:=by
 rintro pins s σ H xs us Q I r ⟨F,ds,K,sub,rd,q,md⟩
 unfold wk at q
 split at q
 ·rename_i i j
  obtain⟨v,w,rfl,h1,h2⟩:=Fv rd
  have h1:v = .int i:=h1
  have h2:w = .int j:=h2
  subst h1 h2
  refine Lu hc pins s σ H _ us Q I r ⟨i,j,rfl,?_⟩
  have:(if j > i then j else i)=max i j:=by split<;>omega
  rw[this]
  exact md _ _ _ q (fun _ _ e=>e) rfl
 ·exact q.elim
noncomputable def zR (fa:WA):WE:=fun δ K=>fa δ fun xs δ1=>match xs with
 | [.p (.int j)]=>(0 <= j/\j <= 1000)/\K (.p (.lst (bG 0 j.toNat))) δ1
 | _=>False
theorem pG (n:Nat):bG 0 n=(aL n).map D.int:=by
 unfold bG aL
 rw[Wo]
 refine WR fun i _ => ?_
 show D.int (0 + (i:Int))=D.int (i:Int)
 rw[Int.zero_add]
theorem OF {a:Expr} {fa:WA} {p1 p2 q1 q2:Pos} (hc:X.calm=true) (tP:Gl X "list") (hl:X.mg "list" = none) (tQ:bootBuiltins "list" = some (.type "list")) (l6:Gl X "range") (hr:X.mg "range" = none) (l7:bootBuiltins "range" = some (.type "range")) (ha:JA X [a] (bL fa))
  (he:starEach [a] X.env=[(false,eval a X.env)]:=by rfl) (tR:starEach [.Call (.Name "range" p2) [a] [] q2] X.env=[(false,eval (.Call (.Name "range" p2) [a] [] q2) X.env)]:=by rfl):JE X (.Call (.Name "list" p1) [.Call (.Name "range" p2) [a] [] q2] [] q1) (tD (zR fa)) :=
 (lR (EF hc) tP hl tQ (ie (lR zg l6 hr l7 ha (he:=he)) bo) (he:=tR)).weak fun σ H Q h0_ => el7 h0_ fun F ad δ K S q k =>⟨F,ad,δ,_,S,q,fun xs δ1 h1 vs F1 aK H1 E1 S1 V1=>by
  split at h1
  ·rename_i j
   obtain⟨v,r,e,W1,W2⟩:=V1
   have W2:r=[]:=W2
   have W1:v = .int j:=W1
   subst W2 W1 e
   refine⟨j,rfl,fun rr tT=>⟨rr,j.toNat,rfl,by rw[bA,Int.toNat_of_nonneg h1.1.1],by omega,fun l hl => ?_⟩⟩
   have s1:aB H1 (upd H1 rr (.rng 0 j)):=cX tT
   have S2:=S1.al s1
   have E2:=Ext.al S1 s1
   refine k _ _ h1.2 _ _ _ _ ((E1.trans E2).trans (Ext.al S2 (cX hl))) (S2.al (cX hl)) ?_
   have:Is (Nw (Nw F1 H1 (upd H1 rr (.rng 0 j))) (upd H1 rr (.rng 0 j)) (upd (upd H1 rr (.rng 0 j)) l (.lst ((aL j.toNat).map V.int)))) (.lst ((aL j.toNat).map D.int)) (.ref l):=qU S2.sub hl ni
   rw[pG]
   exact this
  ·exact h1.elim⟩
noncomputable def gR (T:String):D->(D->Prop)->Prop:=fun d K=>K (.bl (c7 (e_ d) T))
theorem qW {T:String} {t:Str} {a:Expr} {f:WE} {p p2 pos:Pos} (hk:∀ d:D,PySem.W.kitOne X.K (.type (e_ d)) (.type T)=some (c7 (e_ d) T)) (hg:Gl X "isinstance") (hm:X.mg "isinstance" = none) (OG:Gl X t) (OH:X.mg t=none) (OI:bootBuiltins t=some (.type T)) (ha:JE X a (tD f))
  (sN:t ≠ "__name__" := by decide) (i8:(t == ("__debug__" : Str))=false:=by decide) (he:starEach [a,.Name t p2] X.env=(false,eval a X.env) :: starEach [.Name t p2] X.env:=by rfl):JE X (.Call (.Name "isinstance" p) [a,.Name t p2] [] pos) (tD (d1 f (gR T))) :=
 (vC MS hg hm PyProof.Rows.boot_isinstance (oX ha (ib (Na OG OH OI (v := .ty T) rfl sN i8) bo) he) (he:=he)).weak fun σ H Q h0_ => el7 h0_ fun F ad δ K S q k =>⟨F,ad,δ,_,S,q,fun x δ1 h1 v F1 aK H1 E1 S1 V1=>by
  obtain⟨d,h2,rd⟩:=iL S1 V1 h1
  refine⟨v,.ty T,.type T,.type (e_ d),_,rfl,rfl,Is.ty (rd.is S1.sub),hk d,k _ _ h2 _ _ _ _ E1 S1 rfl⟩⟩
theorem OJ {K:PySem.W.Frag}:∀ d:D,PySem.W.kitOne K (.type (e_ d)) (.type "int")=some (c7 (e_ d) "int"):=fun d=>MX _ (vw d)
theorem OK {K:PySem.W.Frag}:∀ d:D,PySem.W.kitOne K (.type (e_ d)) (.type "bool")=some (c7 (e_ d) "bool"):=fun d=>MW _ (vw d)
theorem Fy {K:PySem.W.Frag}:∀ d:D,PySem.W.kitOne K (.type (e_ d)) (.type "tuple")=some (c7 (e_ d) "tuple"):=fun d=>kit_tuple _ (vw d)
theorem FA {K:PySem.W.Frag}:∀ d:D,PySem.W.kitOne K (.type (e_ d)) (.type "list")=some (c7 (e_ d) "list"):=fun d=>MY _ (vw d)
noncomputable def fw (x:DV) (δ : az) (K:Nat->List D->Prop):Prop:=match x with
 | .o k=>match δ.mu[k]? with
  | some (some (.lst ds))=>K k ds
  | _=>False
 | _=>False
theorem pH {F H:Hp} {ad:List Addr} {δ : az} {σ : St} {x:DV} {v:V} {K:Nat->List D->Prop} (S:SR F ad δ σ H) (V1:fE F ad x v) (h:fw x δ K):∃ k ds a vs,x = .o k/\K k ds/\v = .ref a/\ad[k]? = some a/\H a=some (.lst vs)/\ae F ds vs /\ δ.mu[k]? = some (some (.lst ds)):=by
 unfold fw at h
 split at h
 ·rename_i k
  split at h
  ·rename_i ds e
   obtain⟨a,e1,rfl⟩:=V1
   obtain⟨a',o,e2,e3,vs,rfl,h4⟩:=S.mu k _ e
   rw[e1] at e2;cases e2
   exact⟨k,ds,a,vs,rfl,h,rfl,e1,e3,h4,e⟩
  ·exact h.elim
 ·exact h.elim
noncomputable def j8 (f:WE) (fa:WA):WE:=fun δ K=>f δ fun x δ1=>fw x δ1 fun _ _=>fa δ1 fun ys δ2=>match ys with
 | [y]=>lT y δ2 fun d δ3=>fw x δ3 fun k ds=>ds.length < 1000/\K (.p .non) ⟨δ3.sl,δ3.mu.set k (some (.lst (ds ++ [d])))⟩
 | _=>False
theorem zS {f:WE} {fa:WA} {K0:PySem.W.Frag}:∀ σ H Q,tD (j8 f fa) σ H Q->lL K0 "list" yx (tD f) (bL fa) σ H Q:=fun σ H Q h0_ => el7 h0_ fun F ad δ K S q k =>⟨F,ad,δ,_,S,q,fun x δ1 h1 v F1 aK H1 E1 S1 V1=>by
 obtain⟨k0,FC,a,vs,rfl,h2,rfl,e1,e2,i1,m1⟩:=pH S1 V1 h1
 refine⟨.inl ⟨rfl,vs,a7.of e2⟩,F1,aK,δ1,_,S1,h2,fun ys δ2 h3 us F2 bT H2 E2 S2 V2 => ?_⟩
 match ys,h3,V2 with
 | [y],g3,⟨u,r,e,W1,W2⟩ =>
  have W3:r=[]:=W2
  subst W3 e
  obtain⟨d,δ3,F3,h4,E3,S3,i3⟩:=tj S2 W1 g3
  obtain⟨k1,ds,b,ws,ek,h5,eb,e3,e4,i4,m4⟩:=pH (x := .o k0) S3 ((V1.ext E2).ext E3) h4
  cases ek
  have tU:a=b:=by injection eb
  subst tU
  have oi:d5 F3 (.lst (ds ++ [d])) (.lst (ws ++ [u])):=⟨_,rfl,i4.snoc i3⟩
  refine⟨a,ws,u,rfl,rfl,e4,lP (by rw[i4.length];omega),?_⟩
  exact k _ _ h5.2 _ _ _ _ (((E1.trans E2).trans E3).trans (Ext.put S3 m4 e3)) (S3.put m4 e3 oi) rfl
 | [],g3,_=>exact g3.elim
 | _ :: _ :: _,g3,_=>exact g3.elim⟩
noncomputable def pJ (f:WE) (fa:WA):WE:=fun δ K=>f δ fun x δ1=>fw x δ1 fun _ _=>fa δ1 fun ys δ2=>match ys with
 | [.p (.lst es)]=>fw x δ2 fun k ds=>ds.length + es.length <= 1000/\K (.p .non) ⟨δ2.sl,δ2.mu.set k (some (.lst (ds ++ es)))⟩
 | _=>False
theorem OL {f:WE} {fa:WA} {K0:PySem.W.Frag}:∀ σ H Q,tD (pJ f fa) σ H Q->lL K0 "list" D1 (tD f) (bL fa) σ H Q:=fun σ H Q h0_ => el7 h0_ fun F ad δ K S q k =>⟨F,ad,δ,_,S,q,fun x δ1 h1 v F1 aK H1 E1 S1 V1=>by
 obtain⟨k0,FC,a,vs,rfl,h2,rfl,e1,e2,i1,m1⟩:=pH S1 V1 h1
 refine⟨.inl ⟨rfl,vs,a7.of e2⟩,F1,aK,δ1,_,S1,h2,fun ys δ2 h3 us F2 bT H2 E2 S2 V2 => ?_⟩
 split at h3
 ·rename_i es
  obtain⟨u,r,e,W1,W2⟩:=V2
  have W3:r=[]:=W2
  have W4:Is F2 (.lst es) u:=W1
  simp only[Is] at W4
  obtain⟨b,zs,rfl,z1,z2⟩:=W4
  subst W3 e
  obtain⟨k1,ds,b',ws,ek,h5,eb,e3,e4,i4,m4⟩:=pH (x := .o k0) S2 (V1.ext E2) h3
  cases ek
  have tU:a=b':=by injection eb
  subst tU
  have oi:d5 F2 (.lst (ds ++ es)) (.lst (ws ++ zs)):=⟨_,rfl,qT i4 z2⟩
  refine⟨a,b,ws,zs,rfl,rfl,e4,S2.sub _ _ z1,jY (by rw[i4.length,z2.length];exact h5.1),?_⟩
  exact k _ _ h5.2 _ _ _ _ ((E1.trans E2).trans (Ext.put S2 m4 e3)) (S2.put m4 e3 oi) rfl
 ·exact h3.elim⟩
noncomputable def zT (f:WE) (fa:WA):WE:=fun δ K=>f δ fun x δ1=>fw x δ1 fun _ _=>fa δ1 fun ys δ2=>match ys with
 | [.p (.int i)]=>fw x δ2 fun k ds=>(-(2 ^ 63) <= i/\i < 2 ^ 63)/\match seqIndex? i ds.length with
  | some j=>match ds[j]? with
   | some d=>K (.p d) ⟨δ2.sl,δ2.mu.set k (some (.lst (ds.eraseIdx j)))⟩
   | none=>False
  | none=>False
 | _=>False
theorem OM {f:WE} {fa:WA} {K0:PySem.W.Frag}:∀ σ H Q,tD (zT f fa) σ H Q->lL K0 "list" D2 (tD f) (bL fa) σ H Q:=fun σ H Q h0_ => el7 h0_ fun F ad δ K S q k =>⟨F,ad,δ,_,S,q,fun x δ1 h1 v F1 aK H1 E1 S1 V1=>by
 obtain⟨k0,FC,a,vs,rfl,h2,rfl,e1,e2,i1,m1⟩:=pH S1 V1 h1
 refine⟨.inl ⟨rfl,vs,a7.of e2⟩,F1,aK,δ1,_,S1,h2,fun ys δ2 h3 us F2 bT H2 E2 S2 V2 => ?_⟩
 split at h3
 ·rename_i i
  obtain⟨u,r,e,W1,W2⟩:=V2
  have W3:r=[]:=W2
  have W4:u = .int i:=W1
  subst W3 W4 e
  obtain⟨k1,ds,b',ws,ek,⟨h5,h6⟩,eb,e3,e4,i4,m4⟩:=pH (x := .o k0) S2 (V1.ext E2) h3
  cases ek
  have tU:a=b':=by injection eb
  subst tU
  split at h6
  ·rename_i j hj
   split at h6
   ·rename_i d hd
    obtain⟨w,g1,g2⟩:=qQ i4 hd
    have oi:d5 F2 (.lst (ds.eraseIdx j)) (.lst (ws.eraseIdx j)):=⟨_,rfl,Ff j i4⟩
    refine⟨a,ws,i,j,w,rfl,rfl,e4,h5.1,h5.2,by rw[i4.length];exact hj,g1,?_⟩
    exact k _ _ h6 _ _ _ _ ((E1.trans E2).trans (Ext.put S2 m4 e3)) (S2.put m4 e3 oi) g2
   ·exact h6.elim
  ·exact h6.elim
 ·exact h3.elim⟩
noncomputable def pK (f fo fi:WE):WS:=fun K δ => f δ fun x δ1=>fo δ1 fun o δ2=>fi δ2 fun i δ3=>lT x δ3 fun d δ4=>fw o δ4 fun k ds=>match i with
 | .p (.int j)=>match iZ ds.length j with
  | some m=>K.nx ⟨δ4.sl,δ4.mu.set k (some (.lst (ds.set m d)))⟩
  | none=>False
 | _=>False
theorem wm {f fo fi:WE}:∀ D σ H,dH (pK f fo fi) D σ H->fR (tD f) (oh (tD fo) (tD fi) DR) D σ H:=fun D σ H h0_ => el7 h0_ fun F ad δ K S q k =>⟨F,ad,δ,_,S,q,fun x δ1 h1 v F1 aK H1 E1 S1 V1=>⟨F1,aK,δ1,_,S1,h1,fun o δ2 h2 ov F2 bT H2 E2 S2 V2=>⟨F2,bT,δ2,_,S2,h2,fun i δ3 h3 iv F3 qK H3 E3 S3 V3=>by
 obtain⟨d,δ4,F4,h4,E4,S4,i4⟩:=tj S3 ((V1.ext E2).ext E3) h3
 obtain⟨k0,ds,a,vs,rfl,h5,rfl,e1,e2,i1,m1⟩:=pH S4 ((V2.ext E3).ext E4) h4
 split at h5
 ·rename_i j
  split at h5
  ·rename_i m hm
   have V3:iv = .int j:=V3
   subst V3
   have oi:d5 F4 (.lst (ds.set m d)) (.lst (vs.set m v)):=⟨_,rfl,Fe m i1 i4⟩
   refine⟨a,vs,j,m,rfl,rfl,e2,by rw[i1.length];exact hm,?_⟩
   exact k.nx _ h5 _ _ _ _ ((((E1.trans E2).trans E3).trans E4).trans (Ext.put S4 m1 e1)) (S4.put m1 e1 oi)
  ·exact h5.elim
 ·exact h5.elim⟩⟩⟩
noncomputable def cJ:D->List D->(D->Prop)->Prop
 | .lst ds,[d],K=>(cZ d=true/\ds.all cZ=true)/\K (.int (ds.countP fun e=>aA e d:Nat))
 | _,_,_=>False
where cZ:D->Bool
 | .tup _=>false
 | .lst _=>false
 | _=>true
noncomputable def toV:D->V
 | .non => .non
 | .bl b => .bl b
 | .int i => .int i
 | .str x => .str x
 | _ => .non
theorem zU {F:Hp} {d:D} {v:V} (hf:cJ.cZ d=true) (h:Is F d v):v=toV d/\kQ v=true:=by
 cases d with
 | non=>cases (show v=_ from h);exact⟨rfl,rfl⟩
 | bl _=>cases (show v=_ from h);exact⟨rfl,rfl⟩
 | int _=>cases (show v=_ from h);exact⟨rfl,rfl⟩
 | str _=>cases (show v=_ from h);exact⟨rfl,rfl⟩
 | tup _=>cases hf
 | lst _=>cases hf
theorem FD {d e:D} (hd:cJ.cZ d=true) (he:cJ.cZ e=true):iJ (toV e) (toV d)=aA e d:=by
 cases d<;>cases e<;>first | (cases hd;done) | (cases he;done) | (simp[toV,iJ,aA])
theorem count_is {F:Hp} {d:D} (hd:cJ.cZ d=true):∀ {ds:List D} {vs:List V},ds.all cJ.cZ=true->ae F ds vs->vs.all kQ=true/\vs.countP (fun z=>iJ z (toV d))=ds.countP fun e=>aA e d
 | [],vs,_,h=>by simp only[ae] at h;subst h;exact⟨rfl,rfl⟩
 | e :: r,vs,ha,h=>by
  simp only[ae] at h
  obtain⟨v,t,rfl,h1,h2⟩:=h
  simp only[ZS,WH] at ha
  obtain⟨g1,g2⟩:=zU ha.1 h1
  obtain⟨g3,g4⟩:=count_is hd ha.2 h2
  refine⟨by rw[ZS,g2,g3];rfl,?_⟩
  rw[XT,XT,g4,g1,FD hd ha.1]
noncomputable def wo:D->Bool
 | .lst _=>true
 | _=>false
noncomputable def j9 (f:WE) (fa:WA) (op:D->List D->(D->Prop)->Prop):WE:=fun δ K=>f δ fun x δ1=>fZ x δ1 fun d0=>wo d0=true/\fa δ1 fun xs δ2=>fZ x δ2 fun d=>i_ xs δ2 fun ds=>op d ds fun z=>K (.p z) δ2
theorem ON {f:WE} {fa:WA} {K0:PySem.W.Frag} {op:D->List D->(D->Prop)->Prop} {r:V->List V->Hp->VK->Prop} (hr:∀ x xs H Q,(∃ F d ds K,aB F H/\fY F H d x/\f6 F H ds xs/\op d ds K/\Made F H K Q)->r x xs H Q):∀ σ H Q,tD (j9 f fa op) σ H Q->lL K0 "list" r (tD f) (bL fa) σ H Q:=fun σ H Q h0_ => el7 h0_ fun F ad δ K S q k =>
 ⟨F,ad,δ,_,S,q,fun x δ1 h1 v F1 aK H1 E1 S1 V1=>by
  obtain⟨d0,⟨hl,h2⟩,zV⟩:=iL S1 V1 h1
  have ty:vn K0 "list" v H1:=by
   cases d0 with
   | lst es=>obtain⟨a,vs,rfl,h3,_⟩:=zV;exact .inl ⟨rfl,vs,a7.of h3⟩
   | non=>cases hl
   | bl _=>cases hl
   | int _=>cases hl
   | str _=>cases hl
   | tup _=>cases hl
  refine⟨ty,F1,aK,δ1,_,S1,h2,fun xs δ2 h3 vs F2 bT H2 E2 S2 V2=>hr _ _ _ _ ?_⟩
  obtain⟨d,h4,rd⟩:=iL S2 (V1.ext E2) h3
  obtain⟨ds,h5,jX⟩:=s_ S2 V2 h4
  exact⟨F2,d,ds,_,S2.sub,rd,jX,h5,fun z v H' hz sm is=>k _ _ hz _ _ _ _ ((E1.trans E2).trans (Ext.al S2 sm)) (S2.al sm) is⟩⟩
noncomputable def tV:D->List D->(D->Prop)->Prop
 | .lst ds,[d],K=>(cJ.cZ d=true/\ds.all cJ.cZ=true/\ds.any (fun e=>aA e d)=true)/\K (.int (ds.findIdx fun e=>aA e d:Nat))
 | _,_,_=>False
theorem OO {F:Hp} {ds:List D} {vs:List V} (h:ae F ds vs) {i:Nat} {v:V} (e:vs[i]? = some v):∃ d,ds[i]? = some d/\Is F d v:=h.get e
theorem FE {f:WE} {fa:WA} {K0:PySem.W.Frag}:∀ σ H Q,tD (j9 f fa tV) σ H Q->lL K0 "list" (Ei K0) (tD f) (bL fa) σ H Q:=ON fun x xs H Q ⟨F,d,ds,K,sub,rd,jX,q,md⟩=>by
 unfold tV at q
 split at q
 ·rename_i es e
  obtain⟨a,vs,rfl,h1,h2⟩:=rd
  obtain⟨w,rfl,h3⟩:=cI jX
  have h4:Is F e w:=by
   cases e with
   | lst _=>cases q.1.1
   | tup _=>exact h3
   | non=>exact h3
   | bl _=>exact h3
   | int _=>exact h3
   | str _=>exact h3
  obtain⟨g1,g2⟩:=zU q.1.1 h4
  obtain⟨g3,g4⟩:=count_is q.1.1 q.1.2.1 h2
  obtain⟨y,hy,OQ⟩:=Z0.mp q.1.2.2
  have bX:es.findIdx (fun z=>aA z e) < es.length:=Zg ⟨y,hy,OQ⟩
  have at_:∀ (m:Nat) (z:V),vs[m]? = some z->∃ c,es[m]? = some c/\iJ z w=aA c e:=fun m z ez=>by
   obtain⟨c,ec,ic⟩:=OO h2 ez
   have fc:=WV.mp q.1.2.1 c (VD.mpr ⟨m,ec⟩)
   obtain⟨g5,_⟩:=zU fc ic
   exact⟨c,ec,by rw[g5,g1];exact FD q.1.1 fc⟩
  refine⟨a,vs,w,es.findIdx (fun z=>aA z e),rfl,rfl,a7.of h1,g2,g3,by rw[h2.length];exact bX,fun z ez => ?_,fun m z hm ez => ?_,?_⟩
  ·obtain⟨c,ec,zW⟩:=at_ _ z ez
   rw[zW]
   have:=List.findIdx_getElem (xs:=es) (p:=fun z=>aA z e) (w:=bX)
   rw[lO bX] at ec
   cases ec
   exact this
  ·obtain⟨c,ec,zW⟩:=at_ m z ez
   rw[zW]
   have:=List.not_of_lt_findIdx (xs:=es) (p:=fun z=>aA z e) hm
   have zX:m < es.length:=Zx hm bX
   rw[lO zX] at ec
   cases ec
   simpa using this
  ·exact md _ _ _ q.2 (fun _ _ e=>e) rfl
 ·exact q.elim
end
end L2
namespace L2
open PySem PySem.Spec PyProof.Rows PySem.W
noncomputable abbrev LK:=List Int
noncomputable def kle (a b:LK):Prop:=HT.lexLt b a=false
theorem qX:∀ a:LK,HT.lexLt a a=false
 | []=>rfl
 | x :: r=>by rw[HT.mT,We rfl];exact qX r
theorem tW:∀ {a b:LK},HT.lexLt a b=false->HT.lexLt b a=false->a=b
 | [],[],_,_=>rfl
 | [],_ :: _,h,_=>by cases h
 | _ :: _,[],_,h=>by cases h
 | x :: r,y :: s,h,q=>by
  rw[HT.mT] at h q
  by_cases c:x=y
  ·subst c
   rw[We rfl] at h q
   rw[tW h q]
  ·rw[VG c] at h
   rw[VG (fun z=>c z.symm)] at q
   simp at h q;omega
theorem qY:∀ {a b c:LK},HT.lexLt a b=true->HT.lexLt b c=true->HT.lexLt a c=true
 | [],[],_,h,_=>by cases h
 | [],_ :: _,[],_,q=>by cases q
 | [],_ :: _,_ :: _,_,_=>rfl
 | _ :: _,[],_,h,_=>by cases h
 | _ :: _,_ :: _,[],_,q=>by cases q
 | x :: r,y :: s,z :: t,h,q=>by
  rw[HT.mT] at h q ⊢
  by_cases c1:x=y
  ·subst c1
   rw[We rfl] at h
   by_cases c2:x=z
   ·subst c2
    rw[We rfl] at q ⊢
    exact qY h q
   ·rw[VG c2] at q ⊢;exact q
  ·rw[VG c1] at h
   by_cases c2:y=z
   ·subst c2
    rw[VG c1];exact h
   ·rw[VG c2] at q
    have h1:x < y:=by simpa using h
    have h2:y < z:=by simpa using q
    rw[VG (by omega)]
    simp;omega
theorem kle_refl (a:LK):kle a a:=qX a
theorem pL {a b:LK} (h:HT.lexLt a b=true):kle a b:=by
 unfold kle
 cases q:HT.lexLt b a with
 | false=>rfl
 | true=>have:=qY h q;rw[qX] at this;cases this
theorem kle_trans {a b c:LK} (h1:kle a b) (h2:kle b c):kle a c:=by
 unfold kle at *
 cases q:HT.lexLt c a with
 | false=>rfl
 | true =>
  cases q2:HT.lexLt a b with
  | true=>have:=qY q q2;rw[h2] at this;cases this
  | false =>
   have e:=tW q2 h1
   subst e;rw[h2] at q;cases q
theorem OR {a b:LK} (h1:kle a b) (h2:kle b a):a=b:=tW h2 h1
section
variable {n:Nat} {k:Nat->LK} {I:Shared->Prop} {cmp:Nat->Nat->(Bool->Shared->Prop)->Shared->Prop}
noncomputable def nr (n:Nat) (k:Nat->LK) (I:Shared->Prop) (cmp:Nat->Nat->(Bool->Shared->Prop)->Shared->Prop):Prop :=
 ∀ (i j:Nat) (C:Bool->Shared->Prop) (s:Shared),i < n->j < n->I s->(∀ s',I s'->C (HT.lexLt (k i) (k j)) s')->cmp i j C s
noncomputable def KA (k:Nat->LK) (p:Array Nat) (i:Nat):LK:=k (p.getD i 0)
structure dh (n:Nat) (p:Array Nat):Prop where
 perm:p.Perm (List.range n).toArray
theorem dh.size {p:Array Nat} (h:dh n p):p.size=n:=by have:=h.perm.size_eq;simpa using this
theorem dh.lt {p:Array Nat} (h:dh n p) {i:Nat} (hi:i < n):p.getD i 0 < n:=by
 have hs:=h.size
 have e:p.getD i 0=p[i]:=by simp[Array.getD,hs,hi]
 rw[e]
 have:p[i]∈(List.range n).toArray:=(h.perm.mem_iff).mp (Array.getElem_mem _)
 simpa using this
theorem tX {p q:Array Nat} {i j:Nat} (h:p[i]? = q[j]?):p.getD i 0=q.getD j 0:=by
 rw[W_,W_,h]
theorem wq {p:Array Nat} {i j:Nat} (hj:j <= p.size) (t:Nat):KA k (kas_rev p i j) t=if i <= t/\t < j then KA k p (i + j - 1 - t) else KA k p t:=by
 have e:=getElem?_mirror_all (xs:=p) (i:=i) hj t
 unfold KA kas_rev
 by_cases c:i <= t/\t < j
 ·rw[We c] at e ⊢;rw[tX e]
 ·rw[VG c] at e ⊢;rw[tX e]
theorem OS {p:Array Nat} {src d:Nat} (hs:src < p.size) (hd:d <= src) (t:Nat) :
  KA k (bubble p src d) t=if t=src - d then KA k p src else if src - d < t/\t <= src then KA k p (t - 1) else KA k p t:=by
 have e:=getElem?_bubble hs d hd t
 unfold KA
 by_cases c:t=src - d
 ·rw[We c] at e ⊢;rw[tX e]
 ·rw[VG c] at e ⊢
  by_cases c2:src - d < t/\t <= src
  ·rw[We c2] at e ⊢;rw[tX e]
  ·rw[VG c2] at e ⊢;rw[tX e]
noncomputable def Up (k:Nat->LK) (p:Array Nat) (m:Nat):Prop:=∀ i j,i <= j->j < m->kle (KA k p i) (KA k p j)
noncomputable def Dn (k:Nat->LK) (p:Array Nat) (m:Nat):Prop:=∀ i j,i <= j->j < m->kle (KA k p j) (KA k p i)
theorem Up.snoc {p:Array Nat} {m:Nat} (h:Up k p m) (hm:1 <= m) (q:kle (KA k p (m - 1)) (KA k p m)):Up k p (m + 1):=fun i j jj hj=>by
 by_cases c:j < m
 ·exact h i j jj c
 ·have e:j=m:=by omega
  subst e
  by_cases c2:i=j
  ·subst c2;exact kle_refl _
  ·exact kle_trans (h i (j - 1) (by omega) (by omega)) q
theorem Dn.snoc {p:Array Nat} {m:Nat} (h:Dn k p m) (hm:1 <= m) (q:kle (KA k p m) (KA k p (m - 1))):Dn k p (m + 1):=fun i j jj hj=>by
 by_cases c:j < m
 ·exact h i j jj c
 ·have e:j=m:=by omega
  subst e
  by_cases c2:i=j
  ·subst c2;exact kle_refl _
  ·exact kle_trans q (h i (j - 1) (by omega) (by omega))
theorem Up.one {p:Array Nat}:Up k p 1:=fun i j jj hj=>by
 have:i=j:=by omega
 subst this;exact kle_refl _
theorem Dn.one {p:Array Nat}:Dn k p 1:=fun i j jj hj=>by
 have:i=j:=by omega
 subst this;exact kle_refl _
theorem dh.rev {p:Array Nat} (h:dh n p) (i j:Nat):dh n (kas_rev p i j):=⟨(mirror_perm _ _ _ _).trans h.perm⟩
theorem dh.OT {p:Array Nat} (h:dh n p) (i j:Nat):dh n (bubble p i j):=⟨(bubble_perm _ _ _).trans h.perm⟩
theorem FF (hc:nr n k I cmp) {p:Array Nat} (hp:dh n p):∀ (f m:Nat) (s:Shared) (Q:Nat->Shared->Prop),1 <= m->m + f=n->Up k p m->I s →
  (∀ m' s',m <= m'->m' <= n->Up k p m'->I s'->Q m' s')->(kas_asc p f m).kasWp cmp Q s
 | 0,m,s,Q,h1,h2,up,hi,fin=>fin m s (qx _) (by omega) up hi
 | f + 1,m,s,Q,h1,h2,up,hi,fin=>by
  show cmp _ _ _ s
  refine hc _ _ _ s (hp.lt (by omega)) (hp.lt (by omega)) hi fun s' bQ => ?_
  cases q:HT.lexLt (k (p.getD m 0)) (k (p.getD (m - 1) 0)) with
  | true=>dsimp only;rw[We rfl];exact fin m s' (qx _) (by omega) up bQ
  | false =>
   dsimp only;rw[VG Wf]
   exact FF hc hp f (m + 1) s' Q (by omega) (by omega) (up.snoc h1 q) bQ fun m' hZ a b c d=>fin m' hZ (by omega) b c d
noncomputable def zY (k:Nat->LK) (p:Array Nat) (m q:Nat):Prop:=∀ t,m - (q + 1) <= t->t < m->KA k p t=KA k p (m - 1)
theorem FG {p:Array Nat} {m q:Nat} (hs:m <= p.size) (hq:q + 1 <= m) (e:zY k p m q) (t:Nat):KA k (kas_rev p (m - (q + 1)) m) t=KA k p t:=by
 rw[wq hs]
 split
 ·rename_i c
  rw[e _ (by omega) (by omega),e t c.1 c.2]
 ·rfl
theorem Dn.congr {p p':Array Nat} {m:Nat} (h:Dn k p m) (e:∀ t,KA k p' t=KA k p t):Dn k p' m:=fun i j a b=>by rw[e,e];exact h i j a b
theorem wt (hc:nr n k I cmp):∀ (f:Nat) (p:Array Nat) (m q:Nat) (s:Shared) (Q:Array Nat × Nat × Nat->Shared->Prop),dh n p->1 <= m->m + f=n->q + 1 <= m->Dn k p m->zY k p m q->I s →
  (∀ p' m' q' s',dh n p'->m <= m'->m' <= n->q' + 1 <= m'->Dn k p' m'->zY k p' m' q'->I s'->Q (p',m',q') s')->(kas_desc f p m q).kasWp cmp Q s
 | 0,p,m,q,s,Q,hp,h1,h2,hq,dn,es,hi,fin=>fin p m q s hp (qx _) (by omega) hq dn es hi
 | f + 1,p,m,q,s,Q,hp,h1,h2,hq,dn,es,hi,fin=>by
  show cmp _ _ _ s
  refine hc _ _ _ s (hp.lt (by omega)) (hp.lt (by omega)) hi fun s' bQ => ?_
  have sz:=hp.size
  cases c1:HT.lexLt (k (p.getD m 0)) (k (p.getD (m - 1) 0)) with
  | true =>
   dsimp only;rw[We rfl]
   have st:kle (KA k p m) (KA k p (m - 1)):=pL c1
   by_cases FH:q > 0
   ·rw[We FH]
    have e:=FG (k:=k) (p:=p) (m:=m) (q:=q) (by omega) hq es
    refine wt hc f _ (m + 1) 0 s' Q (hp.rev _ _) (by omega) (by omega) (by omega) ((dn.snoc h1 st).congr e) (fun t a b => ?_) bQ fun p' m' q' hZ a b c d e g i=>fin p' m' q' hZ a (by omega) c d e g i
    have:t=m + 1 - 1:=by omega
    rw[this]
   ·rw[VG FH]
    refine wt hc f p (m + 1) 0 s' Q hp (by omega) (by omega) (by omega) (dn.snoc h1 st) (fun t a b => ?_) bQ fun p' m' q' hZ a b c d e g i=>fin p' m' q' hZ a (by omega) c d e g i
    have:t=m + 1 - 1:=by omega
    rw[this]
  | false =>
   dsimp only;rw[VG Wf]
   show cmp _ _ _ s'
   refine hc _ _ _ s' (hp.lt (by omega)) (hp.lt (by omega)) bQ fun s2 l8 => ?_
   cases c2:HT.lexLt (k (p.getD (m - 1) 0)) (k (p.getD m 0)) with
   | true=>dsimp only;rw[We rfl];exact fin p m q s2 hp (qx _) (by omega) hq dn es l8
   | false =>
    dsimp only;rw[VG Wf]
    have eq:KA k p m=KA k p (m - 1):=tW c1 c2
    refine wt hc f p (m + 1) (q + 1) s2 Q hp (by omega) (by omega) (by omega) (dn.snoc h1 (by rw[eq];exact kle_refl _)) (fun t a b => ?_) l8 fun p' m' q' hZ a b c d e g i=>fin p' m' q' hZ a (by omega) c d e g i
    show KA k p t=KA k p m
    by_cases z:t=m
    ·rw[z]
    ·rw[es t (by omega) (by omega),eq]
theorem Dn.rev {p:Array Nat} {m:Nat} (h:Dn k p m) (hs:m <= p.size):Up k (kas_rev p 0 m) m:=fun i j jj hj=>by
 rw[wq hs,wq hs,We ⟨W6 _,by omega⟩,We ⟨W6 _,hj⟩]
 exact h _ _ (by omega) (by omega)
theorem FI (hc:nr n k I cmp) {p:Array Nat} (hp:dh n p) {m:Nat} {s:Shared} {Q:Nat × Array Nat->Shared->Prop} (h1:1 <= m) (hm:m <= n) (dn:Dn k p m) (hi:I s)
  (fin:∀ p' m' s',dh n p'->1 <= m'->m' <= n->Up k p' m'->I s'->Q (m',p') s'):(kas_tail3 m n p).kasWp cmp Q s:=by
 unfold kas_tail3
 rw[KasT.kasWp_bind]
 have sz:=hp.size
 refine FF hc (hp.rev 0 m) (n - m) m s _ h1 (by omega) (dn.rev (by omega)) hi fun m' s' a b c d => ?_
 exact fin _ m' s' (hp.rev 0 m) (by omega) b c d
theorem FJ (hc:nr n k I cmp) {p:Array Nat} (hp:dh n p) {m:Nat} {s:Shared} {Q:Nat × Array Nat->Shared->Prop} (h1:1 <= m) (hm:m + 1 <= n) (dn:Dn k p (m + 1)) (hi:I s)
  (fin:∀ p' m' s',dh n p'->1 <= m'->m' <= n->Up k p' m'->I s'->Q (m',p') s'):(kas_descPart m n p).kasWp cmp Q s:=by
 unfold kas_descPart
 rw[KasT.kasWp_bind]
 refine wt hc (n - (m + 1)) p (m + 1) 0 s _ hp (by omega) (by omega) (by omega) dn (fun t a b => ?_) hi fun p' m' q' s' a b c d e g i => ?_
 ·have:t=m + 1 - 1:=by omega
  rw[this]
 ·have sz:=a.size
  dsimp only
  by_cases hq:q' > 0
  ·rw[We hq]
   exact FI hc (a.rev _ _) (by omega) c (e.congr (FG (by omega) d g)) i fin
  ·rw[VG hq]
   exact FI hc a (by omega) c e i fin
theorem OU (hc:nr n k I cmp) {p:Array Nat} (hp:dh n p) {s:Shared} {Q:Nat × Array Nat->Shared->Prop} (h1:1 <= n) (hi:I s)
  (fin:∀ p' m' s',dh n p'->1 <= m'->m' <= n->Up k p' m'->I s'->Q (m',p') s'):(kas_count n p).kasWp cmp Q s:=by
 unfold kas_count
 rw[KasT.kasWp_bind]
 have sz:=hp.size
 have key:∀ (f m:Nat) (s:Shared) (Q':Nat->Shared->Prop),1 <= m->m + f=n->Up k p m->I s →
   (∀ m' s',m <= m'->m' <= n->Up k p m'->(m' < n->HT.lexLt (KA k p m') (KA k p (m' - 1))=true)->I s'->Q' m' s')->(kas_asc p f m).kasWp cmp Q' s:=by
  intro f
  induction f with
  | zero=>intro m s Q' a b up hi fin;exact fin m s (qx _) (by omega) up (fun z=>absurd z (by omega)) hi
  | succ f ih =>
   intro m s Q' a b up hi fin
   show cmp _ _ _ s
   refine hc _ _ _ s (hp.lt (by omega)) (hp.lt (by omega)) hi fun s' bQ => ?_
   cases q:HT.lexLt (k (p.getD m 0)) (k (p.getD (m - 1) 0)) with
   | true=>dsimp only;rw[We rfl];exact fin m s' (qx _) (by omega) up (fun _=>q) bQ
   | false =>
    dsimp only;rw[VG Wf]
    exact ih (m + 1) s' Q' (by omega) (by omega) (up.snoc a q) bQ fun m' hZ a b c d e=>fin m' hZ (by omega) b c d e
 refine key (n - 1) 1 s _ (qx _) (by omega) Up.one hi fun m s' a b up nx bQ => ?_
 by_cases c1:m=n
 ·subst c1
  rw[We (by simp)]
  exact fin p m s' hp a (qx _) up bQ
 ·rw[VG (by simpa using c1)]
  have bX:m < n:=by omega
  have nx:=nx bX
  by_cases c2:m > 1
  ·rw[We c2]
   show cmp _ _ _ s'
   refine hc _ _ _ s' (hp.lt (by omega)) (hp.lt (by omega)) bQ fun s2 l8 => ?_
   cases q:HT.lexLt (k (p.getD 0 0)) (k (p.getD (m - 1) 0)) with
   | true=>dsimp only;rw[We rfl];exact fin p m s2 hp a b up l8
   | false =>
    dsimp only;rw[VG Wf]
    have al:∀ t,t < m->KA k p t=KA k p (m - 1):=fun t ht=>by
     refine OR (up t (m - 1) (by omega) (by omega)) (kle_trans q (up 0 t (W6 _) ht))
    have e:∀ t,KA k (kas_rev p 0 m) t=KA k p t:=fun t=>by
     rw[wq (by omega)]
     split
     ·rename_i c;rw[al _ (by omega),al t c.2]
     ·rfl
    refine FJ hc (hp.rev 0 m) (by omega) (by omega) (Dn.congr (p:=p) ?_ e) l8 fin
    refine Dn.snoc (fun i j jj hj => ?_) (by omega) (pL nx)
    rw[al i (by omega),al j hj];exact kle_refl _
  ·rw[VG c2]
   have:m=1:=by omega
   subst this
   exact FJ hc hp (by omega) (by omega) (Dn.one.snoc (qx _) (pL nx)) bQ fin
theorem zZ (hc:nr n k I cmp) {p:Array Nat} (hp:dh n p) {t:Nat} (ht:t < n) (up:Up k p t):∀ (f l r:Nat) (s:Shared) (Q:Nat->Shared->Prop),l <= r->r <= t->r - l <= f →
  (∀ i,i < l->kle (KA k p i) (KA k p t))->(∀ i,r <= i->i < t->kle (KA k p t) (KA k p i))->I s →
  (∀ l' s',l' <= t->(∀ i,i < l'->kle (KA k p i) (KA k p t))->(∀ i,l' <= i->i < t->kle (KA k p t) (KA k p i))->I s'->Q l' s')->(kas_place p t f l r).kasWp cmp Q s
 | 0,l,r,s,Q,h1,h2,h3,lo,qZ,hi,fin=>by
  have:l=r:=by omega
  subst this
  exact fin l s h2 lo qZ hi
 | f + 1,l,r,s,Q,h1,h2,h3,lo,qZ,hi,fin=>by
  unfold kas_place
  by_cases c:l ≥ r
  ·rw[We c]
   have:l=r:=by omega
   subst this
   exact fin l s h2 lo qZ hi
  ·rw[VG c]
   show cmp _ _ _ s
   refine hc _ _ _ s (hp.lt ht) (hp.lt (by omega)) hi fun s' bQ => ?_
   cases q:HT.lexLt (k (p.getD t 0)) (k (p.getD ((l + r) / 2) 0)) with
   | true =>
    dsimp only;rw[We rfl]
    refine zZ hc hp ht up f l ((l + r) / 2) s' Q (by omega) (by omega) (by omega) lo (fun i a b => ?_) bQ fin
    exact kle_trans (pL q) (up _ _ a b)
   | false =>
    dsimp only;rw[VG Wf]
    refine zZ hc hp ht up f ((l + r) / 2 + 1) r s' Q (by omega) h2 (by omega) (fun i a => ?_) qZ bQ fin
    exact kle_trans (up i ((l + r) / 2) (by omega) (by omega)) q
theorem FK (hc:nr n k I cmp):∀ (f:Nat) (p:Array Nat) (t:Nat) (s:Shared) (Q:Array Nat->Shared->Prop),dh n p->t + f=n->Up k p t->I s →
  (∀ p' s',dh n p'->Up k p' n->I s'->Q p' s')->(kas_bin f p t).kasWp cmp Q s
 | 0,p,t,s,Q,hp,h2,up,hi,fin=>by
  have:t=n:=by omega
  subst this
  exact fin p s hp up hi
 | f + 1,p,t,s,Q,hp,h2,up,hi,fin=>by
  unfold kas_bin
  rw[KasT.kasWp_bind]
  have sz:=hp.size
  refine zZ hc hp (by omega) up t 0 t s _ (W6 _) (qx _) (by omega) (fun i a=>absurd a (by omega)) (fun i a b=>absurd b (by omega)) hi fun l s' hl lo qZ bQ => ?_
  refine FK hc f _ (t + 1) s' Q (hp.OT _ _) (by omega) (fun i j jj hj => ?_) bQ fin
  have kb:=fun x=>OS (k:=k) (p:=p) (src:=t) (d:=t - l) (by omega) (by omega) x
  have el:t - (t - l)=l:=by omega
  rw[kb i,kb j,el]
  by_cases c1:i=l
  ·subst c1
   rw[We rfl]
   by_cases c2:j=i
   ·rw[We c2];exact kle_refl _
   ·rw[VG c2,We ⟨by omega,by omega⟩]
    exact qZ (j - 1) (by omega) (by omega)
  ·rw[VG c1]
   by_cases c2:j=l
   ·subst c2
    rw[We rfl,VG (by omega)]
    exact lo i (by omega)
   ·rw[VG c2]
    by_cases c3:l < i/\i <= t
    ·rw[We c3,We ⟨by omega,by omega⟩]
     exact up _ _ (by omega) (by omega)
    ·rw[VG c3]
     by_cases c4:l < j/\j <= t
     ·rw[We c4];exact up _ _ (by omega) (by omega)
     ·rw[VG c4];exact up _ _ jj (by omega)
theorem OW (hc:nr n k I cmp) {s:Shared} {Q:Array Nat->Shared->Prop} (h1:1 <= n) (hi:I s) (fin:∀ p s',dh n p->Up k p n->I s'->Q p s'):(kas_sort n).kasWp cmp Q s:=by
 unfold kas_sort
 rw[KasT.kasWp_bind]
 refine OU hc ⟨Array.Perm.refl _⟩ h1 hi fun p m s' a b c d e => ?_
 dsimp only
 by_cases q:m < n
 ·rw[We q]
  have:max m 1=m:=by omega
  rw[this]
  exact FK hc (n - m) p m s' Q a (by omega) d e fin
 ·rw[VG q]
  have:m=n:=by omega
  subst this
  exact fin p s' a d e
end
end L2
namespace L2
open PySem PySem.Spec PyProof.Rows
theorem FL {δ0:az} {bu:az->Prop} {g:WG} {b:WS} {K:KS} (I:Nat->az->Prop):∀ (items:List D) (i:Nat) (δ : az),I i δ →
  (∀ j d δ (L:az->Prop),items[j]? = some d->I (i + j) δ -> (∀ δ',I (i + j + 1) δ'->L δ')->bu δ /\ g (.p d) δ fun δ1=>b { nx:=fun δ2=>L (δ0.trim δ2),ct:=fun δ2=>L (δ0.trim δ2),bk:=K.nx,rt:=K.rt } δ1) →
  (∀ δ,I (i + items.length) δ -> bu δ /\ K.nx δ)->j4 δ0 bu g b K items δ
 | [],i,δ,h,_,fin=>fin δ h
 | d :: r,i,δ,h,st,fin=>by
  unfold j4
  refine st 0 d δ (fun δ'=>j4 δ0 bu g b K r δ') rfl h fun δ' hi => ?_
  refine FL I r (i + 1) _ hi (fun j e δ L hj hI hL => ?_) fun δ hI => ?_
  ·have e:i + 1 + j=i + (j + 1):=by omega
   rw[e] at hI hL
   exact st (j + 1) _ δ L (by simpa using hj) hI hL
  ·exact fin δ (by rw[D7];have e:i + 1 + r.length=i + (r.length + 1):=by omega
                   rw[e] at hI;exact hI)
theorem k8 {δ0:az} {bu:az->Prop} {g:WG} {b:WS} {K:KS} {items:List D} {δ : az} (I:Nat->az->Prop) (h0:I 0 δ)
  (st:∀ j d δ (L:az->Prop),items[j]? = some d->I j δ -> (∀ δ',I (j + 1) δ'->L δ')->bu δ /\ g (.p d) δ fun δ1=>b { nx:=fun δ2=>L (δ0.trim δ2),ct:=fun δ2=>L (δ0.trim δ2),bk:=K.nx,rt:=K.rt } δ1)
  (fin:∀ δ,I items.length δ -> bu δ /\ K.nx δ):j4 δ0 bu g b K items δ :=
 FL I items 0 δ h0 (fun j d δ L hj hI hL=>by rw[WN] at hI hL;exact st j d δ L hj hI hL) fun δ hI=>by rw[WN] at hI;exact fin δ hI
noncomputable def q9 (δ0:az) (bu:az->Prop) (g:WG) (t:WT) (f:WE) (d:D) (acc:List D) (δ : az) (L:List D->az->Prop):Prop :=
 bu δ /\ g (.p d) δ fun δ1=>t δ1 fun b δ2=>if b=true then f δ2 fun x δ3=>lT x δ3 fun e δ4=>acc.length < 1000/\L (acc ++ [e]) (δ0.trim δ4) else L acc (δ0.trim δ2)
theorem FN {δ0:az} {bu:az->Prop} {g:WG} {t:WT} {f:WE} {K:List D->az->Prop} (I:Nat->List D->az->Prop):∀ (items:List D) (i:Nat) (acc:List D) (δ : az),I i acc δ →
  (∀ j d acc δ (L:List D->az->Prop),items[j]? = some d->I (i + j) acc δ -> (∀ b9 δ',I (i + j + 1) b9 δ'->L b9 δ')->q9 δ0 bu g t f d acc δ L) →
  (∀ acc δ,I (i + items.length) acc δ -> bu δ /\ K acc δ)->iO δ0 bu g t f K items acc δ
 | [],i,acc,δ,h,_,fin=>fin acc δ h
 | d :: r,i,acc,δ,h,st,fin=>by
  unfold iO
  refine st 0 d acc δ (fun b9 δ'=>iO δ0 bu g t f K r b9 δ') rfl h fun b9 δ' hi => ?_
  refine FN I r (i + 1) b9 _ hi (fun j e acc δ L hj hI hL => ?_) fun acc δ hI => ?_
  ·have e:i + 1 + j=i + (j + 1):=by omega
   rw[e] at hI hL
   exact st (j + 1) _ acc δ L (by simpa using hj) hI hL
  ·exact fin acc δ (by rw[D7];have e:i + 1 + r.length=i + (r.length + 1):=by omega
                       rw[e] at hI;exact hI)
theorem z4 {δ0:az} {bu:az->Prop} {g:WG} {t:WT} {f:WE} {K:List D->az->Prop} {items:List D} {δ : az} (I:Nat->List D->az->Prop) (h0:I 0 [] δ)
  (st:∀ j d acc δ (L:List D->az->Prop),items[j]? = some d->I j acc δ -> (∀ b9 δ',I (j + 1) b9 δ'->L b9 δ')->q9 δ0 bu g t f d acc δ L)
  (fin:∀ acc δ,I items.length acc δ -> bu δ /\ K acc δ):iO δ0 bu g t f K items [] δ :=
 FN I items 0 [] δ h0 (fun j d acc δ L hj hI hL=>by rw[WN] at hI hL;exact st j d acc δ L hj hI hL) fun acc δ hI=>by rw[WN] at hI;exact fin acc δ hI
theorem j_ {δ0:az} {bu:az->Prop} {g:WG} {t:WT} {f:WE} {K:List D->az->Prop} {items:List D} (p:D->Bool) (fn:D->D) (hl:items.length <= 1000) (hc:bu δ0)
  (st:∀ d∈items,∀ acc (L:List D->az->Prop),acc.length < 1000->(p d=true->L (acc ++ [fn d]) δ0)->(p d=false->L acc δ0)->q9 δ0 bu g t f d acc δ0 L)
  (fin:K ((items.filter p).map fn) δ0):iO δ0 bu g t f K items [] δ0:=by
 refine z4 (fun i acc δ => δ = δ0/\acc=((items.take i).filter p).map fn) ⟨rfl,rfl⟩ ?_ ?_
 ·rintro j d acc δ L hj ⟨rfl,rfl⟩ hL
  have bX:=(oR.mp hj).1
  have hm:d∈items:=Ws hj
  have hn:(((items.take j).filter p).map fn).length < 1000:=by
   rw[oS]
   have:=List.length_filter_le p (items.take j)
   rw[Wu] at this;omega
  have e:items.take (j + 1)=items.take j ++ [d]:=by rw[XZ,hj];rfl
  refine st d hm _ L hn (fun q=>hL _ _ ⟨rfl,?_⟩) (fun q=>hL _ _ ⟨rfl,?_⟩)
  ·rw[e,YA,Wz];simp[List.filter,q]
  ·rw[e,YA,Wz];simp[List.filter,q]
 ·rintro acc δ ⟨rfl,rfl⟩
  rw[WM (qx _)]
  exact⟨hc,fin⟩
theorem pM {δ0:az} {bu:az->Prop} {g:WG} {t:WT} {f:WE} {K:List D->az->Prop} {items:List D} (fn:D->D) (hl:items.length <= 1000) (hc:bu δ0)
  (st:∀ d∈items,∀ acc (L:List D->az->Prop),acc.length < 1000->L (acc ++ [fn d]) δ0->q9 δ0 bu g t f d acc δ0 L)
  (fin:K (items.map fn) δ0):iO δ0 bu g t f K items [] δ0 :=
 j_ (fun _=>true) fn hl hc (fun d hd acc L ha h _=>st d hd acc L ha (h rfl)) (by rw[List.filter_eq_self.mpr fun _ _=>rfl];exact fin)
end L2
namespace LJ
open PySem L2
theorem z5:bootBuiltins "range" = some (.type "range"):=by decide +kernel
theorem OX:bootBuiltins "sum" = some (.builtin "sum"):=by decide +kernel
theorem FO:bootBuiltins "max" = some (.builtin "max"):=by decide +kernel
theorem tY:bootBuiltins "min" = some (.builtin "min"):=by decide +kernel
theorem FP:bootBuiltins "sorted" = some (.builtin "sorted"):=by decide +kernel
structure BT (mg:Str->Option Value):Prop where
 len:mg "len" = none
 range:mg "range" = none
 list:mg "list" = none
 tuple:mg "tuple" = none
 set:mg "set" = none
 sorted:mg "sorted" = none
 min:mg "min" = none
 max:mg "max" = none
 sum:mg "sum" = none
 all:mg "all" = none
 any:mg "any" = none
 enumerate:mg "enumerate" = none
 zip:mg "zip" = none
 isinstance:mg "isinstance" = none
 int:mg "int" = none
 bool:mg "bool" = none
 str:mg "str" = none
end LJ
namespace L2
open PySem PySem.Spec PyProof.Rows
variable [aE]
noncomputable def FQ (X:Cx) (f:Value) (g:List D->(List D->Prop)->Prop):Prop :=
 eN X f fun xs H Q=>∃ F ds K,aB F H/\f6 F H ds xs/\g ds K/\∀ zs vs a,K zs->H a=none->ae F zs vs->Q (.ref a) (upd H a (.lst vs))
noncomputable def wu (fa:WA) (op:List D->(List D->Prop)->Prop):WE:=fun δ K=>fa δ fun xs δ1=>i_ xs δ1 fun ds=>op ds fun zs=>K (.o δ1.mu.length) ⟨δ1.sl,δ1.mu ++ [some (.lst zs)]⟩
noncomputable def wx:List D->(List D->Prop)->Prop
 | [.lst ds],K=>match intsOf ds with
  | some ns=>ns.length < 64/\K ((sortI ns).map D.int)
  | none=>False
 | _,_=>False
section
variable {X:Cx} {fa:WA} {pos:Pos}
theorem wy {F H:Hp} {ad:List Addr} {δ : az} {σ : St} {p:Addr} (S:SR F ad δ σ H):fE F (ad ++ [p]) (.o δ.mu.length) (.ref p) :=
 ⟨p,by rw[<-S.bW,Wg (qx _),W7];rfl,rfl⟩
theorem OY {r:List V->Hp->VK->Prop} {op:List D->(List D->Prop)->Prop} (hr:∀ xs H Q,(∃ F ds K,aB F H/\f6 F H ds xs/\op ds K/\∀ zs vs a,K zs->H a=none->ae F zs vs->Q (.ref a) (upd H a (.lst vs)))->r xs H Q):∀ σ H Q,tD (wu fa op) σ H Q->oC r (bL fa) σ H Q:=by
 rintro σ H Q ⟨F,ad,δ,K,S,q,k⟩
 refine⟨F,ad,δ,_,S,q,fun xs δ1 h1 vs F1 aK H1 E1 S1 V1=>hr _ _ _ ?_⟩
 obtain⟨ds,h2,jX⟩:=s_ S1 V1 h1
 refine⟨F1,ds,_,S1.sub,jX,h2,fun zs us a hz hp is => ?_⟩
 have oi:d5 F1 (.lst zs) (.lst us):=⟨us,rfl,is⟩
 exact k _ _ hz _ _ _ _ (E1.trans (Ext.own S1 hp)) (S1.own hp oi) (wy S1)
theorem OZ {x:Str} {p:Pos} {e:Expr} {es:List Expr} {id:String} {o:List D->(List D->Prop)->Prop} (hc:FQ X (.builtin id) o) (hg:Gl X x) (hm:X.mg x=none) (hv:bootBuiltins x=some (.builtin id)) (ha:JA X (e :: es) (bL fa)) (hn:x ≠ "__name__" := by decide) (dS:(x == ("__debug__" : Str))=false:=by decide)
  (he:starEach (e :: es) X.env=(false,eval e X.env) :: starEach es X.env:=by rfl) (dM:(backTo pos (starEach es X.env)).any (·.1)=false:=by rfl):JE X (.Call (.Name x p) (e :: es) [] pos) (tD (wu fa o)) :=
 (vC hc hg hm hv ha hn dS he dM).weak (OY fun _ _ _ h=>h)
theorem O0:FQ X (.builtin "sorted") wx:=by
 rintro pins s σ H xs us Q I r ⟨F,ds,K,sub,rd,q,md⟩
 unfold wx at q
 split at q
 ·rename_i es
  split at q
  ·rename_i ns e
   obtain⟨v,rfl,a,vs,rfl,h1,h2⟩:=cI rd
   rw[qR e] at h2
   rw[k7 h2] at h1
   refine NN pins s σ H _ us Q I r ⟨a,ns,rfl,a7.of h1,q.1,fun l e7 pm pw hl => ?_⟩
   rw[Fq pm pw]
   exact md _ _ _ q.2 hl ni
  ·exact q.elim
 ·exact q.elim
noncomputable def z6 (fa:WA):WE:=fun δ K=>fa δ fun xs δ1=>match xs with
 | [.p (.int j)]=>(0 <= j/\j <= 1000)/\K (.o δ1.mu.length) ⟨δ1.sl,δ1.mu ++ [some (.lst (bG 0 j.toNat))]⟩
 | _=>False
theorem O1 {a:Expr} {p1 p2 q1 q2:Pos} (hc:X.calm=true) (tP:Gl X "list") (hl:X.mg "list" = none) (tQ:bootBuiltins "list" = some (.type "list")) (l6:Gl X "range") (hr:X.mg "range" = none) (l7:bootBuiltins "range" = some (.type "range")) (ha:JA X [a] (bL fa))
  (he:starEach [a] X.env=[(false,eval a X.env)]:=by rfl) (tR:starEach [.Call (.Name "range" p2) [a] [] q2] X.env=[(false,eval (.Call (.Name "range" p2) [a] [] q2) X.env)]:=by rfl):JE X (.Call (.Name "list" p1) [.Call (.Name "range" p2) [a] [] q2] [] q1) (tD (z6 fa)) :=
 (lR (EF hc) tP hl tQ (ie (lR zg l6 hr l7 ha (he:=he)) bo) (he:=tR)).weak fun σ H Q h0_ => el7 h0_ fun F ad δ K S q k =>⟨F,ad,δ,_,S,q,fun xs δ1 h1 vs F1 aK H1 E1 S1 V1=>by
  split at h1
  ·rename_i j
   obtain⟨v,r,e,W1,W2⟩:=V1
   have W2:r=[]:=W2
   have W1:v = .int j:=W1
   subst W2 W1 e
   refine⟨j,rfl,fun rr tT=>⟨rr,j.toNat,rfl,by rw[bA,Int.toNat_of_nonneg h1.1.1],by omega,fun l hl => ?_⟩⟩
   have s1:aB H1 (upd H1 rr (.rng 0 j)):=cX tT
   have S2:=S1.al s1
   have E2:=Ext.al S1 s1
   have oi:d5 (Nw F1 H1 (upd H1 rr (.rng 0 j))) (.lst (bG 0 j.toNat)) (.lst ((aL j.toNat).map V.int)):=⟨_,rfl,by rw[pG];exact ni⟩
   exact k _ _ h1.2 _ _ _ _ ((E1.trans E2).trans (Ext.own S2 hl)) (S2.own hl oi) (wy S2)
  ·exact h1.elim⟩
noncomputable def z7 (f g:WE):WE:=fun δ K=>f δ fun x δ1=>g δ1 fun y δ2=>fZ x δ2 fun d=>fZ y δ2 fun e=>match d,e with
 | .lst a,.lst b=>a.length + b.length <= 1000/\K (.o δ2.mu.length) ⟨δ2.sl,δ2.mu ++ [some (.lst (a ++ b))]⟩
 | _,_=>False
theorem O3 {a b:Expr} {f g:WE} (ha:JE X a (tD f)) (hb:JE X b (tD g)):JE X (.BinOp a .Add b pos) (tD (z7 f g)) :=
 (sX D3 ha hb).weak fun σ H Q h0_ => el7 h0_ fun F ad δ K S q k =>⟨F,ad,δ,_,S,q,fun x δ1 h1 v1 F1 aK H1 E1 S1 V1=>⟨F1,aK,δ1,_,S1,h1,fun y δ2 h2 v2 F2 bT H2 E2 S2 V2=>by
  obtain⟨d,h3,rd⟩:=iL S2 (V1.ext E2) h2
  obtain⟨e,h4,re⟩:=iL S2 V2 h3
  split at h4
  ·rename_i as bs
   obtain⟨a,us,rfl,g1,g2⟩:=rd
   obtain⟨b,ws,rfl,g3,g4⟩:=re
   have oi:d5 F2 (.lst (as ++ bs)) (.lst (us ++ ws)):=⟨_,rfl,qT g2 g4⟩
   exact⟨a,b,us,ws,rfl,rfl,g1,g3,jY (by rw[g2.length,g4.length];exact h4.1),fun p hp=>k _ _ h4.2 _ _ _ _ ((E1.trans E2).trans (Ext.own S2 hp)) (S2.own hp oi) (wy S2)⟩
  ·exact h4.elim⟩⟩
theorem tZ {st:Stmt}:JS X st (dH o6):=⟨fun pins s D σ H I q=>by obtain⟨F,ad,δ,K,S,q,k⟩:=q;exact q.elim⟩
end
end L2
namespace LJS
open PySem PySem.SetTable PyProof.Rows
section
variable {prog:Program} {w:World} {A:Around} {S:Addr} {ks:List Int}
end
end LJS
namespace L2
open PySem PySem.Spec PyProof.Rows
section
variable {X:Cx}
end
end L2
namespace LJS
open PySem PySem.SetTable PyProof.Rows
noncomputable def fz (m:Nat) (p:Probe):Probe :=
 if p.more > 0 then { p with j:=p.j + 1,more:=p.more - 1 } else
 { p with j:=(leap m p.i p.perturb).1,more:=runEnd m (leap m p.i p.perturb).1 - (leap m p.i p.perturb).1,i:=(leap m p.i p.perturb).1,perturb:=(leap m p.i p.perturb).2 }
theorem FR (t:SetTable) (p:Probe):t.advance p=fz t.mask p:=rfl
noncomputable def bI (m:Nat):Nat->Probe->Probe
 | 0,p=>p
 | k + 1,p=>bI m k (fz m p)
theorem wz (m:Nat):∀ (a b:Nat) (p:Probe),bI m (a + b) p=bI m b (bI m a p)
 | 0,b,p=>by rw[WN];rfl
 | a + 1,b,p=>by rw[show a + 1 + b=a + b + 1 by omega];exact wz m a b (fz m p)
noncomputable def stM (m i q:Nat):Probe:=⟨i,runEnd m i - i,i,q,none⟩
noncomputable def startM (m:Nat) (h:Int):Probe:=stM m (bits h % (m + 1)) (bits h)
theorem z8 (m:Nat):∀ (l:Nat) (p:Probe),l <= p.more->bI m l p={ p with j:=p.j + l,more:=p.more - l }
 | 0,p,_=>rfl
 | l + 1,p,h=>by
  show bI m l (fz m p)=_
  have e:fz m p={ p with j:=p.j + 1,more:=p.more - 1 }:=by unfold fz;rw[We (by omega)]
  rw[e,z8 m l _ (by show l <= p.more - 1;omega)]
  congr 1<;>(dsimp only;omega)
theorem FT (m i q:Nat):bI m (runEnd m i - i + 1) (stM m i q)=stM m (leap m i q).1 (leap m i q).2:=by
 rw[wz m (runEnd m i - i) 1,z8 m (runEnd m i - i) (stM m i q) (qx _)]
 show fz m _=_
 unfold fz
 rw[VG (by show ¬ (runEnd m i - i - (runEnd m i - i) > 0);omega)]
 rfl
theorem FU {m i:Nat} (h:i <= m):runEnd m i <= m/\i <= runEnd m i:=by unfold runEnd;split<;>omega
noncomputable def nu (m:Nat) (p:Probe):Prop:=p.j + p.more <= m
theorem O4 {m:Nat} {p:Probe} (h:nu m p):nu m (fz m p):=by
 unfold fz nu
 split
 ·rename_i c;have:p.j + p.more <= m:=h;dsimp only;omega
 ·have:=FU (CQ m p.i p.perturb)
  dsimp only;omega
theorem FV {m:Nat}:∀ (k:Nat) {p:Probe},nu m p->nu m (bI m k p)
 | 0,_,h=>h
 | k + 1,_,h=>FV k (O4 h)
theorem O5 (m:Nat) (h:Int):nu m (startM m h):=by
 have h0:bits h % (m + 1) <= m:=YH (Nat.mod_lt _ (Zw _))
 have:=FU h0
 unfold startM stM nu
 dsimp only;omega
theorem FW (m:Nat) (h:Int) (k:Nat):(bI m k (startM m h)).j <= m:=by
 have:=FV k (O5 m h)
 unfold nu at this;omega
noncomputable def nv (m:Nat) (wA:Nat->Prop) (h:Int) (j:Nat):Prop:=∃ k,k < 10 * turns m/\(bI m k (startM m h)).j=j/\∀ l,l < k->wA (bI m l (startM m h)).j
theorem nv.mono {m:Nat} {wA t4:Nat->Prop} {h:Int} {j:Nat} (r:nv m wA h j) (k:∀ x,x <= m->wA x->t4 x):nv m t4 h j:=by
 obtain⟨n,h1,h2,h3⟩:=r
 exact⟨n,h1,h2,fun l hl=>k _ (FW m h l) (h3 l hl)⟩
theorem FX {m:Nat} {owner:Array (Option Nat)}:∀ (F i q j:Nat),layClean.free m owner F i q=some j->∃ k,k < 10 * F/\(bI m k (stM m i q)).j=j/\∀ l,l < k->(owner.getD (bI m l (stM m i q)).j (some 0)).isSome=true
 | 0,i,q,j,h=>by unfold layClean.free at h;cases h
 | F + 1,i,q,j,h=>by
  rw[xI] at h
  have r9:=CV m i
  have ri:i <= runEnd m i:=by unfold runEnd;split<;>omega
  have ka:∀ l,l <= runEnd m i - i->(bI m l (stM m i q)).j=i + l:=fun l hl=>by rw[z8 m l _ hl];rfl
  split at h
  ·rename_i k0 hk
   cases h
   have h1:=YW hk
   have h2:=Wl.mp (YO hk)
   refine⟨k0,by omega,ka k0 (by omega),fun l hl => ?_⟩
   rw[ka l (by omega)]
   have h3:∀ l,l < k0->¬ (owner.getD (i + l) (some 0)).isNone=true:=by
    intro l hl hn
    obtain⟨as,bs,e,hb⟩:=List.find?_eq_some_iff_append.mp hk |>.2
    have hlen:as.length=k0:=by
     have:=congrArg (fun x=>x[as.length]?) e
     simp at this
     have h5:as.length < runEnd m i + 1 - i:=by
      have:=congrArg List.length e
      simp at this;omega
     rw[W0 h5] at this
     exact Wx this
    have:l∈as:=by
     have h6:=congrArg (fun x=>x[l]?) e
     simp only[Wd (show l < as.length by omega)] at h6
     rw[W0 (by omega)] at h6
     exact Ws h6.symm
    have:=hb l this
    rw[hn] at this
    exact absurd this (by decide)
   have:=h3 l hl
   cases q:owner.getD (i + l) (some 0) with
   | none=>rw[q] at this;exact absurd rfl this
   | some _=>rfl
  ·rename_i hk
   have h1:=YZ.mp hk
   obtain⟨k,VQ,O6,O7⟩:=FX F _ _ j h
   refine⟨runEnd m i - i + 1 + k,by omega,by rw[wz,FT];exact O6,fun l hl => ?_⟩
   by_cases c:l <= runEnd m i - i
   ·rw[ka l c]
    have:=h1 l (Wl.mpr (by omega))
    cases q:owner.getD (i + l) (some 0) with
    | none=>rw[q] at this;exact absurd rfl this
    | some _=>rfl
   ·have:=O7 (l - (runEnd m i - i + 1)) (by omega)
    rw[show l=runEnd m i - i + 1 + (l - (runEnd m i - i + 1)) by omega,wz,FT]
    exact this
section
variable {t:SetTable} {f:Nat->Int} {h:Int}
theorem FY (u:Up t.place) {i:Nat} (hi:i < t.place.size):t.slot t.place[i] = .live i:=by
 obtain⟨h0,h1,h2⟩:=va u t.place[i]
 have a:¬ i < below t.place t.place[i]:=fun z=>by have:=h1 i hi z;omega
 have b:¬ below t.place t.place[i] < i:=fun z=>by
  have:=h2 (below t.place t.place[i]) (by omega) (qx _)
  have:=u.lt z hi
  omega
 have eb:below t.place t.place[i]=i:=by omega
 unfold slot
 rw[eb]
 have:(t.place[i]? == some t.place[i])=true:=by rw[Wh hi];simp
 simp only[this,Yy]
theorem FZ (hd:t.dummies = #[]):∀ (F:Nat) (p:Probe) (j:Nat) (d:Option Nat),probe.go t f h F p=some (.empty j d)->∃ k,k < F/\(bI t.mask k p).j=j/\∀ l,l < k->(bI t.mask l p).j∈t.place.toList
 | 0,p,j,d,e=>by unfold probe.go at e;cases e
 | F + 1,p,j,d,e=>by
  rw[nW] at e
  rcases rM hd p.j with q | ⟨i,q,hi,hm⟩
  ·rw[q] at e
   cases e
   exact⟨0,Zw _,rfl,fun l hl=>absurd hl (Nat.not_lt_zero _)⟩
  ·rw[q] at e
   dsimp only at e
   split at e
   ·cases e
   ·obtain⟨k,h1,h2,h3⟩:=FZ hd F _ j d e
    rw[FR] at h2 h3
    refine⟨k + 1,by omega,h2,fun l hl => ?_⟩
    cases l with
    | zero=>exact hm
    | succ l=>exact h3 l (by omega)
theorem F7 (hd:t.dummies = #[]) (u:Up t.place):∀ (k F:Nat) (p:Probe) (i0:Nat),k < F->t.slot (bI t.mask k p).j = .live i0->f i0=h->(∀ l,l < k->(bI t.mask l p).j∈t.place.toList)->∃ j i nx,probe.go t f h F p=some (.candidate j i nx)/\f i=h/\i < t.place.size
 | k,0,p,i0,hk,_,_,_=>absurd hk (Nat.not_lt_zero _)
 | 0,F + 1,p,i0,_,hs,hf,_=>by
  rw[nW,show t.slot p.j = .live i0 from hs]
  dsimp only
  rw[We (by rw[hf];simp)]
  refine⟨_,_,_,rfl,hf,?_⟩
  rcases rM hd p.j with q | ⟨i,q,hi,_⟩
  ·rw[show t.slot p.j = .live i0 from hs] at q;cases q
  ·rw[show t.slot p.j = .live i0 from hs] at q;cases q;exact hi
 | k + 1,F + 1,p,i0,hk,hs,hf,ho=>by
  have hm:=ho 0 (Zw _)
  obtain⟨i,hi,ei⟩:=WC.mp hm
  have bQ:i < t.place.size:=by rw[<-Ms];exact hi
  have xO:t.place[i]=p.j:=by simpa [bI] using ei
  have sl:=FY u bQ
  rw[xO] at sl
  rw[nW,sl]
  dsimp only
  by_cases c:f i=h
  ·rw[We (by rw[c];simp)]
   exact⟨_,_,_,rfl,c,bQ⟩
  ·rw[VG (by simpa using c),FR]
   exact F7 hd u k F _ i0 (by omega) hs hf fun l hl=>ho (l + 1) (by omega)
end
noncomputable def pN (owner:Array (Option Nat)) (j:Nat):Prop:=∃ k,owner[j]? = some (some k)
structure q_ (m:Nat) (hs:List Int) (owner:Array (Option Nat)) (k:Nat):Prop where
 ow:Ow m owner k
 rh:∀ (j i:Nat),owner[j]? = some (some i)->∃ h,hs[i]? = some h/\nv m (pN owner) h j
theorem F8 {owner:Array (Option Nat)} {j k x:Nat} (h:pN owner x):pN (owner.setIfInBounds j (some k)) x:=by
 obtain⟨i,e⟩:=h
 have hx:=(Xq.mp e).1
 by_cases c:j=x
 ·subst c
  exact⟨k,by rw[YE];simp[hx]⟩
 ·exact⟨i,by rw[YE];simp[c];exact e⟩
theorem O8 {m:Nat} {hs:List Int} {owner:Array (Option Nat)} {k:Nat} (hm:Mk m) (O:q_ m hs owner k) (hk:k <= m) {h:Int} (hh:hs[k]? = some h) :
  ∃ j,layClean.free m owner (turns m) (bits h % (m + 1)) (bits h)=some j/\q_ m hs (owner.setIfInBounds j (some k)) (k + 1):=by
 obtain⟨j,ej,O'⟩:=JL hm O.ow hk h
 refine⟨j,ej,O',fun x i e => ?_⟩
 rw[YE] at e
 by_cases c:j=x
 ·subst c
  have O9:j < owner.size:=by
   by_cases z:j < owner.size
   ·exact z
   ·simp[z] at e
  simp[O9] at e
  subst e
  refine⟨h,hh,?_⟩
  obtain⟨n,n1,n2,n3⟩:=FX _ _ _ _ ej
  refine⟨n,n1,n2,fun l hl=>F8 ?_⟩
  have gq:=n3 l hl
  have le:=FW m h l
  have bX:(bI m l (startM m h)).j < owner.size:=by rw[O.ow.size];omega
  have t5:(owner.getD (bI m l (startM m h)).j (some 0)).isSome=true:=gq
  rw[show owner.getD (bI m l (startM m h)).j (some 0)=owner[(bI m l (startM m h)).j] by simp[Array.getD,bX]] at t5
  obtain⟨v,hv⟩:=YT.mp t5
  exact⟨v,by rw[Wh bX,hv]⟩
 ·simp[c] at e
  obtain⟨h',e1,e2⟩:=O.rh x i e
  exact⟨h',e1,e2.mono fun y _ hy=>F8 hy⟩
theorem F9 {m:Nat} (hm:Mk m) {all:List Int}:∀ (hs:List Int) (owner:Array (Option Nat)) (k:Nat),q_ m all owner k->all.drop k=hs->k + hs.length <= m + 1 →
  ∃ aP,(hs.foldl (init:=some (owner,k)) fun acc h=>do
   let (owner,k) <- acc
   let j <- layClean.free m owner (turns m) (bits h % (m + 1)) (bits h)
   pure (owner.setIfInBounds j (some k),k + 1))=some (aP,k + hs.length)/\q_ m all aP (k + hs.length)
 | [],owner,k,O,_,_=>⟨owner,rfl,O⟩
 | h :: hs,owner,k,O,hd,hl=>by
  rw[D7] at hl ⊢
  have hk:k < all.length:=by
   have:=congrArg List.length hd
   rw[Xw,D7] at this;omega
  rw[XA hk] at hd
  have hh:all[k]? = some h:=by rw[lO hk];exact congrArg some (List.cons.inj hd).1
  obtain⟨j,ej,O'⟩:=O8 hm O (by omega) hh
  obtain⟨o2,e2,O2⟩:=F9 hm hs _ (k + 1) O' (List.cons.inj hd).2 (by omega)
  refine⟨o2,?_,by rw[show k + (hs.length + 1)=k + 1 + hs.length by omega];exact O2⟩
  rw[Zs,show k + (hs.length + 1)=k + 1 + hs.length by omega,<-e2]
  congr 1
  show (do let j <- layClean.free m owner (turns m) (bits h % (m + 1)) (bits h);pure (owner.setIfInBounds j (some k),k + 1))=_
  rw[ej];rfl
theorem O_ (m:Nat) (hs:List Int):q_ m hs (Array.replicate (m + 1) none) 0:=by
 refine⟨C0 m,fun j i e => ?_⟩
 rw[Array.getElem?_replicate] at e
 split at e<;>cases e
theorem Pa {m:Nat} (hm:Mk m) (hs:Array Int) (hz:hs.size <= m + 1):∃ owner,layClean m hs=some owner/\q_ m hs.toList owner hs.size:=by
 obtain⟨o,e,O⟩:=F9 hm hs.toList _ 0 (O_ m hs.toList) rfl (by rw[Ms];omega)
 rw[WN,Ms] at O
 refine⟨o,?_,O⟩
 unfold layClean
 rw[<-Array.foldl_toList,e];rfl
theorem Pb {m:Nat} (hm:Mk m) (t:SetTable) (hs:Array Int) (wanted:Nat) (hw:sizeAbove wanted - 1=m) (hz:hs.size <= m + 1) :
  ∃ t' order,t.relaid hs wanted=some (t',order)/\t'.mask=m/\t'.dummies = #[]/\t'.place.size=hs.size/\Up t'.place/\order.size=hs.size/\order.toList.Perm (List.range hs.size) ∧
   ∀ (i j k:Nat),t'.place[i]? = some j->order[i]? = some k->∃ h,hs[k]? = some h/\nv m (· ∈ t'.place.toList) h j:=by
 obtain⟨owner,e,O⟩:=Pa hm hs hz
 obtain⟨aP,e',_,OP⟩:=J8 hm hs hz
 have:aP=owner:=Wx (e'.symm.trans e)
 subst this
 refine⟨{ mask:=m,place:=((iD m aP).map (·.1)).toArray,dummies := #[],finger:=t.finger,led:=t.led,moves:=t.movedTo m,plain:=t.plain },((iD m aP).map (·.2)).toArray,?_,rfl,rfl,?_,JY m aP,?_,?_,fun i j k h1 h2 => ?_⟩
 ·unfold relaid laid
  rw[hw,e];rfl
 ·rw[vp,oS,C1 O.ow]
 ·rw[vp,oS,C1 O.ow]
 ·show ((iD m aP).map (·.2)).Perm _
  rw[J9 O.ow.size]
  exact OP
 ·have h1:((iD m aP).map (·.1))[i]? = some j:=by simpa using h1
  have h2:((iD m aP).map (·.2))[i]? = some k:=by simpa using h2
  rw[D8] at h1 h2
  obtain⟨z,F_,rfl⟩:=VI.mp h1
  obtain⟨z',Ga,rfl⟩:=VI.mp h2
  rw[F_] at Ga;cases Ga
  have zm:=Ws F_
  have own:∀ z∈iD m aP,aP[z.1]? = some (some z.2):=fun z hz=>by
   unfold iD at hz
   obtain⟨j',z9,Pc⟩:=X9.mp hz
   obtain⟨k',wB,rfl⟩:=VI.mp Pc
   have:j' < aP.size:=by rw[O.ow.size];exact Wl.mp z9
   rw[show aP.getD j' none=aP[j'] by simp[Array.getD,this]] at wB
   rw[Wh this,wB]
  obtain⟨h,e1,e2⟩:=O.rh _ _ (own z zm)
  refine⟨h,by rw[<-Wq];exact e1,e2.mono fun x hx Pd => ?_⟩
  obtain⟨kx,Gb⟩:=Pd
  show x∈(iD m aP).map (·.1)
  refine Mt.mpr ⟨(x,kx),?_,rfl⟩
  unfold iD
  refine X9.mpr ⟨x,Wl.mpr (by omega),?_⟩
  have Pe:=(Xq.mp Gb).1
  rw[show aP.getD x none=aP[x] by simp[Array.getD,Pe],(Xq.mp Gb).2];rfl
structure l9 (hk:Nat->Int) (ad:Nat->Addr) (t:SetTable) (es:Array (Int × Value)) (js:List Nat):Prop where
 P:eS t es (js.map hk)
 up:Up t.place
 pO:(js.map hk).Nodup
 el:∀ e∈es.toList,∃ j∈js,e=(hk j,Value.ref (ad j))
 all:∀ j∈js,∃ e∈es.toList,e.1=hk j
 rh:∀ (i:Nat) (e:Int × Value) (j:Nat),es[i]? = some e->t.place[i]? = some j->nv t.mask (· ∈ t.place.toList) e.1 j
noncomputable def f9 (hk:Nat->Int) (ad:Nat->Addr) (h:Heap) (S:Addr) (js:List Nat):Prop:=∃ o es ep t,h.get? S=some o/\o.ExactSet/\o.data = .set es ep t/\l9 hk ad t es js
theorem Gd {hk:Nat->Int} {ad:Nat->Addr} {h h':Heap} {S:Addr} {js:List Nat} (x:f9 hk ad h S js) (k:∀ o,h.get? S=some o->h'.get? S=some o):f9 hk ad h' S js:=by
 obtain⟨o,es,ep,t,ho,r⟩:=x
 exact⟨o,es,ep,t,k o ho,r⟩
theorem Ge {α : Type} {xs:Array α} {p:Nat} {x : α} (hp:p <= xs.size) (i:Nat):(insertAt xs p x)[i]? = if i < p then xs[i]? else if i=p then some x else xs[i - 1]? := by
 have e:(insertAt xs p x).toList=xs.toList.take p ++ x :: xs.toList.drop p:=by
  unfold insertAt
  simp only[Array.toList_append,Za,Array.toList_extract,ZK,Zb,Z_,Yh,List.singleton_append]
  rw[WM (l:=xs.toList.drop p) (by rw[Xw,Ms];exact qx _)]
 rw[<-Wq,e]
 have hl:(xs.toList.take p).length=p:=by rw[Wu,Ms];omega
 by_cases c:i < p
 ·rw[We c,Wd (by omega),WU c,Wq]
 ·rw[VG c,Wg (by omega),hl]
  by_cases c2:i=p
  ·rw[We c2,c2,W7];rfl
  ·rw[VG c2]
   obtain⟨d,rfl⟩:∃ d,i=p + 1 + d:=⟨i - p - 1,by omega⟩
   rw[show p + 1 + d - p=d + 1 by omega,X7,List.getElem?_drop,Wq]
   congr 1
   omega
theorem Pf {α : Type} {es:Array α} {order:Array Nat} (h:∀ k∈order.toList,k < es.size) (i:Nat):(order.filterMap (es[·]?))[i]? = (order[i]?).bind fun k=>es[k]? := by
 have:∀ l:List Nat,(∀ k∈l,k < es.size)->∀ i:Nat,(l.filterMap fun k=>es[k]?)[i]? = (l[i]?).bind fun k=>es[k]? := by
  intro l
  induction l with
  | nil=>intro _ i;simp
  | cons k r ih =>
   intro hk i
   have ny:=hk k yE
   rw[YQ]
   rw[Wh ny]
   dsimp only
   cases i with
   | zero=>simp[Wh ny]
   | succ i=>simpa using ih (fun k' fu=>hk k' (Mp _ fu)) i
 have e:=this order.toList h i
 rw[<-Wq,Yx,e,Wq]
section
variable {hk:Nat->Int} {ad:Nat->Addr} {t:SetTable} {es:Array (Int × Value)} {js:List Nat}
theorem l9.found (T:l9 hk ad t es js) {h:Int} (hm:h∈js.map hk):∃ j i nx,t.probe (fun i=>(es[i]?.map (·.1)).getD 0) h (t.probeStart h)=some (.candidate j i nx)/\∃ e,es[i]? = some e/\e.1=h:=by
 obtain⟨j,hj,rfl⟩:=Mt.mp hm
 obtain⟨e,he,e1⟩:=T.all j hj
 obtain⟨i,hi,ei⟩:=WC.mp he
 have bQ:i < es.size:=by rw[<-Ms];exact hi
 have ee:es[i]? = some e:=by rw[Wh bQ];exact congrArg some (by simpa using ei)
 have hp:i < t.place.size:=by rw[T.P.mL];exact bQ
 have r:=T.rh i e _ ee (Wh hp)
 rw[e1] at r
 obtain⟨k,k1,k2,k3⟩:=r
 have sl:=FY T.up hp
 obtain⟨j',i',nx,h1,h2,h3⟩:=F7 (t:=t) (f:=fun i=>(es[i]?.map (·.1)).getD 0) (h:=hk j) T.P.rO T.up k (10 * turns t.mask) (startM t.mask (hk j)) i k1 (by rw[k2];exact sl) (by rw[ee];exact e1) k3
 refine⟨j',i',nx,h1,?_⟩
 have bX:i' < es.size:=by rw[<-T.P.mL];exact h3
 exact⟨es[i'],Wh bX,by have:=h2;rw[Wh bX] at this;exact this⟩
end
section
variable {prog:Program} {w:World} {A:Around} {E:Value->Shared->Prop} {s:Shared} {ad:Nat->Addr} {ks:Nat->List Int} {js:List Nat} {S:Addr}
noncomputable abbrev aD (prog:Program) (w:World) (ks:Nat->List Int) (j:Nat):Int:=hT prog w (ks j)
theorem Gf {k:List Int} {a:Addr} {Q:Bool->Shared->Prop} (hk:IsTupleKey (intKind prog w) s.heap k a) (h:Q false s):wpAny (model prog w) A (ofAClassStatement 8 (.ref a)) Q E s:=by
 have hT:=hk.typeIs
 obtain⟨o,aj,n,ho,_,hd,hi⟩:=hk
 show wpAny _ _ (ofAClassStatement (7 + 1) (.ref a)) _ _ _
 unfold ofAClassStatement
 refine oQ (q0b hT ?_)
 dsimp only
 refine oQ ?_
 refine D5 ?_
 simp only[Yl,Wn,Xr]
 refine oQ (X_ ho hd ?_)
 dsimp only
 refine oQ ?_
 show wpAny _ _ (forIn aj _ _) _ _ s
 rw[<-Y1]
 refine YM _ (fun rest r s'=>s'=s/\r=(none,PUnit.unit)/\∀ v∈rest,∃ i t,v=Value.int i t) _ ?_ ?_ _ _ ⟨rfl,rfl,C3 hi⟩
 ·rintro v rest r s' ⟨rfl,rfl,eT⟩
  obtain⟨i,t,rfl⟩:=eT v yE
  have e:ofAClassStatement 7 (.int i t)=pure false:=by unfold ofAClassStatement;rfl
  rw[e]
  refine oQ (D5 ?_)
  simp only[Wn,Xr]
  exact D5 ⟨rfl,rfl,fun u hu=>eT u (Mp _ hu)⟩
 ·rintro r s' ⟨rfl,rfl,_⟩
  exact D5 h
theorem Pg {k:List Int} {a:Addr} {Q:Bool->Shared->Prop} {stored:List Value} (hx:IsTupleKey (intKind prog w) s.heap k a) (hy:∀ y∈stored,∃ k' b,y=Value.ref b/\IsTupleKey (intKind prog w) s.heap k' b) (h:Q false s):wpAny (model prog w) A (searchCouldBeSeen (.ref a) stored) Q E s:=by
 unfold searchCouldBeSeen
 refine oQ ?_
 refine YM _ (fun rest r s'=>s'=s/\r=(none,PUnit.unit)/\∀ y∈rest,∃ k' b,y=Value.ref b/\IsTupleKey (intKind prog w) s.heap k' b) _ ?_ ?_ _ _ ⟨rfl,rfl,hy⟩
 ·rintro v rest r s' ⟨rfl,rfl,eT⟩
  obtain⟨k',b,rfl,hb⟩:=eT v yE
  have nA:∀ y∈rest,∃ k' b,y=Value.ref b/\IsTupleKey (intKind prog w) s'.heap k' b:=fun u hu=>eT u (Mp _ hu)
  dsimp only
  refine wpAny_ite_split (fun _=>D5 ⟨rfl,rfl,nA⟩) (fun _ => ?_)
  refine oQ (wpAny_eqIsQuiet_tuple hx ?_)
  simp only[Yl,Wn,Xr]
  refine oQ (wpAny_eqIsQuiet_tuple hb ?_)
  simp only[Yl,Wn,Xr]
  refine oQ (Gf hx ?_)
  simp only[Wn,Xr]
  refine oQ (Gf hb ?_)
  simp only[Wn,Xr]
  exact D5 ⟨rfl,rfl,nA⟩
 ·rintro r s' ⟨rfl,rfl,_⟩
  exact D5 h
theorem Ph {i:Nat} {o:Obj} {es:Array (Int × Value)} {ep:Nat} {t:SetTable} {Q:SetFound->Shared->Prop} (ho:s.heap.get? S=some o) (hd:o.data = .set es ep t) (T:l9 (aD prog w ks) ad t es js) (hu:A.units < cLine)
  (keys:∀ j∈i :: js,IsTupleKey (intKind prog w) s.heap (ks j) (ad j)) (inj:∀ j∈js,aD prog w ks j=aD prog w ks i->ks j=ks i) (hm:aD prog w ks i∈js.map (aD prog w ks))
  (k:Q (.there none) s):wpAny (model prog w) A (setSearch S (.ref (ad i)) (aD prog w ks i) true) Q E s:=by
 unfold setSearch
 show wpAny _ _ (setSearchFrom S (.ref (ad i)) (aD prog w ks i) true (99999 + 1) none) _ _ _
 unfold setSearchFrom
 refine oQ (Yk ho hd T.P.fits ?_)
 dsimp only
 rw[T.P.rQ]
 simp only[Wn,↓reduceIte]
 obtain⟨j',i',nx,ej,e,ee,eh⟩:=T.found hm
 simp only[Zm]
 generalize hP:t.probe _ (aD prog w ks i) (t.probeStart (aD prog w ks i))=P
 have eP:P=some (.candidate j' i' nx):=hP.symm.trans ej
 rw[eP]
 dsimp only
 have em:e∈es.toList:=Ws (by rw[Wq];exact ee)
 obtain⟨j,hj,rfl⟩:=T.el e em
 have ek:=inj j hj eh
 have kx:=keys i yE
 have ky:=keys j (Mp _ hj)
 have tail:wpAny (model prog w) A (do
   let some (_,y):=es[i']? | unsupported "internal:set-entry"
   let equal <- holding [y] (eqBool y (.ref (ad i)))
   let (rU,_,t') <- setState S
   if true && equal then return SetFound.there none
   let some same:=t'.sameMemory t.moves t.mask | unsupported "set.changed-during-lookup:is-the-new-block-at-the-old-address"
   let t6 <- match (if same then t'.slot j' else .empty) with
    | .live i'=>match rU[i']? with
     | some (_,y')=>do pure (if <- isSame y' y then some i' else none)
     | none=>pure none
    | _=>pure none
   match t6 with
   | none=>rule "set.search.anew";setSearchFrom S (.ref (ad i)) (aD prog w ks i) true 99999 none
   | some i'=>if equal then return SetFound.there (some i') else setSearchFrom S (.ref (ad i)) (aD prog w ks i) true 99999 (some nx)) Q E s:=by
  rw[ee]
  dsimp only
  refine oQ (WK (wpAny_eqBool_tuple hu ky kx ?_))
  refine oQ (Yk ho hd T.P.fits ?_)
  dsimp only
  rw[Mr ek]
  exact D5 k
 refine wpAny_ite_split (fun _ => ?_) (fun _=>tail)
 refine oQ (Pg kx (fun y hy => ?_) ?_)
 ·obtain⟨z,hz,rfl⟩:=Mt.mp hy
  have Pj:z∈es.toList:=by
   have:=Zo.mp hz
   exact Zo.mpr (Array.mem_filter.mp this).1
  obtain⟨q,hq,rfl⟩:=T.el z Pj
  exact⟨_,_,rfl,keys q (Mp _ hq)⟩
 ·exact tail
theorem Pk {i:Nat} {Q:Bool->Shared->Prop} (hS:f9 (aD prog w ks) ad s.heap S js) (hl:js.length < 60) (hu:A.units < cLine)
  (keys:∀ j∈i :: js,IsTupleKey (intKind prog w) s.heap (ks j) (ad j)) (inj:∀ j∈js,aD prog w ks j=aD prog w ks i->ks j=ks i)
  (k:∀ (b:Bool) h',Heap.SameBut S s.heap h'->f9 (aD prog w ks) ad h' S (if aD prog w ks i∈js.map (aD prog w ks) then js else js ++ [i])->Q b { s with heap:=h' }) :
  wpAny (model prog w) A (setAddHashed S (.ref (ad i)) (aD prog w ks i)) Q E s:=by
 obtain⟨o,es,ep,t,ho,hex,hd,T⟩:=hS
 unfold setAddHashed
 refine WK ?_
 show wpAny _ _ (setAddHashedIn S (.ref (ad i)) (aD prog w ks i) (99999 + 1)) _ _ _
 unfold setAddHashedIn
 refine oQ (Yk ho hd T.P.fits ?_)
 have hb:byScan (.ref (ad i)) es=false:=by unfold byScan;rfl
 dsimp only
 rw[hb]
 simp only[Wn,↓reduceIte]
 by_cases hm:aD prog w ks i∈js.map (aD prog w ks)
 ·refine oQ (Ph ho hd T hu keys inj hm ?_)
  dsimp only
  refine D5 ?_
  have e:s={ s with heap:=s.heap }:=by cases s;rfl
  rw[e]
  exact k false s.heap (Heap.SameBut.refl S s.heap) (by rw[We hm];exact⟨o,es,ep,t,ho,hex,hd,T⟩)
 rw[VG hm] at k
 have kx:=keys i yE
 have hz:t.place.size <= t.mask:=by have:=T.P.lt;rw[T.P.mL];omega
 obtain⟨j0,z_⟩:=JK (t:=t) (f:=fun i=>(es[i]?.map (·.1)).getD 0) (h:=aD prog w ks i) T.P.rO T.P.rP hz (fun i' bQ z=>by
  rw[T.P.mL] at bQ
  rw[Wh bQ] at z
  exact hm (by rw[<-show es[i'].1=aD prog w ks i from z];exact T.P.ins _ (ZP bQ)))
 have nj:j0∉t.place.toList:=JZ T.up (xN z_)
 have rj:nv t.mask (· ∈ t.place.toList) (aD prog w ks i) j0:=FZ T.P.rO _ _ _ _ z_
 have sf:wpAny (model prog w) A (setSearch S (.ref (ad i)) (aD prog w ks i) true) (fun r s'=>r = .free j0 false/\s'=s) E s:=by
  unfold setSearch
  show wpAny _ _ (setSearchFrom S (.ref (ad i)) (aD prog w ks i) true (99999 + 1) none) _ _ _
  unfold setSearchFrom
  refine oQ (Yk ho hd T.P.fits ?_)
  dsimp only
  rw[T.P.rQ]
  simp only[Wn,↓reduceIte]
  simp only[Zm]
  generalize hP:t.probe _ (aD prog w ks i) (t.probeStart (aD prog w ks i))=P
  have eP:P=some (.empty j0 none):=hP.symm.trans z_
  rw[eP]
  exact D5 ⟨rfl,rfl⟩
 refine oQ (XW sf ?_ fun _ _ e=>e)
 rintro r s' ⟨rfl,rfl⟩
 dsimp only
 refine oQ (Yk ho hd T.P.fits ?_)
 dsimp only
 obtain⟨p1,p2,p3,p4,p5,p6,p7⟩:=JN t T.P.rO j0
 have up1:=JU T.up nj
 have pz:(t.put j0).2 <= t.place.size:=(va T.up j0).1
 have fin:∀ b:Bool,wpAny (model prog w) A (do
   storeSet S (SetTable.insertAt es (t.put j0).2 (aD prog w ks i,.ref (ad i))) (if b=true then (t.put j0).1 else { (t.put j0).1 with plain:=false })
   if (!false && (if b=true then (t.put j0).1 else { (t.put j0).1 with plain:=false }:SetTable).tooFull)=true then do
       setRelay S (SetTable.grown (es.size + 1))
       pure true
    else pure true) Q E s':=by
  intro b
  generalize i8:(if b=true then (t.put j0).1 else { (t.put j0).1 with plain:=false }:SetTable)=t2
  have q1:t2.dummies = #[]:=by rw[<-i8];cases b<;>exact p1
  have q2:t2.mask=t.mask:=by rw[<-i8];cases b<;>exact p2
  have q3:t2.place.size=es.size + 1:=by rw[<-i8,<-T.P.mL];cases b<;>exact p3
  have q4:t2.place=insertAt t.place (t.put j0).2 j0:=by rw[<-i8];cases b<;>rfl
  have q5:Up t2.place:=by rw[<-i8];cases b<;>exact up1
  have l_:=JO es (t.put j0).2 (aD prog w ks i,Value.ref (ad i))
  have wC:(insertAt es (t.put j0).2 (aD prog w ks i,Value.ref (ad i))).toList.Perm (es.toList ++ [(aD prog w ks i,Value.ref (ad i))]):=by
   have:=SetTable.insertAt_perm es (t.put j0).2 (aD prog w ks i,Value.ref (ad i))
   rw[Za] at this
   exact this
  have Pl:t2.place.toList.Perm (t.place.toList ++ [j0]):=by
   rw[q4]
   have:=SetTable.insertAt_perm t.place (t.put j0).2 j0
   rw[Za] at this
   exact this
  have t7:∀ (x:Nat) (e:Int × Value) (j:Nat),(insertAt es (t.put j0).2 (aD prog w ks i,Value.ref (ad i)))[x]? = some e->t2.place[x]? = some j->nv t2.mask (· ∈ t2.place.toList) e.1 j:=by
   intro x e j h1 h2
   rw[q4,Ge pz] at h2
   rw[Ge (by rw[<-T.P.mL];exact pz)] at h1
   rw[q2]
   have more:∀ y,y <= t.mask->y∈t.place.toList->y∈t2.place.toList:=fun y _ hy=>Pl.mem_iff.mpr (WJ _ hy)
   by_cases c:x < (t.put j0).2
   ·rw[We c] at h1 h2
    exact (T.rh x e j h1 h2).mono more
   ·rw[VG c] at h1 h2
    by_cases c2:x=(t.put j0).2
    ·rw[We c2] at h1 h2
     cases h1;cases h2
     exact rj.mono more
    ·rw[VG c2] at h1 h2
     exact (T.rh _ e j h1 h2).mono more
  generalize insertAt es (t.put j0).2 (aD prog w ks i,Value.ref (ad i))=eJ at l_ wC t7
  have rm:∀ e∈eJ.toList,∃ j∈js ++ [i],e=(aD prog w ks j,Value.ref (ad j)):=fun e he=>by
   rcases WD.mp (wC.mem_iff.mp he) with q | q
   ·obtain⟨j,hj,e1⟩:=T.el e q
    exact⟨j,WJ _ hj,e1⟩
   ·exact⟨i,Mq _ yE,WB.mp q⟩
  have all2:∀ j∈js ++ [i],∃ e∈eJ.toList,e.1=aD prog w ks j:=fun j hj=>by
   rcases WD.mp hj with q | q
   ·obtain⟨e,he,e1⟩:=T.all j q
    exact⟨e,wC.mem_iff.mpr (WJ _ he),e1⟩
   ·rw[WB.mp q]
    exact⟨_,wC.mem_iff.mpr (Mq _ yE),rfl⟩
  have t8:((js ++ [i]).map (aD prog w ks)).Nodup:=by
   rw[Wz]
   exact Xp.mpr ⟨T.pO,by simp,fun a ha b hb z=>hm (by rw[<-WB.mp hb,<-z];exact ha)⟩
  have t9:∀ e∈eJ.toList,e.1∈(js ++ [i]).map (aD prog w ks):=fun e he=>by
   obtain⟨j,hj,rfl⟩:=rm e he
   exact Mt.mpr ⟨j,hj,rfl⟩
  have t_:eJ.size=((js ++ [i]).map (aD prog w ks)).length:=by rw[l_,T.P.num,oS,oS,D6];rfl
  have VR:es.size < 60:=by rw[T.P.num,oS];exact hl
  refine oQ (wpAny_storeSet_of ho hd ?_ (by rw[l_,XY];omega))
  have nB:(s'.heap.update S (Obj.putSet eJ t2)).get? S=some { o with data := .set eJ (ep + 1) t2 }:=by
   have:=YG (Obj.putSet eJ t2) ho (by rw[putSet_of eJ t2 hd];rfl)
   rw[putSet_of eJ t2 hd] at this;exact this
  have fl:t2.fill=es.size + 1:=by unfold SetTable.fill;rw[q1,q3];rfl
  have lt:=T.P.lt
  have ua:t2.fits eJ.size=true:=by
   unfold SetTable.fits
   rw[fl,q3,l_,q2]
   simp
   rcases T.P.rP with e | e | e<;>rw[e] at lt ⊢ <;> omega
  by_cases tf:t2.tooFull=true
  ·rw[We (by rw[tf];rfl)]
   have Aa:t.mask * 3 <= (es.size + 1) * 5:=by
    unfold tooFull at tf
    rw[fl,q2] at tf
    have:=XC tf
    omega
   obtain⟨m,Ab,hw,hsz⟩:∃ m,Mk m/\sizeAbove (grown (es.size + 1)) - 1=m/\(es.size + 1) * 5 < m * 3:=by
    rcases T.P.rP with e | e | e
    ·rw[e] at lt Aa
     have:es.size + 1=5:=by omega
     rw[this]
     exact⟨31,.inr (.inl rfl),JP,by omega⟩
    ·rw[e] at lt Aa
     have:es.size + 1=19:=by omega
     rw[this]
     exact⟨127,.inr (.inr rfl),JQ,by omega⟩
    ·rw[e] at Aa;omega
   refine oQ ?_
   unfold setRelay
   refine oQ (Yk nB rfl ua ?_)
   dsimp only
   have Pn:¬ SetTable.sizeAbove (SetTable.grown (es.size + 1)) > sizeLine:=by
    rw[XY]
    rcases Ab with e | e | e<;>omega
   rw[VG Pn]
   obtain⟨t3,order,er,r1,r2,r3,r4,r5,r6,r7⟩:=Pb Ab t2 (eJ.map (·.1)) (grown (es.size + 1)) hw (by rw[q0z,l_];omega)
   rw[er]
   rw[q0z,l_] at r3 r5
   rw[q0z] at r6
   have Gg:∀ k∈order.toList,k < eJ.size:=fun k hk=>Wl.mp (r6.mem_iff.mp hk)
   obtain⟨o1,o2⟩:=JM (es:=eJ) (order:=order) Gg
   have og:=Pf (es:=eJ) (order:=order) Gg
   refine oQ ?_
   show wpAny _ _ (do
    if (order.filterMap (eJ[·]?)).size != eJ.size then
     unsupported "internal:set-table-lost-an-element"
    pure (order.filterMap (eJ[·]?),t3)) _ _ _
   rw[VG (by rw[o1,r5,l_];simp)]
   refine D5 ?_
   dsimp only
   refine wpAny_storeSet_of nB rfl ?_ (by rw[o1,r5,XY];omega)
   have eQ:((s'.heap.update S (Obj.putSet eJ t2)).update S (Obj.putSet (order.filterMap (eJ[·]?)) t3)).get? S=some { o with data := .set (order.filterMap (eJ[·]?)) (ep + 1 + 1) t3 }:=by
    have:=YG (Obj.putSet (order.filterMap (eJ[·]?)) t3) nB (by rw[putSet_of _ t3 rfl];rfl)
    rw[putSet_of _ t3 rfl] at this;exact this
   refine D5 (k true _ ((WL ..).trans (WL ..)) ⟨_,_,_,_,eQ,hex,rfl,⟨r2,by rw[r1];exact Ab,by rw[r3,o1,r5],by rw[o1,r5,<-l_];exact t_,?_,fun e he=>t9 e (o2 e he)⟩,r4,t8,fun e he=>rm e (o2 e he),fun j hj => ?_,fun x e j h1 h2 => ?_⟩)
   ·unfold tooFull SetTable.fill
    rw[r2,r3,r1]
    simp
    omega
   ·obtain⟨e,he,e1⟩:=all2 j hj
    obtain⟨x,hx,ex⟩:=WC.mp he
    have g8:x < eJ.size:=by rw[<-Ms];exact hx
    have:x∈order.toList:=r6.mem_iff.mpr (Wl.mpr g8)
    refine⟨e,?_,e1⟩
    rw[Yx]
    exact X9.mpr ⟨x,this,by rw[Wh g8];exact congrArg some (by simpa using ex)⟩
   ·rw[og] at h1
    cases q:order[x]? with
    | none=>rw[q] at h1;cases h1
    | some Gh =>
     rw[q] at h1
     have h1:eJ[Gh]? = some e:=h1
     obtain⟨hh,g1,g2⟩:=r7 x j Gh h2 q
     rw[Array.getElem?_map,h1] at g1
     cases g1
     rw[r1]
     exact g2
  ·have Gi:t2.tooFull=false:=by cases q:t2.tooFull<;>simp_all
   rw[VG (by rw[Gi];decide)]
   exact D5 (k true _ (WL ..) ⟨_,_,_,_,nB,hex,rfl,⟨q1,by rw[q2];exact T.P.rP,by rw[q3,l_],t_,Gi,t9⟩,q5,t8,rm,all2,t7⟩)
 by_cases hp:(t.put j0).1.plain=true
 ·rw[We hp]
  refine oQ (J_ kx fun b => ?_)
  exact fin b
 ·rw[VG hp]
  refine oQ (D5 ?_)
  exact fin true
end
noncomputable def gu (hk:Nat->Int):Nat->List Nat
 | 0=>[]
 | i + 1=>if hk i∈(gu hk i).map hk then gu hk i else gu hk i ++ [i]
theorem Gj (hk:Nat->Int):∀ i,(gu hk i).length <= i
 | 0=>qx _
 | i + 1=>by
  have:=Gj hk i
  unfold gu
  split
  ·omega
  ·rw[D6,Wt];omega
theorem wD (hk:Nat->Int):∀ i,∀ j∈gu hk i,j < i
 | 0,j,h=>nomatch h
 | i + 1,j,h=>by
  unfold gu at h
  split at h
  ·have:=wD hk i j h;omega
  ·rcases WD.mp h with h | h
   ·have:=wD hk i j h;omega
   ·rw[WB.mp h];omega
theorem Po {hk:Nat->Int} {ad:Nat->Addr} {h:Heap} {S:Addr} {led:Bool} (e:h.get? S=some (fP led)):f9 hk ad h S [] :=
 ⟨_,#[],0,_,e,⟨rfl,rfl,rfl⟩,rfl,⟨rfl,.inl rfl,rfl,rfl,by cases led<;>decide,fun _ h=>nomatch h⟩,List.Pairwise.nil,YK,(fun _ h=>nomatch h),(fun _ h=>nomatch h),fun i e j h=>by simp at h⟩
section
variable {prog:Program} {w:World} {A:Around} {R:Result->Shared->Prop} {I S:Addr} {fp wr:List Addr} {G:Array GenState->Array GenState->Prop} {n:Nat} {P:Nat->Value->Prop} {St:Nat->Shared->Prop}
theorem Pp (W:WalksS prog w A.in1 I fp wr G n P St) (out:S∉fp) (ad:Nat->Addr) (ks:Nat->List Int) (pP:∀ i v,P i v->v = .ref (ad i)) (apart:∀ i,i < n->ad i∉S :: wr) (room:A.in1.units < cLine)
  (inj:∀ i j,i < n->j < i->hT prog w (ks j)=hT prog w (ks i)->ks j=ks i) (gK:n <= 30) :
  ∀ (left i:Nat) (s:Shared),i + left=n->St i s->(∀ j,j < n->IsTupleKey (intKind prog w) s.heap (ks j) (ad j))->f9 (aD prog w ks) ad s.heap S (gu (aD prog w ks) i) →
   (∀ s',Moved (S :: wr) G s s'->f9 (aD prog w ks) ad s'.heap S (gu (aD prog w ks) n)->R (.ok (.ret .none)) s') →
   codeAny (model prog w) A (.builtin "set.update.loop" ⟨[.ref S,.ref I],[]⟩) R s:=by
 have ub:S∉wr:=fun z=>out (W.sub _ z)
 have more:∀ b,b∈wr->b∈S :: wr:=fun b hb=>Mp _ hb
 intro left
 induction left with
 | zero =>
  intro i s hi st tk se fin
  obtain rfl:i=n:=by omega
  refine XS F.entry_set_update_loop ?_
  rw[Xs Y7 _]
  show wpAny _ A.in1 (pyNext (.ref I) >>= _) _ _ s
  refine oQ (W.done s _ _ st fun s' mv => ?_)
  show wpAny _ A.in1 (ret Value.none) _ _ s'
  exact D5 (fin s' (mv.mono more) (Gd se fun o e=>mv.heap S o ub e))
 | succ left ih =>
  intro i s hi st tk se fin
  have bX:i < n:=by omega
  refine XS F.entry_set_update_loop ?_
  rw[Xs Y7 _]
  show wpAny _ A.in1 (pyNext (.ref I) >>= _) _ _ s
  refine oQ (W.item i s _ _ bX st fun v s1 hP oZ mv => ?_)
  obtain rfl:=pP i v hP
  have jF:∀ j,j < n->IsTupleKey (intKind prog w) s1.heap (ks j) (ad j):=fun j hj=>xQ (tk j hj) fun o e=>mv.heap _ o (fun z=>apart j hj (more _ z)) e
  show wpAny _ A.in1 (holding [Value.ref (ad i)] (setAdd S (.ref (ad i))) >>= _) _ _ s1
  refine oQ (WK ?_)
  unfold setAdd
  refine WK (oQ (wpAny_pyHash_tuple room (jF i bX) ?_))
  have fl:=wD (aD prog w ks) i
  refine Pk (s:={ s1 with toks:=s1.toks + ((ks i).length + 1) }) (i:=i) (js:=gu (aD prog w ks) i) (Gd se fun o e=>mv.heap S o ub e) (by have:=Gj (aD prog w ks) i;omega) room (fun j hj => ?_) (fun j hj e=>inj i j bX (fl j hj) e) fun bb h2 sb Pq => ?_
  ·rcases VE.mp hj with rfl | hj
   ·exact jF _ bX
   ·exact jF j (by have:=fl j hj;omega)
  ·have nS:∀ b,b∈fp->b≠S:=fun b hb z=>out (by rw[<-z];exact hb)
   refine D5 ⟨XX Y7 _,ih (i + 1) _ (by omega) (W.frame _ s1 _ _ oZ (Nat.le_add_right _ _) fun b hb o e=>by rw[sb.2 b (nS b hb)];exact e) (fun j hj=>xQ (jF j hj) fun o e => ?_) Pq fun s3 Pr Pt => ?_⟩
   ·rw[sb.2 _ (fun z=>apart j hj (by rw[z];exact yE))];exact e
   ·refine fin s3 (Moved.trans W.gtrans ((mv.mono more).then_heap (Nat.le_add_right _ _) fun b o hb e => ?_) Pr) Pt
    rw[sb.2 b (fun z=>hb (by rw[z];exact yE))];exact e
end
section
variable {prog:Program} {w:World} {A:Around} {E:Value->Shared->Prop} {s:Shared}
set_option maxHeartbeats 3200000 in
theorem Pu {l:Addr} {items:Array Value} {Q:Value->Shared->Prop} (ad:Nat->Addr) (ks:Nat->List Int) (hh:A.handled=none) (room:A.units + 8 < cLine) (wo:s.heap.IsList l items) (pP:∀ (i:Nat) (v:Value),items[i]? = some v->v = .ref (ad i))
  (tk:∀ i,i < items.size->IsTupleKey (intKind prog w) s.heap (ks i) (ad i)) (inj:∀ i j,i < items.size->j < i->hT prog w (ks j)=hT prog w (ks i)->ks j=ks i) (gK:items.size <= 30)
  (fin:∀ (h':Heap) (tk:Nat),f9 (aD prog w ks) ad h' s.heap.objs.size (gu (aD prog w ks) items.size)->(∀ b o,b < s.heap.objs.size->s.heap.get? b=some o->h'.get? b=some o)->Q (.ref s.heap.objs.size) { s with heap:=h',toks:=tk }) :
  wpAny (model prog w) A (call (.type "set") [.ref l]) Q E s:=by
 obtain⟨c,tl,Pw⟩:=YB.mro
 have m1:=YB.made
 have m2:=YB.sub
 have m3:=YB.notType
 have m4:=YB.canCreate
 have m5:=F.typeCall_set_1 (.ref l)
 refine wpAny_call (codeAny_of_tree ?_)
 show wpAny _ _ (callAny (.type "set") _) _ _ _
 refine D5 ⟨Code.quiet_builtin _ (by decide +kernel),XS F.entry_type_call ?_⟩
 rw[Around.under_plain (weight_type_call_type "set" [.ref l] []) rfl]
 repeat (any_goals (first | assumption | wp_step))
 refine Zy (code_set_new_1 (.ref l) (E:=E) (Q₁ := fun r s1=>∃ led:Bool,r = .ref s.heap.objs.size/\s1={ s with heap:=s.heap.push (fP led) }) fun led=>⟨led,rfl,rfl⟩) fun r s1 hr => ?_
 cases r with
 | error e=>exact hr
 | ok fl =>
  cases fl with
  | ret obj =>
   obtain⟨led,rfl,rfl⟩:=hr
   have gS:(s.heap.push (fP led)).get? s.heap.objs.size=some (fP led):=VH _ rfl
   have tS:Shared.TypeIs { s with heap:=s.heap.push (fP led) } (.ref s.heap.objs.size) "set" := ⟨_,gS,rfl⟩
   have m6:=YB.init.lookup
   have m7:=YB.init.bind (.ref s.heap.objs.size)
   repeat (any_goals (first | assumption | wp_step))
   refine Zy (codeAny_call_builtin (R:=wants (fun r s2=>r = .none/\∃ h' tk,s2={ s with heap:=h',toks:=tk }/\f9 (aD prog w ks) ad h' s.heap.objs.size (gu (aD prog w ks) items.size) ∧
     ∀ b o,b < s.heap.objs.size->s.heap.get? b=some o->h'.get? b=some o) E) YB.init.plain F.entry_set_init (check_set_init_1 tS ?_)) fun r2 s2 uc => ?_
   ·obtain⟨ol,gl,cl,nl,dl⟩:=wo
    obtain⟨c0,d0,VS,Px⟩:=ol
    simp only at cl dl
    subst cl
    subst dl
    have Py:(s.heap.push (fP led)).get? l=some { cls := .type "list",dict:=d0,data := .seq items nl,slots:=Px }:=sC _ gl
    have x1:=F.sub_list_set
    have x2:=F.sub_list_frozenset
    have x3:(Value.type "list" == Value.type "dict")=false:=by decide
    have ue:(s.heap.push (fP led)).IsList l items:=⟨_,Py,rfl,nl,rfl⟩
    have ll:l < s.heap.objs.size:=My gl
    unfold Builtin.«set.__init__» noKeywords Builtin.Frozenset.updateFrom
    generalize Pz:pyIter=PI
    wp_walk
    subst Pz
    refine XQ ue (oQ (wpAny_runValue ?_))
    have h3:A.in1.in1.in1.handled=none:=by simp[hh]
    have ez:(s.heap.push (fP led)).objs.size=s.heap.objs.size + 1:=Yb ..
    have nI:l≠(s.heap.push (fP led)).objs.size:=by rw[ez];exact Wi (Xo ll)
    have lt:∀ i,i < items.size->ad i < s.heap.objs.size:=fun i hi=>by
     obtain⟨o,_,_,e,_⟩:=tk i hi
     exact My e
    refine Pp ((YJ h3 _ l nI items).toS) (S:=s.heap.objs.size) ?out ad ks (fun i v hv=>pP i v hv) ?apart ?room inj gK items.size 0 _ (WN _)
     ⟨⟨_,VH _ rfl,rfl,rfl⟩,ue.push _⟩ ?tk ?fresh ?fin
    case out =>
     simp only[VE,W5,Zp,not_or,ez]
     exact⟨Wi (Xv _),YN ll⟩
    case apart =>
     intro i hi
     have:=lt i hi
     simp only[VE,W5,Zp,not_or,ez]
     exact⟨Wi this,Wi (Xo this)⟩
    case room =>
     show A.units + 1 + 1 + 1 < cLine
     exact Y0 (Nat.add_le_add_left (by decide:3 <= 8) _) room
    case tk =>
     intro j hj
     exact xQ (tk j hj) fun o e=>sC _ (sC _ e)
    case fresh =>
     exact Po (led:=led) (sC _ gS)
    case fin =>
     intro s' mv se
     obtain⟨h',g',d',jk,yf⟩:=s'
     obtain rfl:g'=s.gens:=mv.gens
     obtain rfl:d'=s.drawn:=mv.drawn
     obtain rfl:yf=s.os:=mv.os
     show wpAny _ _ _ _ _ _
     refine D5 ?_
     show wpAny _ _ (ret Value.none) _ _ _
     refine D5 ⟨rfl,h',jk,rfl,se,fun b o hb e => ?_⟩
     refine mv.heap b o ?_ (sC _ (sC _ e))
     simp only[VE,W5,Zp,not_or,ez]
     exact⟨Wi hb,Wi (Xo hb)⟩
   ·cases r2 with
    | error e=>exact uc
    | ok Gk =>
     cases Gk with
     | ret r =>
      obtain⟨rfl,h',jk,rfl,se,kp⟩:=uc
      repeat (any_goals (first | assumption | wp_step))
      exact fin _ _ se kp
     | next=>exact uc
     | brk=>exact uc
     | cont=>exact uc
  | next=>exact hr
  | brk=>exact hr
  | cont=>exact hr
end
end LJS
namespace L2
open PySem PySem.Spec PyProof.Rows
variable [aE]
noncomputable def nD:List D->Option (List (Int × Int))
 | []=>some []
 | .tup [.int i,.int j] :: r=>match nD r with
  | some ps=>some ((i,j) :: ps)
  | none=>none
 | _=>none
theorem Gm:∀ {ds:List D} {ps:List (Int × Int)},nD ds=some ps->ds=ps.map fun p => .tup [.int p.1,.int p.2]
 | [],ps,h=>by cases h;rfl
 | .tup [.int i,.int j] :: r,ps,h=>by
  unfold nD at h
  split at h
  ·rename_i qs e
   cases h
   rw[Gm e];rfl
  ·cases h
theorem Gn:∀ ps:List (Int × Int),nD (ps.map fun p=>D.tup [.int p.1,.int p.2])=some ps
 | []=>rfl
 | p :: r=>by
  show nD (.tup [.int p.1,.int p.2] :: r.map _)=_
  unfold nD
  rw[Gn r]
noncomputable def fH (ps:List (Int × Int)):Nat->List (Int × Int)
 | 0=>[]
 | i + 1=>if ps.getD i (0,0)∈fH ps i then fH ps i else fH ps i ++ [ps.getD i (0,0)]
theorem Ac (ps:List (Int × Int)):∀ i,(fH ps i).length <= i
 | 0=>qx _
 | i + 1=>by
  have:=Ac ps i
  unfold fH
  split
  ·omega
  ·rw[D6,Wt];omega
theorem Gp {ps:List (Int × Int)} (hn:ps.Nodup):∀ i,i <= ps.length->fH ps i=ps.take i
 | 0,_=>rfl
 | i + 1,h=>by
  have hi:i < ps.length:=by omega
  have e:ps.getD i (0,0)=ps[i]:=by rw[vo,lO hi];rfl
  unfold fH
  rw[Gp hn i (by omega),e,VG ?_,XZ,lO hi]
  ·rfl
  ·intro hm
   obtain⟨j,hj,ej⟩:=WC.mp hm
   rw[Wu] at hj
   rw[ZL] at ej
   have:=(XU (h₀ := by omega) (h₁ := hi) hn).mp ej
   omega
theorem PB {ps:List (Int × Int)} (hl:(fH ps ps.length).length=ps.length):ps.Nodup:=by
 have key:∀ i,i <= ps.length->(fH ps i).length=i->(ps.take i).Nodup/\fH ps i=ps.take i:=by
  intro i
  induction i with
  | zero=>intro _ _;exact⟨YK,rfl⟩
  | succ i ih =>
   intro hi hlen
   have bQ:i < ps.length:=by omega
   have le:=Ac ps i
   have e:ps.getD i (0,0)=ps[i]:=by rw[vo,lO bQ];rfl
   unfold fH at hlen ⊢
   split at hlen
   ·omega
   ·rename_i hn
    rw[D6,Wt] at hlen
    obtain⟨h1,h2⟩:=ih (by omega) (by omega)
    rw[VG hn,h2,XZ,lO bQ,e]
    refine⟨?_,rfl⟩
    rw[h2,e] at hn
    exact Xp.mpr ⟨h1,by simp,fun a ha b hb z=>hn (by
     have hb:b=ps[i]:=by simpa using hb
     rw[<-hb,<-z];exact ha)⟩
 have:=(key ps.length (qx _) hl).1
 rwa [WM (qx _)] at this
section
variable {X:Cx} {fa:WA}
theorem Gq {F:Hp}:∀ {ps:List (Int × Int)} {vs:List V},ae F (ps.map fun p=>D.tup [.int p.1,.int p.2]) vs->∃ as:List Addr,vs=as.map V.ref/\as.length=ps.length/\∀ (i:Nat) (a:Addr) (k:Int × Int),as[i]? = some a->ps[i]? = some k->F a=some (.tup [.int k.1,.int k.2])
 | [],vs,h=>by
  have h:vs=[]:=by simpa only [Yj,ae] using h
  subst h
  exact⟨[],rfl,rfl,fun i a k e=>by simp at e⟩
 | p :: r,vs,h=>by
  rw[Wr] at h
  simp only[ae] at h
  obtain⟨v,r',rfl,h1,h2⟩:=h
  obtain⟨as,rfl,hl,g⟩:=Gq h2
  simp only[Is] at h1
  obtain⟨a,us,rfl,e1,e2⟩:=h1
  simp only[ae,Is] at e2
  obtain⟨_,_,rfl,rfl,_,_,rfl,rfl,rfl⟩:=e2
  refine⟨a :: as,rfl,by rw[D7,D7,hl],fun i b k eb ek => ?_⟩
  cases i with
  | zero =>
   cases (show some a=some b by simpa using eb)
   cases (show some p=some k by simpa using ek)
   exact e1
  | succ i=>exact g i b k (by simpa using eb) (by simpa using ek)
theorem PD (hc:X.calm=true) (hu:X.A.units + 64 < cLine):eN X (.type "set") (fun xs H Q=>∃ (l:Addr) (ps:List Addr) (ks:List (Int × Int)),xs=[.ref l]/\a7 X.K H l (ps.map V.ref)/\ps.length=ks.length ∧
  (∀ (i:Nat) (a:Addr) (k:Int × Int),ps[i]? = some a->ks[i]? = some k->H a=some (.tup [.int k.1,.int k.2]))/\(∀ k∈ks,0 <= k.1/\k.1 < k.2/\k.2 < 12)/\ks.length <= 30/\∀ p,H p=none->Q (.ref p) (upd H p (jW p (fH ks ks.length).length))):=by
 intro pins s σ H xs us Q I r h
 obtain⟨l,ps,ks,rfl,hq,hl,d6,bd,gK,q⟩:=h
 obtain⟨u,rfl,rx⟩:=vals1 r
 cases rx
 obtain⟨aj,r',pl,_⟩:=I.list hq
 obtain rfl:=EA r'
 have sz:(ps.map Value.ref).toArray.size=ks.length:=by rw[vp,oS,hl]
 have pQ:∀ i,i < ks.length->∃ k,ks[i]? = some k/\ks.getD i (0,0)=k:=fun i hi=>⟨ks[i],lO hi,by rw[vo,lO hi];rfl⟩
 have Ad:∀ i,i < ks.length->∃ a,ps[i]? = some a/\ps.getD i 0=a:=fun i hi=>⟨ps[i]'(by rw[hl];exact hi),lO (by rw[hl];exact hi),by rw[vo,lO (by rw[hl];exact hi)];rfl⟩
 have same:∀ i j,i < ks.length->j < ks.length->LJS.hT X.prog X.w [(ks.getD j (0,0)).1,(ks.getD j (0,0)).2]=LJS.hT X.prog X.w [(ks.getD i (0,0)).1,(ks.getD i (0,0)).2]->ks.getD j (0,0)=ks.getD i (0,0):=fun i j hi hj z=>by
  obtain⟨k,ek,dk⟩:=pQ i hi
  obtain⟨k',wB,Gr⟩:=pQ j hj
  rw[dk,Gr,LJS.Ey,LJS.Ey] at z
  rw[dk,Gr]
  have b1:=bd k (VD.mpr ⟨i,ek⟩)
  have b2:=bd k' (VD.mpr ⟨j,wB⟩)
  exact LJS.ND (k'.1,k'.2) (LJS.Ez b2.1 b2.2.1 b2.2.2) (k.1,k.2) (LJS.Ez b1.1 b1.2.1 b1.2.2) z
 refine LJS.Pu (fun i=>ps.getD i 0) (fun i=>[(ks.getD i (0,0)).1,(ks.getD i (0,0)).2]) (I.ok.hd hc) (by omega) pl.isList (fun i v hv => ?_) (fun i hi => ?_) (fun i j hi hj z => ?_) (by rw[sz];exact gK) fun h' tk se kp => ?_
 ·rw[Ye,D8] at hv
  obtain⟨a,ea,rfl⟩:=VI.mp hv
  rw[vo,ea];rfl
 ·rw[sz] at hi
  obtain⟨k,ek,dk⟩:=pQ i hi
  obtain⟨a,ea,da⟩:=Ad i hi
  show IsTupleKey _ _ [(ks.getD i (0,0)).1,(ks.getD i (0,0)).2] (ps.getD i 0)
  rw[dk,da]
  obtain⟨_,ba,r2,o,ho,k9,n,hd⟩:=I.aJ a _ (d6 i a k ea ek)
  cases r2 with
  | cons ra rr =>
   cases rr with
   | cons rb rn =>
    cases rn
    obtain⟨t1,rfl⟩:=ra
    obtain⟨t2,rfl⟩:=rb
    exact⟨o,_,n,ho,k9,hd,.cons (intKind_is ..) (.cons (intKind_is ..) .nil)⟩
 ·rw[sz] at hi
  have:=same i j hi (by omega) z
  show [(ks.getD j (0,0)).1,(ks.getD j (0,0)).2]=[(ks.getD i (0,0)).1,(ks.getD i (0,0)).2]
  rw[this]
 ·have key:∀ n,n <= ks.length->(LJS.gu (LJS.aD X.prog X.w fun i=>[(ks.getD i (0,0)).1,(ks.getD i (0,0)).2]) n).map (fun i=>ks.getD i (0,0))=fH ks n:=by
   intro n
   induction n with
   | zero=>intro _;rfl
   | succ n ih =>
    intro hn
    have ih:=ih (by omega)
    unfold LJS.gu fH
    rw[<-ih]
    by_cases c:ks.getD n (0,0)∈(LJS.gu (LJS.aD X.prog X.w fun i=>[(ks.getD i (0,0)).1,(ks.getD i (0,0)).2]) n).map (fun i=>ks.getD i (0,0))
    ·obtain⟨j,hj,ej⟩:=Mt.mp c
     have:LJS.aD X.prog X.w (fun i=>[(ks.getD i (0,0)).1,(ks.getD i (0,0)).2]) n∈(LJS.gu (LJS.aD X.prog X.w fun i=>[(ks.getD i (0,0)).1,(ks.getD i (0,0)).2]) n).map (LJS.aD X.prog X.w fun i=>[(ks.getD i (0,0)).1,(ks.getD i (0,0)).2]):=by
      refine Mt.mpr ⟨j,hj,?_⟩
      have ej:ks.getD j (0,0)=ks.getD n (0,0):=ej
      show LJS.hT _ _ [(ks.getD j (0,0)).1,(ks.getD j (0,0)).2]=LJS.hT _ _ [(ks.getD n (0,0)).1,(ks.getD n (0,0)).2]
      rw[ej]
     rw[We c,We this]
    ·have:LJS.aD X.prog X.w (fun i=>[(ks.getD i (0,0)).1,(ks.getD i (0,0)).2]) n∉(LJS.gu (LJS.aD X.prog X.w fun i=>[(ks.getD i (0,0)).1,(ks.getD i (0,0)).2]) n).map (LJS.aD X.prog X.w fun i=>[(ks.getD i (0,0)).1,(ks.getD i (0,0)).2]):=fun z=>by
      obtain⟨j,hj,ej⟩:=Mt.mp z
      have PH:=LJS.wD _ n j hj
      exact c (Mt.mpr ⟨j,hj,same n j (by omega) (by omega) ej⟩)
     rw[VG c,VG this,Wz];rfl
  obtain⟨o,es,ep,t,ho,hex,hd,T⟩:=se
  have hlen:((LJS.gu (LJS.aD X.prog X.w fun i=>[(ks.getD i (0,0)).1,(ks.getD i (0,0)).2]) ks.length).map (LJS.aD X.prog X.w fun i=>[(ks.getD i (0,0)).1,(ks.getD i (0,0)).2])).length=(fH ks ks.length).length:=by
   rw[<-key ks.length (qx _),oS,oS]
  have T':=T.P
  rw[sz] at T'
  have PJ:LJS.jK h' s.heap.objs.size _:=⟨o,es,ep,t,ho,hex,hd,T'⟩
  exact⟨.ref s.heap.objs.size,upd H s.heap.objs.size (jW s.heap.objs.size (fH ks ks.length).length),I.laid (t':=tk) (fun b o e=>kp b o (My e) e) (qx _) (NF PJ hlen),rfl,q _ (I.aJ.fresh (qx _))⟩
end
end L2
namespace HT
open PySem PySem.Spec PyProof.Rows
section
variable {prog:Program} {w:World} {A:Around} {E:Value->Shared->Prop} {s:Shared}
theorem PK {t b:Addr} {ws:List Value} {Q:Value->Shared->Prop} (ht:IsTup s.heap t #[]) (hb:IsTup s.heap b ws.toArray) (h:Q (.ref b) s):wpAny (model prog w) A (binaryOp .Add (.ref t) (.ref b)) Q E s:=by
 obtain⟨⟨cls,dd,data,sl⟩,ho,hc,n,hd⟩:=id ht
 obtain⟨⟨oG,jB,data2,jC⟩,eQ,e8,n2,hd2⟩:=id hb
 simp only at hc hd e8 hd2
 subst hc hd e8 hd2
 exact concat_meets ⟨_,ho,rfl⟩ ⟨_,eQ,rfl⟩ ZY seq_tuple_add Ze Y5 (YU _ _)
  (tuple_addW0 t b #[] ws.toArray n n2 dd jB sl jC rfl) ⟨ho,eQ,h⟩
theorem PL {t sl:Addr} {items:Array Value} {vl vu:Value} {lo hi:Option Int} {Q:Value->Shared->Prop} (ht:IsTup s.heap t items) (hs:s.heap.IsSliceOf sl vl vu .none) (pl:IsPart vl lo) (pu:IsPart vu hi)
  (hw:aZ items.size 0 lo=0/\aZ items.size items.size hi=items.size) (h:Q (.ref t) s):wpAny (model prog w) A (getItem (.ref t) (.ref sl)) Q E s:=by
 obtain⟨os,oH,qu,sv⟩:=id hs
 have yk:s.TypeIs (.ref sl) "slice" := ⟨os,oH,qu⟩
 unfold getItem
 try with_reducible refine WK ?_
 first | refine oQ (D5 ?_) | skip
 refine oQ (wpAny_sequenceKey ht.typeIs (by decide) ?_)
 refine oQ (Yt (name:=Str.ofString "__getitem__") ht.typeIs Xa
  (Zl Xa ht.typeIs entry_tuple_getitem ?_ (args_tuple_getitem _ _)))
 show wpAny _ _ (Builtin.Tuple.tupleItemsOf (.ref t) >>= _) _ _ s
 refine oQ (tupleItemsOf_ ht ?_)
 refine oQ (q0b yk ?_)
 rw[We (by decide)]
 refine oQ (DL hs pl pu ?_)
 show wpAny _ _ (if (((aZ items.size 0 lo:Nat):Int) == 0 && (1:Int) == 1 && (aZ items.size items.size hi - aZ items.size 0 lo) == items.size)=true then _ else _) _ _ s
 rw[We (by rw[hw.1,hw.2];simp)]
 unfold Builtin.Tuple.tupleIsExact
 refine oQ (oQ (q0b ht.typeIs (D5 ?_)))
 rw[We (by decide)]
 refine oQ (q0g ?_)
 exact D5 ⟨_,rfl,D5 h⟩
end
end HT
namespace L2
open PySem PySem.Spec PyProof.Rows
variable [aE]
section
variable {X:Cx} {e:Expr} {te:TE} {pos p2 p3 p4:Pos}
noncomputable def PM (K:PySem.W.Frag):V->Option Int->Option Int->Hp->VK->Prop:=fun x lo hi H Q=>∃ a xs,x = .ref a/\bC K H a xs ∧
 (HT.aZ xs.length 0 lo=0/\HT.aZ xs.length xs.length hi=xs.length->Q (.ref a) H)/\(¬ (HT.aZ xs.length 0 lo=0/\HT.aZ xs.length xs.length hi=xs.length)->∀ p,H p=none->Q (.ref p) (upd H p (.tup (cF xs lo hi))))
theorem PN:lK X (PM X.K):=by
 intro pins s σ H x v vl vu lo hi sl Q I rx hs pl pu h
 obtain⟨a,xs,rfl,hx,q1,q2⟩:=h
 by_cases hw:HT.aZ xs.length 0 lo=0/\HT.aZ xs.length xs.length hi=xs.length
 ·cases rx
  obtain⟨aj,r,ht,hz⟩:=I.tuple hx
  have hlen:aj.toArray.size=xs.length:=by rw[vp];exact r.length.symm
  refine⟨"tuple",_,Xa.lookup,ht.typeIs,?_⟩
  exact HT.PL ht hs pl pu (by rw[hlen];exact hw) ⟨.ref a,H,I,rfl,q1 hw⟩
 ·exact L5 pins s σ H _ v vl vu lo hi sl Q I rx hs pl pu ⟨a,xs,rfl,hx,hw,q2 hw⟩
theorem PQ:cA X (binaryOp .Add) (fun x y H Q=>∃ a b ys,x = .ref a/\y = .ref b/\bC X.K H a []/\bC X.K H b ys/\Q (.ref b) H):=by
 intro pins s σ H x y v u Q I rx ry h
 obtain⟨a,b,ys,rfl,rfl,ha,hb,q⟩:=h
 cases rx
 cases ry
 obtain⟨aj,r1,p1,_⟩:=I.tuple ha
 obtain⟨ba,r2,p2,_⟩:=I.tuple hb
 have:aj=[]:=r1.d4.mpr rfl
 subst this
 exact HT.PK p1 p2 ⟨.ref b,H,I,rfl,q⟩
theorem PR:cA X (compareOp .Is) (fun x y H Q=>∃ a b,x = .bl a/\y = .bl b/\Q (.bl (a == b)) H):=by
 intro pins s σ H x y v u Q I rx ry h
 obtain⟨a,b,rfl,rfl,q⟩:=h
 cases rx
 cases ry
 exact D5 ⟨.bl (a == b),H,I,by cases a<;>cases b<;>rfl,q⟩
theorem PU:cA X (compareOp .IsNot) (fun x y H Q=>∃ a b,x = .bl a/\y = .bl b/\Q (.bl (!(a == b))) H):=by
 intro pins s σ H x y v u Q I rx ry h
 obtain⟨a,b,rfl,rfl,q⟩:=h
 cases rx
 cases ry
 exact D5 ⟨.bl (!(a == b)),H,I,by cases a<;>cases b<;>rfl,q⟩
noncomputable def c9:D->D->(D->Prop)->Prop
 | .int i,.int j,K=>K (.int (i + j))
 | .lst a,.lst b,K=>a.length + b.length <= 1000/\K (.lst (a ++ b))
 | .tup a,.tup b,K=>a.length + b.length <= 1000/\K (.tup (a ++ b))
 | .str a,.str b,K=>a.length + b.length <= 1000/\K (.str (a ++ b))
 | _,_,_=>False
theorem dF:dO X (binaryOp .Add) c9:=by
 rintro pins s σ H x y v u Q I rx ry ⟨F,d,e,K,sub,rd,re,q,md⟩
 unfold c9 at q
 split at q
 ·exact v8 pins s σ H x y v u Q I rx ry ⟨F,_,_,K,sub,rd,re,q,md⟩
 ·exact v8 pins s σ H x y v u Q I rx ry ⟨F,_,_,K,sub,rd,re,q,md⟩
 ·rename_i as bs
  by_cases c:as=[]
  ·subst c
   have cI:Is F (.tup []) x:=rd
   have gQ:Is F (.tup bs) y:=re
   have PV:=gQ
   simp only[Is] at cI gQ
   obtain⟨a,us,rfl,h1,h2⟩:=cI
   obtain⟨b,ws,rfl,h3,h4⟩:=gQ
   have:us=[]:=by simpa only [ae] using h2
   subst this
   exact PQ pins s σ H _ _ v u Q I rx ry ⟨a,b,ws,rfl,rfl,bC.of (sub _ _ h1),bC.of (sub _ _ h3),md _ _ _ q.2 (fun _ _ e=>e) (tK sub PV)⟩
  ·exact v8 pins s σ H x y v u Q I rx ry ⟨F,_,_,K,sub,rd,re,⟨⟨c,q.1⟩,q.2⟩,md⟩
 ·exact v8 pins s σ H x y v u Q I rx ry ⟨F,_,_,K,sub,rd,re,q,md⟩
 ·exact q.elim
noncomputable def pR:D->Option Int->Option Int->(D->Prop)->Prop
 | .lst ds,lo,hi,K=>K (.lst (cutD ds lo hi))
 | .tup ds,lo,hi,K=>K (.tup (cutD ds lo hi))
 | _,_,_,_=>False
noncomputable def jm (f:WE) (l h:WO):WE:=fun δ K=>f δ fun x δ1=>l δ1 fun lo δ2=>h δ2 fun hi δ3=>fZ x δ3 fun d=>pR d lo hi fun z=>K (.p z) δ3
theorem PX {ds:List D} {lo hi:Option Int} (h:HT.aZ ds.length 0 lo=0/\HT.aZ ds.length ds.length hi=ds.length):cutD ds lo hi=ds:=by
 unfold cutD
 rw[h.1,h.2,Zb,Z_,WM (qx _)]
theorem wF {e:Expr} {f:WE} {lo hi:Option Expr} {l h:WO} {pos p2:Pos} (he:JE X e (tD f)) (hl:PO X lo (wa l)) (hh:PO X hi (wa h)):JE X (.Subscript e (.Slice lo hi none p2) pos) (tD (jm f l h)) :=
 (y9 (fV.or PN) he hl hh).weak fun σ H Q h0_ => el7 h0_ fun F ad δ K S q k =>⟨F,ad,δ,_,S,q,fun x δ1 h1 v F1 aK H1 E1 S1 V1=>⟨F1,aK,δ1,_,S1,h1,fun lo δ2 h2 F2 bT H2 E2 S2=>⟨F2,bT,δ2,_,S2,h2,fun hi δ3 h3 F3 qK H3 E3 S3=>by
  obtain⟨d,h4,rd⟩:=iL S3 ((V1.ext E2).ext E3) h3
  have Ae:=(E1.trans E2).trans E3
  unfold pR at h4
  split at h4
  ·rename_i ds
   obtain⟨a,vs,rfl,g1,g2⟩:=rd
   refine .inl ⟨a,vs,rfl,a7.of g1,fun p hp => ?_⟩
   exact k _ _ h4 _ _ _ _ (Ae.trans (Ext.al S3 (cX hp))) (S3.al (cX hp)) (qU S3.sub hp (Fl g2 _ _))
  ·rename_i ds
   have cI:Is F3 (.tup ds) v:=rd
   have zV:=cI
   simp only[Is] at cI
   obtain⟨a,vs,rfl,g1,g2⟩:=cI
   refine .inr ⟨a,vs,rfl,bC.of (S3.sub _ _ g1),fun hw => ?_,fun _ p hp => ?_⟩
   ·rw[g2.length] at hw
    rw[PX hw] at h4
    exact k _ _ h4 _ _ _ _ Ae S3 zV
   ·exact k _ _ h4 _ _ _ _ (Ae.trans (Ext.al S3 (cX hp))) (S3.al (cX hp)) (zN S3.sub hp (Fl g2 _ _))
  ·exact h4.elim⟩⟩⟩
noncomputable def jn:D->D->(D->Prop)->Prop
 | .bl a,.bl b,K=>K (.bl (a == b))
 | d,e,K=>jh d e K
noncomputable def rp:D->D->(D->Prop)->Prop
 | .bl a,.bl b,K=>K (.bl (!(a == b)))
 | d,e,K=>zP d e K
theorem Af:dO X (compareOp .Is) jn:=by
 rintro pins s σ H x y v u Q I rx ry ⟨F,d,e,K,sub,rd,re,q,md⟩
 unfold jn at q
 split at q
 ·rename_i a b
  exact PR pins s σ H x y v u Q I rx ry ⟨a,b,rd,re,md _ _ _ q (fun _ _ e=>e) rfl⟩
 ·exact Ov pins s σ H x y v u Q I rx ry ⟨F,_,_,K,sub,rd,re,q,md⟩
theorem Ag:dO X (compareOp .IsNot) rp:=by
 rintro pins s σ H x y v u Q I rx ry ⟨F,d,e,K,sub,rd,re,q,md⟩
 unfold rp at q
 split at q
 ·rename_i a b
  exact PU pins s σ H x y v u Q I rx ry ⟨a,b,rd,re,md _ _ _ q (fun _ _ e=>e) rfl⟩
 ·exact Ox pins s σ H x y v u Q I rx ry ⟨F,_,_,K,sub,rd,re,q,md⟩
end
end L2
open L2
open Lean in
local macro_rules
 | `(tactic| simp? only [$ls,*] $[$loc:location]?) => do
  let a ← ("Z2 dep bS W6 Nat.max_self Nat.max_zero Nat.zero_max Nat.reduceLeDiff au aC dN wu ai af d1 d2 dC aa i_ fZ lT ja az.fix ER dr eF qF dT qG gN mY cQ zq kU zr cR jc aF a_ bE j3 gO kW lV dw fq pb ft bO qN k6 zE je zF cS ak tF passes kZ eR pe pf aQ pB c9 pR jm jn rp o6 l5 eI oI dy oEq l3 oLt jh zP gs cq wg wj tO wk gR zR z6 z7 ji qV pK fw j8 pJ zT we bJ q9 az.trim fm vR Option.join_some Option.join_none Wr Yj List.cons_append List.nil_append Xn List.replicate_zero Y8 X7 List.getElem?_nil WW WX D7 XF List.take_succ_cons Zf List.take_nil List.any_nil Yn q0A Yl Bool.and_true Bool.and_self Bool.or_false Wn Bool.true_eq_false Yy Xr true_and and_true and_self reduceCtorEq beq_self_eq_true WN Nat.reduceAdd Nat.reduceLT Nat.reduceEqDiff Nat.reduceSub oS D6".splitOn " ").toArray.mapM fun s => `(Parser.Tactic.simpLemma| $(mkIdent s.toName):ident)
  let r ← `(Parser.Tactic.simpLemma| ↓reduceIte)
  let a : Syntax.TSepArray [`Lean.Parser.Tactic.simpStar, `Lean.Parser.Tactic.simpErase, `Lean.Parser.Tactic.simpLemma] "," := ⟨(Syntax.SepArray.ofElems (sep := ",") ((a.push r).map (·.raw) ++ ls.getElems.map (·.raw))).elemsAndSeps⟩
  `(tactic| simp only [$a,*] $[$loc]?)
set_option maxHeartbeats 8000000
namespace LJ
open PySem L2
variable [aE]
theorem Gs {ns:List Int} {k:Int} (h0:0 <= k) (h1:k < (ns.length:Int)):∃ n,d_ (ns.map D.int) k=some (.int n):=by
 obtain⟨i,rfl⟩:∃ i:Nat,k=i:=⟨k.toNat,by omega⟩
 have hi:i < ns.length:=by omega
 refine⟨ns[i],mU ?_⟩
 rw[D8,lO hi];rfl
theorem dX {α : Type} {x : α} {r:List α}:d_ (x :: r) 0=some x:=mU (j:=0) rfl
theorem eK {α : Type} {x y : α} {r:List α}:d_ (x :: y :: r) 1=some y:=mU (j:=1) rfl
theorem at2 {α : Type} {x y z : α} {r:List α}:d_ (x :: y :: z :: r) 2=some z:=mU (j:=2) rfl
theorem uf {a b A B:Int} (h0:0 <= a) (h1:a <= A) (h2:0 <= b) (h3:b <= B):0 <= a * b/\a * b <= A * B :=
 ⟨Int.mul_nonneg h0 h2,Int.mul_le_mul h1 h3 h2 (Int.le_trans h0 h1)⟩
noncomputable def gT:List Int:=[2147483629,2147483587,2147483579,2147483563,2147483549,2147483543,2147483497,2147483489,2147483477,2147483423,2147483399,2147483353,2147483323]
theorem Ah (n:Int):∃ q:Int,d_ (gT.map D.int) (n % 13)=some (.int q)/\0 < q/\q < 2147483648:=by
 have h0:0 <= n % 13:=Xt _ (by decide)
 have h1:n % 13 < 13:=W8 _ (by decide)
 generalize n % 13=j at h0 h1
 obtain⟨i,rfl⟩:∃ i:Nat,j=i:=⟨j.toNat,by omega⟩
 have hi:i < 13:=by omega
 have hl:(gT.map D.int)[i]? = some (.int (gT[i]'(by show i < 13;exact hi))):=by
  rw[D8,lO (by show i < 13;exact hi)];rfl
 refine⟨_,mU hl,?_⟩
 have all:∀ q∈gT,0 < q/\q < 2147483648:=by decide
 exact all _ (Xl _)
theorem PY:iZ 3 1=some 1:=rfl
theorem Gu:iZ 3 2=some 2:=rfl
theorem aR {A B:WS} {K:KS} {δ : az} (h:∀ N:az->Prop,N=B K->A { K with nx:=N } δ):au A B K δ := h _ rfl
theorem ip {t:WT} {G G':WS} {K:KS} {δ : az} (h:∀ A B:az->Prop,A=G K->B=G' K->t δ fun b δ1=>if b=true then A δ1 else B δ1):a_ t G G' K δ := h _ _ rfl rfl
theorem pT {w:WI} {g:WG} {b:WS} {K:KS} {δ : az} (h:∀ g' b' K',g'=g->b'=b->K'=K->w δ fun it δ1=>j4 δ1 it.bu g' b' K' it.items δ1):dw w g b K δ := h _ _ _ rfl rfl rfl
theorem wG {f:WE} {g:WA} {δ : az} {K:List DV->az->Prop} (h:∀ K',K'=(fun x δ1=>g δ1 fun xs δ2=>K (x :: xs) δ2)->f δ K'):ai f g δ K:=h _ rfl
noncomputable def Ai:GD:=fun ys ah K=>∃ cell at_:Int,ys=[.p (.int cell),.p (.int at_)]/\ah=[]/\0 <= at_/\at_ < 2 ^ 30/\∀ z:Int,K (.p (.int z)) []
noncomputable def Aj:WS:=(au (a_ (dT (d2 (aa 0) (d2 (dC (.int 10)) (dC (.int 18)) (dy fU fun i j => .int (i ^ j.toNat))) (oI fun i j => .bl (decide (j <= i))))) (aF (aa 0)) cR) (au (aC 2 (eF (ai (dC (.int 2147483629)) (ai (dC (.int 2147483587)) (ai (dC (.int 2147483579)) (ai (dC (.int 2147483563)) (ai (dC (.int 2147483549)) (ai (dC (.int 2147483543)) (ai (dC (.int 2147483497)) (ai (dC (.int 2147483489)) af)))))))))) (au (aC 2 (d2 (aa 2) (eF (ai (dC (.int 2147483477)) (ai (dC (.int 2147483423)) (ai (dC (.int 2147483399)) (ai (dC (.int 2147483353)) (ai (dC (.int 2147483323)) af)))))) c9)) (au (aC 3 (d2 (d2 (d2 (d2 (d2 (d2 (aa 0) (dC (.int 1000000007)) (dy (fun _ j=>0 < j) fun i j => .int (i % j))) (d2 (d2 (dC (.int 2)) (aa 1) eI) (dC (.int 69069)) c9) eI) (d2 (aa 1) (dC (.int 40503)) eI) c9) (dC (.int 977)) c9) (dC (.int 3)) (dy fU fun i j => .int (i ^ j.toNat))) (d2 (aa 2) (d2 (aa 1) (dC (.int 13)) (dy (fun _ j=>0 < j) fun i j => .int (i % j))) aQ) (dy (fun _ j=>0 < j) fun i j => .int (i % j)))) (au (aC 4 (d2 (d2 (d2 (d2 (d2 (aa 3) (d2 (aa 1) (dC (.int 3)) c9) eI) (d2 (aa 0) (dC (.int 65537)) (dy (fun _ j=>0 < j) fun i j => .int (i % j))) c9) (dC (.int 5)) c9) (dC (.int 5)) (dy fU fun i j => .int (i ^ j.toNat))) (d2 (aa 2) (d2 (d2 (aa 1) (dC (.int 5)) c9) (dC (.int 13)) (dy (fun _ j=>0 < j) fun i j => .int (i % j))) aQ) (dy (fun _ j=>0 < j) fun i j => .int (i % j)))) (au (aC 5 (d2 (d2 (d2 (d2 (aa 4) (d2 (aa 3) (dC (.int 1009)) (dy (fun _ j=>0 < j) fun i j => .int (i % j))) c9) (aa 1) c9) (dC (.int 3)) (dy fU fun i j => .int (i ^ j.toNat))) (d2 (aa 2) (d2 (d2 (aa 1) (dC (.int 7)) c9) (dC (.int 13)) (dy (fun _ j=>0 < j) fun i j => .int (i % j))) aQ) (dy (fun _ j=>0 < j) fun i j => .int (i % j)))) (aF (d2 (d2 (d2 (d2 (aa 3) (dC (.int 2147483647)) eI) (aa 4) c9) (dC (.int 2147483647)) eI) (aa 5) c9))))))))
theorem PZ:∀ ys ah K',ys.length=2->Ai ys ah K'->Aj (bJ ah.length K') ⟨ys.map some ++ List.replicate 4 none,ah.map some⟩:=by
 rintro ys ah K' - ⟨cell,k,rfl,rfl,h0,h1,fin⟩
 unfold Aj
 have ug:∀ (z:Int) (sl:List (Option DV)),gP 0 K' (.p (.int z)) ⟨sl,[]⟩:=fun z sl=>⟨[],rfl,rfl,fin z⟩
 simp? only []
 refine⟨⟨by decide,by decide,by decide⟩,?_⟩
 split
 ·exact ug _ _
 obtain⟨q1,e1,p1,b1⟩:=Ah k
 obtain⟨q2,e2,p2,b2⟩:=Ah (k + 5)
 obtain⟨q3,e3,p3,b3⟩:=Ah (k + 7)
 simp only[gT,Wr,Yj] at e1 e2 e3
 simp only[e1,e2,e3]
 have c0:0 <= cell % 1000000007:=Xt _ (by decide)
 have c1:cell % 1000000007 < 1000000007:=W8 _ (by decide)
 have m1:=uf c0 (Int.le_of_lt c1) (show (0:Int) <= 2 * k + 69069 by omega) (show 2 * k + 69069 <= 2147552717 by omega)
 refine⟨by decide,.inl ⟨by decide,by decide⟩,.inl ⟨by omega,by omega⟩,.inr ⟨by decide,by decide⟩,⟨by decide,by decide,?cp1⟩,by decide,p1,?_⟩
 case cp1 =>
  generalize cell % 1000000007 * (2 * k + 69069)=m at m1 ⊢
  omega
 generalize (cell % 1000000007 * (2 * k + 69069) + k * 40503 + 977) ^ (3:Int).toNat=x1
 have o0:0 <= x1 % q1:=Xt _ (by omega)
 have o1:x1 % q1 < q1:=W8 _ p1
 have d0:0 <= cell % 65537:=Xt _ (by decide)
 have d1:cell % 65537 < 65537:=W8 _ (by decide)
 have m2:=uf o0 (show x1 % q1 <= 2147483648 by omega) (show (0:Int) <= k + 3 by omega) (show k + 3 <= 1073741827 by omega)
 refine⟨.inl ⟨by omega,by omega⟩,by decide,⟨by decide,by decide,?cp2⟩,by decide,p2,?_⟩
 case cp2 =>
  generalize x1 % q1 * (k + 3)=m at m2 ⊢
  omega
 have t0:0 <= (x1 % q1 * (k + 3) + cell % 65537 + 5) ^ (5:Int).toNat % q2:=Xt _ (by omega)
 have t1:(x1 % q1 * (k + 3) + cell % 65537 + 5) ^ (5:Int).toNat % q2 < q2:=W8 _ p2
 have u0:0 <= x1 % q1 % 1009:=Xt _ (by decide)
 have u1:x1 % q1 % 1009 < 1009:=W8 _ (by decide)
 generalize (x1 % q1 * (k + 3) + cell % 65537 + 5) ^ (5:Int).toNat % q2=m at t0 t1 ⊢
 exact⟨by decide,⟨by decide,by decide,by omega⟩,by decide,p3,.inr ⟨by decide,by decide⟩,.inr ⟨by decide,by decide⟩,ug _ _⟩
noncomputable def iq (ns:List Int) (k z:Int):OV := .lst [.lst (ns.map D.int),.int k,.int z]
structure bj (n:Int) (o:OV):Prop where
 out:∃ ns k z,o=iq ns k z/\ns.length <= 63/\0 <= k/\k <= n
theorem bj.mono {n m:Int} {o:OV} (h:bj n o) (l:n <= m):bj m o:=by
 obtain⟨ns,k,z,e,h1,h2,h3⟩:=h.out
 exact⟨ns,k,z,e,h1,h2,by omega⟩
noncomputable def Ak:GD:=fun ys ah K=>∃ n o,ys=[.o 0]/\ah=[o]/\bj n o/\∀ o',bj n o'->K (.a 0) [o']
noncomputable def Al:WS:=(au (pK (dC (.int 0)) (aa 0) (dC (.int 2))) (aF (aa 0)))
theorem P0:∀ ys ah K',ys.length=1->Ak ys ah K'->Al (bJ ah.length K') ⟨ys.map some ++ List.replicate 0 none,ah.map some⟩:=by
 rintro ys ah K' - ⟨n,o,rfl,rfl,P,fin⟩
 obtain⟨ns,k,z,rfl,h1,h2,h3⟩:=P.out
 unfold Al iq
 simp? only []
 exact⟨[iq ns k 0],rfl,rfl,fin _ ⟨ns,k,0,rfl,h1,h2,h3⟩⟩
noncomputable def hJ:GD:=fun ys ah K=>∃ (n m:Int) (o:OV),ys=[.o 0,.p (.int m)]/\ah=[o]/\bj n o/\n < 2 ^ 30/\0 < m/\m < 1073741824/\∀ r o',0 <= r->r < m->bj (n + 1) o'->K (.p (.int r)) [o']
noncomputable def Am:WS:=(au (a_ (dT (d2 (d2 (aa 0) (dC (.int 2)) aQ) (aa 1) oLt)) (au (aC 2 (d2 (aa 0) (dC (.int 1)) aQ)) (au (aC 3 (dC (.int 0))) (au (a_ (dT (d2 (aa 2) (dN (ai (d2 (aa 0) (dC (.int 0)) aQ) af) cq) oLt)) (aC 3 (d2 (d2 (aa 0) (dC (.int 0)) aQ) (aa 2) aQ)) (a_ (dT (d2 (dN (ai (d2 (aa 0) (dC (.int 0)) aQ) af) cq) (dC (.int 0)) (oI fun i j => .bl (decide (j < i))))) (aC 3 (d2 (d2 (d2 (aa 0) (dC (.int 0)) aQ) (d2 (d2 (d2 (aa 2) (dC (.int 5)) eI) (dC (.int 3)) c9) (dN (ai (d2 (aa 0) (dC (.int 0)) aQ) af) cq) (dy (fun _ j=>0 < j) fun i j => .int (i % j))) aQ) (d2 (d2 (dC (.int 10)) (dC (.int 17)) (dy fU fun i j => .int (i ^ j.toNat))) (aa 2) c9) (dy (fun _ j=>0 < j) fun i j => .int (i % j)))) cR)) (au (pK (d2 (aa 2) (dC (.int 1)) c9) (aa 0) (dC (.int 1))) (pK (ak 2 Ai (ai (aa 3) (ai (aa 2) af))) (aa 0) (dC (.int 2))))))) cR) (au (aC 4 (d2 (d2 (aa 0) (dC (.int 2)) aQ) (aa 1) (dy (fun _ j=>0 < j) fun i j => .int (i % j)))) (au (pK (d2 (d2 (aa 0) (dC (.int 2)) aQ) (aa 1) (dy sh fun i j => .int (i.fdiv j))) (aa 0) (dC (.int 2))) (aF (aa 4)))))
theorem P5:∀ ys ah K',ys.length=2->hJ ys ah K'->Am (bJ ah.length K') ⟨ys.map some ++ List.replicate 3 none,ah.map some⟩:=by
 rintro ys ah K' - ⟨n,m,o,rfl,rfl,P,hn,Gv,VT,fin⟩
 obtain⟨ns,k,z,rfl,h1,h2,h3⟩:=P.out
 unfold Am iq
 have last:∀ (k' z':Int) (sl:List (Option DV)),0 <= k'->k' <= n + 1->gP 1 K' (.p (.int (z' % m))) ⟨sl,[some (.lst [.lst (ns.map D.int),.int k',.int (z'.fdiv m)])]⟩:=fun k' z' sl a b =>
  ⟨[iq ns k' (z'.fdiv m)],rfl,rfl,fin _ _ (Xt _ (by omega)) (W8 _ Gv) ⟨ns,k',_,rfl,h1,a,b⟩⟩
 have P6:∀ z,sh z m:=fun z=>⟨by omega,by omega⟩
 have rest:∀ (k' z':Int) (s2 s3 s4:Option DV),0 <= k'->k' <= n + 1->(au (aC 4 (d2 (d2 (aa 0) (dC (.int 2)) aQ) (aa 1) (dy (fun _ j=>0 < j) fun i j => .int (i % j)))) (au (pK (d2 (d2 (aa 0) (dC (.int 2)) aQ) (aa 1) (dy sh fun i j => .int (i.fdiv j))) (aa 0) (dC (.int 2))) (aF (aa 4)))) (bJ 1 K') ⟨[some (.o 0),some (.p (.int m)),s2,s3,s4],[some (.lst [.lst (ns.map D.int),.int k',.int z'])]⟩:=fun k' z' s2 s3 s4 a b=>by
  simp? only [at2,Gu]
  exact⟨Gv,P6 _,last _ _ _ a b⟩
 refine aR fun N hN => ?_
 refine ip fun A B hA hB => ?_
 simp? only [at2]
 split
 ·subst hA
  refine aR fun N2 dY => ?_
  simp? only [eK]
  subst dY
  refine aR fun N2 dY => ?_
  simp? only []
  subst dY
  refine aR fun N2 dY => ?_
  have go:∀ (c:Int) (s4:Option DV),N2 ⟨[some (.o 0),some (.p (.int m)),some (.p (.int k)),some (.p (.int c)),s4],[some (.lst [.lst (ns.map D.int),.int k,.int z])]⟩:=fun c s4=>by
   subst dY
   simp? only [PY]
   refine⟨c,k,rfl,rfl,h2,by omega,fun z' => ?_⟩
   simp? only [Gu]
   subst hN
   exact rest _ _ _ _ _ (by omega) (by omega)
  refine ip fun A B hA hB => ?_
  simp? only [dX]
  split
  ·rename_i bX
   obtain⟨c,ec⟩:=Gs h2 (XC bX)
   subst hA
   simp? only [dX]
   rw[ec]
   exact go _ _
  ·subst hB
   refine ip fun A B hA hB => ?_
   simp? only [dX]
   split
   ·rename_i ma
    have ma:=XC ma
    obtain⟨c,ec⟩:=Gs (ns:=ns) (k:=(k * 5 + 3) % (ns.length:Int)) (Xt _ (by omega)) (W8 _ ma)
    subst hA
    simp? only [dX]
    refine⟨.inr ⟨by decide,by decide⟩,ma,?_⟩
    rw[ec]
    exact⟨⟨by decide,by decide,by decide⟩,by show (0:Int) < 10 ^ 17 + k;omega,go _ _⟩
   ·subst hB
    exact go _ _
 ·subst hB hN
  exact rest _ _ _ _ _ (by omega) (by omega)
noncomputable def cj (p:Int × Int):D := .tup [.int p.1,.int p.2]
structure c5 (many:Int) (ps:List (Int × Int)):Prop where
 ends:∀ p∈ps,0 <= p.1/\p.1 < p.2/\p.2 < many
 pO:ps.Nodup
 iV:ps.length <= 66
theorem c5.sub {many:Int} {ps qs:List (Int × Int)} (h:c5 many ps) (s:qs.Sublist ps):c5 many qs :=
 ⟨fun p hp=>h.ends p (s.subset hp),h.pO.sublist s,Xg s.length_le h.iV⟩
noncomputable def An:GD:=fun ys ah K=>∃ (n kind many:Int) (o:OV),ys=[.o 0,.p (.int kind),.p (.int many)]/\ah=[o]/\bj n o/\n + 100 < 2 ^ 30/\1 <= many/\many <= 12/\∀ ps o',c5 many ps->bj (n + 67) o'->K (.n (ps.map cj)) [o']
noncomputable def Ao:WS:=(au (aC 3 (qF af)) (au (dw (k6 (ai (aa 2) af)) (bE 4) (jc (pJ (aa 3) (ai (fq (k6 (ai (aa 4) af)) [none,some 4] (bE 0) ft (dr (ai (aa 0) (ai (aa 1) af)))) af)))) (au (a_ (dT (d2 (aa 1) (dC (.int 1)) oEq)) (aF (pb (zE (ai (dC (.int 1)) (ai (aa 2) af))) [none,some 0] (bE 0) ft (dr (ai (ak 2 hJ (ai (aa 1) (ai (aa 0) af))) (ai (aa 0) af))))) cR) (au (a_ (dT (d2 (aa 1) (dC (.int 2)) oEq)) (au (aC 5 (fq (k6 (ai (d2 (aa 2) (dC (.int 1)) (oI fun i j => .int (i - j))) af)) [none] (bE 0) ft (dr (ai (aa 0) (ai (d2 (aa 0) (dC (.int 1)) c9) af))))) (aF (z7 (aa 5) (fq (bO (aa 3)) [none,some 2] (bE 0) (gN (dT (d2 (aa 0) (dr (ai (dC (.int 0)) (ai (d2 (aa 1) (dC (.int 1)) (oI fun i j => .int (i - j))) af))) oEq)) (dT (d2 (aa 1) (dC (.int 2)) (oI fun i j => .bl (decide (j < i)))))) (aa 0))))) cR) (au (a_ (dT (d2 (aa 1) (dC (.int 3)) oEq)) (aF (aa 3)) cR) (au (a_ (dT (d2 (aa 1) (dC (.int 4)) oEq)) (aF (pb (bO (aa 3)) [none,some 0] (bE 0) (dT (d2 (ak 2 hJ (ai (aa 1) (ai (dC (.int 4)) af))) (dC (.int 0)) oEq)) (aa 0))) cR) (au (a_ (dT (d2 (aa 1) (dC (.int 5)) oEq)) (au (aC 6 (ak 2 hJ (ai (aa 0) (ai (d2 (aa 2) (dC (.int 1)) c9) af)))) (aF (pb (bO (aa 3)) [none,some 6,some 0] (bE 0) (gN (dT (d2 (d2 (d2 (aa 0) (dC (.int 0)) aQ) (aa 1) oLt) (d2 (d2 (aa 0) (dC (.int 1)) aQ) (aa 1) oLt) oEq)) (dT (d2 (ak 2 hJ (ai (aa 2) (ai (dC (.int 3)) af))) (dC (.int 0)) (oI fun i j => .bl (decide (j < i)))))) (aa 0)))) cR) (aF (pb (bO (aa 3)) [none,some 0] (bE 0) (dT (d2 (ak 2 hJ (ai (aa 1) (ai (dC (.int 2)) af))) (dC (.int 0)) oEq)) (aa 0))))))))))
theorem sub_snoc {α : Type} {zs ps:List α} {i:Nat} {x : α} (h:zs.Sublist (ps.take i)) (e:ps[i]? = some x):(zs ++ [x]).Sublist (ps.take (i + 1))/\zs.Sublist (ps.take (i + 1)):=by
 have:ps.take (i + 1)=ps.take i ++ [x]:=by rw[XZ,e];rfl
 rw[this]
 exact⟨h.append (List.Sublist.refl _),h.trans (List.sublist_append_left _ _)⟩
theorem P7 {α : Type} {l:List α} {c : α} (h:l.Nodup) (hc:∀ x∈l,x=c):l.length <= 1:=by
 match l,h,hc with
 | [],_,_=>exact W6 _
 | [_],_,_=>exact qx _
 | x :: y :: r,h,hc =>
  have:=(W9.mp h).1 y (yE)
  exact absurd ((hc x yE).trans (hc y (Mp _ yE)).symm) this
theorem Ap {n:Int} {o:OV} {ps:List (Int × Int)} {t:WT} {K:List D->az->Prop} {rest:List (Option DV)} {ev:Option OV} {bu:az->Prop} (hc:∀ sl o',bu ⟨sl,[some o',ev]⟩) (hw:ps.length <= 66) (P:bj n o) (hn:n + 70 < 2 ^ 30)
  (ht:∀ (p:Int × Int) (i:Nat) (o':OV) (Q:Bool->az->Prop),p∈ps->i <= 66->bj (n + i) o'->(∀ b kc,bj (n + i + 1) kc->Q b ⟨some (.p (cj p)) :: rest,[some kc,ev]⟩)->t ⟨some (.p (cj p)) :: rest,[some o',ev]⟩ Q)
  (hr:fm 2 rest rest=rest)
  (fin:∀ (zs:List (Int × Int)) o',zs.Sublist ps->bj (n + ps.length) o'->K (zs.map cj) ⟨none :: rest,[some o',ev]⟩) :
  iO ⟨none :: rest,[some o,ev]⟩ bu (bE 0) t (aa 0) K (ps.map cj) [] ⟨none :: rest,[some o,ev]⟩:=by
 refine z4 (fun i acc δ => ∃ (zs:List (Int × Int)) (o':OV),zs.Sublist (ps.take i)/\acc=zs.map cj/\bj (n + i) o' /\ δ = ⟨none :: rest,[some o',ev]⟩) ⟨[],o,List.Sublist.refl _,rfl,P.mono (by omega),rfl⟩ ?_ ?_
 ·rintro j d acc δ L hj ⟨zs,o',hz,rfl,P',rfl⟩ hL
  rw[D8] at hj
  obtain⟨p,hp,rfl⟩:=VI.mp hj
  have PH:j < ps.length:=(oR.mp hp).1
  refine⟨hc _ _,?_⟩
  show t ⟨some (.p (cj p)) :: rest,[some o',ev]⟩ _
  refine ht p j o' _ (Ws hp) (by omega) P' fun b kc me => ?_
  have hlen:(zs.map cj).length < 1000:=by
   rw[oS]
   have:=hz.length_le
   rw[Wu] at this;omega
  have P3:bj (n + ((j + 1:Nat):Int)) kc:=me.mono (by omega)
  cases b with
  | true =>
   rw[We rfl]
   refine⟨hlen,hL _ _ ⟨zs ++ [p],kc,(sub_snoc hz hp).1,by rw[Wz];rfl,P3,?_⟩⟩
   show (⟨none :: fm 2 rest rest,_⟩:az)=_
   rw[hr];rfl
  | false =>
   rw[VG (by decide)]
   refine hL _ _ ⟨zs,kc,(sub_snoc hz hp).2,rfl,P3,?_⟩
   show (⟨none :: fm 2 rest rest,_⟩:az)=_
   rw[hr];rfl
 ·rintro acc δ ⟨zs,o',hz,rfl,P',rfl⟩
  rw[oS] at P' hz
  rw[WM (qx _)] at hz
  exact⟨hc _ _,fin zs o' hz P'⟩
theorem P8:∀ ys ah K',ys.length=3->An ys ah K'->Ao (bJ ah.length K') ⟨ys.map some ++ List.replicate 4 none,ah.map some⟩:=by
 rintro ys ah K' - ⟨n,kind,many,o,rfl,rfl,P,hn,m1,gJ,fin⟩
 obtain⟨mm,rfl⟩:∃ mm:Nat,many=mm:=⟨many.toNat,by omega⟩
 have Aq:mm <= 12:=by omega
 unfold Ao
 have bM:c5 mm (iK mm):=⟨fun p hp=>zf hp,ED mm,EE mm Aq⟩
 refine aR fun N hN => ?_
 simp? only []
 subst hN
 refine aR fun N hN => ?_
 simp? only []
 refine⟨by omega,?_⟩
 refine k8 (fun i δ => δ = ⟨[some (.o 0),some (.p (.int kind)),some (.p (.int mm)),some (.o 1),none,none,none],[some o,some (.lst ((iK i).map cj))]⟩) rfl ?_ ?_
 ·rintro j d δ L hj rfl hL
  obtain⟨hj,rfl⟩:=j6 hj
  simp? only []
  have e:(0 + (j:Int))=j:=by omega
  rw[e]
  refine⟨by omega,?_⟩
  refine pM (fun d=>match d with
   | .int a=>cj (a,j)
   | _ => .non) (by rw[jJ];omega) trivial ?_ ?_
  ·intro d hd acc L' ha h
   obtain⟨i,hi⟩:=VD.mp hd
   obtain⟨hi,rfl⟩:=j6 hi
   simp? only []
   exact⟨ha,h⟩
  ·have e2:(iK j).map cj ++ (bG 0 (j:Int).toNat).map (fun d=>match d with
    | .int a=>cj (a,j)
    | _ => .non)=(iK (j + 1)).map cj:=by
    show _=(iK j ++ _).map cj
    unfold bG
    rw[Wz,Wo,Wo]
    congr 1
    refine WR fun a _ => ?_
    simp[Function.comp]
   simp? only []
   have VU:=EE j (by omega)
   refine⟨by rw[jJ];omega,?_⟩
   rw[e2]
   exact hL _ rfl
 ·rintro δ rfl
  refine⟨trivial,?_⟩
  subst hN
  have eL:((mm:Int)).toNat=mm:=by omega
  rw[jJ,eL]
  dsimp only
  have back:∀ (ps:List (Int × Int)) (o':OV) (sl:List (Option DV)) (m:List (Option OV)),c5 mm ps->bj (n + 67) o'->gP 1 K' (.o (m.length + 1)) ⟨sl,some o' :: (m ++ [some (.lst (ps.map cj))])⟩:=fun ps o' sl m h1 h2=>by
   refine⟨[o'],rfl,rfl,?_⟩
   show if m.length + 1 < 1 then _ else _
   rw[VG (by omega)]
   have:(some o' :: (m ++ [some (OV.lst (ps.map cj))]))[m.length + 1]? = some (some (.lst (ps.map cj))):=by
    rw[X7,Wg (qx _),W7];rfl
   dsimp only
   rw[this]
   exact .inl (fin ps o' h1 h2)
  refine aR fun N hN => ?_
  simp? only [aA]
  split
  ·refine⟨by omega,?_⟩
   refine z4 (fun i acc δ => ∃ (zs:List (Int × Int)) (o':OV),zs.length=i/\(∀ (q:Nat) (p:Int × Int),zs[q]? = some p->p.2=q + 1/\0 <= p.1/\p.1 < p.2)/\acc=zs.map cj/\bj (n + i) o' /\ δ = ⟨[none,some (.o 0)],[some o',some (.lst ((iK mm).map cj))]⟩) ⟨[],o,rfl,fun q p e=>by simp at e,rfl,P.mono (by omega),rfl⟩ ?_ ?_
   ·rintro j d acc δ L hj ⟨zs,o',hz,hq,rfl,P',rfl⟩ hL
    obtain⟨hj,rfl⟩:=j6 hj
    simp? only []
    refine⟨n + j,1 + j,o',rfl,rfl,P',by omega,by omega,by omega,fun r kc r0 r1 me => ?_⟩
    simp? only []
    refine⟨by omega,hL _ _ ⟨zs ++ [(r,1 + (j:Int))],kc,by rw[D6,hz];rfl,fun q p e => ?_,by rw[Wz];rfl,me.mono (by omega),rfl⟩⟩
    by_cases c:q < zs.length
    ·rw[Wd c] at e
     exact hq q p e
    ·have hl:=(oR.mp e).1
     rw[D6,Wt] at hl
     have:q=zs.length:=by omega
     subst this
     rw[Wg (qx _),W7] at e
     cases (show some (r,1 + (j:Int))=some p by simpa using e)
     exact⟨by show 1 + (j:Int)=_;omega,r0,r1⟩
   ·rintro acc δ ⟨zs,o',hz,hq,rfl,P',rfl⟩
    rw[jJ] at hz P'
    refine⟨trivial,?_⟩
    refine back zs o' _ [_] ⟨fun p hp => ?_,?_,by omega⟩ (P'.mono (by omega))
    ·obtain⟨q,Gw⟩:=VD.mp hp
     have:=hq q p Gw
     have hl:=(oR.mp Gw).1
     omega
    ·refine Yf.mpr fun i j hi hj jj e => ?_
     have q1:=hq i _ (lO hi)
     have q2:=hq j _ (lO hj)
     rw[e] at q1
     omega
  subst hN
  refine aR fun N hN => ?_
  simp? only [aA]
  split
  ·clear hN
   refine⟨by omega,?_⟩
   refine pM (fun d=>match d with
    | .int a=>cj (a,a + 1)
    | _ => .non) (by rw[jJ];omega) trivial ?_ ?_
   ·intro d hd acc L' ha h
    obtain⟨i,hi⟩:=VD.mp hd
    obtain⟨hi,rfl⟩:=j6 hi
    simp? only []
    exact⟨ha,h⟩
   ·simp? only []
    refine j_ (fun d=>aA d (cj (0,mm - 1)) && decide ((2:Int) < mm)) id (by rw[oS];have:=bM.iV;omega) rfl ?_ ?_
    ·intro d hd acc L' ha h h'
     obtain⟨p,hp,rfl⟩:=Mt.mp hd
     simp only[cj] at h h'
     simp? only [cj]
     split
     ·rename_i q1
      split
      ·rename_i q2
       exact⟨ha,h (by rw[q1,q2];rfl)⟩
      ·rename_i q2
       exact h' (by rw[q1,Bool.not_eq_true _ |>.mp q2];rfl)
     ·rename_i q1
      exact h' (by rw[Bool.not_eq_true _ |>.mp q1];rfl)
    ·simp? only []
     have er:(bG 0 ((mm:Int) - 1).toNat).map (fun d=>match d with
       | D.int a=>cj (a,a + 1)
       | x=>D.non)=((List.range (mm - 1)).map fun i:Nat=>((i:Int),(i:Int) + 1)).map cj:=by
      unfold bG
      rw[Wo,Wo]
      have:((mm:Int) - 1).toNat=mm - 1:=by omega
      rw[this]
      refine WR fun a _ => ?_
      simp[Function.comp]
     have ef:(((iK mm).map cj).filter fun d=>aA d (cj (0,mm - 1)) && decide ((2:Int) < mm))=((iK mm).filter fun p=>aA (cj p) (cj (0,mm - 1)) && decide ((2:Int) < mm)).map cj:=by
      rw[XG];rfl
     rw[er,Yv,ef,<-Wz]
     have hf:∀ p∈(iK mm).filter (fun p=>aA (cj p) (cj (0,mm - 1)) && decide ((2:Int) < mm)),p=(0,(mm:Int) - 1)/\(2:Int) < mm:=fun p hp=>by
      have:=(Wm.mp hp).2
      simp[cj,aA,b8] at this
      obtain⟨a,b⟩:=p
      simp at this ⊢
      omega
     have h1:((iK mm).filter (fun p=>aA (cj p) (cj (0,mm - 1)) && decide ((2:Int) < mm))).length <= 1:=P7 (bM.pO.sublist Yr) fun p hp=>(hf p hp).1
     refine⟨by rw[jJ,oS];omega,back _ o _ [_] ⟨fun p hp => ?_,?_,?_⟩ (P.mono (by omega))⟩
     ·rcases WD.mp hp with hp | hp
      ·obtain⟨i,hi,rfl⟩:=Mt.mp hp
       have:=Wl.mp hi
       exact⟨by omega,by omega,by show (i:Int) + 1 < mm;omega⟩
      ·exact bM.ends p (Wm.mp hp).1
     ·refine Xp.mpr ⟨?_,bM.pO.sublist Yr,fun a ha b hb e => ?_⟩
      ·refine Xe.mpr (Zk.imp fun {a b} ne e=>ne ?_)
       have:=congrArg Prod.fst e
       exact Int.ofNat.inj this
      ·subst e
       obtain⟨i,hi,rfl⟩:=Mt.mp ha
       have:=hf _ hb
       have h2:=congrArg Prod.fst this.1
       have h3:=congrArg Prod.snd this.1
       simp at h2 h3
       omega
     ·rw[D6,oS,Xd];omega
  subst hN
  refine aR fun N hN => ?_
  simp? only [aA]
  split
  ·exact⟨[o],rfl,rfl,.inl (fin _ _ bM (P.mono (by omega)))⟩
  subst hN
  refine aR fun N hN => ?_
  simp? only [aA]
  split
  ·refine Ap (fun _ _=>rfl) bM.iV P (by omega) (fun p i o' Q hp hi P' hQ => ?_) rfl fun zs o' hz P' => ?_
   ·simp? only [aA]
    refine⟨n + i,4,o',rfl,rfl,P',by omega,by omega,by omega,fun r kc r0 r1 me => ?_⟩
    simp? only []
    exact hQ _ _ me
   ·exact back zs o' _ [_] (bM.sub hz) (P'.mono (by have:=bM.iV;omega))
  subst hN
  refine aR fun N hN => ?_
  simp? only [aA]
  split
  ·refine⟨n,mm + 1,o,rfl,rfl,P,by omega,by omega,by omega,fun half o1 r0 r1 P1 => ?_⟩
   simp? only []
   refine Ap (n:=n + 1) (fun _ _=>rfl) bM.iV P1 (by omega) (fun p i o' Q hp hi P' hQ => ?_) rfl fun zs o' hz P' => ?_
   ·simp? only [aA,cj,dX,eK]
    split
    ·refine⟨n + 1 + i,3,o',rfl,rfl,P',by omega,by omega,by omega,fun r kc r0 r1 me => ?_⟩
     simp? only []
     exact hQ _ _ me
    ·exact hQ _ _ (P'.mono (by omega))
   ·exact back zs o' _ [_] (bM.sub hz) (P'.mono (by have:=bM.iV;omega))
  subst hN
  simp? only [aA]
  refine Ap (fun _ _=>rfl) bM.iV P (by omega) (fun p i o' Q hp hi P' hQ => ?_) rfl fun zs o' hz P' => ?_
  ·simp? only [aA]
   refine⟨n + i,2,o',rfl,rfl,P',by omega,by omega,by omega,fun r kc r0 r1 me => ?_⟩
   simp? only []
   exact hQ _ _ me
  ·exact back zs o' _ [_] (bM.sub hz) (P'.mono (by have:=bM.iV;omega))
theorem Gx {α : Type}:∀ {l:List α} {j:Nat} (h:j < l.length),List.Perm (l[j] :: l.eraseIdx j) l
 | x :: r,0,h=>q0x _
 | x :: r,j + 1,h=>by
  have hj:j < r.length:=by simpa using h
  show List.Perm (r[j] :: x :: r.eraseIdx j) (x :: r)
  exact (List.Perm.swap x r[j] _).trans ((Gx hj).cons x)
theorem Gy {α β : Type} (f : α -> β):∀ (l:List α) (j:Nat),(l.map f).eraseIdx j=(l.eraseIdx j).map f
 | [],_=>rfl
 | _ :: _,0=>rfl
 | x :: r,j + 1=>by
  show f x :: (r.map f).eraseIdx j=f x :: (r.eraseIdx j).map f
  rw[Gy f r j]
noncomputable def bq (y:Int × Int × Int):D := .tup [.int y.1,.int y.2.1,.int y.2.2]
noncomputable def aH (m:Int) (ys:List (Int × Int × Int)):D := .tup [.int m,.tup (ys.map bq)]
noncomputable def pU (y:Int × Int × Int):Int × Int:=(y.1,y.2.1)
theorem c5.perm {many:Int} {ps qs:List (Int × Int)} (h:c5 many ps) (p:qs.Perm ps):c5 many qs :=
 ⟨fun x hx=>h.ends x (p.mem_iff.mp hx),p.nodup_iff.mpr h.pO,by rw[p.length_eq];exact h.iV⟩
noncomputable def Ar:GD:=fun ys ah K=>∃ (n c_ most:Int) (o:OV),ys=[.o 0,.p (.int c_),.p (.int most)]/\ah=[o]/\bj n o/\n + 400 < 2 ^ 30/\1 <= c_/\c_ <= 12/\0 <= most/\most <= 30 ∧
 ∀ m ws o',bg m ws->m <= c_->(ws.length:Int) <= most->bj (n + 300) o'->K (.p (aH m ws)) [o']
noncomputable def As:WS:=(au (aC 3 (ak 2 hJ (ai (aa 0) (ai (dC (.int 8)) af)))) (au (aC 4 (ak 2 hJ (ai (aa 0) (ai (dC (.int 4)) af)))) (au (aC 5 (d2 (dC (.int 1)) (ak 2 hJ (ai (aa 0) (ai (aa 1) af))) c9)) (au (aC 6 (tF 3 An (ai (aa 0) (ai (aa 3) (ai (aa 5) af))))) (au (aC 7 (qF af)) (au (dw (k6 (ai (dN (ai (aa 2) (ai (dN (ai (aa 6) af) cq) af)) tO) af)) (bE 8) (au (lV (zT (aa 6) (ai (ak 2 hJ (ai (aa 0) (ai (dN (ai (aa 6) af) cq) af))) af)) (kW 2 (gO (bE 9) (gO (bE 10) j3)))) (au (aC 11 (d2 (eF (ai (dC (.int 7)) (ai (ak 2 hJ (ai (aa 0) (ai (dC (.int 3)) af))) (ai (d2 (d2 (dC (.int 10)) (dC (.int 9)) (dy fU fun i j => .int (i ^ j.toNat))) (ak 2 hJ (ai (aa 0) (ai (dC (.int 2)) af))) (oI fun i j => .int (i - j))) (ai (ak 2 hJ (ai (aa 0) (ai (d2 (d2 (dC (.int 10)) (dC (.int 9)) (dy fU fun i j => .int (i ^ j.toNat))) (dC (.int 1)) c9) af))) af))))) (aa 4) aQ)) (jc (j8 (aa 7) (ai (dr (ai (aa 9) (ai (aa 10) (ai (aa 11) af)))) af)))))) (aF (dr (ai (aa 5) (ai (dN (ai (aa 7) af) wj) af))))))))))
theorem P9:∀ ys ah K',ys.length=3->Ar ys ah K'->As (bJ ah.length K') ⟨ys.map some ++ List.replicate 9 none,ah.map some⟩:=by
 rintro ys ah K' - ⟨n,c_,most,o,rfl,rfl,P,hn,h1,Gz,s0,VV,fin⟩
 unfold As
 refine aR fun N hN => ?_
 simp? only []
 refine⟨n,8,o,rfl,rfl,P,by omega,by omega,by omega,fun kind o1 _ _ P1 => ?_⟩
 simp? only []
 subst hN
 refine aR fun N hN => ?_
 simp? only []
 refine⟨n + 1,4,o1,rfl,rfl,P1,by omega,by omega,by omega,fun dI o2 p0 p4 P2 => ?_⟩
 simp? only []
 subst hN
 refine aR fun N hN => ?_
 simp? only []
 refine⟨n + 1 + 1,c_,o2,rfl,rfl,P2,by omega,by omega,by omega,fun mm o3 m0 mh P3 => ?_⟩
 simp? only []
 subst hN
 refine aR fun N hN => ?_
 simp? only []
 refine⟨n + 1 + 1 + 1,kind,1 + mm,o3,rfl,rfl,P3,by omega,by omega,by omega,fun ps o4 GA P4 => ?_⟩
 simp? only []
 subst hN
 refine aR fun N hN => ?_
 simp? only []
 subst hN
 refine aR fun N hN => ?_
 have VW:=GA.iV
 simp? only []
 refine⟨by omega,?_⟩
 have ek:(min most (ps.length:Int)).toNat=min most.toNat ps.length:=by omega
 rw[ek]
 generalize hk:min most.toNat ps.length=k
 refine k8 (fun i δ => ∃ (qs:List (Int × Int)) (ws:List (Int × Int × Int)) (o':OV),qs.length + i=ps.length/\ws.length=i/\c5 (1 + mm) (ws.map pU ++ qs)/\(∀ y∈ws,0 <= y.2.2/\y.2.2 <= 1000000000)/\bj (n + 70 + 4 * i) o' ∧
  δ = ⟨[some (.o 0),some (.p (.int c_)),some (.p (.int most)),some (.p (.int kind)),some (.p (.int dI)),some (.p (.int (1 + mm))),some (.o 1),some (.o 2),none,none,none,none],[some o',some (.lst (qs.map cj)),some (.lst (ws.map bq))]⟩)
  ⟨ps,[],o4,by omega,rfl,GA,fun y hy=>absurd hy W5,P4.mono (by omega),rfl⟩ ?_ ?_
 ·rintro j d δ L hj ⟨qs,ws,o',hq,hw,hp,hy,P',rfl⟩ hL
  obtain⟨hj,rfl⟩:=j6 hj
  have q0:0 < qs.length:=by omega
  have P_:=hp.iV
  rw[D6,oS] at P_
  refine⟨trivial,?_⟩
  simp only[bE,WW,WX]
  refine aR fun N2 dY => ?_
  simp? only []
  refine⟨n + 70 + 4 * j,qs.length,o',rfl,rfl,P',by omega,by omega,by omega,fun r o1 r0 r1 P1 => ?_⟩
  obtain⟨rn,rfl⟩:∃ rn:Nat,r=rn:=⟨r.toNat,by omega⟩
  have hr:rn < qs.length:=by omega
  have ix:seqIndex? (rn:Int) qs.length=some rn:=NL hr
  have eq:(qs.map cj)[rn]? = some (.tup [.int qs[rn].1,.int qs[rn].2]):=by rw[D8,lO hr];rfl
  simp? only [ix,eq]
  refine⟨⟨by omega,by omega⟩,?_⟩
  subst dY
  refine aR fun N2 dY => ?_
  simp only[aC,d2,eF]
  refine wG fun K3 pV => ?_
  simp? only []
  subst pV
  refine wG fun K3 pV => ?_
  simp? only []
  refine⟨n + 70 + 4 * j + 1,3,o1,rfl,rfl,P1,by omega,by omega,by omega,fun a1 o2 VX VY P2 => ?_⟩
  simp? only []
  subst pV
  refine wG fun K3 pV => ?_
  simp? only []
  refine⟨⟨by decide,by decide,by decide⟩,n + 70 + 4 * j + 1 + 1,2,o2,rfl,rfl,P2,by omega,by omega,by omega,fun a2 o3 VZ V0 P3 => ?_⟩
  simp? only []
  subst pV
  refine wG fun K3 pV => ?_
  simp? only []
  refine⟨⟨by decide,by decide,by decide⟩,n + 70 + 4 * j + 1 + 1 + 1,10 ^ Int.toNat 9 + 1,o3,rfl,rfl,P3,by omega,by decide,by decide,fun a3 o4 V6 Qa P4 => ?_⟩
  simp? only []
  subst pV
  simp? only []
  have e9:(10:Int) ^ Int.toNat 9=1000000000:=by decide
  rw[e9] at Qa ⊢
  obtain⟨pr,Qb,Qc,Qd⟩:∃ pr:Int,d_ [D.int 7,D.int a1,D.int (1000000000 - a2),D.int a3] dI=some (.int pr)/\0 <= pr/\pr <= 1000000000:=by
   have:dI=0\/dI=1\/dI=2\/dI=3:=by omega
   rcases this with rfl | rfl | rfl | rfl
   ·exact⟨7,rfl,by omega,by omega⟩
   ·exact⟨a1,rfl,by omega,by omega⟩
   ·exact⟨1000000000 - a2,rfl,by omega,by omega⟩
   ·exact⟨a3,rfl,by omega,by omega⟩
  rw[Qb]
  show N2 _
  subst dY
  simp? only []
  refine⟨by omega,hL _ ⟨qs.eraseIdx rn,ws ++ [(qs[rn].1,qs[rn].2,pr)],o4,?_,?_,?_,?_,P4.mono (by omega),?_⟩⟩
  ·rw[List.length_eraseIdx_of_lt hr];omega
  ·rw[D6,hw];rfl
  ·refine hp.perm ?_
   rw[Wz,Yh]
   refine List.Perm.append_left _ ?_
   exact Gx hr
  ·intro y wH
   rcases WD.mp wH with h | h
   ·exact hy y h
   ·rw[WB.mp h];exact⟨Qc,Qd⟩
  ·rw[Wz,Gy];rfl
 ·rintro δ ⟨qs,ws,o',hq,hw,hp,hy,P',rfl⟩
  refine⟨trivial,?_⟩
  subst hN
  simp? only []
  rw[jJ] at hw P'
  refine⟨[o'],rfl,rfl,?_⟩
  refine fin (1 + mm) ws o' ⟨by omega,by omega,by omega,fun y wH => ?_,?_⟩ (by omega) (by omega) (P'.mono (by omega))
  ·have:=hp.ends (pU y) (WJ _ (Mt.mpr ⟨y,wH,rfl⟩))
   have h2:=hy y wH
   simp only[pU] at this
   omega
  ·exact (Xp.mp hp.pO).1
end LJ
namespace L2
open PySem PySem.Spec PyProof.Rows
variable [aE]
noncomputable def wI:List D->(D->Prop)->Prop
 | [.lst ds],K=>match nD ds with
  | some ps=>(ps.length <= 30/\∀ p∈ps,0 <= p.1/\p.1 < p.2/\p.2 < 12)/\K (.int (fH ps ps.length).length)
  | none=>False
 | _,_=>False
section
variable {X:Cx} {fa:WA}
theorem Qe {a:Expr} {p1 p2 q1 q2:Pos} (hc:X.calm=true) (hu:X.A.units + 64 < cLine) (tP:Gl X "len") (hl:X.mg "len" = none) (tQ:bootBuiltins "len" = some (.builtin "len")) (l6:Gl X "set") (hr:X.mg "set" = none) (l7:bootBuiltins "set" = some (.type "set")) (ha:JA X [a] (bL fa))
  (he:starEach [a] X.env=[(false,eval a X.env)]:=by rfl) (tR:starEach [.Call (.Name "set" p2) [a] [] q2] X.env=[(false,eval (.Call (.Name "set" p2) [a] [] q2) X.env)]:=by rfl):JE X (.Call (.Name "len" p1) [.Call (.Name "set" p2) [a] [] q2] [] q1) (tD (dN fa wI)) :=
 (vC (NG) tP hl tQ (ie (lR (PD hc hu) l6 hr l7 ha (he:=he)) bo) (he:=tR)).weak fun σ H Q h0_ => el7 h0_ fun F ad δ K S q k =>⟨F,ad,δ,_,S,q,fun xs δ1 h1 vs F1 aK H1 E1 S1 V1=>by
  obtain⟨ds,h2,jX⟩:=s_ S1 V1 h1
  unfold wI at h2
  split at h2
  ·split at h2
   ·rename_i es ps e
    obtain⟨v,rfl,a,vs,rfl,g1,g2⟩:=cI jX
    rw[Gm e] at g2
    obtain⟨as,rfl,hl,g⟩:=Gq g2
    refine⟨a,as,ps,rfl,a7.of g1,hl,fun i b k' e1 e2=>S1.sub _ _ (g i b k' e1 e2),h2.1.2,h2.1.1,fun p hp=>⟨p,(fH ps ps.length).length,rfl,bA,by have:=h2.1.1;have:=Ac ps ps.length;omega,?_⟩⟩
    have s1:aB H1 (upd H1 p (jW p (fH ps ps.length).length)):=cX hp
    exact k _ _ h2.2 _ _ _ _ (E1.trans (Ext.al S1 s1)) (S1.al s1) rfl
   ·exact h2.elim
  ·exact h2.elim⟩
end
end L2
namespace LJ
open PySem L2
variable [aE]
noncomputable def GB:D->Bool
 | .int _=>true
 | _=>false
noncomputable def ir:D->Int->Int->Bool
 | .int i,lo,hi=>decide (lo <= i) && decide (i <= hi)
 | _,_,_=>false
noncomputable def mf:D->Int->Bool
 | .tup ds,n=>(ds.length:Int) == n
 | _,_=>false
theorem cK {K:RV->List OV->Prop} {d:D} {sl:List (Option DV)} (h:K (.p d) []):gP 0 K (.p d) ⟨sl,[]⟩:=⟨[],rfl,rfl,h⟩
noncomputable def Au:GD:=fun ys ah K=>∃ d,ys=[.p d]/\ah=[]/\K (.p (.bl (GB d))) []
noncomputable def Av:WS:=(aF (kU (d1 (aa 0) (gR "int")) (zr (d1 (aa 0) (gR "bool")))))
theorem Qf:∀ ys ah K',ys.length=1->Au ys ah K'->Av (bJ ah.length K') ⟨ys.map some ++ List.replicate 0 none,ah.map some⟩:=by
 rintro ys ah K' - ⟨d,rfl,rfl,k⟩
 unfold Av
 simp? only []
 cases d<;>simp only[e_,c7]<;>exact cK k
noncomputable def k_:GD:=fun ys ah K=>∃ d lo hi,ys=[.p d,.p (.int lo),.p (.int hi)]/\ah=[]/\K (.p (.bl (ir d lo hi))) []
noncomputable def Aw:WS:=(aF (kU (ak 1 Au (ai (aa 0) af)) (we (aa 1) (aa 0) (aa 2) (oI fun i j => .bl (decide (i <= j))) (oI fun i j => .bl (decide (i <= j))))))
theorem Qg:∀ ys ah K',ys.length=3->k_ ys ah K'->Aw (bJ ah.length K') ⟨ys.map some ++ List.replicate 0 none,ah.map some⟩:=by
 rintro ys ah K' - ⟨d,lo,hi,rfl,rfl,k⟩
 unfold Aw
 simp? only []
 refine⟨d,rfl,rfl,?_⟩
 cases d<;>simp? only [GB,ir] at k ⊢ <;> first | exact cK k | skip
 rename_i i
 by_cases c:lo <= i
 ·rw[Mr c] at k ⊢
  simp only[Zn] at k
  exact cK k
 ·rw[VF c] at k ⊢
  simp only[q0y] at k
  exact cK k
noncomputable def wJ:GD:=fun ys ah K=>∃ d n,ys=[.p d,.p (.int n)]/\ah=[]/\K (.p (.bl (mf d n))) []
noncomputable def Ax:WS:=(aF (kU (d1 (aa 0) (gR "tuple")) (d2 (dN (ai (aa 0) af) cq) (aa 1) oEq)))
theorem Qh:∀ ys ah K',ys.length=2->wJ ys ah K'->Ax (bJ ah.length K') ⟨ys.map some ++ List.replicate 0 none,ah.map some⟩:=by
 rintro ys ah K' - ⟨d,n,rfl,rfl,k⟩
 unfold Ax
 simp? only []
 cases d<;>simp? only [e_,c7,mf,aA] at k ⊢ <;> exact cK k
noncomputable def GC (m:Int):D->D->Bool
 | .int i,b=>ir b (i + 1) (m - 1)
 | _,_=>false
noncomputable def uh (m:Int) (a b:D):Bool:=ir a 0 (m - 1) && GC m a b
theorem ui {d:D} {lo hi:Int} (h:ir d lo hi=true):∃ i,d = .int i/\lo <= i/\i <= hi:=by
 cases d with
 | int i =>
  have h:(decide (lo <= i) && decide (i <= hi))=true:=h
  rw[WH,Ww,Ww] at h
  exact⟨i,rfl,h⟩
 | _=>cases h
noncomputable def Az:GD:=fun ys ah K=>∃ m a b,ys=[.p (.int m),.p a,.p b]/\ah=[]/\K (.p (.bl (uh m a b))) []
noncomputable def AA:WS:=(aF (kU (ak 3 k_ (ai (aa 1) (ai (dC (.int 0)) (ai (d2 (aa 0) (dC (.int 1)) (oI fun i j => .int (i - j))) af)))) (ak 3 k_ (ai (aa 2) (ai (d2 (aa 1) (dC (.int 1)) c9) (ai (d2 (aa 0) (dC (.int 1)) (oI fun i j => .int (i - j))) af))))))
theorem Qi:∀ ys ah K',ys.length=3->Az ys ah K'->AA (bJ ah.length K') ⟨ys.map some ++ List.replicate 0 none,ah.map some⟩:=by
 rintro ys ah K' - ⟨m,a,b,rfl,rfl,k⟩
 unfold AA
 simp? only []
 refine⟨a,0,m - 1,rfl,rfl,?_⟩
 simp? only []
 unfold uh at k
 cases q:ir a 0 (m - 1)
 ·rw[q] at k
  exact cK k
 ·rw[q] at k
  obtain⟨i,rfl,_,_⟩:=ui q
  simp? only [Zn,GC] at k ⊢
  refine⟨b,i + 1,m - 1,rfl,rfl,?_⟩
  simp? only []
  exact cK k
noncomputable def b_ (m:Int):D->Bool
 | .tup [a,b,p]=>uh m a b && ir p 0 1000000000
 | _=>false
noncomputable def AB:GD:=fun ys ah K=>∃ m d,ys=[.p (.int m),.p d]/\ah=[]/\K (.p (.bl (b_ m d))) []
noncomputable def AD:WS:=(au (a_ (cQ (dT (ak 2 wJ (ai (aa 1) (ai (dC (.int 3)) af))))) (aF (dC (.bl false))) cR) (aF (kU (ak 3 Az (ai (aa 0) (ai (d2 (aa 1) (dC (.int 0)) aQ) (ai (d2 (aa 1) (dC (.int 1)) aQ) af)))) (ak 3 k_ (ai (d2 (aa 1) (dC (.int 2)) aQ) (ai (dC (.int 0)) (ai (dC (.int 1000000000)) af)))))))
theorem Qj {m:Int} {d:D} (h:mf d 3=false):b_ m d=false:=by
 unfold b_
 split
 ·exact absurd h (by simp[mf])
 ·rfl
theorem AE {d:D} (h:mf d 3=true):∃ a b c,d = .tup [a,b,c]:=by
 cases d with
 | tup ds =>
  have h:((ds.length:Int) == 3)=true:=h
  have h:=XD h
  match ds,h with
  | [a,b,c],_=>exact⟨a,b,c,rfl⟩
  | [],h=>simp at h
  | [_],h=>simp at h
  | [_,_],h=>simp at h
  | _ :: _ :: _ :: _ :: r,h=>simp at h;omega
 | _=>cases h
theorem AF {d:D} (h:mf d 2=true):∃ a b,d = .tup [a,b]:=by
 cases d with
 | tup ds =>
  have h:((ds.length:Int) == 2)=true:=h
  have h:=XD h
  match ds,h with
  | [a,b],_=>exact⟨a,b,rfl⟩
  | [],h=>simp at h
  | [_],h=>simp at h
  | _ :: _ :: _ :: r,h=>simp at h;omega
 | _=>cases h
theorem Qk:∀ ys ah K',ys.length=2->AB ys ah K'->AD (bJ ah.length K') ⟨ys.map some ++ List.replicate 0 none,ah.map some⟩:=by
 rintro ys ah K' - ⟨m,d,rfl,rfl,k⟩
 unfold AD
 refine aR fun N hN => ?_
 simp? only []
 refine⟨d,3,rfl,rfl,?_⟩
 simp? only []
 cases q:mf d 3
 ·rw[Qj q] at k
  simp only[q0A,Yy]
  exact cK k
 ·simp only[Yl,Wn,Xr]
  subst hN
  obtain⟨a,b,c,rfl⟩:=AE q
  simp? only [dX,eK,at2]
  refine⟨m,a,b,rfl,rfl,?_⟩
  simp? only [b_] at k ⊢
  cases q2:uh m a b
  ·rw[q2] at k
   exact cK k
  ·rw[q2] at k
   refine⟨c,0,1000000000,rfl,rfl,?_⟩
   simp? only [Zn] at k ⊢
   exact cK k
noncomputable def pairOf:D->Int × Int
 | .tup [.int i,.int j,_]=>(i,j)
 | _=>(0,0)
theorem GG {m:Int} {d:D} (h:b_ m d=true):∃ i j p,d = .tup [.int i,.int j,.int p]/\0 <= i/\i < j/\j < m/\0 <= p/\p <= 1000000000:=by
 unfold b_ at h
 split at h
 ·rename_i a b p
  rw[WH] at h
  obtain⟨h1,h2⟩:=h
  unfold uh at h1
  rw[WH] at h1
  obtain⟨i,rfl,i0,i1⟩:=ui h1.1
  have h3:ir b (i + 1) (m - 1)=true:=h1.2
  obtain⟨j,rfl,j0,j1⟩:=ui h3
  obtain⟨p',rfl,p0,p1⟩:=ui h2
  exact⟨i,j,p',rfl,i0,by omega,by omega,p0,p1⟩
 ·cases h
noncomputable def pW (m:Int):D->Bool
 | .tup ws=>decide (ws.length <= 30) && (ws.all (b_ m) && decide ((ws.map pairOf).Nodup))
 | _=>false
noncomputable def AG:GD:=fun ys ah K=>∃ m d,ys=[.p (.int m),.p d]/\ah=[]/\m <= 12/\K (.p (.bl (pW m d))) []
noncomputable def AH:WS:=(au (a_ (mY (cQ (dT (d1 (aa 1) (gR "tuple")))) (dT (d2 (dN (ai (aa 1) af) cq) (dC (.int 30)) (oI fun i j => .bl (decide (j < i)))))) (aF (dC (.bl false))) cR) (au (a_ (cQ (dT (dN (ai (fq (bO (aa 1)) [none,some 0] (bE 0) ft (ak 2 AB (ai (aa 1) (ai (aa 0) af)))) af) l5))) (aF (dC (.bl false))) cR) (aF (d2 (dN (ai (fq (bO (aa 1)) [none] (bE 0) ft (jm (aa 0) ji (qV (dC (.int 2))))) af) wI) (dN (ai (aa 1) af) cq) oEq))))
theorem Ql:∀ ys ah K',ys.length=2->AG ys ah K'->AH (bJ ah.length K') ⟨ys.map some ++ List.replicate 0 none,ah.map some⟩:=by
 rintro ys ah K' - ⟨m,d,rfl,rfl,hm,k⟩
 unfold AH
 refine aR fun N hN => ?_
 by_cases ht:∃ ws,d = .tup ws
 ·obtain⟨ws,rfl⟩:=ht
  simp? only [e_,show c7 "tuple" "tuple" = true from rfl]
  by_cases GH:(30:Int) < ws.length
  ·rw[We (Mr GH)]
   have:pW m (.tup ws)=false:=by
    show (decide (ws.length <= 30) && _)=false
    rw[VF (by omega)];rfl
   rw[this] at k
   exact cK k
  ·rw[VG (by rw[VF GH];decide)]
   subst hN
   have uj:ws.length <= 30:=by omega
   refine aR fun N hN => ?_
   simp? only []
   refine pM (fun d => .bl (b_ m d)) (by omega) trivial ?_ ?_
   ·intro d hd acc L ha h
    simp? only []
    refine⟨m,d,rfl,rfl,?_⟩
    simp? only []
    exact⟨ha,h⟩
   ·have e:pF (ws.map fun d=>D.bl (b_ m d))=some (ws.map (b_ m)):=by
     have:=Fs (ws.map (b_ m))
     rw[Wo] at this
     exact this
    simp? only [e]
    have ea:(ws.map (b_ m)).all id=ws.all (b_ m):=by rw[List.all_map];rfl
    rw[ea]
    cases q:ws.all (b_ m)
    ·have:pW m (.tup ws)=false:=by
      show (decide (ws.length <= 30) && (ws.all (b_ m) && _))=false
      rw[q];simp
     rw[this] at k
     exact cK k
    ·simp only[Yl,Wn,Xr]
     subst hN
     have hw:∀ w∈ws,b_ m w=true:=WV.mp q
     simp? only []
     refine pM (fun d => .tup [.int (pairOf d).1,.int (pairOf d).2]) (by omega) trivial ?_ ?_
     ·intro d hd acc L ha h
      obtain⟨i,j,p,rfl,_⟩:=GG (hw d hd)
      have ec:cutD [D.int i,D.int j,D.int p] none (some 2)=[D.int i,D.int j]:=by
       unfold cutD;rfl
      simp? only [ec]
      exact⟨ha,h⟩
     ·have ep:nD (ws.map fun d=>D.tup [.int (pairOf d).1,.int (pairOf d).2])=some (ws.map pairOf):=by
       have:=Gn (ws.map pairOf)
       rw[Wo] at this
       exact this
      have kk:pW m (.tup ws)=decide ((ws.map pairOf).Nodup):=by
       show (decide (ws.length <= 30) && (ws.all (b_ m) && _))=_
       rw[q,Mr uj];rfl
      rw[kk] at k
      simp? only [wI,ep,aA]
      refine⟨⟨uj,fun p hp => ?_⟩,cK ?_⟩
      ·obtain⟨w,Qm,rfl⟩:=Mt.mp hp
       obtain⟨i,j,p,rfl,a1,a2,a3,_⟩:=GG (hw w Qm)
       exact⟨a1,a2,by show j < 12;omega⟩
      ·have:(((fH (ws.map pairOf) ws.length).length:Int) == (ws.length:Int))=decide ((ws.map pairOf).Nodup):=by
        by_cases c:(ws.map pairOf).Nodup
        ·have e2:=Gp c (ws.map pairOf).length (qx _)
         rw[oS] at e2
         rw[Mr c,e2,Wu,oS,Nat.min_self]
         simp
        ·rw[VF c]
         refine beq_false_of_ne fun z=>c (PB ?_)
         rw[oS];omega
       rw[this];exact k
 ·have:pW m d=false:=by
   cases d with
   | tup ws=>exact absurd ⟨ws,rfl⟩ ht
   | _=>rfl
  rw[this] at k
  cases d with
  | tup ws=>exact absurd ⟨ws,rfl⟩ ht
  | _=>simp? only [e_];exact cK k
noncomputable def ke:D->Bool
 | .tup [m,ws]=>ir m 1 12 && (match m with
  | .int i=>pW i ws
  | _=>false)
 | _=>false
noncomputable def AI:GD:=fun ys ah K=>∃ d,ys=[.p d]/\ah=[]/\K (.p (.bl (ke d))) []
noncomputable def AJ:WS:=(au (a_ (cQ (dT (ak 2 wJ (ai (aa 0) (ai (dC (.int 2)) af))))) (aF (dC (.bl false))) cR) (aF (kU (ak 3 k_ (ai (d2 (aa 0) (dC (.int 0)) aQ) (ai (dC (.int 1)) (ai (dC (.int 12)) af)))) (ak 2 AG (ai (d2 (aa 0) (dC (.int 0)) aQ) (ai (d2 (aa 0) (dC (.int 1)) aQ) af))))))
theorem Qn:∀ ys ah K',ys.length=1->AI ys ah K'->AJ (bJ ah.length K') ⟨ys.map some ++ List.replicate 0 none,ah.map some⟩:=by
 rintro ys ah K' - ⟨d,rfl,rfl,k⟩
 unfold AJ
 refine aR fun N hN => ?_
 simp? only []
 refine⟨d,2,rfl,rfl,?_⟩
 simp? only []
 cases q:mf d 2
 ·have:ke d=false:=by
   unfold ke
   split
   ·exact absurd q (by simp[mf])
   ·rfl
  rw[this] at k
  simp only[q0A,Yy]
  exact cK k
 ·simp only[Yl,Wn,Xr]
  subst hN
  obtain⟨a,b,rfl⟩:=AF q
  simp? only [dX,eK]
  refine⟨a,1,12,rfl,rfl,?_⟩
  simp? only [ke] at k ⊢
  cases q2:ir a 1 12
  ·rw[q2] at k
   exact cK k
  ·rw[q2] at k
   obtain⟨i,rfl,_,hi⟩:=ui q2
   refine⟨i,b,rfl,rfl,hi,?_⟩
   simp? only [Zn] at k ⊢
   exact cK k
noncomputable def bp (ns:List Int):D := .lst (ns.map D.int)
noncomputable def gv (fs:List Int) (i j:Nat):List Int:=fs.map fun x=>if x=max (fs.getD i 0) (fs.getD j 0) then min (fs.getD i 0) (fs.getD j 0) else x
theorem rq (fs:List Int) (i j:Nat):(gv fs i j).length=fs.length:=by unfold gv;rw[oS]
theorem pX {ns:List Int} {i:Nat} (h:i < ns.length):d_ (ns.map D.int) (i:Int)=some (.int (ns.getD i 0)):=by
 refine mU ?_
 rw[D8,lO h,vo,lO h];rfl
theorem bB {K:RV->List OV->Prop} {d:D} {sl:List (Option DV)} {mu:List (Option OV)} (h:K (.p d) []):gP 0 K (.p d) ⟨sl,mu⟩:=⟨[],rfl,rfl,h⟩
noncomputable def um:GD:=fun ys ah K=>∃ (fs:List Int) (i j:Nat),ys=[.p (bp fs),.p (.int i),.p (.int j)]/\ah=[]/\i < fs.length/\j < fs.length/\fs.length <= 12/\K (.p (bp (gv fs i j))) []
noncomputable def AK:WS:=(au (aC 3 (dN (ai (d2 (aa 0) (aa 1) aQ) (ai (d2 (aa 0) (aa 2) aQ) af)) wk)) (au (aC 4 (dN (ai (d2 (aa 0) (aa 1) aQ) (ai (d2 (aa 0) (aa 2) aQ) af)) tO)) (aF (fq (bO (aa 0)) [none,some 4,some 3] (bE 0) ft (zq (dT (d2 (aa 0) (aa 2) oEq)) (aa 1) (aa 0))))))
theorem Qo:∀ ys ah K',ys.length=3->um ys ah K'->AK (bJ ah.length K') ⟨ys.map some ++ List.replicate 2 none,ah.map some⟩:=by
 rintro ys ah K' - ⟨fs,i,j,rfl,rfl,hi,hj,Gz,k⟩
 have a1:=pX hi
 have a2:=pX hj
 unfold AK bp
 refine aR fun N hN => ?_
 simp? only [a1,a2]
 subst hN
 refine aR fun N hN => ?_
 simp? only [a1,a2]
 subst hN
 simp? only []
 refine pM (fun d=>match d with
  | .int x => .int (if x=max (fs.getD i 0) (fs.getD j 0) then min (fs.getD i 0) (fs.getD j 0) else x)
  | _ => .non) (by rw[oS];omega) trivial ?_ ?_
 ·intro d hd acc L ha h
  obtain⟨x,_,rfl⟩:=Mt.mp hd
  simp? only []
  cases q:aA (.int x) (.int (max (fs.getD i 0) (fs.getD j 0)))
  ·have:¬ x=max (fs.getD i 0) (fs.getD j 0):=fun z=>by rw[z,jf] at q;cases q
   simp only[this,Xr] at h
   exact⟨ha,h⟩
  ·have:x=max (fs.getD i 0) (fs.getD j 0):=by simp only[aA] at q;exact XD q
   simp only[this,Yy] at h
   exact⟨ha,h⟩
 ·refine bB ?_
  have e:(fs.map D.int).map (fun d=>match d with
   | .int x=>D.int (if x=max (fs.getD i 0) (fs.getD j 0) then min (fs.getD i 0) (fs.getD j 0) else x)
   | _ => .non)=(gv fs i j).map D.int:=by
   unfold gv
   rw[Wo,Wo];rfl
  rw[e]
  exact k
noncomputable def bV (ws:List (Int × Int × Int)) (n:Int):Nat × Nat:=((ws.getD n.toNat (0,0,0)).1.toNat,(ws.getD n.toNat (0,0,0)).2.1.toNat)
noncomputable def iQ (ws:List (Int × Int × Int)) (fs:List Int) (ns:List Int):List Int:=ns.foldl (fun fs n=>gv fs (bV ws n).1 (bV ws n).2) fs
theorem AL (ws:List (Int × Int × Int)):∀ (ns:List Int) (fs:List Int),(iQ ws fs ns).length=fs.length
 | [],fs=>rfl
 | n :: r,fs=>by
  show (iQ ws (gv fs _ _) r).length=_
  rw[AL ws r,rq]
noncomputable def f_ (m:Int) (ws:List (Int × Int × Int)) (ns:List Int):List Int:=iQ ws (aL m.toNat) ns
noncomputable def Nums (ws:List (Int × Int × Int)) (ns:List Int):Prop:=∀ n∈ns,0 <= n/\n < (ws.length:Int)
theorem kg {m:Int} {ws:List (Int × Int × Int)} (W:bg m ws) {n:Int} (h0:0 <= n) (h1:n < (ws.length:Int)):∃ y,ws.getD n.toNat (0,0,0)=y/\y∈ws/\d_ (ws.map bq) n=some (bq y)/\∃ i j:Nat,y.1=i/\y.2.1=j/\i < m.toNat/\j < m.toNat/\i < j:=by
 obtain⟨k,rfl⟩:∃ k:Nat,n=k:=⟨n.toNat,by omega⟩
 have hk:k < ws.length:=by omega
 refine⟨ws[k],?_,Xl hk,mU ?_,?_⟩
 ·rw[Wj,vo,lO hk];rfl
 ·rw[D8,lO hk];rfl
 ·obtain⟨a,b,c,_,_⟩:=W.ends _ (Xl hk)
  exact⟨ws[k].1.toNat,ws[k].2.1.toNat,by omega,by omega,by omega,by omega,by omega⟩
noncomputable def rz:GD:=fun ys ah K=>∃ (m:Int) (ws:List (Int × Int × Int)) (ns:List Int),bg m ws/\Nums ws ns/\((ys=[.p (aH m ws),.p (bp ns)]/\ah=[]/\K (.p (bp (f_ m ws ns))) [])\/(ys=[.p (aH m ws),.o 0]/\ah=[.lst (ns.map D.int)]/\K (.p (bp (f_ m ws ns))) [.lst (ns.map D.int)]))
noncomputable def wK:WS:=(au (aC 2 (zR (ai (d2 (aa 0) (dC (.int 0)) aQ) af))) (au (dw (bO (aa 1)) (bE 3) (au (aC 4 (d2 (d2 (aa 0) (dC (.int 1)) aQ) (aa 3) aQ)) (aC 2 (ak 3 um (ai (aa 2) (ai (d2 (aa 4) (dC (.int 0)) aQ) (ai (d2 (aa 4) (dC (.int 1)) aQ) af))))))) (aF (aa 2))))
theorem Qp:∀ ys ah K',ys.length=2->rz ys ah K'->wK (bJ ah.length K') ⟨ys.map some ++ List.replicate 3 none,ah.map some⟩:=by
 rintro ys ah K' - ⟨m,ws,ns,W,hn,h⟩
 have m1:=W.m1
 have gJ:=W.gJ
 have il:(aL m.toNat).length=m.toNat:=by unfold aL;simp
 have core:∀ (x:DV) (mu:List (Option OV)) (bu:az->Prop) (K:KS),(∀ sl,bu ⟨sl,mu⟩)->(∀ fs,fs=f_ m ws ns->K.nx ⟨[some (.p (aH m ws)),some x,some (.p (bp fs)),none,none],mu⟩)->(∀ k,x = .o k->k < mu.length) →
   j4 ⟨[some (.p (aH m ws)),some x,some (.p (bp (aL m.toNat))),none,none],mu⟩ bu (bE 3) (au (aC 4 (d2 (d2 (aa 0) (dC (.int 1)) aQ) (aa 3) aQ)) (aC 2 (ak 3 um (ai (aa 2) (ai (d2 (aa 4) (dC (.int 0)) aQ) (ai (d2 (aa 4) (dC (.int 1)) aQ) af)))))) K (ns.map D.int) ⟨[some (.p (aH m ws)),some x,some (.p (bp (aL m.toNat))),none,none],mu⟩:=by
  intro x mu bu K hc hK hx
  refine k8 (fun i δ => δ = ⟨[some (.p (aH m ws)),some x,some (.p (bp (iQ ws (aL m.toNat) (ns.take i)))),none,none],mu⟩) rfl ?_ ?_
  ·rintro j d δ L hj rfl hL
   rw[D8] at hj
   obtain⟨n,pY,rfl⟩:=VI.mp hj
   obtain⟨n0,n1⟩:=hn n (Ws pY)
   obtain⟨y,ey,hy,ea,i,k,e1,e2,h1,h2,_⟩:=kg W n0 n1
   refine⟨hc _,?_⟩
   simp only[bE,WW,WX]
   refine aR fun N hN => ?_
   simp? only [eK,aH,ea]
   subst hN
   simp? only [dX,eK,bq]
   have hlen:(iQ ws (aL m.toNat) (ns.take j)).length=m.toNat:=by rw[AL,il]
   refine⟨iQ ws (aL m.toNat) (ns.take j),i,k,by rw[e1,e2],rfl,by omega,by omega,by omega,?_⟩
   have ej:gv (iQ ws (aL m.toNat) (ns.take j)) i k=iQ ws (aL m.toNat) (ns.take (j + 1)):=by
    have:ns.take (j + 1)=ns.take j ++ [n]:=by rw[XZ,pY];rfl
    rw[this]
    unfold iQ
    rw[ZO]
    show _=gv _ (bV ws n).1 (bV ws n).2
    have:bV ws n=(i,k):=by
     unfold bV
     rw[ey,e1,e2,Wj,Wj]
    rw[this]
   rw[ej]
   have eq:(az.trim ⟨[some (.p (aH m ws)),some x,some (.p (bp (aL m.toNat))),none,none],mu⟩ ⟨[some (.p (aH m ws)),some x,some (.p (bp (iQ ws (aL m.toNat) (ns.take (j + 1))))),some (.p (.int n)),some (.p (bq y))],mu⟩)=⟨[some (.p (aH m ws)),some x,some (.p (bp (iQ ws (aL m.toNat) (ns.take (j + 1))))),none,none],mu⟩:=by
    unfold az.trim
    rw[Z2]
    cases x with
    | p d=>rfl
    | o q =>
     have:=hx q rfl
     simp only[fm,vR,this,Yy]
   have:=hL _ rfl
   rw[<-eq] at this
   exact this
  ·rintro δ rfl
   rw[oS,WM (qx _)]
   exact⟨hc _,hK _ rfl⟩
 have rg:bG 0 m.toNat=(aL m.toNat).map D.int:=pG m.toNat
 rcases h with⟨rfl,rfl,k⟩ | ⟨rfl,rfl,k⟩
 ·unfold wK
  refine aR fun N hN => ?_
  simp? only [dX,aH]
  refine⟨⟨by omega,by omega⟩,?_⟩
  subst hN
  rw[rg]
  refine aR fun N hN=>pT fun g' b' K2 hg hb' hK => ?_
  simp? only [bp]
  subst hg hb' hK
  refine core (.p (bp ns)) [] _ _ (fun _=>trivial) (fun fs e => ?_) (fun k z=>by cases z)
  subst e
  show N _
  subst hN
  simp? only []
  exact bB k
 ·unfold wK
  refine aR fun N hN => ?_
  simp? only [dX,aH]
  refine⟨⟨by omega,by omega⟩,?_⟩
  subst hN
  rw[rg]
  refine aR fun N hN=>pT fun g' b' K2 hg hb' hK => ?_
  simp? only []
  subst hg hb' hK
  refine core (.o 0) [some (.lst (ns.map D.int))] _ _ (fun _=>rfl) (fun fs e => ?_) (fun k z=>by cases z;exact Nat.zero_lt_one)
  subst e
  show N _
  subst hN
  simp? only []
  exact⟨[.lst (ns.map D.int)],rfl,rfl,k⟩
noncomputable def AM:GD:=fun ys ah K=>∃ (m:Int) (ws:List (Int × Int × Int)),bg m ws/\ys=[.p (aH m ws)]/\ah=[]/\K (.n ((aL ws.length).map D.int)) []
noncomputable def AN:WS:=(aF (z6 (ai (dN (ai (d2 (aa 0) (dC (.int 1)) aQ) af) cq) af)))
theorem Qq:∀ ys ah K',ys.length=1->AM ys ah K'->AN (bJ ah.length K') ⟨ys.map some ++ List.replicate 0 none,ah.map some⟩:=by
 rintro ys ah K' - ⟨m,ws,W,rfl,rfl,k⟩
 have:=W.gK
 unfold AN
 simp? only [eK,aH]
 refine⟨⟨by omega,by omega⟩,[],rfl,rfl,.inl ?_⟩
 rw[Wj,pG]
 exact k
noncomputable def uo (ls:List (List Int)):D := .lst (ls.map bp)
theorem Qr {m:Int} {ws:List (Int × Int × Int)} {ns:List Int}:(f_ m ws ns).length=m.toNat:=by
 unfold f_
 rw[AL];unfold aL;simp
theorem rA {n:Nat} {z:Int} (h:z∈aL n):0 <= z/\z < (n:Int):=by
 unfold aL at h
 obtain⟨i,hi,rfl⟩:=Mt.mp h
 have:=Wl.mp hi
 simp;omega
theorem rB (n:Nat):(aL n).Nodup:=by
 unfold aL
 refine Xe.mpr (Zk.imp fun {a b} ne e=>ne ?_)
 exact Int.ofNat.inj e
theorem la {H:Hp} {a:Addr} {o:HO} (h:H a=none):aB H (upd H a o):=fun b u e=>by rw[aM (cC e h)];exact e
structure wL (H:Hp) (p c:Addr) (at_ z:Int):Prop where
 lst:H p=some (.lst [.ref c,.int at_,.int z])
 cells:∃ ns:List Int,H c=some (.lst (ns.map V.int))/\ns.length <= 63
 pos:0 <= at_
theorem wL.ne {H:Hp} {p c:Addr} {k z:Int} (P:wL H p c k z):c≠p:=by
 obtain⟨ns,h,_⟩:=P.cells
 intro e
 subst e
 rw[P.lst] at h
 have h':=Wx h
 injection h' with qC
 cases ns with
 | nil=>cases qC
 | cons n r=>injection qC with h1 _;cases h1
theorem Qs {ns:List Int} {k:Int} (h0:0 <= k) (h1:k < (ns.length:Int)):∃ n,d_ (ns.map V.int) k=some (.int n):=by
 obtain⟨i,rfl⟩:∃ i:Nat,k=i:=⟨k.toNat,by omega⟩
 have hi:i < ns.length:=by omega
 refine⟨ns[i],mU ?_⟩
 rw[D8,lO hi];rfl
noncomputable def GI (K:PySem.W.Frag):Sp:=fun vs H Q _=>∃ (a:Addr) (ns:List Int),vs=[.ref a]/\a7 K H a (ns.map V.int)/\ns.length <= 63/\∀ (p c:Addr) (H':Hp),aB H H'->H p=none->wL H' p c 0 0->Q (.ref p) H'
noncomputable def wM (K:PySem.W.Frag):Sp:=fun vs H Q _=>∃ (a:Addr) (ns:List Int),vs=[.ref a]/\a7 K H a (ns.map V.int)/\ns.length <= 63/\aE.ok H/\∀ H',Q (.bl true) H'
theorem AO (ns:List Int) (lo hi:Option Int):cF (ns.map V.int) lo hi=((ns.drop (HT.aZ ns.length 0 lo)).take (HT.aZ ns.length ns.length hi - HT.aZ ns.length 0 lo)).map V.int:=by
 unfold cF
 rw[oS,List.map_take,List.map_drop]
theorem Qt {H:Hp} {p c a:Addr} {n:Nat} (hT:aE.ok H) (N:wL H p c 0 0):∃ (F:Hp) (ns:List Int),ns.length <= 63/\SR F [p] ⟨none :: some (.o 0) :: List.replicate n none,[some (.lst [.lst (ns.map D.int),.int 0,.int 0])]⟩ (some (.ref a) :: some (.ref p) :: List.replicate n none) H:=by
 obtain⟨ns,hc,hn⟩:=N.cells
 have ne:=N.ne
 refine⟨upd (fun _=>none) c (.lst (ns.map V.int)),ns,hn,⟨fun b o e => ?_,fun b ⟨k,ov,e1,e2⟩ => ?_,rfl,fun k l a ov ow e1 e2 _ _ => ?_,fun k ov e => ?_,fun i x e => ?_,by simp,hT,fun b hb=>by
  obtain⟨ps,q⟩:=aE.tb hT hb
  rw[aM fun z=>by subst z;rw[hc] at q;cases q]⟩⟩
 ·by_cases z:b=c
  ·subst z;rw[bA] at e;cases e;exact hc
  ·rw[aM z] at e;cases e
 ·cases k with
  | zero=>cases (show some p=some b by simpa using e1);rw[aM (Yi ne)]
  | succ k=>simp at e1
 ·cases k with
  | zero =>
   cases l with
   | zero=>rfl
   | succ l=>simp at e2
  | succ k=>simp at e1
 ·cases k with
  | zero =>
   cases (show OV.lst [.lst (ns.map D.int),.int 0,.int 0]=ov by simpa using e)
   refine⟨p,_,rfl,N.lst,_,rfl,?_⟩
   refine .cons ?_ (.cons rfl (.cons rfl .nil))
   simp only[Is]
   exact⟨c,_,rfl,bA,ni⟩
  | succ k=>simp at e
 ·cases i with
  | zero=>simp at e
  | succ i =>
   cases i with
   | zero =>
    cases (show DV.o 0=x by simpa using e)
    exact⟨_,rfl,p,rfl,rfl⟩
   | succ i =>
    exfalso
    have e:(List.replicate n (none:Option DV))[i]? = some (some x):=by simpa using e
    rw[Y4] at e
    split at e<;>cases e
theorem Qu {B:WS} {F:Hp} {ad:List Addr} {δ : az} {σ : St} {H:Hp} {Q:VK} (S:SR F ad δ σ H) (h:B ⟨fun _=>False,fun x _=>x = .p (.bl true),fun _=>False,fun _=>False⟩ δ) (q:∀ H',Q (.bl true) H'):dH B { nx:=fun _ H'=>Q .non H',rt:=Q } σ H :=
 ⟨F,ad,δ,_,S,h,⟨fun δ' h=>h.elim,fun δ' h=>h.elim,fun δ' h=>h.elim,fun x δ' h v F' aG σ' H' E' S' V=>by
  have h:x = .p (.bl true):=h
  subst h
  have V:v = .bl true:=V
  subst V
  exact q H'⟩⟩
end LJ
namespace L2
open PySem PySem.Spec PyProof.Rows
noncomputable def AQ (Ts:List (Addr × Array Value)) (H:Hp):Prop:=∀ b,(∃ ps,Ts.lookup b=some ps/\H b=some (.tbl ps))\/(Ts.lookup b=none/\(H b=none\/∃ o xs,H b=some (.frz o (.lst xs))))
theorem Qv {P:Program} {w:World} {K:PySem.W.Frag} {mg mb:Str->Option Value} {CX:iX} {k:Nat} {fa a:Addr} {fd:FuncData} {x:Str} {sp:Sp} {s₁ : Shared} {vs:List Value} {ns:List Int} (Ts:List (Addr × Array Value))
  (hT:∀ b ps,Ts.lookup b=some ps->s₁.heap.get? b=some { cls := .none,data := .fields ps }/\isCodeTable s₁.heap b/\K.lookup b=none)
  (KX:K.In s₁.heap) (uq:s₁.heap.Ns mainGlobals mg) (hb:s₁.heap.Ns builtinsNs mb) (Qw:∀ x:Str,x ≠ "__name__" -> mb x=bootBuiltins x) (AR:s₁.heap.NoLimit) (hg:s₁.gens = #[])
  (ha:s₁.heap.get? a=some { cls := .type "list",data := .seq vs.toArray }) (hi:IntsAre vs ns) (hl:ns.length <= sizeLine) (hr:aY k callerA)
  (hB:∃ bm ob,mg "__builtins__" = some (.ref bm)/\bm≠builtinsNs/\s₁.heap.get? bm=some ob/\ob.cls = .type "module" /\ ob.dict=some builtinsNs/\ob.data = .plain)
  (F:∀ base:Heap,K.In base->base.Ns mainGlobals mg->(∀ b ps,Ts.lookup b=some ps->base.BuiltinsAt mg b)->cE P w K mg base CX k fa fd [x] sp) (uu:∀ (s:Shared) (u:Value),BindsTo s fd ⟨[u],[]⟩ [(x,u)])
  (mS:∀ H:Hp,AQ Ts H->a7 K H a (ns.map V.int)->sp [.ref a] H (fun v _=>v = .bl true) fun _ _ _=>False)
  (AS:∀ H e s',CX [] H s₁ (fun _ _ _=>False) e s'->False) :
  codeAny (model P w) callerA (.call (.ref fa) ⟨[.ref a],[]⟩) (fun r s'=>r = .ok (.ret (.bool true))/\OldK s₁.heap s'.heap/\s'.os=s₁.os/\AllBare s'.gens) s₁ := by
 have rv:=D4 hi
 have AU:=hi.length
 have aT:Ts.lookup a=none:=by
  cases q:Ts.lookup a with
  | none=>rfl
  | some ps =>
   have:=(hT a ps q).1
   rw[ha] at this
   have z:=congrArg Obj.cls (Wx this)
   cases (show Value.type "list" = Value.none from z)
 have core:∀ H:Hp,AQ Ts H->a7 K H a (ns.map V.int)->df P w H s₁.heap->(∀ b,Ts.lookup b=none->H b≠none->b=a)->(H a≠none->K.lookup a=none) →
   codeAny (model P w) callerA (.call (.ref fa) ⟨[.ref a],[]⟩) (fun r s'=>r = .ok (.ret (.bool true))/\OldK s₁.heap s'.heap/\s'.os=s₁.os/\AllBare s'.gens) s₁ := by
  intro H hO hS aJ hA hK
  have gb:∀ {b:Addr} {o:Obj},s₁.heap.get? b=some o->H b=none->(eX s₁.heap H).get? b=some o:=fun e n=>Kn e n
  have lH:∀ {b:Addr} {o:Obj} {es:Array DictEntry} {ep:Nat},s₁.heap.get? b=some o->o.data = .dict es ep->H b=none:=fun {b o es ep} e d=>by
   cases q:H b with
   | none=>rfl
   | some u =>
    cases t:Ts.lookup b with
    | some ps =>
     have:=(hT b ps t).1
     rw[e] at this;cases this
     cases d
    | none =>
     have e':b=a:=hA b t (by rw[q];simp)
     subst e'
     rw[ha] at e;cases e
     have d':Data.seq vs.toArray _=Data.dict es ep:=d
     cases d'
  have wN:∀ {b:Addr} {m:Str->Option Value},s₁.heap.Ns b m->(eX s₁.heap H).Ns b m:=fun {b m} ⟨o,es,ep,e,d,r⟩=>⟨o,es,ep,gb e (lH e d),d,r⟩
  have GJ:K.In (eX s₁.heap H):=fun b o e=>gb (KX b o e) (by
   cases q:H b with
   | none=>rfl
   | some u =>
    cases t:Ts.lookup b with
    | some ps=>rw[(hT b ps t).2.2] at e;cases e
    | none =>
     have e':b=a:=hA b t (by rw[q];simp)
     subst e'
     rw[hK (by rw[q];simp)] at e;cases e)
  have Qx:∀ b ps,Ts.lookup b=some ps->(eX s₁.heap H).BuiltinsAt mg b:=fun b ps t=>by
   obtain⟨bm,ob,b1,b2,b3,b4,b5,b6⟩:=hB
   refine⟨bm,ob,b1,b2,fun z => ?_,fun z => ?_,gb b3 ?_,b4,b5,b6⟩
   ·obtain⟨o,es,ep,e1,e2,_⟩:=uq
    rw[z,e1] at b3;cases b3
    rw[e2] at b6;cases b6
   ·have:=(hT b ps t).1
    rw[z,this] at b3;cases b3
    cases b6
   ·cases q:H bm with
    | none=>rfl
    | some u =>
     cases t':Ts.lookup bm with
     | some Qy =>
      have:=(hT bm Qy t').1
      rw[b3] at this;cases this
      cases b6
     | none =>
      have e':bm=a:=hA bm t' (by rw[q];simp)
      rw[e',ha] at b3;cases b3
      cases b6
  have hM:Mod K mg (eX s₁.heap H):=⟨GJ,wN uq,⟨mb,wN hb,Qw⟩,let ⟨mc,h1,h2⟩:=AR; ⟨mc,wN h1,h2⟩⟩
  have e0:lG P w K mg (eX s₁.heap H) callerA [] s₁ H:=⟨rfl,hM,fun b o e=>Ko e,Nat.le_of_eq (Km _ _),trivial,fun b hb=>absurd (show b∈([]:List Addr) from hb) (by simp),aJ,.of_eq hg⟩
  refine Zy ((F _ GJ (wN uq) Qx).run callerA [] s₁ H ⟨[.ref a],[]⟩ [.ref a] [.ref a] _ _ hr e0 (uu s₁ (.ref a)) (.cons rfl .nil) (mS H hO hS)) fun r s' h => ?_
  cases r with
  | error e=>exact (AS H e s' h).elim
  | ok fl =>
   cases fl with
   | next=>exact False.elim h
   | brk=>exact False.elim h
   | cont=>exact False.elim h
   | ret u =>
    obtain⟨v,H',os,bare,un,uv,r',q⟩:=h
    have q':v = .bl true:=q
    subst q'
    obtain rfl:u=Value.bool true:=r'
    have all:∀ b o,s₁.heap.get? b=some o->asItWas s₁.heap s'.heap b o/\∃ o',s'.heap.get? b=some o':=fun b o e=>by
     rcases hO b with⟨ps,t,z⟩ | ⟨t,z | ⟨ob,xs,z⟩⟩
     ·obtain⟨more,z2⟩:=un.eW b ps z
      have e2:s'.heap.get? b=some { cls := .none,data := .fields (ps ++ more) }:=uv b _ z2
      have e1:=(hT b ps t).1
      rw[e] at e1;cases e1
      exact⟨.inr (.inl ⟨(hT b ps t).2.1,rfl,ps,more,rfl,e2⟩),_,e2⟩
     ·have e2:=un.keep b o e z (by intro z;exact absurd (show b∈([]:List Addr) from z) (by simp)) (by simp)
      exact⟨.inl e2,_,e2⟩
     ·have z2:=un.eV b ob _ z
      obtain⟨e1,_⟩:=aJ b _ z
      obtain⟨e2,_⟩:=uv b _ z2
      rw[e] at e1;cases e1
      exact⟨.inl e2,_,e2⟩
    exact⟨rfl,⟨fun b o e=>(all b o e).1,fun b o e=>(all b o e).2⟩,os,bare⟩
 have nE:∀ (H:Hp) b ps,Ts.lookup b=some ps->aI P w H s₁.heap b (.tbl ps):=fun H b ps t=>(hT b ps t).1
 cases hk:K.lookup a with
 | some o =>
  have e:=KX a o hk
  rw[ha] at e
  cases e
  have hv:∀ b,(fun b=>(Ts.lookup b).map HO.tbl:Hp) b=(Ts.lookup b).map HO.tbl:=fun _=>rfl
  refine core (fun b=>(Ts.lookup b).map HO.tbl) (fun b => ?_) (.inr ⟨_,vs.toArray,_,hk,rfl,rfl,rfl,by rw[vp,AU];exact hl,by simpa using rv⟩) (fun b u z => ?_) (fun b t z => ?_) fun z => ?_
  ·cases t:Ts.lookup b with
   | some ps=>exact .inl ⟨ps,rfl,by show (Ts.lookup b).map HO.tbl=_;rw[t];rfl⟩
   | none=>exact .inr ⟨rfl,.inl (by show (Ts.lookup b).map HO.tbl=_;rw[t];rfl)⟩
  ·obtain⟨ps,t,rfl⟩:=VI.mp (show (Ts.lookup b).map HO.tbl=some u from z)
   exact nE _ b ps t
  ·exact absurd (show (Ts.lookup b).map HO.tbl=none by rw[t];rfl) z
  ·exact absurd (show (Ts.lookup a).map HO.tbl=none by rw[aT];rfl) z
 | none =>
  refine core (fun b=>if b=a then some (.frz { cls := .type "list",data := .seq vs.toArray } (.lst (ns.map V.int))) else (Ts.lookup b).map HO.tbl) (fun b => ?_) (.inl (.inr ⟨{ cls := .type "list",data := .seq vs.toArray },We rfl⟩)) (fun b u z => ?_) (fun b t z => ?_) fun _=>hk
  ·by_cases hb:b=a
   ·subst hb
    exact .inr ⟨aT,.inr ⟨_,_,We rfl⟩⟩
   ·cases t:Ts.lookup b with
    | some ps=>exact .inl ⟨ps,rfl,(VG hb).trans (by rw[t];rfl)⟩
    | none=>exact .inr ⟨rfl,.inl ((VG hb).trans (by rw[t];rfl))⟩
  ·by_cases hb:b=a
   ·have z':=(We hb).symm.trans z
    cases z'
    subst hb
    exact⟨ha,by rw[oS];exact hl,vs,_,rv,ha⟩
   ·have z':=(VG hb).symm.trans z
    obtain⟨ps,t,rfl⟩:=VI.mp z'
    exact nE _ b ps t
  ·by_cases hb:b=a
   ·exact hb
   ·exact absurd ((VG hb).trans (by rw[t];rfl)) z
theorem Qz {l:PySem.W.OpenLaw} {n k:Nat} {q:Program} {loose:List Str} {XP:(Str->Option Value)->Heap->Prop} {YP:World->Heap->Prop} {d:DefRec} {K:World->PySem.W.Frag} {CX:World->iX} {sp:World->Sp} {x:Str} {Ts:World->List (Addr × Array Value)}
  (hn:l.most=some n) (QA:n <= sizeLine) (sF:d.params.defaults=[]) (hr:aY k callerA)
  (hY:∀ (w:World) (h:Heap),YP w h->(K w).In h)
  (hT:∀ (w:World) (h:Heap),YP w h->∀ b ps,(Ts w).lookup b=some ps->h.get? b=some { cls := .none,data := .fields ps }/\isCodeTable h b/\(K w).lookup b=none)
  (F:∀ (w:World) (mg:Str->Option Value) (fa:Addr) (h:Heap),(K w).In h->h.Ns mainGlobals mg->mg d.name=some (.ref fa) →
   ∃ fd:FuncData,(∀ (s:Shared) (u:Value),BindsTo s fd ⟨[u],[]⟩ [(x,u)]) ∧
    ∀ base:Heap,(K w).In base->base.Ns mainGlobals mg->(∀ b ps,(Ts w).lookup b=some ps->base.BuiltinsAt mg b)->cE l.prog w (K w) mg base (CX w) k fa fd [x] (sp w))
  (mS:∀ (w:World) (H:Hp) (a:Addr) (ns:List Int),ns.length <= n->AQ (Ts w) H->a7 (K w) H a (ns.map V.int)->sp w [.ref a] H (fun v _=>v = .bl true) fun _ _ _=>False)
  (AS:∀ (w:World) (H:Hp) (s:Shared) (e:Value) (s':Shared),CX w [] H s (fun _ _ _=>False) e s'->False) :
  PySem.W.WalkO q loose XP YP l.row.toRowW d [] (fun f vs=>PySem.call f vs):=by
 refine Att.gC hn sF fun w s₀ s₁ mg mb fa o pm cd doc a vs ns G Y ho hd d7 lN oP hints hlen hg => ?_
 have KX:=hY w _ Y
 obtain⟨fd,hb,hF⟩:=F w mg fa _ KX G.T.g lN
 exact Qv (Ts w) (hT w _ Y) KX G.T.g G.T.b G.T.builtins G.T.nolimit hg oP hints (Xg hlen QA) hr G.T.bmain hF hb (fun H hO hS=>mS w H a ns hlen hO hS) fun H e s'=>AS w H s₁ e s'
section
variable {X:Cx} {pins:List (Addr × Obj)} {σ : St} {H:Hp} {s:Shared} {h':Heap}
theorem Inv.grow {T c f:Addr} {ps more:Array Value} {oc of:HO} {t':Nat} (I:Inv X pins σ H s) (hT:H T=some (.tbl ps)) (k:∀ b u,b≠T->s.heap.get? b=some u->h'.get? b=some u) (wO:h'.get? T=some { cls := .none,data := .fields (ps ++ more) })
  (hc:s.heap.objs.size <= c) (hf:s.heap.objs.size <= f) (AV:c≠f) (QB:∀ H2,aI X.prog X.w H2 h' c oc) (QC:∀ H2,aI X.prog X.w H2 h' f of) :
  Inv X pins σ (upd (upd (upd H T (.tbl (ps ++ more))) c oc) f of) { s with heap:=h',toks:=t' }:=by
 have tl:T < s.heap.objs.size:=(I.aJ T _ hT).lt
 have cT:c≠T:=YN (Wk tl hc)
 have fT:f≠T:=YN (Wk tl hf)
 have V7:H c=none:=I.aJ.fresh hc
 have GK:H f=none:=I.aJ.fresh hf
 have old:∀ b,b < s.heap.objs.size->b≠T->upd (upd (upd H T (.tbl (ps ++ more))) c oc) f of b=H b:=fun b hb nT=>by
  rw[aM (Wi (Wk hb hf)),aM (Wi (Wk hb hc)),aM nT]
 have atT:upd (upd (upd H T (.tbl (ps ++ more))) c oc) f of T=some (.tbl (ps ++ more)):=by
  rw[aM (Yi fT),aM (Yi cT),bA]
 have lt:∀ b u,H b=some u->b < s.heap.objs.size:=fun b u e=>(I.aJ b u e).lt
 have dz:∀ b u,H b=some u->(∀ qs,u ≠ .tbl qs)->upd (upd (upd H T (.tbl (ps ++ more))) c oc) f of b=some u:=fun b u e n=>by
  rw[old b (lt b u e) (fun z=>by subst z;rw[hT] at e;cases e;exact n _ rfl)];exact e
 refine I.un (t':=t') ⟨fun b o e n _ _=>k b o (fun z=>by subst z;rw[hT] at n;cases n) e,fun b o e n _ _=>⟨o.slots,k b o (fun z=>by subst z;rw[hT] at n;cases n) e⟩,fun b o e n _ => ?_,fun b o e _ => ?_,fun b xs e=>dz b _ e (fun _ z=>by cases z),fun b o u e=>dz b _ e (fun _ z=>by cases z),fun b qs e => ?_⟩ fun b u e => ?_
 ·rw[old b (My e) (fun z=>by subst z;rw[hT] at n;cases n)];exact n
 ·by_cases z:b=T
  ·subst z;exact⟨_,wO⟩
  ·exact⟨o,k b o z e⟩
 ·by_cases z:b=T
  ·subst z;rw[hT] at e;cases e;exact⟨more,atT⟩
  ·exact⟨#[],by rw[old b (lt b _ e) z,e];simp⟩
 ·by_cases z1:b=f
  ·subst z1;rw[bA] at e;cases e;exact QC _
  ·rw[aM z1] at e
   by_cases z2:b=c
   ·subst z2;rw[bA] at e;cases e;exact QB _
   ·rw[aM z2] at e
    by_cases z3:b=T
    ·subst z3;rw[bA] at e;cases e;exact wO
    ·rw[aM z3] at e
     refine aI.eU (I.aJ b u e) (fun d v hd q => ?_) (fun d q=>dz d _ q (fun _ z=>by cases z)) (fun d xs q=>dz d _ q (fun _ z=>by cases z))
     ·refine k d v (fun y => ?_) q
      subst y
      rcases hd with y | y
      ·exact z3 y.symm
      ·rw[hT] at y;cases y
noncomputable def kh (c:Addr) (q:Str):HO := .ext fun h=>∃ o vs tq,h.get? c=some o/\o.data = .fields vs/\vs[1]? = some (.str q tq)
theorem QD {P:Program} {w:World} {H:Hp} {h:Heap} {c:Addr} {q:Str} (e:h.CodeRec (.ref c) q):aI P w H h c (kh c q):=by
 obtain⟨c',o,vs,tq,z,ho,hd,hq⟩:=e
 cases z
 exact⟨⟨o,vs,tq,ho,hd,hq⟩,⟨o,ho⟩,fun h1 h2 ⟨o,vs,tq,e1,e2,e3⟩ k=>⟨o,vs,tq,k o e1,e2,e3⟩⟩
theorem QE {P:Program} {w:World} {H:Hp} {h:Heap} {c:Addr} {q:Str} (x:aI P w H h c (kh c q)):h.CodeRec (.ref c) q:=by
 obtain⟨⟨o,vs,tq,ho,hd,hq⟩,_⟩:=x
 exact⟨c,o,vs,tq,rfl,ho,hd,hq⟩
end
end L2
namespace L2
open PySem PySem.Spec PyProof.Rows PySem.W
section
variable {X:Cx} {pins:List (Addr × Obj)} {σ : St} {H:Hp} {s:Shared} {params:Arguments} {body:Expr} {scope:Scope} {pos:Pos} {gU:List (Str × Addr)} {cc T:Addr} {ps:Array Value} {E:Value->Shared->Prop} {Q:Value->Shared->Prop}
noncomputable def gW (f:Addr) (name qual:Str) (params:Arguments) (body:Expr) (scope:Scope) (gU:List (Str × Addr)) (pm cd:Value):HO := .ext fun h=>∃ uw,h.get? f=some { cls := .type "function",data := .func (kla_fn name qual params body scope gU pm cd uw) }
noncomputable def dA (H:Hp) (T:Addr) (pos:Pos) (qual:Str):Prop:=∃ ps,H T=some (.tbl ps)/\TriplesOk ps.toList/\(codeAmong pos ps.toList=none\/∃ c,codeAmong pos ps.toList=some (.ref c)/\H c=some (kh c qual))
theorem GL (I:Inv X pins σ H s) (hT:dA H T pos (X.env.qual ++ "<lambda>")) (AW:defaultsOf params X.env=([],[])) (k9:closureFor scope X.env=pure gU) (fJ:X.env.code = .ref cc) (C:CodeHd s.heap cc T) (QF:mainGlobals≠T) (hg:s.heap.Ns mainGlobals X.mg) (hb:s.heap.BuiltinsAt X.mg T)
  (h:∀ f H' s' c,Inv X pins σ H' s'->dA H' T pos (X.env.qual ++ "<lambda>")->(∀ b o,H b=some o->b≠T->H' b=some o)->H f=none->H' f=some (gW f "<lambda>" (X.env.qual ++ "<lambda>") params body scope gU ((X.mg "__name__").getD .none) (.ref c))->H' c=some (kh c (X.env.qual ++ "<lambda>"))->Q (.ref f) s') :
  wpAny (model X.prog X.w) X.A (eval (.Lambda params body scope pos) X.env) Q E s:=by
 obtain⟨ps,hP,ht,hf⟩:=hT
 have AX:s.heap.get? T=some { cls := .none,data := .fields ps }:=I.aJ T _ hP
 refine kla_eval AW ?_
 rcases hf with GN | ⟨c,hf,wQ⟩
 ·refine kla_makeFunction k9 I.ok.glob hg fJ C AX ht GN QF hb fun c' uw h' tk hx wR bX AY QG => ?_
  have hsz:s.heap.objs.size <= h'.objs.size:=XM (Y0 wR bX)
  have tl:T < s.heap.objs.size:=My AX
  have QH:T≠h'.objs.size:=Wi (Wk tl hsz)
  have QI:T≠c':=Wi (Wk tl wR)
  have AV:c'≠h'.objs.size:=Wi bX
  have GP:(ps ++ #[rawInt pos.line,rawInt pos.col,Value.ref c']).toList=ps.toList ++ [rawInt pos.line,rawInt pos.col,Value.ref c']:=by simp
  have atT:upd (upd (upd H T (.tbl (ps ++ #[rawInt pos.line,rawInt pos.col,.ref c']))) c' (kh c' (X.env.qual ++ "<lambda>"))) h'.objs.size (gW h'.objs.size "<lambda>" (X.env.qual ++ "<lambda>") params body scope gU ((X.mg "__name__").getD .none) (.ref c')) T=some (.tbl (ps ++ #[rawInt pos.line,rawInt pos.col,.ref c'])):=by
   rw[aM QH,aM QI,bA]
  have atC:upd (upd (upd H T (.tbl (ps ++ #[rawInt pos.line,rawInt pos.col,.ref c']))) c' (kh c' (X.env.qual ++ "<lambda>"))) h'.objs.size (gW h'.objs.size "<lambda>" (X.env.qual ++ "<lambda>") params body scope gU ((X.mg "__name__").getD .none) (.ref c')) c'=some (kh c' (X.env.qual ++ "<lambda>")):=by
   rw[aM AV,bA]
  refine h h'.objs.size _ _ c' (I.grow (t':=tk) (oc:=kh c' (X.env.qual ++ "<lambda>")) (of:=gW h'.objs.size "<lambda>" (X.env.qual ++ "<lambda>") params body scope gU ((X.mg "__name__").getD .none) (.ref c')) hP (fun b u nb e=>sC _ (hx b u nb e)) (sC _ QG) wR hsz AV (fun _=>QD (AY.push _)) fun _ => ?_) ⟨_,atT,?_,.inr ⟨c',?_,atC⟩⟩ (fun b o e nb => ?_) (I.aJ.fresh hsz) bA atC
  ·exact⟨⟨uw,VH _ rfl⟩,⟨_,VH _ rfl⟩,fun h1 h2 ⟨v,e⟩ k=>⟨v,k _ e⟩⟩
  ·rw[GP];exact TriplesOk_snoc _ _ _ _ ht
  ·rw[GP];exact codeAmong_snoc _ ht GN
  ·have bl:b < s.heap.objs.size:=(I.aJ b o e).lt
   rw[aM (Wi (Wk bl hsz)),aM (Wi (Wk bl wR)),aM nb];exact e
 ·refine kla_makeFunctionHit k9 I.ok.glob hg fJ C AX ht hf hb fun uw h' tk hk hsz => ?_
  have hn:H h'.objs.size=none:=I.aJ.fresh hsz
  refine h h'.objs.size _ _ c (I.laid (a:=h'.objs.size) (o:=gW h'.objs.size "<lambda>" (X.env.qual ++ "<lambda>") params body scope gU ((X.mg "__name__").getD .none) (.ref c)) (t':=tk) (fun b u e=>sC _ (hk b u e)) hsz ?_) ⟨ps,?_,ht,.inr ⟨c,hf,?_⟩⟩ (fun b o e _ => ?_) hn bA ?_
  ·exact⟨⟨uw,VH _ rfl⟩,⟨_,VH _ rfl⟩,fun h1 h2 ⟨v,e⟩ k=>⟨v,k _ e⟩⟩
  ·rw[aM (cC hP hn)];exact hP
  ·rw[aM (cC wQ hn)];exact wQ
  ·rw[aM (cC e hn)];exact e
  ·rw[aM (cC wQ hn)];exact wQ
end
structure LD where
 A:Around
 cl:List (Str × Addr)
 f:Addr
 cd:Value
 s:Shared
 H:Hp
@[reducible] noncomputable def mi (X:Cx) (qual:Str) (scope:Scope) (Nb:List Str) (d:LD):Cx where
 prog:=X.prog
 w:=X.w
 K:=X.K
 mg:=X.mg
 base:=X.base
 A:=d.A.deeper (envX qual scope d.s.heap.objs.size d.f d.cd d.cl)
 N:=Nb
 s₀ := d.s
 H₀ := d.H
 env:=envX qual scope d.s.heap.objs.size d.f d.cd d.cl
 outer:=X.stack
 stack:=envX qual scope d.s.heap.objs.size d.f d.cd d.cl :: X.stack
 ex:=[]
 fn:=fun _=>false
 calm:=true
 pn:=[]
 xe:=fun _ _=>False
noncomputable def ux (N:List Str) (vt scope:Scope) (x:Str) (Nb:List Str) (cp:List (Option Nat)):Bool :=
 kR N vt scope (x :: Nb) (none :: cp) && (scope.names.all fun y=>decide (y.2 ≠ .cell)) && decide (scope.names.lookup x=some .local) && cp.all (·.isSome)
section
variable {X:Cx} {pins:List (Addr × Obj)} {σ : St} {H:Hp} {s:Shared} {params:Arguments} {body:Expr} {scope:Scope} {cl:List (Str × Addr)} {E:Value->Shared->Prop} {Q:VK} {name qual x:Str} {f c:Addr} {pm:Value} {A:Around} {v:V} {u:Value} {Nb:List Str} {cp:List (Option Nat)} {t:TE}
theorem GQ (I:Inv X pins σ H s) (hf:H f=some (gW f name qual params body scope cl pm (.ref c))) (hc:H c=some (kh c qual)) (hA:A.frames=some X.stack) (hh:A.handled=none) (hd:A.depth < recursionLimit)
  (hk:scope.kind = .function) (ho:ux X.N X.env.scope scope x Nb cp=true) (QJ:scope.isCoroutine=false) (AZ:scope.isGenerator=false)
  (mj:∀ y c,cl.lookup y=some c->X.env.cells.lookup y=some c) (rC:∀ y∈scope.names,y.2 = .free->∃ c,cl.lookup y.1=some c)
  (hb:∀ (ct:Value),bindArgs (kla_fn name qual params body scope cl pm (.ref c) ct) ⟨[u],[]⟩=pure [(x,u)]) (r:RelV v u)
  (J:JE (mi X qual scope (x :: Nb) ⟨A,cl,f,.ref c,s,H⟩) body t) (h:t (some v :: g7 cp σ) H Q):wpAny (model X.prog X.w) A (call (.ref f) [u]) (EP X pins σ Q) E s:=by
 unfold ux at ho
 simp only[WH,WV,Ww] at ho
 obtain⟨⟨⟨ho,GR⟩,hx⟩,cps⟩:=ho
 have S:=q9C hk ho
 obtain⟨⟨ct,QK⟩,_⟩:=I.aJ f _ hf
 have d7:=QE (I.aJ c _ hc)
 refine wpAny_call (kla_callFunE hd QK rfl QJ AZ rfl d7 ?_)
 rw[hb ct]
 refine D5 (wpAny_newFunctionEnv (fun y hy=>GR y hy) (fun y hy=>by rw[WB.mp hy];exact hx) (fun h₁ uq sL => ?_) hk)
 have uy:∀ b o,s.heap.get? b=some o->h₁.get? b=some o:=fun b o e=>sL.extBut b o (Wi (My e)) (sC _ e)
 refine⟨I.nolimit.keeps uy,?_⟩
 have e0:=I.sj
 show codeAny _ _ (.expr body (envX qual scope s.heap.objs.size f (.ref c) cl)) _ _
 have lH:∀ b:Addr,b∉(mi X qual scope (x :: Nb) ⟨A,cl,f,.ref c,s,H⟩).ex:=fun b z=>absurd (show b∈([]:List Addr) from z) (by simp)
 have mem:∀ {y:Str} {k:NameKind},scope.names.lookup y=some k->(y,k)∈scope.names:=fun e=>Xm e
 have I1:Inv (mi X qual scope (x :: Nb) ⟨A,cl,f,.ref c,s,H⟩) [] (some v :: g7 cp σ) H { s with heap:=h₁,toks:=s.toks + [(x,u)].length }:=by
  refine⟨⟨e0.mod,hk,rfl,rfl,qx _,fun y z d h1 h2=>I.ok.inj y z d (mj y d h1) (mj z d h2),fun y hy => ?_,fun y d z _=>(by cases z),fun _=>hh,Around.frames_deeper hA,.inr ⟨rfl,rfl⟩,fun b z=>absurd z (lH b),e0.bs,e0.mN,fun b _ _=>lH b,fun b z=>absurd z (lH b),e0.dR,e0.n5⟩,
   rfl,e0.bare,Un.kept uy,⟨_,uq,fun i y w h1 h2 h3 => ?_⟩,fun y d hy => ?_,e0.aJ.fresh (qx _),fun y d hy=>I.cb y d (mj y d hy),fun p hp=>absurd (show p∈([]:List (Addr × Obj)) from hp) (by simp),e0.aJ.kept uy,?_⟩
  ·have hy:scope.names.lookup y=some .cell\/scope.names.lookup y=some .free:=hy
   rcases hy with hy | hy
   ·exact absurd rfl (GR _ (mem hy))
   ·exact rC _ (mem hy) rfl
  ·cases i with
   | zero =>
    cases (show some x=some y by simpa using h1)
    cases (show v=w by simpa using h2)
    exact⟨u,r,.inl ⟨hx,by simp⟩⟩
   | succ j =>
    have h1:Nb[j]? = some y:=by simpa using h1
    have h2:(g7 cp σ)[j]? = some (some w):=by simpa using h2
    unfold g7 at h2
    rw[D8] at h2
    obtain⟨o,q1,q2⟩:=VI.mp h2
    match o,q2 with
    | none,q2=>cases q2
    | some i',q2 =>
     have q2:(σ[i']?).join=some w:=q2
     obtain⟨n1,n2⟩:=S.sG (j + 1) i' y (by simpa using q1) (by simpa using h1)
     have hs : σ[i']? = some (some w):=by
      cases q : σ[i']? with
      | none=>rw[q] at q2;cases q2
      | some z=>rw[q] at q2;cases (show z=some w from q2);rfl
     have kd:=S.free _ (mem n2) rfl
     obtain⟨m,hn,hl⟩:=I.loc
     obtain⟨u',rv,lk⟩:=hl i' y w n1 hs (by rcases kd with z | z;exact .inr (.inl z);exact .inr (.inr z))
     refine⟨u',rv,?_⟩
     rcases lk with⟨z,_⟩ | ⟨_,d,e1,o,e2,e3⟩
     ·rcases kd with k | k<;>(rw[show X.env.kindOf y=some .local from z] at k;cases k)
     ·obtain⟨d',e4⟩:=rC _ (mem n2) rfl
      have:=mj _ _ e4
      rw[e1] at this;cases this
      exact .inr ⟨.inr n2,d,e4,o,uy _ _ e2,e3⟩
  ·obtain⟨z,o,e2,e3⟩:=I.cell y d (mj y d hy)
   exact⟨z,o,uy _ _ e2,e3⟩
  ·have:=S.len
   show (some v :: g7 cp σ).length=(x :: Nb).length
   unfold g7
   rw[D7,oS]
   simpa using this
 refine kla_codeExpr (XW (J.out [] _ _ H Q I1 h) (fun u' s' hs => ?_) fun e s' hs=>hs.elim)
 obtain⟨w,H',J',rv,q⟩:=hs
 exact I.after ⟨w,H',J'.os,J'.bare,J'.base,J'.aJ,rv,q⟩
end
noncomputable def ki (h:Heap) (k:LK) (v:Value):Prop:=∃ a o xs n,v = .ref a/\h.get? a=some o/\o.cls = .type "tuple" /\ o.data = .seq xs n/\IntsAre xs.toList k
section
variable {prog:Program} {w:World} {A:Around} {E:Value->Shared->Prop} {s:Shared} {Q:Bool->Shared->Prop}
theorem GS {fin:Bool}:∀ {us ws:List Value} {ks ls:LK} (i:Nat),IntsAre us ks->IntsAre ws ls->fin=decide (us.length < ws.length)->Q (HT.lexLt ks ls) s->KatLex prog w A true fin Q (us.zip ws) i s
 | _,_,_,_,i,.nil,.nil,hf,h=>by
  rw[Zd]
  subst hf
  exact h
 | _,_,_,_,i,.nil,.cons m u r,hf,h=>by
  rw[Zd]
  have:fin=true:=by rw[hf];simp
  subst this
  exact h
 | _,_,_,_,i,.cons n t r,.nil,hf,h=>by
  rw[ZF]
  have:fin=false:=by rw[hf];simp
  subst this
  exact h
 | _,_,_,_,i,.cons n t r,.cons m u r',hf,h=>by
  rw[Yz]
  refine kat_cons (wpAny_eqBool_int (kat_go (fun e => ?_) fun e => ?_))
  ·have e:n=m:=XD e
   subst e
   rw[HT.mT,We rfl] at h
   exact kat_yes (GS (i + 1) r r' (by rw[hf];simp) h)
  ·have e:¬ n=m:=fun z=>by subst z;simp at e
   rw[HT.mT,VG e] at h
   refine kat_no ?_
   cases q:(true && i == 0) with
   | true=>exact oneLt_int h
   | false=>exact kat_one _ _ (PyProof.Rows.lt_int h)
theorem QL {k l:LK} {x y:Value} (hx:ki s.heap k x) (hy:ki s.heap l y) (h:Q (HT.lexLt k l) s):wpAny (model prog w) A (keyLt' (tuples' true) x y) Q E s:=by
 obtain⟨a,o,xs,n,rfl,h1,_,h2,h3⟩:=hx
 obtain⟨b,o',ys,n',rfl,g1,_,g2,g3⟩:=hy
 exact kat_lt h1 h2 g1 g2 (GS 0 h3 g3 (by rw[Ms,Ms]) h)
theorem GU {h:Heap}:∀ {keys:List Value} {ks:List LK},(∀ k∈ks,k≠[])->keys.length=ks.length->(∀ (i:Nat) (k:LK) (v:Value),ks[i]? = some k->keys[i]? = some v->ki h k v)->∃ fs,KatTups h keys fs/\fs.length=keys.length/\∀ v∈fs,∃ n t,v=Value.int n t
 | [],[],_,_,_=>⟨[],.nil,rfl,fun v hv=>nomatch hv⟩
 | [],_ :: _,_,hl,_=>by simp at hl
 | _ :: _,[],_,hl,_=>by simp at hl
 | v :: keys,k :: ks,h9,hl,ht=>by
  obtain⟨fs,t,hf,hi⟩:=GU (h:=h) (keys:=keys) (ks:=ks) (fun k hk=>h9 k (Mp _ hk)) (by simpa using hl) fun i k v e1 e2=>ht (i + 1) k v (by simpa using e1) (by simpa using e2)
  obtain⟨a,o,xs,n,rfl,h1,hc,h2,h3⟩:=ht 0 k v rfl rfl
  have hk:=h9 k yE
  generalize hx:xs.toList=xl at h3
  cases h3 with
  | nil=>exact absurd rfl hk
  | cons m t' r =>
   have h0:xs[0]? = some (.int m t'):=by rw[<-Wq,hx];rfl
   refine⟨.int m t' :: fs,.cons h1 hc h2 h0 t,by rw[D7,D7,hf],fun v hv => ?_⟩
   rcases VE.mp hv with rfl | hv
   ·exact⟨m,t',rfl⟩
   ·exact hi v hv
theorem QM {M:Model} {keys:List Value} {ks:List LK} {Q:SortKind->Shared->Prop} (h0:0 < keys.length) (h9:∀ k∈ks,k≠[]) (hl:keys.length=ks.length) (ht:∀ (i:Nat) (k:LK) (v:Value),ks[i]? = some k->keys[i]? = some v->ki s.heap k v) (h:Q (tuples' true) s) :
  wpAny M A (keyKind' keys.toArray) Q E s:=by
 obtain⟨fs,t,hf,hi⟩:=GU h9 hl ht
 refine kat_kind (T := .type "int") t (by omega) (fun v hv => ?_) (by decide) ?_
 ·obtain⟨n,t',rfl⟩:=hi v hv
  exact .now
 ·exact h
theorem getD_some {α : Type} {l:List α} {i:Nat} {d : α} (h:i < l.length):l[i]? = some (l.getD i d):=by
 rw[lO h,vo,lO h];rfl
theorem QN {a kS:Addr} {e1:Nat} {vs keys:List Value} {ks:List LK} {P:PySem.Fin->Shared->Prop} (hv:keys.length=vs.length) (mW:vs.length < 64) (h9:∀ k∈ks,k≠[]) (hl:keys.length=ks.length) (ht:∀ (i:Nat) (k:LK) (v:Value),ks[i]? = some k->keys[i]? = some v->ki s.heap k v)
  (fin:∀ st (p:Array Nat),(arrOf st).map (·.2)=List.toArray (p.toList.map fun i=>vs.getD i Value.none)->failedOf st=none->dh vs.length p->Up (fun i=>ks.getD i []) p vs.length->wpAny (model prog w) A (ksk_tail a false e1 (.ref kS) st) P E s) :
  wpAny (model prog w) A (ksk_end a false vs.toArray e1 (.ref kS) (List.toArray keys)) P E s:=by
 unfold ksk_end
 try dsimp only
 simp only[Wn,Xr]
 by_cases h2:vs.toArray.size < 2
 ·rw[We h2,We h2]
  refine oQ (D5 ?_)
  rw[StateT.run_pure]
  refine oQ (D5 ?_)
  try dsimp only
  rw[vp] at h2
  refine fin _ (List.range vs.length).toArray ?_ rfl ⟨Array.Perm.refl _⟩ fun i j jj hj => ?_
  ·have QO:arrOf (SortSt.mk' general' (keys.toArray.zip vs.toArray) #[] 7 none)=(List.toArray (List.range vs.length)).map (kas_item (keys.toArray.zip vs.toArray)):=by
    have e:=kas_range (keys.toArray.zip vs.toArray)
    rw[show (keys.toArray.zip vs.toArray).size=vs.length by simp[hv]] at e
    rw[e]
   exact kat_snds hv QO
  ·have:i=j:=by omega
   subst this
   exact kle_refl _
 ·rw[VG h2,VG h2]
  rw[vp] at h2
  refine oQ (QM (by omega) h9 hl ht ?_)
  refine oQ (XW (kat_run (κ := tuples' true) (E:=E) (Q:=fun iG s'=>s'=s/\∃ p:Array Nat,arrOf iG=p.map (kas_item (keys.toArray.zip vs.toArray))/\failedOf iG=none/\dh vs.length p/\Up (fun i=>ks.getD i []) p vs.length)
   (G:=fun p s'=>s'=s/\dh vs.length p/\Up (fun i=>ks.getD i []) p vs.length) hv (by omega) mW (fun p iG s' a1 a2 a3 a4=>⟨a4.1,p,a2,a3,a4.2.1,a4.2.2⟩) ?_) ?_ fun _ _ x=>x)
  ·refine OW (k:=fun i=>ks.getD i []) (I:=fun s'=>s'=s) (fun i j C s' hi hj e hC => ?_) (by omega) rfl fun p s' a1 a2 a3=>⟨a3,a1,a2⟩
   subst e
   exact QL (ht i _ _ (getD_some (by omega)) (getD_some (by omega))) (ht j _ _ (getD_some (by omega)) (getD_some (by omega))) (hC _ rfl)
  ·rintro ⟨⟨⟩,iG⟩ s' ⟨rfl,p,a1,a2,a3,a4⟩
   try dsimp only
   exact fin iG p (kat_snds hv a1) a2 a3 a4
end
theorem a0.at {X:Cx} {pins:List (Addr × Obj)} {H H':Hp} {b:Addr} (f:a0 X pins H b) (h:H' b=none):a0 X pins H' b:=⟨h,f.2⟩
section
variable {X:Cx} {pins:List (Addr × Obj)} {σ : St} {H:Hp} {s:Shared} {A:Around} {E:Value->Shared->Prop} {a:Addr} {vs:List Value} {f:Value}
theorem Inv.cn {h':Heap} {t':Nat} {b:Addr} (I:Inv X pins σ H s) (fb:a0 X pins H b) (k:∀ c o,c≠b->s.heap.get? c=some o->h'.get? c=some o):Inv X pins σ H { s with heap:=h',toks:=t' } :=
 I.turned k fb.1 fb.2.1 fb.2.2.2.1 fb.2.2.2.2.1 fb.2.2.2.2.2
theorem Inv.cW {b:Addr} {o:Obj} (I:Inv X pins σ H s) (fb:a0 X pins H b) (e:s.heap.get? b=some o) (hc:∀ v,o.data ≠ .cell v):Inv X ((b,o) :: pins) σ H s :=
 I.d3 fun p hp=>by
  rcases VE.mp hp with rfl | hp
  ·exact⟨e,fb.1,fb.2.1,fb.2.2.1,hc⟩
  ·exact I.pin p (Mq _ hp)
theorem Inv.bw {p:Addr × Obj} (I:Inv X (p :: pins) σ H s):Inv X pins σ H s:=I.d3 fun q hq=>I.pin q (Mq _ (Mp _ hq))
theorem a0.cons {b:Addr} {p:Addr × Obj} (f:a0 X pins H b) (n:p.1≠b):a0 X (p :: pins) H b :=
 ⟨f.1,f.2.1,f.2.2.1,f.2.2.2.1,f.2.2.2.2.1,fun q hq=>by
  rcases WD.mp hq with z | z
  ·exact f.2.2.2.2.2 q (WJ _ z)
  ·rcases VE.mp z with rfl | z
   ·exact n
   ·exact f.2.2.2.2.2 q (Mq _ z)⟩
theorem lb {c:String} {xs:Array Value} {n:Nat}:∀ v,(seqObj c xs n).data ≠ .cell v:=fun v z=>by cases z
theorem QP {P:List V->Hp->Prop} {n0:Nat} {R:PySem.Fin->Shared->Prop} (I:Inv X pins σ H s) (fa:a0 X pins H a) (ha:s.heap.get? a=some (seqObj "list" vs.toArray n0)) (mW:vs.length < 64) (p0:P [] H)
  (iw:∀ (bz:List (Addr × Obj)) (v:Value) (kvs:List V) (H':Hp) (s':Shared),vs[kvs.length]? = some v->Inv X bz σ H' s'->P kvs H'->wpAny (model X.prog X.w) A (call f [v]) (EP X bz σ fun k ig=>P (kvs ++ [k]) ig) (fun _ _=>False) s')
  (fin:∀ kvs H',kvs.length=vs.length->P kvs H'->∃ ks:List LK,ks.length=vs.length/\(∀ k∈ks,k≠[])/\(∀ (i:Nat) (k:LK),ks[i]? = some k->∃ t,kvs[i]? = some (.ref t)/\H' t=some (.tup (k.map V.int))) ∧
   ∀ (p:Array Nat) (s':Shared) (c:Nat),dh vs.length p->Up (fun i=>ks.getD i []) p vs.length->Inv X pins σ H' s'->a0 X pins H' a->s'.heap.get? a=some (seqObj "list" (List.toArray (p.toList.map fun i=>vs.getD i Value.none)) c)->R (.done (.ret .none)) s') :
  wpAny (model X.prog X.w) A (ksk_tree a f false) R E s:=by
 unfold ksk_tree
 refine oQ (listItems_at ha rfl ?_)
 refine oQ (ZU ha rfl ?_ (by rw[vp,XY];omega) (W6 _))
 have sb:=WL s.heap a (Obj.mapSeq fun _=>(#[]:Array Value))
 obtain⟨e1,nB⟩:∃ e1,(s.heap.update a (Obj.mapSeq fun _=>(#[]:Array Value))).get? a=some (seqObj "list" #[] e1):=⟨_,YY ha fun _ => #[]⟩
 have I1:Inv X pins σ H { s with heap:=s.heap.update a (Obj.mapSeq fun _=>(#[]:Array Value)) }:=I.cn (t':=s.toks) fa fun c o n e=>(sb.2 c n).trans e
 refine oQ (seqEpoch_at nB rfl ?_)
 refine oQ (wpAny_newTuple ?_ (by show vs.length <= _;rw[XY];omega))
 refine oQ (ZV ?_ (W6 _))
 refine WK ?_
 generalize V8:s.heap.update a (Obj.mapSeq fun _=>(#[]:Array Value))=g0 at nB I1
 show wpAny _ _ (ksk_rest a f false vs.toArray e1 (.ref (g0.push (seqObj "tuple" vs.toArray 0)).objs.size)) R E { s with heap:=(g0.push (seqObj "tuple" vs.toArray 0)).push (seqObj "list" #[] 0) }
 have I2:Inv X pins σ H { s with heap:=(g0.push (seqObj "tuple" vs.toArray 0)) }:=I1.kept (h':=g0.push (seqObj "tuple" vs.toArray 0)) (t':=s.toks) fun b u e=>sC _ e
 have eQ:(g0.push (seqObj "tuple" vs.toArray 0)).get? a=some (seqObj "list" #[] e1):=sC _ nB
 generalize g0.push (seqObj "tuple" vs.toArray 0)=g1 at I2 eQ
 have fk:a0 X pins H g1.objs.size:=I2.d8 (qx _) (I2.aJ.fresh (qx _))
 have I3:Inv X pins σ H { s with heap:=g1.push (seqObj "list" #[] 0) }:=I2.kept (h':=g1.push (seqObj "list" #[] 0)) (t':=s.toks) fun b u e=>sC _ e
 have uz:g1.objs.size≠a:=YN (My eQ)
 have I4:=(I3.cW fk (VH _ rfl) lb).cW (fa.cons (p:=(g1.objs.size,seqObj "list" #[] 0)) uz) (sC _ eQ) lb
 generalize g1.objs.size=kS at I4 uz fk
 unfold ksk_rest
 refine oQ (q0g ?_)
 first
  | rw[List.forIn_toArray]
  | (rw[<-Y1];simp only[List.toList_toArray])
  | rw[<-Y1]
 refine oQ (ksk_fold (fun i s'=>∃ H' kvs ks e,Inv X ((a,seqObj "list" #[] e1) :: (kS,seqObj "list" (List.toArray ks) e) :: pins) σ H' s'/\P kvs H'/\Vals kvs ks/\kvs.length=i) vs 0 _ ⟨H,[],[],0,I4,p0,.nil,rfl⟩ ?step ?done)
 case step =>
  rintro j x s' hx ⟨H',kvs,ks,e,J,pk,rv,hl⟩
  rw[WN] at hl
  have hj:j < vs.length:=(oR.mp hx).1
  refine oQ (wpAny_attempt (XW (iw _ x kvs H' s' (by rw[hl];exact hx) J pk) (fun u s2 hs => ?_) fun _ _ z=>z.elim))
  obtain⟨k,H2,J2,r2,p2⟩:=hs
  try dsimp only
  have pa:=J2.pin (a,seqObj "list" #[] e1) (Mq _ (.head _))
  have jo:=J2.pin (kS,seqObj "list" (List.toArray ks) e) (Mq _ (.tail _ (.head _)))
  have lk:ks.length=j:=by rw[<-rv.length];exact hl
  refine oQ (ZU jo.1 rfl ?_ (by rw[vp,XY];omega) (Xg (Nat.le_of_eq (q0o ..)) (by rw[vp,XY];omega)))
  have s1:=WL s2.heap kS (Obj.mapSeq (·.push u))
  have ea:(List.toArray ks).push u=List.toArray (ks ++ [u]):=by simp
  obtain⟨c2,e8⟩:∃ c2,(s2.heap.update kS (Obj.mapSeq (·.push u))).get? kS=some (seqObj "list" (List.toArray (ks ++ [u])) c2):=⟨_,by rw[<-ea];exact YY jo.1 (·.push u)⟩
  have J3:=J2.bw.bw
  have J4:Inv X pins σ H2 { s2 with heap:=s2.heap.update kS (Obj.mapSeq (·.push u)) }:=J3.cn (t':=s2.toks) (fk.at jo.2.1) fun c o n e=>(s1.2 c n).trans e
  refine D5 ⟨rfl,H2,kvs ++ [k],ks ++ [u],c2,?_,p2,rv.append (.cons r2 .nil),by rw[D6,hl,WN];rfl⟩
  exact (J4.cW (fk.at jo.2.1) e8 lb).cW ((fa.at pa.2.1).cons uz) ((s1.2 a uz.symm).trans pa.1) lb
 case done =>
  rintro s' ⟨H',kvs,ks,e,J,pk,rv,hl⟩
  rw[WN] at hl
  have pa:=J.pin (a,seqObj "list" #[] e1) (Mq _ (.head _))
  have jo:=J.pin (kS,seqObj "list" (List.toArray ks) e) (Mq _ (.tail _ (.head _)))
  have lk:ks.length=vs.length:=by rw[<-rv.length];exact hl
  obtain⟨kk,k1,k2,k3,k4⟩:=fin kvs H' hl pk
  try dsimp only
  refine oQ (listItems_at jo.1 rfl ?_)
  refine QN (ks:=kk) lk mW k2 (by rw[lk,k1]) (fun i k v e1 e2 => ?_) fun st p A0 hf hp up => ?_
  ·obtain⟨t,e3,e4⟩:=k3 i k e1
   obtain⟨u,e5,e6⟩:=rv.get e3
   rw[e2] at e5;cases e5
   cases e6
   obtain⟨aj,r',it,_⟩:=J.tuple (bC.of e4)
   obtain⟨o,o1,o2,n,o3⟩:=it
   exact⟨t,o,_,n,rfl,o1,o2,o3,by simpa using intsAre_of r'⟩
  ·have hz:(p.toList.map fun i=>vs.getD i Value.none).length=vs.length:=by rw[oS,Ms,hp.size]
   unfold ksk_tail
   try dsimp only
   rw[A0]
   refine oQ (ZU jo.1 rfl ?_ (by rw[vp,XY];omega) (W6 _))
   refine oQ (Yw ?_)
   have s1:=WL s'.heap kS (Obj.mapSeq fun _=>(#[]:Array Value))
   have na:(s'.heap.update kS (Obj.mapSeq fun _=>(#[]:Array Value))).get? a=some (seqObj "list" #[] e1):=(s1.2 a uz.symm).trans pa.1
   refine oQ (seqEpoch_at na rfl ?_)
   simp only[Wn,Xr]
   refine oQ (ZU na rfl ?_ (W6 _) (Xg (Nat.le_of_eq (by rw[vp,hz])) (by rw[XY];omega)))
   rw[hf]
   simp only[bne_self_eq_false,Wn,Xr]
   have J1:Inv X pins σ H' { s' with heap:=s'.heap.update kS (Obj.mapSeq fun _=>(#[]:Array Value)) }:=J.bw.bw.cn (t':=s'.toks) (fk.at jo.2.1) fun c o n e=>(s1.2 c n).trans e
   have s2:=WL (s'.heap.update kS (Obj.mapSeq fun _=>(#[]:Array Value))) a (Obj.mapSeq fun _=>List.toArray (p.toList.map fun i=>vs.getD i Value.none))
   have J2:Inv X pins σ H' { s' with heap:=(s'.heap.update kS (Obj.mapSeq fun _=>(#[]:Array Value))).update a (Obj.mapSeq fun _=>List.toArray (p.toList.map fun i=>vs.getD i Value.none)) }:=J1.cn (t':=s'.toks) (fa.at pa.2.1) fun c o n e=>(s2.2 c n).trans e
   obtain⟨c2,e8⟩:∃ c2,((s'.heap.update kS (Obj.mapSeq fun _=>(#[]:Array Value))).update a (Obj.mapSeq fun _=>List.toArray (p.toList.map fun i=>vs.getD i Value.none))).get? a=some (seqObj "list" (List.toArray (p.toList.map fun i=>vs.getD i Value.none)) c2):=⟨_,YY na fun _=>List.toArray (p.toList.map fun i=>vs.getD i Value.none)⟩
   exact D5 (k4 p _ c2 hp up J2 (fa.at pa.2.1) e8)
end
section
variable {prog:Program} {w:World} {A:Around} {E:Value->Shared->Prop} {s:Shared}
theorem QQ {Q:List Value->Shared->Prop} {r:Addr} {a b c:Int} {t u v:Tok} {n:Nat} (hh:A.handled=none) (hr:IsRange s.heap r a b c t u v) (pZ:Builtin.Range.small a b c=true)
  (hn:Builtin.Range.rangeSize a b c=n) (hlen:n <= 2 ^ 24)
  (hQ:∀ h' tk b9,(∀ b o,s.heap.get? b=some o->h'.get? b=some o)->ItemsOf (fun i v=>∃ t,v = .int (a + i * c) t) b9 n->Q b9.toList { s with heap:=h',toks:=tk }):wpAny (model prog w) A (collect (.ref r)) Q E s:=by
 have key:∀ R:Result->Shared->Prop,(∀ h' tk b9 c',(∀ b o,s.heap.get? b=some o->h'.get? b=some o)->h'.get? s.heap.objs.size=some { cls := .type "list",dict:=none,data := .seq b9 c',slots := #[] }->ItemsOf (fun i v=>∃ t,v = .int (a + i * c) t) b9 n->R (.ok (.ret (.ref s.heap.objs.size))) { s with heap:=h',toks:=tk })->codeAny (model prog w) A (.builtin "proto.collect" ⟨[.ref r],[]⟩) R s:=by
  intro R hR
  refine XS F.entry_proto_collect ?_
  rw[Xs F.plain_proto_collect _]
  show wpAny _ A.in1 (newList [] >>= fun l=>again (.builtin "list.__iadd__" ⟨[l,.ref r],[]⟩)) _ _ s
  refine oQ (XN ?_)
  refine D5 ⟨XX F.plain_list_iadd _,XS F.entry_list_iadd ?_⟩
  rw[Xs F.plain_list_iadd _]
  show wpAny _ A.in1 (Builtin.List.listExtendWith (.ref s.heap.objs.size) (.ref r) (.ref s.heap.objs.size)) _ _ _
  have QR:(s.heap.push { cls := .type "list",data := .seq ([]:List Value).toArray }).get? s.heap.objs.size=some { cls := .type "list",data := .seq #[] 0 }:=VH _ rfl
  refine wpAny_extend_range (R:=R) (s:={ s with heap:=s.heap.push { cls := .type "list",data := .seq ([]:List Value).toArray } }) hh (sC _ hr) pZ hn hlen s.heap.objs.size (.ref s.heap.objs.size) 0 QR fun h' tk b9 c' hk iR p8 => ?_
  exact hR h' tk b9 c' (fun b o e=>hk b o (Wi (My e)) (sC _ e)) iR p8
 unfold collect
 refine oQ (wpAny_runValue (key _ fun h' tk b9 c' hk iR p8 => ?_))
 show wpAny _ A (load s.heap.objs.size >>= _) _ _ _
 refine oQ (wpAny_load iR ?_)
 exact D5 (hQ h' tk b9 hk p8)
end
section
variable {X:Cx} {pins:List (Addr × Obj)} {σ : St} {H:Hp} {s:Shared} {E:Value->Shared->Prop}
theorem Inv.uA {a:Addr} {o:HO} (I:Inv X pins σ H s) (fa:a0 X pins H a) (ha:X.s₀.heap.objs.size <= a) (new:aI X.prog X.w (upd H a o) s.heap a o):Inv X pins σ (upd H a o) s:=by
 obtain⟨f0,f1,f2,_,f4,f5⟩:=fa
 have ne:∀ {b u},H b=some u->b≠a:=fun e z=>by rw[z,f0] at e;cases e
 refine⟨I.ok,I.os,I.bare,⟨I.base.keep,I.base.slot,fun b u e n hx => ?_,I.base.there,fun b xs e => ?_,fun b u v e => ?_,fun b ps e => ?_⟩,I.loc,I.cell,?_,fun x c e => ?_,fun p hp => ?_,fun b u e => ?_,I.len⟩
 ·rw[aM (Wi (Wk (My e) ha))];exact I.base.free b u e n hx
 ·have:=I.base.d6 b xs e
  rw[aM (ne this)];exact this
 ·have:=I.base.eV b u v e
  rw[aM (ne this)];exact this
 ·obtain⟨more,this⟩:=I.base.eW b ps e
  exact⟨more,by rw[aM (ne this)];exact this⟩
 ·rw[aM (Yi f1)];exact I.free
 ·rw[aM (f4 x c e)];exact I.cb x c e
 ·obtain⟨e1,e2,e3⟩:=I.pin p hp
  exact⟨e1,by rw[aM (f5 p hp)];exact e2,e3⟩
 ·by_cases z:b=a
  ·subst z;rw[bA] at e;cases e;exact new
  ·rw[aM z] at e
   refine (I.aJ b u e).eU (fun c v _ q=>q) (fun c q => ?_) fun c xs q => ?_
   ·rw[aM (ne q)];exact q
   ·rw[aM (ne q)];exact q
theorem QS {xs:List V} {vs:List Value} (r:Vals xs vs) {p:List Nat} (hp:∀ i∈p,i < vs.length):Vals (p.map fun i=>xs.getD i .non) (p.map fun i=>vs.getD i Value.none):=by
 induction p with
 | nil=>exact .nil
 | cons i q ih =>
  refine .cons ?_ (ih fun j hj=>hp j (Mp _ hj))
  have hi:=hp i yE
  obtain⟨u,e1,e2⟩:=r.get (getD_some (l:=xs) (d:=V.non) (by rw[r.length];exact hi))
  have:=getD_some (l:=vs) (d:=Value.none) hi
  rw[this] at e1;cases e1
  exact e2
theorem dh.mem {n:Nat} {p:Array Nat} (h:dh n p) {i:Nat} (hi:i∈p.toList):i < n:=by
 have:=(ZI.mp h.perm).mem_iff.mp hi
 simpa using this
theorem QT {l q:Addr} {P:List V->Hp->Prop} {xs:List V} {Q:Value->Shared->Prop} (I:Inv X pins σ H s)
  (col:∀ Q':List Value->Shared->Prop,(∀ h' tk vs,(∀ b o,s.heap.get? b=some o->h'.get? b=some o)->Vals xs vs->Q' vs { s with heap:=h',toks:=tk })->wpAny (model X.prog X.w) X.A.in1 (collect (.ref l)) Q' E s)
  (mW:xs.length < 64) (p0:P [] H)
  (iw:∀ (bz:List (Addr × Obj)) (x:V) (u:Value) (kvs:List V) (H':Hp) (s':Shared),xs[kvs.length]? = some x->RelV x u->Inv X bz σ H' s'->P kvs H'->wpAny (model X.prog X.w) X.A.in1.in1 (call (.ref q) [u]) (EP X bz σ fun k ig=>P (kvs ++ [k]) ig) (fun _ _=>False) s')
  (fin:∀ kvs H',kvs.length=xs.length->P kvs H'->∃ ks:List LK,ks.length=xs.length/\(∀ k∈ks,k≠[])/\(∀ (i:Nat) (k:LK),ks[i]? = some k->∃ t,kvs[i]? = some (.ref t)/\H' t=some (.tup (k.map V.int))) ∧
   ∀ (p:Array Nat) (s':Shared) (a:Addr),dh xs.length p->Up (fun i=>ks.getD i []) p xs.length->H' a=none->Inv X pins σ (upd H' a (.lst (p.toList.map fun i=>xs.getD i .non))) s'->Q (.ref a) s') :
  wpAny (model X.prog X.w) X.A (call (.builtin "sorted") [.ref l] [(Str.ofString "key",.ref q)]) Q E s:=by
 refine call_function_entry_kw kind_sorted plain_sorted entry_sorted (ksk_s1 _ _) ?_
 unfold Builtin.«sorted»
 refine oQ (m:=checkCount "sorted" 1 1 _) (D5 ?_)
 refine oQ (col _ fun h' tk vs kp rv => ?_)
 have lv:vs.length=xs.length:=rv.length.symm
 refine oQ (ZV ?_ (by rw[XY];omega))
 have I1:Inv X pins σ H { s with heap:=h',toks:=tk }:=I.kept kp
 have fa:a0 X pins H h'.objs.size:=I1.d8 (qx _) (I1.aJ.fresh (qx _))
 have QU:X.s₀.heap.objs.size <= h'.objs.size:=I1.sz
 have I2:Inv X pins σ H { s with heap:=h'.push (seqObj "list" vs.toArray 0),toks:=tk }:=I1.kept (h':=h'.push (seqObj "list" vs.toArray 0)) (t':=tk) fun b u e=>sC _ e
 have vf:(h'.push (seqObj "list" vs.toArray 0)).get? h'.objs.size=some (seqObj "list" vs.toArray 0):=VH _ rfl
 refine oQ (WK (wpAny_call_entry_kw slot_list_sort ⟨_,vf,rfl⟩ entry_list_sort ?body (ksk_l1 _ _)))
 case body =>
  show wpAny (model X.prog X.w) X.A.in1.in1 (Builtin.«list.sort» ⟨[.ref h'.objs.size],[(Str.ofString "key",.ref q)]⟩) _ _ _
  rw[ksk_t1]
  refine QP (P:=P) I2 fa vf (by omega) p0 (fun bz v kvs H' s' hv J pk => ?_) fun kvs H' hl pk => ?_
  ·have hi:kvs.length < xs.length:=by rw[<-lv];exact (oR.mp hv).1
   obtain⟨u,e1,e2⟩:=rv.get (lO hi)
   rw[hv] at e1;cases e1
   exact iw bz _ v kvs H' s' (lO hi) e2 J pk
  ·obtain⟨ks,k1,k2,k3,k4⟩:=fin kvs H' (by omega) pk
   refine⟨ks,by omega,k2,k3,fun p s' c hp up J fj e=>⟨_,rfl,?_⟩⟩
   rw[lv] at hp up
   refine D5 ⟨_,rfl,k4 p s' h'.objs.size hp up fj.1 (J.uA fj QU ?_)⟩
   have hz:(p.toList.map fun i=>xs.getD i V.non).length=xs.length:=by rw[oS,Ms,hp.size]
   exact⟨by rw[hz,XY];omega,_,c,QS rv fun i hi=>by rw[lv];exact hp.mem hi,e⟩
end
theorem ae.at {H:Hp} {ds:List D} {vs:List V} {i:Nat} {d:D} {v:V} (h:ae H ds vs) (e1:ds[i]? = some d) (e2:vs[i]? = some v):Is H d v:=by
 obtain⟨d',e3,h'⟩:=h.get e2
 rw[e1] at e3;cases e3
 exact h'
theorem ae.uB {H:Hp}:∀ {ds:List D} {vs:List V},vs.length=ds.length->(∀ (i:Nat) (d:D),ds[i]? = some d->∃ v,vs[i]? = some v/\Is H d v)->ae H ds vs
 | [],[],_,_ => .nil
 | [],_ :: _,h,_=>by simp at h
 | _ :: _,[],h,_=>by simp at h
 | d :: ds,v :: vs,h,g=>by
  obtain⟨v',e,h1⟩:=g 0 d rfl
  cases (show some v=some v' from e)
  exact .cons h1 (ae.uB (by simpa using h) fun i d e=>by simpa using g (i + 1) d (by simpa using e))
structure kj where
 T:Addr
 pos:Pos
 qual:Str
theorem dA.same {H H':Hp} {T:Addr} {pos:Pos} {q:Str} (h:dA H T pos q) (s:aB H H'):dA H' T pos q:=by
 obtain⟨ps,e,t,c⟩:=h
 exact⟨ps,s _ _ e,t,c.imp id fun ⟨c,e1,e2⟩=>⟨c,e1,s _ _ e2⟩⟩
theorem dA.keep {H H':Hp} {T T':Addr} {pos:Pos} {q:Str} (h:dA H T pos q) (ne:T≠T') (hT:∃ ps,H T'=some (.tbl ps)) (s:∀ b o,H b=some o->b≠T'->H' b=some o):dA H' T pos q:=by
 obtain⟨ps,e,t,c⟩:=h
 refine⟨ps,s _ _ e ne,t,c.imp id fun ⟨c,e1,e2⟩=>⟨c,e1,s _ _ e2 fun z => ?_⟩⟩
 obtain⟨qs,hT⟩:=hT
 rw[z,hT] at e2;cases e2
theorem dA.put {H:Hp} {T a:Addr} {pos:Pos} {q:Str} {o o':HO} (h:dA H T pos q) (ha:H a=some o) (hk:(∃ vs,o = .lst vs)\/∃ ws,o = .dK ws):dA (upd H a o') T pos q:=by
 obtain⟨ps,e,t,c⟩:=h
 have ne:∀ {b u},H b=some u->(∀ vs,u ≠ .lst vs)->(∀ ws,u ≠ .dK ws)->b≠a:=fun {b u} e n1 n2 z=>by
  subst z
  rw[ha] at e;cases e
  rcases hk with⟨_,z⟩ | ⟨_,z⟩
  ·exact n1 _ z
  ·exact n2 _ z
 refine⟨ps,by rw[aM (ne e (fun _ z=>by cases z) fun _ z=>by cases z)];exact e,t,c.imp id fun ⟨c,e1,e2⟩=>⟨c,e1,?_⟩⟩
 rw[aM (ne e2 (fun _ z=>by cases z) fun _ z=>by cases z)];exact e2
@[reducible] noncomputable def ml (ls:List kj):aE where
 ad:=ls.map (·.T)
 ok:=fun H=>∀ l∈ls,dA H l.T l.pos l.qual
 same:=fun h s l hl=>(h l hl).same s
 put:=fun h ha hk l hl=>(h l hl).put ha hk
 tb:=fun h ha=>by
  obtain⟨l,hl,rfl⟩:=Mt.mp ha
  obtain⟨ps,e,_⟩:=h l hl
  exact⟨ps,e⟩
variable [aE]
structure A2 (T:Addr) (pos:Pos) (q:Str):Prop where
 mem:T∈aE.ad
 get:∀ H:Hp,aE.ok H->dA H T pos q
 put:∀ H H':Hp,aE.ok H->dA H' T pos q->(∀ b o,H b=some o->b≠T->H' b=some o)->aE.ok H'
omit [aE] in
theorem QV {ls:List kj} {l:kj} (hl:l∈ls) (nd:∀ a∈ls,∀ b∈ls,a.T=b.T->a=b):@A2 (ml ls) l.T l.pos l.qual:=by
 letI:aE:=ml ls
 refine⟨Ys hl,fun H h=>h l hl,fun H H' h t k l' gq => ?_⟩
 by_cases z:l'.T=l.T
 ·rw[nd _ gq _ hl z];exact t
 ·obtain⟨ps,e,_⟩:=h l hl
  exact (h l' gq).keep z ⟨ps,e⟩ k
structure QW (X:Cx) (T:Addr):Prop where
 code:∃ cc,X.env.code = .ref cc/\CodeHd X.base cc T
 ng:mainGlobals≠T
 blt:X.base.BuiltinsAt X.mg T
section
variable {F H H':Hp} {ad:List Addr} {δ : az} {σ : St}
theorem SR.uC (S:SR F ad δ σ H) (k:∀ b o,H b=some o->b∉aE.ad->H' b=some o) (tk:aE.ok H'):SR (Nw F H H') ad δ σ H':=by
 have sm:=Nw.same (H':=H') S.sub
 have nF:∀ {a o},F a=some o->a∉aE.ad:=fun {a o} e t=>by rw[S.nt a t] at e;cases e
 have nO:∀ {i a ov},ad[i]? = some a -> δ.mu[i]? = some (some ov)->a∉aE.ad:=fun {i a ov} e1 e2 t=>by
  obtain⟨a',o,e3,e4,h⟩:=S.mu i ov e2
  rw[e1] at e3;cases e3
  obtain⟨ps,q⟩:=aE.tb S.tab t
  rw[e4] at q;cases q
  rcases h.kind with⟨_,z⟩ | ⟨_,z⟩<;>cases z
 refine⟨fun a o e => ?_,fun a l => ?_,S.bW,S.inj,fun i ov e => ?_,fun i x e => ?_,S.len,tk,fun a ha => ?_⟩
 ·unfold Nw at e
  cases q:H a with
  | none=>rw[q] at e;exact e
  | some u=>rw[q] at e;exact k a o (S.sub a o e) (nF e)
 ·obtain⟨i,ov,e1,e2⟩:=l
  obtain⟨a',o,e3,e4,_⟩:=S.mu i ov e2
  rw[e1] at e3;cases e3
  unfold Nw;rw[e4];exact S.off a ⟨i,ov,e1,e2⟩
 ·obtain⟨a,o,e1,e2,h⟩:=S.mu i ov e
  exact⟨a,o,e1,k a o e2 (nO e1 e),h.same sm⟩
 ·obtain⟨v,e1,h⟩:=S.sl i x e
  refine⟨v,e1,?_⟩
  cases x with
  | p d=>exact Is.same sm h
  | o k=>exact h
 ·obtain⟨ps,q⟩:=aE.tb S.tab ha
  unfold Nw;rw[q];exact S.nt a ha
theorem Ext.uC (S:SR F ad δ σ H) (k:∀ b o,H b=some o->b∉aE.ad->H' b=some o) (tk:aE.ok H'):Ext F ad δ.mu H (Nw F H H') ad δ.mu H' where
 same:=Nw.same S.sub
 new:=fun a o e=>by
  unfold Nw at e
  cases q:H a with
  | none=>exact .inr (.inl rfl)
  | some u=>rw[q] at e;exact .inl e
 keep:=fun a o e _ t=>k a o e t
 pre:=fun _ _ e=>e
 bR:=fun _ l => .inl l
 gM:=fun a o e=>by
  by_cases t:a∈aE.ad
  ·obtain⟨ps,q⟩:=aE.tb tk t
   exact⟨_,q⟩
  ·exact⟨o,k a o e t⟩
theorem SR.nG {sl:List (Option DV)} {mu:List (Option OV)} {τ : St} {d:D} {v:V} (S:SR F ad ⟨sl,mu⟩ τ H) (h:Is F d v):SR F ad ⟨some (.p d) :: sl,mu⟩ (some v :: τ) H:=by
 refine⟨S.sub,S.off,S.bW,S.inj,S.mu,fun i x e => ?_,by have:=S.len;simp only[D7];exact congrArg (· + 1) this,S.tab,S.nt⟩
 cases i with
 | zero=>cases (show some (some (DV.p d))=some (some x) from e);exact⟨v,rfl,h⟩
 | succ i=>exact S.sl i x e
theorem Ext.iS {F' H':Hp} {aG:List Addr} {cO:List (Option OV)} {a:Addr} {o:HO} (S:SR F ad δ σ H) (e:Ext F ad δ.mu H F' aG cO H') (h:H a=some o) (n1:∀ vs,o ≠ .lst vs) (n2:∀ ws,o ≠ .dK ws) (n3:∀ ps,o ≠ .tbl ps):H' a=some o:=by
 refine e.keep a o h (fun ⟨i,ov,e1,e2⟩ => ?_) fun t => ?_
 ·obtain⟨a',u,e3,e4,q⟩:=S.mu i ov e2
  rw[e1] at e3;cases e3
  rw[h] at e4;cases e4
  rcases q.kind with⟨_,z⟩ | ⟨_,z⟩
  ·exact n1 _ z
  ·exact n2 _ z
 ·obtain⟨ps,q⟩:=aE.tb S.tab t
  rw[h] at q;exact n3 _ (Wx q)
end
noncomputable def GV (cp:List (Option Nat)) (fb:WE) (δ : az) (ds:List D) (key:D->LK):Prop :=
 ∀ d∈ds,key d≠[]/\fb ⟨some (.p d) :: cS cp δ.sl,δ.mu⟩ fun y δ'=>y = .p (.tup ((key d).map D.int)) /\ δ'.mu = δ.mu
noncomputable def sortBy (cp:List (Option Nat)) (fb:WE) (δ : az) (ds:List D) (K:List D->Prop):Prop :=
 ds.length < 64/\∃ key:D->LK,GV cp fb δ ds key/\∀ out:List D,out.Perm ds->(out.map key).Pairwise kle->K out
section
variable {X:Cx} {params:Arguments} {body:Expr} {scope:Scope} {cu:Pos} {x:Str} {Nb:List Str} {cp:List (Option Nat)} {fb:WE} {T:Addr}
structure dQ (X:Cx) (params:Arguments) (body:Expr) (scope:Scope) (cu:Pos) (T:Addr) (x:Str) (Nb:List Str) (cp:List (Option Nat)) (fb:WE):Prop where
 env:QW X T
 tbl:A2 T cu (X.env.qual ++ "<lambda>")
 GW:defaultsOf params X.env=([],[])
 kind:scope.kind = .function
 names:ux X.N X.env.scope scope x Nb cp=true
 co:scope.isCoroutine=false
 gen:scope.isGenerator=false
 bind:∀ (cl:List (Str × Addr)) (pm cd ct u:Value),bindArgs (kla_fn "<lambda>" (X.env.qual ++ "<lambda>") params body scope cl pm cd ct) ⟨[u],[]⟩=pure [(x,u)]
 room:∃ k,aY (k + 3) X.A/\∀ d:LD,aY k (d.A.deeper (envX (X.env.qual ++ "<lambda>") scope d.s.heap.objs.size d.f d.cd d.cl))->JE (mi X (X.env.qual ++ "<lambda>") scope (x :: Nb) d) body (tD fb)
theorem QX {pins:List (Addr × Obj)} {σ : St} {H:Hp} {s:Shared} {E:Value->Shared->Prop} {l:Addr} {F:Hp} {ad:List Addr} {δ : az} {ds:List D} {xs:List V} {d9 pos:Pos} {Q:VK} (L:dQ X params body scope cu T x Nb cp fb)
  (I:Inv X pins σ H s) (S:SR F ad δ σ H) (hx:ae F ds xs)
  (col:∀ (s:Shared) (H':Hp),Inv X pins σ H' s->(∀ b o,H b=some o->b∉aE.ad->H' b=some o)->∀ Q':List Value->Shared->Prop,(∀ h' tk vs,(∀ b o,s.heap.get? b=some o->h'.get? b=some o)->Vals xs vs->Q' vs { s with heap:=h',toks:=tk })->wpAny (model X.prog X.w) X.A.in1 (collect (.ref l)) Q' E s)
  (hs:sortBy cp fb δ ds fun out=>∀ a F' H' us,Ext F ad δ.mu H F' ad δ.mu H'->SR F' ad δ σ H'->H' a=none->ae F' out us->Q (.ref a) (upd H' a (.lst us))) :
  wpAny (model X.prog X.w) X.A (evalAll ((backToKw pos (keywordEach [⟨some "key",.Lambda params body scope cu,d9⟩] X.env)).map (·.2))) (fun kvs s₂ => wpAny (model X.prog X.w) X.A (call (.builtin "sorted") [.ref l] (((backToKw pos (keywordEach [⟨some "key",.Lambda params body scope cu,d9⟩] X.env)).filterMap (·.1)).zip kvs)) (EP X pins σ Q) E s₂) E s:=by
 obtain⟨mW,key,hk,K⟩:=hs
 obtain⟨k,km,J⟩:=L.room
 obtain⟨cc,fJ,hC⟩:=L.env.code
 show wpAny _ _ (evalAll [do let v <- eval (.Lambda params body scope cu) X.env;standAt pos;pure v]) _ _ _
 refine evalAll_cons (oQ ?_)
 have p9:=L.names
 unfold ux at p9
 simp only[WH,WV,Ww] at p9
 have SC:=q9C L.kind p9.1.1.1
 obtain⟨cl,k9,mj,rC⟩:=yG (scope:=scope) (env:=X.env) fun y hy e=>I.ok.has y.1 (SC.free y hy e)
 refine GL I (L.tbl.get H S.tab) L.GW k9 fJ (hC.keeps I.bk) L.env.ng (I.mod.glob.keeps I.bk) (L.env.blt.keeps I.bk) fun f H1 s1 c I1 t1 k1 GK hf hc => ?_
 refine oQ (Ym (D5 ?_))
 refine evalAll_nil ?_
 show wpAny _ _ (call (.builtin "sorted") [.ref l] [(Str.ofString "key",.ref f)]) _ _ _
 have kT:∀ b o,H b=some o->b∉aE.ad->H1 b=some o:=fun b o e t=>k1 b o e fun z=>t (by rw[z];exact L.tbl.mem)
 have jF:=L.tbl.put H H1 S.tab t1 k1
 have S1:=S.uC kT jF
 have E1:=Ext.uC S kT jF
 have lx:=hx.length
 refine QT (xs:=xs) (P:=fun kvs H'=>∃ F',Ext F ad δ.mu H F' ad δ.mu H'/\SR F' ad δ σ H'/\H' f=some (gW f "<lambda>" (X.env.qual ++ "<lambda>") params body scope cl ((X.mg "__name__").getD .none) (.ref c))/\H' c=some (kh c (X.env.qual ++ "<lambda>"))/\∀ (i:Nat) (d:D) (kv:V),ds[i]? = some d->kvs[i]? = some kv->Is F' (.tup ((key d).map D.int)) kv)
  I1 (col s1 H1 I1 kT) (by omega) ⟨_,E1,S1,hf,hc,fun i d kv _ e=>by simp at e⟩ (fun bz v u kvs H' s' hv rv I' ⟨F',E',S',nH,gy,nJ⟩ => ?_) fun kvs H' hl ⟨F',E',S',nH,gy,nJ⟩ => ?_
 ·have hi:kvs.length < ds.length:=by rw[<-lx];exact (oR.mp hv).1
  have hd:=lO hi
  have A3:Is F' ds[kvs.length] v:=ae.at (hx.same E'.same) hd hv
  obtain⟨QY,A4⟩:=hk _ (Xl hi)
  have r2:aY (k + 1) X.A.in1.in1:=(aY.in1 (aY.in1 (k:=k + 2) km))
  refine GQ I' nH gy (by rw[show X.A.in1.in1.frames=X.A.frames from rfl];exact I'.ok.frames) r2.hd r2.depth L.kind L.names L.co L.gen mj rC (fun ct=>L.bind cl _ _ ct u) rv (J ⟨X.A.in1.in1,cl,f,.ref c,s',H'⟩ (r2.deeper _)) ?_
  refine⟨F',ad,_,_,(S'.o_ (cp:=cp)).nG A3,A4,fun y δ' ⟨ey,em⟩ w F2 bT H2 E2 S2 V2 => ?_⟩
  subst ey
  have ea:bT=ad:=by
   have l2:bT.length=ad.length:=by rw[S2.bW,em,S'.bW]
   refine Yg fun i => ?_
   by_cases hi:i < ad.length
   ·rw[lO hi];exact E2.pre i _ (lO hi)
   ·rw[WZ (by omega),WZ (by omega)]
  subst ea
  obtain⟨xV,cO⟩ := δ'
  have em:cO = δ.mu:=em
  subst em
  refine⟨F2,E'.trans E2,SR.back S' E2 S2,E2.iS S' nH (fun _ z=>by cases z) (fun _ z=>by cases z) (fun _ z=>by cases z),E2.iS S' gy (fun _ z=>by cases z) (fun _ z=>by cases z) (fun _ z=>by cases z),fun i d kv e1 e2 => ?_⟩
  by_cases l8:i < kvs.length
  ·rw[Wd l8] at e2
   exact Is.same E2.same (nJ i d kv e1 e2)
  ·have:i=kvs.length:=by
    have:=(oR.mp e2).1
    rw[D6,Wt] at this
    omega
   subst this
   rw[Wg (qx _),W7] at e2
   cases (show some w=some kv from e2)
   rw[hd] at e1;cases e1
   exact V2
 ·refine⟨ds.map key,by rw[oS];omega,fun k fu => ?_,fun i k' e => ?_,fun p s' a hp up ha I' => ?_⟩
  ·obtain⟨d,hd,rfl⟩:=Mt.mp fu
   exact (hk d hd).1
  ·rw[D8] at e
   obtain⟨d,hd,rfl⟩:=VI.mp e
   have hi:i < kvs.length:=by rw[hl,lx];exact (oR.mp hd).1
   have is:=nJ i d _ hd (lO hi)
   simp only[Is] at is
   obtain⟨t,us,e1,e2,e3⟩:=is
   refine⟨t,by rw[lO hi,e1],?_⟩
   rw[<-k7 e3];exact S'.sub _ _ e2
  ·have pm:(p.toList.map fun i=>ds.getD i .non).Perm ds:=by
    have h1:=(ZI.mp hp.perm).map fun i=>ds.getD i .non
    have h2:(List.range xs.length).map (fun i=>ds.getD i D.non)=ds:=by
     refine Yg fun i => ?_
     rw[D8]
     by_cases hi:i < ds.length
     ·rw[W0 (by omega),q0n,lO hi,vo,lO hi];rfl
     ·rw[WZ (by rw[Xd];omega),WZ (by omega)];rfl
    rw[show (List.range xs.length).toArray.toList=List.range xs.length from rfl,h2] at h1
    exact h1
   refine⟨.ref a,_,I',rfl,K _ pm ?_ a _ _ _ E' S' ha ?_⟩
   ·rw[Wo,Yf]
    intro i j hi hj jj
    rw[oS,Ms,hp.size] at hi hj
    have:=up i j (XM jj) hj
    unfold KA at this
    rw[Xb,Xb]
    have gp:∀ {i:Nat} (h:i < p.toList.length),p.getD i 0=p.toList[i]:=fun {i} h=>by
     have h':i < p.size:=by rw[<-Ms];exact h
     simp[Array.getD,h']
    have gk:∀ {i:Nat},i < ds.length->(ds.map key).getD i []=key (ds.getD i .non):=fun {i} h=>by
     rw[vo,D8,lO h,vo,lO h];rfl
    have pi:=hp.lt hi
    have pj:=hp.lt hj
    dsimp only at this
    rw[gk (by omega),gk (by omega),gp (by rw[Ms,hp.size];exact hi),gp (by rw[Ms,hp.size];exact hj)] at this
    exact this
   ·refine ae.uB ?_ fun i d e => ?_
    ·rw[oS,oS]
    ·rw[D8] at e ⊢
     obtain⟨z,e1,rfl⟩:=VI.mp e
     rw[e1]
     have hz:=hp.mem (Ws e1)
     refine⟨_,rfl,ae.at (hx.same E'.same) (getD_some (by omega)) (getD_some (by omega))⟩
end
structure gg (mg:Str->Option Value) (base:Heap) (fd:FuncData) (T:Addr) (pos:Pos) (q:Str):Prop where
 code:∃ cc,fd.code = .ref cc/\CodeHd base cc T
 ng:mainGlobals≠T
 blt:base.BuiltinsAt mg T
 tbl:A2 T pos q
theorem gD.A5 {P:Program} {w:World} {K:PySem.W.Frag} {mg:Str->Option Value} {base:Heap} {x qual:Str} {st:Stmt} {f:Addr} {fd:FuncData} {N ps:List Str} {k:Nat} {G:GD} (F:gD K x qual st f fd) (S:kP N ps (cB st))
  (dm:∀ (aU:Value) (A:Around) (outer:List Env) (s:Shared) (H:Hp) (E:XK),fd.code=aU->aY k (A.deeper (envOfC qual (cB st) s.heap.objs.size f aU)) →
   ∃ B:WS,eC (dU fD P w K mg base N qual (cB st) f aU A outer s H E).jM (fW st) (dH B)/\∀ ys ah K',ys.length=ps.length->G ys ah K'->B (bJ ah.length K') ⟨ys.map some ++ List.replicate (N.length - ps.length) none,ah.map some⟩) :
  cE P w K mg base fD (k + 1) f fd ps (lY G ps.length):=by
 obtain⟨oc,od,kV,doc,pm,an,aU,ct,lI,rfl,lk,d7⟩:=F.ex
 refine DE lk d7 S (fun vs H Q E h=>h.1) fun A outer s H vs Q E hr h => ?_
 obtain⟨hl,Fz,ad,ys,ah,K',S0,g,kk⟩:=h
 obtain⟨B,jb,hb⟩:=dm aU A outer s H E rfl hr
 have hy:ys.length=ps.length:=by
  have:=S0.len
  rw[oS] at this
  rw[<-hl,this];show _=(ys.map some).length;rw[oS]
 refine⟨_,jb.out.jM,Fz,ad,⟨ys.map some ++ List.replicate (N.length - ps.length) none,ah.map some⟩,bJ ah.length K',by rw[<-hl];exact S0.start,hb ys ah K' hy g,⟨fun δ' h F' aG σ' H' E' S' => ?_,fun δ' h=>h.elim,fun δ' h=>h.elim,fun y δ' h v F' aG σ' H' E' S' V => ?_⟩⟩
 ·exact vX (σ' := σ') S0 E' S' (x := .p .non) (v := .non) rfl h kk
 ·exact vX (σ' := σ') S0 E' S' V h kk
section
variable {X:Cx} {params:Arguments} {body a e:Expr} {scope:Scope} {cu p1 p2 q1 q2 d9:Pos} {x:Str} {Nb:List Str} {cp:List (Option Nat)} {fb f:WE} {fa:WA} {T:Addr}
noncomputable def A6 (fa:WA) (cp:List (Option Nat)) (fb:WE):WE:=fun δ K=>fa δ fun xs δ1=>match xs with
 | [.p (.int j)]=>(0 <= j/\j <= 60)/\sortBy cp fb δ1 (bG 0 j.toNat) fun out=>K (.o δ1.mu.length) ⟨δ1.sl,δ1.mu ++ [some (.lst out)]⟩
 | _=>False
theorem QZ (L:dQ X params body scope cu T x Nb cp fb) (hc:X.calm=true) (p_:Gl X "sorted") (hs:X.mg "sorted" = none) (qa:bootBuiltins "sorted" = some (.builtin "sorted")) (l6:Gl X "range") (hr:X.mg "range" = none) (l7:bootBuiltins "range" = some (.type "range")) (ha:JA X [a] (bL fa))
  (he:starEach [a] X.env=[(false,eval a X.env)]) (M:az->List D->Prop)
  {pins:List (Addr × Obj)} {s:Shared} {σ : St} {H:Hp} {Q:VK} {F:Hp} {ad:List Addr} {δ : az} (I:Inv X pins σ H s) (S:SR F ad δ σ H)
  (q:fa δ fun xs δ1=>match xs with
   | [.p (.int j)]=>(0 <= j/\j <= 60)/\sortBy cp fb δ1 (bG 0 j.toNat) (M δ1)
   | _=>False)
  (fin:∀ δ1 out,M δ1 out->∀ a F' aG H' us,Ext F ad δ.mu H F' aG δ1.mu H'->SR F' aG δ1 σ H'->H' a=none->ae F' out us->Q (.ref a) (upd H' a (.lst us))) :
  wpAny (model X.prog X.w) X.A (eval (.Call (.Name "sorted" p1) [.Call (.Name "range" p2) [a] [] q2] [⟨some "key",.Lambda params body scope cu,d9⟩] q1) X.env) (EP X pins σ Q) X.xe s:=by
 refine Ya (kM I p_ hs qa ?_)
 refine callWith_kw ?_
 refine a6 ((ie (lR zg l6 hr l7 ha (he:=he)) bo).out q1 pins s σ H (fun vs H2=>∃ (r:Addr) (j:Int) (F1:Hp) (aK:List Addr) (δ1:az) (H1:Hp),vs=[.ref r]/\H2=upd H1 r (.rng 0 j)/\H1 r=none/\Ext F ad δ.mu H F1 aK δ1.mu H1/\SR F1 aK δ1 σ H1/\(0 <= j/\j <= 60)/\sortBy cp fb δ1 (bG 0 j.toNat) (M δ1)) I ?_) fun us s1 uD => ?_
 ·refine⟨F,ad,δ,_,S,q,fun xs δ1 h1 vs F1 aK H1 E1 S1 V1 => ?_⟩
  split at h1
  ·rename_i j
   obtain⟨v,r,e,W1,W2⟩:=V1
   have W2:r=[]:=W2
   have W1:v = .int j:=W1
   subst W2 W1 e
   exact⟨j,rfl,fun rr tT=>⟨rr,j,F1,aK,δ1,H1,rfl,rfl,tT,E1,S1,h1.1,h1.2⟩⟩
  ·exact h1.elim
 ·obtain⟨vs,H2,I2,r2,r,j,F1,aK,δ1,H1,ev,eH,Q0,E1,S1,hj,wU⟩:=uD
  subst ev eH
  obtain⟨u,rfl,rx⟩:=vals1 r2
  cases rx
  have sm:aB H1 (upd H1 r (.rng 0 j)):=cX Q0
  have S2:=S1.al sm
  have E2:=Ext.al S1 sm
  obtain⟨n,rfl⟩:∃ n:Nat,j=n:=⟨j.toNat,by omega⟩
  rw[Wj,pG] at wU
  refine QX L I2 S2 (ds:=(aL n).map D.int) (xs:=(aL n).map V.int) ni (fun s' H' I' kp Q' hQ => ?_) ?_
  ·have wV:H' r=some (.rng 0 (n:Int)):=kp r _ bA fun t=>by
    obtain⟨ps,z⟩:=aE.tb S2.tab t
    rw[bA] at z;cases z
   obtain⟨t,u,v,e⟩:=(show ∃ t u v,s'.heap.get? r=some { cls := .type "range",data := .fields #[.int 0 t,.int (n:Int) u,.int 1 v] } from I'.aJ r _ wV)
   have hsz:Builtin.Range.rangeSize 0 (n:Int) 1=n:=by rw[rangeSize_one];split<;>omega
   refine QQ (n:=n) (by rw[Yc];exact I'.ok.hd hc) e (small_one (by omega) (by omega) (by omega) (by omega)) hsz (by omega) fun h' tk acc Q1 it=>hQ h' tk _ Q1 ?_
   refine zh ?_ fun i u e => ?_
   ·rw[Ms,it.1,aL,oS,Xd]
   ·rw[Wq] at e
    obtain⟨t',e2⟩:=it.2 i u e
    have hi:i < n:=by rw[<-it.1];exact (Xq.mp e).1
    refine⟨t',e2.trans ?_⟩
    rw[aL,vo,D8,W0 hi]
    show Value.int (0 + (i:Int) * 1) t'=Value.int (i:Int) t'
    rw[Int.zero_add,Int.mul_one]
  ·obtain⟨mW,key,hk,hK⟩:=wU
   exact⟨mW,key,hk,fun out pm pw a F' H' us E' S' hn is=>fin δ1 out (hK out pm pw) a F' aK H' us ((E1.trans E2).trans E') S' hn is⟩
theorem Q2 (L:dQ X params body scope cu T x Nb cp fb) (hc:X.calm=true) (p_:Gl X "sorted") (hs:X.mg "sorted" = none) (qa:bootBuiltins "sorted" = some (.builtin "sorted")) (l6:Gl X "range") (hr:X.mg "range" = none) (l7:bootBuiltins "range" = some (.type "range")) (ha:JA X [a] (bL fa))
  (he:starEach [a] X.env=[(false,eval a X.env)]:=by rfl):JE X (.Call (.Name "sorted" p1) [.Call (.Name "range" p2) [a] [] q2] [⟨some "key",.Lambda params body scope cu,d9⟩] q1) (tD (A6 fa cp fb)) :=
 ⟨fun pins s σ H Q I h0_ => el7 h0_ fun F ad δ K S q k =>QZ L hc p_ hs qa l6 hr l7 ha he (fun δ1 out=>K (.o δ1.mu.length) ⟨δ1.sl,δ1.mu ++ [some (OV.lst out)]⟩) I S q fun δ1 out hM a F' aG H' us E' S' hn is=>by
  have oi:d5 F' (.lst out) (.lst us):=⟨us,rfl,is⟩
  exact k _ _ hM _ _ _ _ (E'.trans (Ext.own S' hn)) (S'.own hn oi) (wy S')⟩
end
end L2
namespace L2
open PySem PySem.Spec PyProof.Rows PySem.W
section
variable {prog:Program} {w:World} {A:Around} {E:Value->Shared->Prop} {s:Shared} {Q:Bool->Shared->Prop}
end
section
variable {X:Cx} {pins:List (Addr × Obj)} {σ : St} {H:Hp} {s:Shared} {A:Around} {E:Value->Shared->Prop} {a:Addr} {vs:List Value} {ks:List LK} {κ : SortKind}
end
section
variable [aE] {X:Cx}
end
end L2
namespace LJ
open PySem L2 PySem.W
theorem Q3 {ls:List kj} {b:Addr} {ps:Array Value}:(ls.map fun l=>(l.T,(#[]:Array Value))).lookup b=some ps->(∃ l∈ls,l.T=b)/\ps = #[]:=by
 induction ls with
 | nil=>intro h;cases h
 | cons l ls ih =>
  intro h
  rw[Wr,Wv] at h
  cases q:b == l.T with
  | true =>
   rw[q] at h
   exact⟨⟨l,yE,(XD q).symm⟩,(Wx h).symm⟩
  | false =>
   rw[q] at h
   obtain⟨⟨l',h1,h2⟩,h3⟩:=ih h
   exact⟨⟨l',Mp _ h1,h2⟩,h3⟩
theorem A7 {ls:List kj} {l:kj} (h:l∈ls):(ls.map fun l=>(l.T,(#[]:Array Value))).lookup l.T=some #[]:=by
 induction ls with
 | nil=>cases h
 | cons l' ls ih =>
  rw[Wr,Wv]
  cases q:l.T == l'.T with
  | true=>rfl
  | false =>
   rcases VE.mp h with rfl | h
   ·simp at q
   ·exact ih h
theorem Q4 {l:OpenLaw} {q:Program} {loose:List Str} {XP:(Str->Option Value)->Heap->Prop} {d:DefRec} {K:Params->Frag} {as:List Addr} {e:∀ P,as=(K P).map (·.1)} {ts:List Addr} {kk:Nat} (ls:List kj) (Q5:ls.map (·.T)=ts) (hn:l.most=some 63) (sF:d.params.defaults=[]) (hr:aY kk callerA)
  (d7:∀ (w:World) (h:Heap),(K w.params).In h->∀ t∈ls,∃ cc,CodeHd h cc t.T) (Q6:∀ P,noTabs (K P)=true)
  (F:∀ (w:World) (mg:Str->Option Value) (fa:Addr) (h:Heap),(K w.params).In h->h.Ns mainGlobals mg->mg d.name=some (.ref fa) →
   ∃ fd:FuncData,(∀ (s:Shared) (u:Value),BindsTo s fd ⟨[u],[]⟩ [("script",u)])/\∀ base:Heap,(K w.params).In base->base.Ns mainGlobals mg->(∀ t∈ls,base.BuiltinsAt mg t.T)->cE l.prog w (K w.params) mg base fD kk fa fd ["script"] (@wM (ml ls) (K w.params))) :
  WalkO q loose XP (kmHook K as e ts).says l.row.toRowW d [] (fun f vs=>PySem.call f vs) :=
 L2.Qz (n:=63) (k:=kk) (x := "script") (K:=fun w=>K w.params) (CX:=fun _=>fD) (sp:=fun w=>@wM (ml ls) (K w.params)) (Ts:=fun _=>ls.map fun l=>(l.T,#[])) hn (by decide) sF hr (fun w h Y=>km_in_of Y)
  (fun w h Y b ps hl=>by
   obtain⟨⟨t,ht,rfl⟩,rfl⟩:=Q3 hl
   have e1:h.get? t.T=some (tabObj #[]):=km_tabs_of Y t.T (by rw[<-Q5];exact Ys ht)
   refine⟨e1,?_,?_⟩
   ·obtain⟨cc,o,vs,_,_,_,_,_,_,_,c1,c2,c3,c4,_⟩:=d7 w h (km_in_of Y) t ht
    exact⟨cc,o,vs,c1,c2,c3,c4⟩
   ·cases z:(K w.params).lookup t.T with
    | none=>rfl
    | some o =>
     have e2:=km_in_of Y t.T o z
     rw[e1] at e2;cases e2
     have h2:=WV.mp (Q6 w.params) (t.T,tabObj #[]) (mem_of_lookupK z)
     exact absurd (show false=true from h2) Wf)
  (fun w mg fa h KX G lN=>by
   obtain⟨fd,hb,hF⟩:=F w mg fa h KX G lN
   exact⟨fd,hb,fun base k1 k2 k3=>hF base k1 k2 fun t ht=>k3 t.T #[] (A7 ht)⟩)
  (fun w H a ns hl hO hS=>by
   letI:aE:=ml ls
   refine⟨a,ns,rfl,hS,hl,fun t ht => ?_,fun _=>rfl⟩
   rcases hO t.T with⟨ps,z1,z2⟩ | ⟨z1,_⟩
   ·rw[A7 ht] at z1;cases z1
    exact⟨#[],z2,trivial,.inl rfl⟩
   ·rw[A7 ht] at z1;cases z1)
  fun _ _ _ _ _ z=>z
end LJ
namespace LJ
open PySem L2
variable [aE]
omit [aE] in
theorem Q7 {m:Int} {ws:List (Int × Int × Int)} (h:bg m ws):ke (aH m ws)=true:=by
 show (ir (.int m) 1 12 && pW m (.tup (ws.map bq)))=true
 have h1:ir (.int m) 1 12=true:=by
  show (decide (1 <= m) && decide (m <= 12))=true
  rw[Mr h.m1,Mr h.gJ];rfl
 rw[h1,Zn]
 show (decide ((ws.map bq).length <= 30) && ((ws.map bq).all (b_ m) && decide (((ws.map bq).map pairOf).Nodup)))=true
 have h2:(ws.map bq).all (b_ m)=true:=by
  refine WV.mpr fun d hd => ?_
  obtain⟨y,hy,rfl⟩:=Mt.mp hd
  obtain⟨a,b,c,d,e⟩:=h.ends y hy
  show (((decide (0 <= y.1) && decide (y.1 <= m - 1)) && (decide (y.1 + 1 <= y.2.1) && decide (y.2.1 <= m - 1))) && (decide (0 <= y.2.2) && decide (y.2.2 <= 1000000000)))=true
  rw[Mr a,Mr (by omega:y.1 <= m - 1),Mr (by omega:y.1 + 1 <= y.2.1),Mr (by omega:y.2.1 <= m - 1),Mr d,Mr e];rfl
 have h3:(ws.map bq).map pairOf=ws.map fun y=>(y.1,y.2.1):=by rw[Wo];rfl
 rw[h2,h3,Mr h.unlike,oS,Mr h.gK];rfl
noncomputable def uE:GD:=fun ys ah K=>∃ (m:Int) (ws:List (Int × Int × Int)),bg m ws/\ys=[.p (aH m ws)]/\ah=[]/\K (.p .non) []
noncomputable def A8:WS:=(a_ (cQ (dT (ak 1 AI (ai (aa 0) af)))) o6 cR)
theorem Q8:∀ ys ah K',ys.length=1->uE ys ah K'->A8 (bJ ah.length K') ⟨ys.map some ++ List.replicate 0 none,ah.map some⟩:=by
 rintro ys ah K' - ⟨m,ws,W,rfl,rfl,k⟩
 unfold A8
 simp? only []
 refine⟨aH m ws,rfl,rfl,?_⟩
 rw[Q7 W]
 simp? only []
 exact bB k
noncomputable def uF:GD:=fun ys ah K=>∃ y:Int × Int × Int,ys=[.p (bq y)]/\ah=[]/\K (.p (.tup [.int y.2.2,.int y.1,.int y.2.1])) []
noncomputable def A9:WS:=(aF (dr (ai (d2 (aa 0) (dC (.int 2)) aQ) (ai (d2 (aa 0) (dC (.int 0)) aQ) (ai (d2 (aa 0) (dC (.int 1)) aQ) af)))))
theorem Q9:∀ ys ah K',ys.length=1->uF ys ah K'->A9 (bJ ah.length K') ⟨ys.map some ++ List.replicate 0 none,ah.map some⟩:=by
 rintro ys ah K' - ⟨y,rfl,rfl,k⟩
 unfold A9
 simp? only [bq,dX,eK,at2]
 exact bB k
noncomputable def eM (ws:List (Int × Int × Int)) (n:Int):LK:=[(ws.getD n.toNat (0,0,0)).2.2,(ws.getD n.toNat (0,0,0)).1,(ws.getD n.toNat (0,0,0)).2.1]
structure bc (ws:List (Int × Int × Int)) (ns:List Int):Prop where
 perm:ns.Perm (aL ws.length)
 up:(ns.map (eM ws)).Pairwise kle
theorem bc.nums {ws:List (Int × Int × Int)} {ns:List Int} (h:bc ws ns):Nums ws ns:=fun n hn=>rA (h.perm.mem_iff.mp hn)
theorem bc.len {ws:List (Int × Int × Int)} {ns:List Int} (h:bc ws ns):ns.length=ws.length:=by rw[h.perm.length_eq];unfold aL;simp
theorem Q_ {m:Int} {ws:List (Int × Int × Int)} (W:bg m ws) {a b:Int} (ha:0 <= a/\a < (ws.length:Int)) (hb:0 <= b/\b < (ws.length:Int)) (e:eM ws a=eM ws b):a=b:=by
 obtain⟨i,rfl⟩:∃ i:Nat,a=i:=⟨a.toNat,by omega⟩
 obtain⟨j,rfl⟩:∃ j:Nat,b=j:=⟨b.toNat,by omega⟩
 have hi:i < ws.length:=by omega
 have hj:j < ws.length:=by omega
 unfold eM at e
 rw[Wj,Wj,vo,lO hi,vo,lO hj] at e
 simp only[Option.getD_some,List.cons.injEq,and_true] at e
 have q:(ws.map fun y=>(y.1,y.2.1))[i]'(by rw[oS];exact hi)=(ws.map fun y=>(y.1,y.2.1))[j]'(by rw[oS];exact hj):=by
  rw[Xb,Xb,e.2.1,e.2.2]
 have:=(XU W.unlike).mp q
 rw[this]
theorem Ra {out:List D} {l:List Int} (h:out.Perm (l.map D.int)):∃ ns:List Int,out=ns.map D.int/\ns.Perm l:=by
 refine⟨out.map fun d=>match d with
  | .int n=>n
  | _=>0,?_,?_⟩
 ·rw[Wo]
  refine (Yv out).symm.trans (WR fun d hd => ?_)
  obtain⟨n,_,rfl⟩:=Mt.mp (h.mem_iff.mp hd)
  rfl
 ·have:=h.map fun d=>match d with
   | .int n=>n
   | _=>0
  rw[Wo] at this
  exact this.trans (List.Perm.of_eq ((WR fun n _=>rfl).trans (Yv l)))
noncomputable def wW:GD:=fun ys ah K=>∃ (m:Int) (ws:List (Int × Int × Int)),bg m ws/\ys=[.p (aH m ws)]/\ah=[]/\∀ ns,bc ws ns->K (.n (ns.map D.int)) []
noncomputable def A_:WS:=(au (jc (ak 1 uE (ai (aa 0) af))) (au (aC 1 (d2 (aa 0) (dC (.int 1)) aQ)) (aF (A6 (ai (dN (ai (aa 1) af) cq) af) [some 1] (ak 1 uF (ai (d2 (aa 1) (aa 0) aQ) af))))))
theorem Rb:∀ ys ah K',ys.length=1->wW ys ah K'->A_ (bJ ah.length K') ⟨ys.map some ++ List.replicate 1 none,ah.map some⟩:=by
 rintro ys ah K' - ⟨m,ws,W,rfl,rfl,k⟩
 have qb:=W.gK
 unfold A_
 refine aR fun N hN => ?_
 simp? only []
 refine⟨m,ws,W,rfl,rfl,?_⟩
 simp? only []
 subst hN
 refine aR fun N hN => ?_
 simp? only [eK,aH]
 subst hN
 simp? only [A6]
 refine⟨⟨by omega,by omega⟩,by rw[jJ];omega,fun d=>match d with
  | .int n=>eM ws n
  | _=>[],fun d hd => ?_,fun out pm pw => ?_⟩
 ·obtain⟨i,hi⟩:=VD.mp hd
  obtain⟨hi,rfl⟩:=j6 hi
  have e0:(0 + (i:Int))=i:=by omega
  rw[e0]
  obtain⟨y,ey,hy,ea,_⟩:=kg W (n:=(i:Int)) (by omega) (by omega)
  refine⟨(by intro z;cases z),?_⟩
  simp? only [ea]
  refine⟨y,rfl,rfl,?_⟩
  simp? only []
  unfold eM
  rw[ey]
  rfl
 ·rw[Wj,pG] at pm
  obtain⟨ns,rfl,pn⟩:=Ra pm
  refine⟨[],rfl,rfl,.inl (k ns ⟨pn,?_⟩)⟩
  rw[Wo] at pw
  exact pw
end LJ
namespace L2
open PySem PySem.Spec PyProof.Rows
variable [aE]
noncomputable def cx (kvs:List (Key × D)) (k:Key):Option D:=(kvs.find? fun kv=>decide (kv.1=k)).map (·.2)
noncomputable def putD (kvs:List (Key × D)) (k:Key) (d:D):List (Key × D) :=
 if (kvs.any fun kv=>decide (kv.1=k))=true then kvs.map (fun kv=>if kv.1=k then (kv.1,d) else kv) else kvs ++ [(k,d)]
theorem eE.val {F:Hp} (k:Key):∀ {fg:List (Key × D)} {ws:List (Key × V)},eE F fg ws->(cx fg k=none/\bK ws k=none)\/∃ d v,cx fg k=some d/\bK ws k=some v/\Is F d v
 | [],_,h=>by have h:_=[]:=h;subst h;exact .inl ⟨rfl,rfl⟩
 | kd :: r,_,⟨v,t,e,h1,h2⟩=>by
  subst e
  by_cases c:kd.1=k
  ·refine .inr ⟨kd.2,v,?_,sR c,h1⟩
   unfold cx;rw[List.find?_cons_of_pos (by simpa using c)];rfl
  ·rw[sS c]
   have e:cx (kd :: r) k=cx r k:=by unfold cx;rw[List.find?_cons_of_neg (by simpa using c)]
   rw[e]
   exact eE.val k h2
theorem eE.length {F:Hp}:∀ {fg:List (Key × D)} {ws:List (Key × V)},eE F fg ws->ws.length=fg.length
 | [],_,h=>by have h:_=[]:=h;subst h;rfl
 | kd :: r,_,⟨v,t,e,h1,h2⟩=>by subst e;rw[D7,D7,h2.length]
theorem eE.any {F:Hp} (k:Key):∀ {fg:List (Key × D)} {ws:List (Key × V)},eE F fg ws->(ws.any fun kv=>decide (kv.1=k))=fg.any fun kv=>decide (kv.1=k)
 | [],_,h=>by have h:_=[]:=h;subst h;rfl
 | kd :: r,_,⟨v,t,e,h1,h2⟩=>by subst e;rw[Yn,Yn,h2.any k]
theorem eE.h_ {F:Hp} (k:Key) {d:D} {v:V} (hd:Is F d v):∀ {fg:List (Key × D)} {ws:List (Key × V)},eE F fg ws->eE F (fg.map fun kv=>if kv.1=k then (kv.1,d) else kv) (ws.map fun kv=>if kv.1=k then (kv.1,v) else kv)
 | [],_,h=>by have h:_=[]:=h;subst h;rfl
 | kd :: r,_,⟨u,t,e,h1,h2⟩=>by
  subst e
  by_cases c:kd.1=k
  ·rw[Wr,Wr,We c,We c]
   exact⟨v,_,rfl,hd,h2.h_ k hd⟩
  ·rw[Wr,Wr,VG c,VG c]
   exact⟨u,_,rfl,h1,h2.h_ k hd⟩
theorem eE.snoc {F:Hp} {k:Key} {d:D} {v:V} (hd:Is F d v):∀ {fg:List (Key × D)} {ws:List (Key × V)},eE F fg ws->eE F (fg ++ [(k,d)]) (ws ++ [(k,v)])
 | [],_,h=>by have h:_=[]:=h;subst h;exact⟨v,[],rfl,hd,rfl⟩
 | kd :: r,_,⟨u,t,e,h1,h2⟩=>by subst e;exact⟨u,_,rfl,h1,h2.snoc hd⟩
theorem eE.put {F:Hp} {fg:List (Key × D)} {ws:List (Key × V)} {k:Key} {d:D} {v:V} (h:eE F fg ws) (hd:Is F d v):eE F (putD fg k d) (putK ws k v):=by
 unfold putD putK
 rw[h.any k]
 split
 ·exact h.h_ k hd
 ·exact h.snoc hd
noncomputable def jq (x:DV) (δ : az) (K:Nat->List (Key × D)->Prop):Prop:=match x with
 | .o k=>match δ.mu[k]? with
  | some (some (.dct kvs))=>K k kvs
  | _=>False
 | _=>False
theorem GX {F H:Hp} {ad:List Addr} {δ : az} {σ : St} {x:DV} {v:V} {K:Nat->List (Key × D)->Prop} (S:SR F ad δ σ H) (V1:fE F ad x v) (h:jq x δ K):∃ k kvs a ws,x = .o k/\K k kvs/\v = .ref a/\ad[k]? = some a/\H a=some (.dK ws)/\eE F kvs ws /\ δ.mu[k]? = some (some (.dct kvs)):=by
 unfold jq at h
 split at h
 ·rename_i k
  split at h
  ·rename_i kvs e
   obtain⟨a,e1,rfl⟩:=V1
   obtain⟨a',o,e2,e3,ws,rfl,h4⟩:=S.mu k _ e
   rw[e1] at e2;cases e2
   exact⟨k,kvs,a,ws,rfl,h,rfl,e1,e3,h4,e⟩
  ·exact h.elim
 ·exact h.elim
noncomputable def jr (x:DV) (P:Int->Prop):Prop:=match x with
 | .p (.int i)=>P i
 | _=>False
theorem GY {F:Hp} {ad:List Addr} {x:DV} {v:V} {P:Int->Prop} (hv:fE F ad x v) (h:jr x P):∃ i,v=kV (.inl i)/\P i:=by
 unfold jr at h
 split at h
 ·rename_i i;exact⟨i,hv,h⟩
 ·exact h.elim
noncomputable def Ba:WE:=fun δ K=>K (.o δ.mu.length) ⟨δ.sl,δ.mu ++ [some (.dct [])]⟩
noncomputable def mn (neg:Bool) (fi fo:WE):WE:=fun δ K=>fi δ fun x δ1=>fo δ1 fun y δ2=>jr x fun i=>jq y δ2 fun _ kvs=>K (.p (.bl (neg != (cx kvs (.inl i)).isSome))) δ2
noncomputable def Bb (fv fo fi:WE):WS:=fun K δ => fv δ fun z δ1=>fo δ1 fun x δ2=>fi δ2 fun y δ3=>lT z δ3 fun d δ4=>jr y fun i=>jq x δ4 fun k kvs=>kvs.length < 1000/\K.nx ⟨δ4.sl,δ4.mu.set k (some (.dct (putD kvs (.inl i) d)))⟩
section
variable {X:Cx} {o i e v:Expr} {fo fi fv fk fe:WE} {pos:Pos}
theorem Rc:JE X (.Dict [] [] pos) (tD Ba):=gH.weak fun σ H Q ⟨F,ad,δ,K,S,q,k⟩ p hp=>by
 have oi:d5 F (.dct []) (.dK []):=⟨[],rfl,rfl⟩
 refine k _ _ q _ _ _ _ (Ext.own S hp) (S.own hp oi) ⟨p,?_,rfl⟩
 rw[<-S.bW,Wg (qx _),W7];rfl
theorem Rf {neg:Bool} (td:TE) (hn:∀ σ H (Q:VK),(tD fi σ H fun y H1=>tD fo σ H1 fun x H2=>∃ a o,x = .ref a/\i9 H2 a y o/\Q (.bl (neg != o.isSome)) H2)->td σ H Q):∀ σ H Q,tD (mn neg fi fo) σ H Q->td σ H Q:=fun σ H Q h0_ => el7 h0_ fun F ad δ K S q k =>hn σ H Q ⟨F,ad,δ,_,S,q,fun x δ1 h1 v F1 aK H1 E1 S1 V1=>⟨F1,aK,δ1,_,S1,h1,fun y δ2 h2 u F2 bT H2 E2 S2 V2=>by
  obtain⟨i,rfl,h3⟩:=GY (V1.ext E2) h2
  obtain⟨k0,kvs,a,ws,rfl,h4,rfl,e1,e2,i1,m1⟩:=GX S2 V2 h3
  refine⟨a,_,rfl,i9.k e2,?_⟩
  have es:(bK ws (Sum.inl i:Key)).isSome=(cx kvs (.inl i)).isSome:=by
   rcases i1.val (.inl i) with⟨z1,z2⟩ | ⟨d,v,z1,z2,_⟩
   ·rw[z1,z2];rfl
   ·rw[z1,z2];rfl
  rw[es]
  exact k _ _ h4 _ _ _ _ (E1.trans E2) S2 rfl⟩⟩
theorem Rg {t:TE} {f:WE} (h:∀ σ H Q,tD f σ H Q->t σ H Q):∀ σ H Q,cP (dT f) σ H Q->tB t σ H Q:=fun σ H Q h0_ => el7 h0_ fun F ad δ K S q k =>h σ H _ ⟨F,ad,δ,_,S,q,fun x δ1 h1 v F1 aK H1 E1 S1 V1=>by
  obtain⟨b,rfl,h2⟩:=tu V1 h1
  exact⟨b,rfl,k _ _ h2 _ _ _ E1 S1⟩⟩
theorem Rh (hu:X.A.units + 64 < cLine) (hi:JE X i (tD fi)) (ho:JE X o (tD fo)) (hm:behindInMarks .In o=false:=by rfl):JT X (.Compare i [.In] [o] pos) (cP (dT (mn false fi fo))) :=
 (Nc (Nz (by omega) hi ho) hm).weak (Rg (Rf (oV (tD fi) (tD fo)) fun σ H Q h=>by simp only[Bool.false_bne] at h;exact h))
theorem Ri {pos':Pos} (hu:X.A.units + 64 < cLine) (ho:JE X o (tD fo)) (hi:JE X i (tD fi)) (hv:JE X v (tD fv)) (hs:swapsWith v (some (.Subscript o i pos')) pos.line X.env=pure false:=by rfl):JS X (.Assign [.Subscript o i pos'] v pos) (dH (Bb fv fo fi)) :=
 (NA (by omega) ho hi hv hs).weak fun D σ H h0_ => el7 h0_ fun F ad δ K S q k =>⟨F,ad,δ,_,S,q,fun z δ1 h1 w F1 aK H1 E1 S1 V1=>⟨F1,aK,δ1,_,S1,h1,fun x δ2 h2 u F2 bT H2 E2 S2 V2=>⟨F2,bT,δ2,_,S2,h2,fun y δ3 h3 t F3 qK H3 E3 S3 V3=>by
  obtain⟨d,δ4,F4,h4,E4,S4,i4⟩:=tj S3 ((V1.ext E2).ext E3) h3
  obtain⟨i,rfl,h5⟩:=GY V3 h4
  obtain⟨k0,kvs,a,ws,rfl,h6,rfl,e1,e2,i1,m1⟩:=GX S4 ((V2.ext E3).ext E4) h5
  have oi:d5 F4 (.dct (putD kvs (.inl i) d)) (.dK (putK ws (.inl i) w)):=⟨_,rfl,i1.put i4⟩
  refine⟨a,_,rfl,jV.k e2 (lP (by rw[i1.length];exact XM h6.1)),?_⟩
  exact k.nx _ h6.2 _ _ _ _ ((((E1.trans E2).trans E3).trans E4).trans (Ext.put S4 m1 e1)) (S4.put m1 e1 oi)⟩⟩⟩
end
end L2
namespace LJ
open PySem L2
variable [aE]
theorem Rj {kvs:List (Key × D)} {k l:Key} {d:D} (h:cx kvs k=none):cx (putD kvs k d) l=if l=k then some d else cx kvs l:=by
 have na:(kvs.any fun kv=>decide (kv.1=k))=false:=by
  cases q:kvs.any fun kv=>decide (kv.1=k) with
  | false=>rfl
  | true =>
   obtain⟨kv,h1,h2⟩:=Z0.mp q
   unfold cx at h
   rw[Option.map_eq_none_iff] at h
   exact absurd h2 (YZ.mp h kv h1)
 unfold putD
 rw[na,VG Wf]
 unfold cx
 rw[List.find?_append]
 cases q:kvs.find? fun kv=>decide (kv.1=l) with
 | some kv =>
  have e:=YW q
  have e:kv.1=l:=by simpa using e
  rw[VG]
  ·rfl
  ·intro z
   subst z
   have hm:=YO q
   have:=YI.mp na kv hm
   exact this (by simpa using e)
 | none =>
  by_cases c:l=k
  ·subst c
   rw[We rfl]
   simp
  ·rw[VG c]
   simp[show ¬ k=l from fun z=>c z.symm]
theorem Rk {kvs:List (Key × D)} {k:Key} {d:D}:(putD kvs k d).length <= kvs.length + 1:=by
 unfold putD
 split
 ·rw[oS];omega
 ·rw[D6];simp
noncomputable def wX:GD:=fun ys ah K=>∃ (m:Int) (ws:List (Int × Int × Int)) (ns:List Int),bg m ws/\Nums ws ns/\ns.Nodup/\ns.length <= 900/\ys=[.p (aH m ws),.p (bp ns)]/\ah=[]/\K (.p .non) []
noncomputable def Bc:WS:=(au (jc (ak 1 uE (ai (aa 0) af))) (au (a_ (cQ (dT (d1 (aa 1) (gR "list")))) o6 cR) (au (aC 2 (d2 (dN (ai (d2 (aa 0) (dC (.int 1)) aQ) af) cq) (dC (.int 1)) (oI fun i j => .int (i - j)))) (au (aC 3 Ba) (dw (je (ai (aa 1) af)) (kW 2 (gO (bE 4) (gO (bE 5) j3))) (au (a_ (mY (cQ (dT (ak 3 k_ (ai (aa 5) (ai (dC (.int 0)) (ai (aa 2) af)))))) (dT (mn false (aa 5) (aa 3)))) o6 cR) (Bb (dC (.bl true)) (aa 3) (aa 5))))))))
theorem Rl:∀ ys ah K',ys.length=2->wX ys ah K'->Bc (bJ ah.length K') ⟨ys.map some ++ List.replicate 4 none,ah.map some⟩:=by
 rintro ys ah K' - ⟨m,ws,ns,W,hn,nd,hl,rfl,rfl,k⟩
 unfold Bc
 refine aR fun N hN => ?_
 simp? only []
 refine⟨m,ws,W,rfl,rfl,?_⟩
 show N _
 subst hN
 refine aR fun N hN => ?_
 simp? only []
 rw[show bp ns = .lst (ns.map D.int) from rfl]
 simp? only [e_,c7,Bool.true_or]
 subst hN
 refine aR fun N hN => ?_
 simp? only [eK,aH]
 subst hN
 refine aR fun N hN => ?_
 simp? only [Ba]
 subst hN
 have il:∀ (j:Nat) (d:D),(jI 0 (ns.map D.int))[j]? = some d->∃ n:Int,ns[j]? = some n/\d=D.tup [.int (j:Int),.int n]:=fun j d hd=>by
  obtain⟨e,h1,h2⟩:=qP hd
  rw[D8] at h1
  obtain⟨n,h3,rfl⟩:=VI.mp h1
  exact⟨n,h3,by rw[h2,WN]⟩
 have el:(jI 0 (ns.map D.int)).length=ns.length:=by rw[qO,oS]
 simp only[dw,je,ai,aa,af,Y8,X7,qN]
 refine k8 (fun i δ => ∃ kvs:List (Key × D),kvs.length <= i/\(∀ n:Int,(cx kvs (.inl n)).isSome=decide (n∈ns.take i)) /\ δ = ⟨[some (.p (.tup [.int m,.tup (ws.map bq)])),some (.p (.lst (ns.map D.int))),some (.p (.int (ws.length - 1))),some (.o 0),none,none],[some (.dct kvs)]⟩) ?_ ?_ ?_
 ·refine⟨[],qx _,fun n=>by simp[cx],?_⟩
  simp only[oS]
 ·rintro j d δ L hj ⟨kvs,kl,kv,rfl⟩ hL
  obtain⟨n,pY,rfl⟩:=il j d hj
  obtain⟨n0,n1⟩:=hn n (Ws pY)
  have jl:j < ns.length:=(oR.mp pY).1
  have ff:(cx kvs (.inl n)).isSome=false:=by
   rw[kv n]
   refine VF fun hm => ?_
   obtain⟨i,hi,ei⟩:=WC.mp hm
   rw[Wu] at hi
   rw[ZL] at ei
   have e2:ns[j]=n:=(oR.mp pY).2
   have:=(XU (h₀ := by omega) (h₁ := jl) nd).mp (ei.trans e2.symm)
   omega
  have fn:cx kvs (.inl n)=none:=by
   cases q:cx kvs (.inl n) with
   | none=>rfl
   | some d=>rw[q] at ff;cases ff
  have wb:ir (.int n) 0 (ws.length - 1)=true:=by
   show (decide (0 <= n) && decide (n <= (ws.length:Int) - 1))=true
   rw[Mr n0,Mr (by omega)];rfl
  refine⟨trivial,?_⟩
  simp only[kW,gO,j3,bE,fZ,WW,WX,D7,XF]
  refine⟨trivial,?_⟩
  refine aR fun N hN => ?_
  simp? only []
  refine⟨.int n,0,ws.length - 1,rfl,rfl,?_⟩
  simp? only [wb,mn,jr,jq,ff,Bool.false_bne]
  subst hN
  simp? only [Bb,jr,jq]
  refine⟨by omega,hL _ ⟨putD kvs (.inl n) (.bl true),?_,fun l => ?_,?_⟩⟩
  ·have:=Rk (kvs:=kvs) (k := .inl n) (d := .bl true);omega
  ·rw[Rj fn,XZ,pY]
   by_cases c:l=n
   ·subst c
    rw[We rfl]
    exact (Mr (by simp)).symm
   ·rw[VG (fun z=>c (Sum.inl.inj z)),kv l]
    simp[c]
  ·simp? only []
 ·rintro δ ⟨kvs,_,_,rfl⟩
  exact⟨trivial,bB k⟩
end LJ
namespace L2
open PySem PySem.Spec PyProof.Rows PySem.W
section
open PySem.SeqAt
open PySem.AutoSeq1 (wpAny_loadPart')
open PySem.MeetsSeq PySem.MeetsSeq2 PySem.MeetsSeq3
end
section
variable {prog:Program} {w:World} {A:Around} {E:Value->Shared->Prop} {s:Shared} {Q:Bool->Shared->Prop}
end
section
variable [aE] {X:Cx}
end
end L2
namespace LJ
open PySem L2
noncomputable abbrev Lt:=Int × (Addr × List Int)
noncomputable def dB (es:List Lt):List (Key × V):=es.map fun e=>(Sum.inl e.1,V.ref e.2.1)
structure cL (H:Hp) (es:List Lt):Prop where
 at_:∀ e∈es,H e.2.1=some (.lst (e.2.2.map V.int))
 mq:(es.map (·.2.1)).Nodup
 mw:(es.map (·.1)).Nodup
noncomputable def strip (es:List Lt):List (Int × List Int):=es.map fun e=>(e.1,e.2.2)
noncomputable def lg (g:List (Int × List Int)) (x h:Int):List (Int × List Int):=if x∈g.map (·.1) then g.map (fun e=>if e.1=x then (e.1,e.2 ++ [h]) else e) else g ++ [(x,[h])]
noncomputable def cy (fs:List Int):Nat->List (Int × List Int)
 | 0=>[]
 | i + 1=>lg (cy fs i) (fs.getD i 0) i
theorem GZ (x:Int):∀ es:List Lt,bK (dB es) (Sum.inl x:Key)=(es.find? fun e=>decide (e.1=x)).map fun e=>V.ref e.2.1
 | []=>rfl
 | e :: es=>by
  by_cases c:e.1=x
  ·rw[List.find?_cons_of_pos (by simpa using c)]
   exact sR (congrArg Sum.inl c)
  ·rw[List.find?_cons_of_neg (by simpa using c)]
   have:=GZ x es
   rw[<-this]
   exact sS (fun z=>c (Sum.inl.inj z))
theorem Rm (es:List Lt):(strip es).map (·.1)=es.map (·.1):=by unfold strip;rw[Wo];rfl
noncomputable def grow (es:List Lt) (x h:Int):List Lt:=es.map fun e=>if e.1=x then (e.1,e.2.1,e.2.2 ++ [h]) else e
theorem Rn (es:List Lt) (x h:Int):dB (grow es x h)=dB es:=by
 unfold dB grow
 rw[Wo]
 refine WR fun e _ => ?_
 show ((Sum.inl (if e.1=x then (e.1,e.2.1,e.2.2 ++ [h]) else e).1:Key),V.ref (if e.1=x then (e.1,e.2.1,e.2.2 ++ [h]) else e).2.1)=_
 split<;>rfl
theorem Ro (es:List Lt) (x h:Int):(grow es x h).map (·.2.1)=es.map (·.2.1):=by
 unfold grow
 rw[Wo]
 refine WR fun e _ => ?_
 show (if e.1=x then (e.1,e.2.1,e.2.2 ++ [h]) else e).2.1=_
 split<;>rfl
theorem Rp (es:List Lt) (x h:Int):(grow es x h).map (·.1)=es.map (·.1):=by
 unfold grow
 rw[Wo]
 refine WR fun e _ => ?_
 show (if e.1=x then (e.1,e.2.1,e.2.2 ++ [h]) else e).1=_
 split<;>rfl
theorem Rq {es:List Lt} {x h:Int} (hx:x∈es.map (·.1)):strip (grow es x h)=lg (strip es) x h:=by
 unfold lg
 rw[We (by rw[Rm];exact hx)]
 unfold strip grow
 rw[Wo,Wo]
 refine WR fun e _ => ?_
 show ((if e.1=x then (e.1,e.2.1,e.2.2 ++ [h]) else e).1,(if e.1=x then (e.1,e.2.1,e.2.2 ++ [h]) else e).2.2)=if e.1=x then (e.1,e.2.2 ++ [h]) else (e.1,e.2.2)
 split<;>rfl
theorem Rr {es:List Lt} (n:(es.map (·.1)).Nodup) {e e':Lt} (h:e∈es) (h':e'∈es) (q:e.1=e'.1):e=e':=by
 obtain⟨i,hi,rfl⟩:=WC.mp h
 obtain⟨j,hj,rfl⟩:=WC.mp h'
 have:=(XU (h₀ := by rw[oS];exact hi) (h₁ := by rw[oS];exact hj) n).mp (by rw[Xb,Xb];exact q)
 subst this;rfl
theorem Rt {es:List Lt} (n:(es.map (·.2.1)).Nodup) {e e':Lt} (h:e∈es) (h':e'∈es) (q:e.2.1=e'.2.1):e=e':=by
 obtain⟨i,hi,rfl⟩:=WC.mp h
 obtain⟨j,hj,rfl⟩:=WC.mp h'
 have:=(XU (h₀ := by rw[oS];exact hi) (h₁ := by rw[oS];exact hj) n).mp (by rw[Xb,Xb];exact q)
 subst this;rfl
theorem cL.grow {H:Hp} {es:List Lt} {e:Lt} {h:Int} (L:cL H es) (he:e∈es):cL (upd H e.2.1 (.lst (e.2.2.map V.int ++ [V.int h]))) (grow es e.1 h):=by
 refine⟨fun e' nK => ?_,by rw[Ro];exact L.mq,by rw[Rp];exact L.mw⟩
 unfold LJ.grow at nK
 obtain⟨d,hd,rfl⟩:=Mt.mp nK
 by_cases c:d.1=e.1
 ·obtain rfl:=Rr L.mw hd he c
  rw[We rfl]
  show upd H d.2.1 _ d.2.1=some (.lst ((d.2.2 ++ [h]).map V.int))
  rw[bA,Wz];rfl
 ·rw[VG c]
  rw[aM fun z=>c (by rw[Rt L.mq hd he z])]
  exact L.at_ d hd
theorem cL.snoc {H H':Hp} {es:List Lt} {x h:Int} {n:Addr} (L:cL H es) (hn:H n=none) (hx:x∉es.map (·.1)) (kp:∀ e∈es,H' e.2.1=H e.2.1) (h':H' n=some (.lst [V.int h])):cL H' (es ++ [(x,n,[h])]):=by
 refine⟨fun e he => ?_,?_,?_⟩
 ·rcases WD.mp he with q | q
  ·rw[kp e q];exact L.at_ e q
  ·rw[WB.mp q];exact h'
 ·rw[Wz]
  refine Xp.mpr ⟨L.mq,by simp,fun a ha b hb z => ?_⟩
  subst z
  obtain⟨e,he,rfl⟩:=Mt.mp ha
  have:e.2.1=n:=by simpa using hb
  rw[<-this,L.at_ e he] at hn
  cases hn
 ·rw[Wz]
  refine Xp.mpr ⟨L.mw,by simp,fun a ha b hb z => ?_⟩
  subst z
  have:a=x:=by simpa using hb
  exact hx (by rw[<-this];exact ha)
variable [aE]
noncomputable def Bd:GD:=fun ys ah K=>∃ (m:Int) (ws:List (Int × Int × Int)) (ns:List Int),bg m ws/\Nums ws ns/\ns.Nodup/\ns.length <= 900/\ys=[.p (aH m ws),.p (bp ns)]/\ah=[]/\K (.p (uo ((cy (f_ m ws ns) m.toNat).map (·.2)))) []
end LJ
namespace L2
open PySem
variable [aE]
section
variable {F F' H H':Hp} {ad aG:List Addr} {δ δ':az} {σ σ':St}
noncomputable def G0 (H:Hp) (v:V) (H':Hp):Prop:=∃ a b r,v = .ref a/\H a=none/\H' a=some (.lst (.ref b :: r))/\H b=none
end
section
variable {X:Cx} {V9 oZ mR qt:Stmt} {i n:Nat} {G:GD} {fa:WA} {t:WT} {B:TS} {E:XK}
end
end L2
namespace LJ
open PySem L2
variable [aE]
noncomputable def Ru:V->List V->Hp->VK->Prop:=fun x vs H Q=>∃ (d:Addr) (kvs:List (Key × V)) (k:Key) (dv:V),x = .ref d/\vs=[kV k,dv]/\H d=some (.dK kvs)/\kvs.length < sizeLine/\(∀ v,bK kvs k=some v->Q v H)/\(bK kvs k=none->Q dv (upd H d (.dK (putK kvs k dv))))
noncomputable def Rv:V->List V->Hp->VK->Prop:=fun x vs H Q=>∃ (d:Addr) (kvs:List (Key × V)),x = .ref d/\vs=[]/\H d=some (.dK kvs)/\∀ r,H r=none->Q (.ref r) (upd H r (gL r d))
noncomputable def Rw:List V->Hp->VK->Prop:=fun xs H Q=>∃ (r d:Addr) (kvs:List (Key × V)),xs=[.ref r]/\H r=some (gL r d)/\H d=some (.dK kvs)/\∀ l,H l=none->Q (.ref l) (upd H l (.lst (kvs.map (·.2))))
noncomputable def Rx:TS:=dH (jc (ak 2 wX (ai (aa 0) (ai (aa 1) af))))
noncomputable def Ry (Kf:PySem.W.Frag):TS:=jN (fR y4 (kO 2)) (jN (oj (yO Kf (eO (sk (lY rz 2) [] E0 (eO (eY 0) (eO (eY 1) gB))) gB)) (oe Kf 2 (vg (kO 3) (vg (kO 4) oa)))
 (x5 (lL Kf "list" yx (lL Kf "dict" Ru (eY 2) (eO (eY 4) (eO (oA gB) gB))) (eO (eY 3) gB))))
 (n9 (oC Rw (eO (oK Kf "dict" Rv (eY 2)) gB))))
theorem Rz {fs:List Int}:∀ {i:Nat},0 < i->cy fs i≠[]
 | i + 1,_,z=>by
  unfold cy lg at z
  split at z
  ·rename_i c
   rw[YR] at z
   rw[z] at c
   exact nomatch c
  ·simp at z
theorem RA {Kf:PySem.W.Frag} {H F0:Hp} {ad:List Addr} {vs:List V} {m:Int} {ws:List (Int × Int × Int)} {ns:List Int} {K':RV->List OV->Prop} {Q:VK} {Dd:Ends} (hl:vs.length=2) (W:bg m ws) (hn:Nums ws ns) (hd:ns.Nodup) (Be:ns.length <= 900)
  (hK:K' (.p (uo ((cy (f_ m ws ns) m.toNat).map (·.2)))) []) (S0:SR F0 ad ⟨[DV.p (aH m ws),DV.p (bp ns)].map some,([]:List OV).map some⟩ (vs.map some) H) (kk:∀ r ows,K' r ows->∀ v F' H',vW F0 ad H r ows v F' H'->G0 H v H'->Q v H') (hD:∀ v H',Q v H'->Dd.rt v H') :
  jN Rx (Ry Kf) Dd (start ["web", "ways", "lots", "house", "first"] vs) H:=by
 have ea:ad=[]:=by have:=S0.bW;simpa using this
 subst ea
 have S1:=S0.start (N:=["web", "ways", "lots", "house", "first"])
 rw[hl] at S1
 refine⟨F0,[],_,{ nx:=fun δ' => δ'=⟨[some (.p (aH m ws)),some (.p (bp ns)),none,none,none],[]⟩,rt:=fun _ _=>False },S1,?_,⟨?_,fun _ h=>h.elim,fun _ h=>h.elim,fun _ _ h=>h.elim⟩⟩
 ·simp? only []
  exact⟨m,ws,ns,W,hn,hd,Be,rfl,rfl,rfl⟩
 rintro δ' rfl F1 aK σ1 H1 E1 S1
 have ea:aK=[]:=by have:=S1.bW;simpa using this
 subst ea
 obtain⟨v0,e0,i0⟩:=S1.sl 0 _ rfl
 obtain⟨v1,e1,i1⟩:=S1.sl 1 _ rfl
 have hlen:=S1.len
 obtain⟨w2,w3,w4,rfl⟩:∃ w2 w3 w4,σ1=[some v0,some v1,w2,w3,w4]:=by
  obtain⟨a,r,rfl⟩:=Xy hlen
  obtain⟨b,r,rfl⟩:=Xy (X8 hlen)
  have hlen:=X8 (X8 hlen)
  obtain⟨c,r,rfl⟩:=Xy hlen
  obtain⟨d,r,rfl⟩:=Xy (X8 hlen)
  obtain⟨e,rfl⟩:=List.length_eq_one_iff.mp (X8 (X8 hlen))
  cases (show some a=some (some v0) from e0)
  cases (show some b=some (some v1) from e1)
  exact⟨c,d,e,rfl⟩
 intro dl lZ
 have uG:H dl=none:=by
  cases q:H dl with
  | none=>rfl
  | some u=>obtain⟨u',h'⟩:=E1.gM dl u q;rw[lZ] at h';cases h'
 have fl:F1 dl=none:=by
  cases q:F1 dl with
  | none=>rfl
  | some u=>rw[S1.sub dl u q] at lZ;cases lZ
 have nl:¬ Lv [] ([]:List (Option OV)) dl:=fun ⟨k,ov,z,_⟩=>by simp at z
 have S2:=S1.other (o := .dK []) fl nl (aE.same S1.tab (cX lZ))
 have E2:=E1.other (o := .dK []) uG
 refine⟨_,rfl,_,rfl,?_⟩
 refine zz (E:=E0) (xs:=[.p (aH m ws),.p (bp ns)]) (K:=fun r ows=>r = .p (bp (f_ m ws ns))/\ows=[]) S2 ⟨v0,_,rfl,i0,v1,_,rfl,i1,rfl⟩ rfl rfl rfl ⟨m,ws,ns,W,hn,.inl ⟨rfl,rfl,rfl,rfl⟩⟩ fun res ows v F3 H3 ⟨er,eo⟩ X3 S3 eG => ?_
 subst er eo
 have uH:(f_ m ws ns).length=m.toNat:=Qr
 have gJ:=W.gJ
 generalize f_ m ws ns=fs at hK eG uH
 have eG:Is F3 (.lst (fs.map D.int)) v:=eG
 simp only[Is] at eG
 obtain⟨g,us,rfl,hg,iu⟩:=eG
 have RB:=k7 iu
 subst RB
 have Bf:Ext F1 [] [] (upd H1 dl (.dK [])) F3 [] [] H3:=X3
 have E3:Ext F0 [] [] H F3 [] [] H3:=E2.trans Bf
 have wY:∀ a,¬ Lv [] ([]:List (Option OV)) a:=fun a ⟨k,ov,z,_⟩=>by simp at z
 have RC:dl∉aE.ad:=fun z=>by obtain⟨ps,q⟩:=aE.tb S1.tab z;rw[lZ] at q;cases q
 have wZ:H3 dl=some (.dK []):=Bf.keep dl _ bA (wY _) RC
 have w5:H3 g=some (.lst (fs.map V.int)):=S3.sub _ _ hg
 have RD:F3 dl=none:=by
  cases q:F3 dl with
  | none=>rfl
  | some u =>
   rcases Bf.new dl u q with z | z | z
   ·rw[fl] at z;cases z
   ·rw[bA] at z;cases z
   ·exact absurd z (wY _)
 have gd:g≠dl:=fun z=>by rw[z,wZ] at w5;cases w5
 refine⟨g,rfl,⟨_,a7.of w5⟩,?_⟩
 refine Ek (K:=Kf) (a:=g) (xs:=fs.map V.int) (fun i σ H4=>∃ (es:List Lt) (w3 w4:Option V),σ = [some v0,some v1,some (.ref dl),w3,w4]/\(∀ a o,H3 a=some o->a≠dl->H4 a=some o)/\aE.ok H4/\H4 dl=some (.dK (dB es))/\cL H4 es/\(∀ e∈es,H3 e.2.1=none)/\strip es=cy fs i/\es.length <= i/\∀ e∈es,e.2.2.length <= i) ?_ (fun i σ H4 _ ⟨_,_,_,_,kp,_⟩=>a7.of (kp g _ w5 gd)) ?_ ?_
 ·exact⟨[],w3,w4,rfl,fun a o e _=>e,S3.tab,wZ,⟨(fun e he=>nomatch he),YK,YK⟩,(fun e he=>nomatch he),rfl,qx _,fun e he=>nomatch he⟩
 ·rintro i x T' σ H4 hx ⟨es,w3,w4,rfl,kp,tk,nL,L4,fr,st,le,ll⟩ wO
  rw[D8] at hx
  obtain⟨y,ey,rfl⟩:=VI.mp hx
  have hi:=(oR.mp ey).1
  have eD:fs.getD i 0=y:=by rw[vo,ey];rfl
  have s5:aB H4 (upd H4 T' (.tup [.int (i:Int),.int y])):=la wO
  refine⟨T',_,rfl,bC.of bA,rfl,_,_,rfl,_,_,rfl,rfl,?_⟩
  have RE:=s5 _ _ nL
  refine⟨_,rfl,.inr (.inr (.inl ⟨rfl,.inl ⟨_,RE⟩⟩)),_,rfl,W6 _,fun en G1 => ?_⟩
  have s6:=s5.trans (la (o := .lst []) G1)
  have w6:=s6 _ _ nL
  have uI:upd (upd H4 T' (.tup [.int (i:Int),.int y])) en (.lst []) en=some (.lst []):=bA
  have ju:H4 en=none:=s5.free G1
  have rD:=aE.same tk s6
  generalize upd (upd H4 T' (.tup [.int (i:Int),.int y])) en (.lst [])=H6 at s6 w6 uI rD
  have L6:cL H6 es:=⟨fun e he=>s6 _ _ (L4.at_ e he),L4.mq,L4.mw⟩
  have Bg:en≠dl:=fun z=>by rw[z,nL] at ju;cases ju
  have uJ:H3 en=none:=by
   cases q:H3 en with
   | none=>rfl
   | some u=>rw[kp en u q Bg] at ju;cases ju
  have fv:=GZ y es
  refine⟨dl,dB es,Sum.inl y,.ref en,rfl,rfl,w6,lP (by unfold dB;rw[oS];omega),fun v hv => ?_,fun hv => ?_⟩
  ·rw[hv] at fv
   cases ff:es.find? fun e=>decide (e.1=y) with
   | none=>rw[ff] at fv;cases fv
   | some e =>
    rw[ff] at fv
    obtain rfl:v=V.ref e.2.1:=by simpa using fv
    have he:e∈es:=YO ff
    have ek:e.1=y:=by simpa using YW ff
    have g8:y∈es.map (·.1):=Mt.mpr ⟨e,he,ek⟩
    have Bh:=L6.at_ e he
    have Bi:e.2.1≠dl:=fun z=>by have:=fr e he;rw[z,wZ] at this;cases this
    refine⟨.inl ⟨rfl,_,a7.of Bh⟩,_,rfl,e.2.1,_,_,rfl,rfl,Bh,?_,?_⟩
    ·refine lP ?_
     rw[oS]
     have:=ll e he
     omega
    ·refine⟨LJ.grow es y i,_,_,rfl,fun b' o eb nb => ?_,aE.put rD Bh (.inl ⟨_,rfl⟩),?_,?_,?_,?_,?_,?_⟩
     ·rw[aM (cC eb (fr e he))];exact s6 _ _ (kp _ _ eb nb)
     ·rw[aM (Yi Bi),Rn];exact w6
     ·rw[<-ek];exact L6.grow he
     ·intro e' nK
      unfold LJ.grow at nK
      obtain⟨d,hd,rfl⟩:=Mt.mp nK
      have:=fr d hd
      split<;>exact this
     ·rw[Rq g8,st];show lg (cy fs i) y i=lg (cy fs i) (fs.getD i 0) i;rw[eD]
     ·unfold LJ.grow;rw[oS];omega
     ·intro e' nK
      unfold LJ.grow at nK
      obtain⟨d,hd,rfl⟩:=Mt.mp nK
      have:=ll d hd
      split
      ·show (d.2.2 ++ [(i:Int)]).length <= i + 1
       rw[D6,Wt];omega
      ·omega
  ·rw[hv] at fv
   have g8:y∉es.map (·.1):=fun z=>by
    obtain⟨e,he,ek⟩:=Mt.mp z
    cases ff:es.find? fun e=>decide (e.1=y) with
    | none=>exact absurd (YZ.mp ff e he) (by simpa using ek)
    | some e'=>rw[ff] at fv;cases fv
   have qc:upd H6 dl (.dK (putK (dB es) (Sum.inl y) (.ref en))) en=some (.lst []):=by rw[aM Bg];exact uI
   refine⟨.inl ⟨rfl,_,a7.of qc⟩,_,rfl,en,_,_,rfl,rfl,qc,lP (W6 _),?_⟩
   refine⟨es ++ [(y,en,[(i:Int)])],_,_,rfl,fun b' o eb nb => ?_,aE.put (aE.put rD w6 (.inr ⟨_,rfl⟩)) qc (.inl ⟨_,rfl⟩),?_,?_,?_,?_,?_,?_⟩
   ·rw[aM (cC eb uJ),aM nb];exact s6 _ _ (kp _ _ eb nb)
   ·rw[aM (Yi Bg),bA,MZ _ hv];unfold dB;rw[Wz];rfl
   ·refine L4.snoc ju g8 (fun e he => ?_) (by rw[bA];rfl)
    have ne1:e.2.1≠en:=cC (L4.at_ e he) ju
    have Bi:e.2.1≠dl:=fun z=>by have:=fr e he;rw[z,wZ] at this;cases this
    rw[aM ne1,aM Bi,L4.at_ e he];exact s6 _ _ (L4.at_ e he)
   ·intro e he
    rcases WD.mp he with q | q
    ·exact fr e q
    ·rw[WB.mp q];exact uJ
   ·unfold strip at st ⊢
    rw[Wz,st]
    show cy fs i ++ [(y,[(i:Int)])]=lg (cy fs i) (fs.getD i 0) i
    unfold lg
    rw[eD,VG (by rw[<-st,Wo];exact g8)]
   ·rw[D6,Wt];omega
   ·intro e he
    rcases WD.mp he with q | q
    ·have:=ll e q;omega
    ·rw[WB.mp q];show 1 <= i + 1;omega
 ·rintro σ H4 ⟨es,w3,w4,rfl,kp,tk,nL,L4,fr,st,le,ll⟩
  rw[oS,uH] at st
  refine⟨_,rfl,.inr (.inr (.inl ⟨rfl,.inl ⟨_,nL⟩⟩)),dl,_,rfl,rfl,nL,fun v hv => ?_⟩
  have s5:aB H4 (upd H4 v (gL v dl)):=la hv
  refine⟨v,dl,_,rfl,bA,s5 _ _ nL,fun r wV => ?_⟩
  have s6:=s5.trans (la (o := .lst ((dB es).map (·.2))) wV)
  have w9:H4 r=none:=s5.free wV
  have Bj:upd (upd H4 v (gL v dl)) r (.lst ((dB es).map (·.2))) r=some (.lst ((dB es).map (·.2))):=bA
  have rD:=aE.same tk s6
  generalize upd (upd H4 v (gL v dl)) r (.lst ((dB es).map (·.2)))=H5 at s6 Bj rD
  have RF:r≠dl:=fun z=>by rw[z,nL] at w9;cases w9
  have G2:H3 r=none:=by
   cases q:H3 r with
   | none=>rfl
   | some u=>rw[kp r u q RF] at w9;cases w9
  have non:∀ {x:Addr},H3 x=none->H x=none:=fun {x} e=>by
   cases q:H x with
   | none=>rfl
   | some u=>obtain⟨u',z⟩:=E3.gM x u q;rw[e] at z;cases z
  have RG:G0 H (.ref r) H5:=by
   cases es with
   | nil=>exact absurd st.symm (Rz (by have:=W.m1;omega))
   | cons e es=>exact⟨r,e.2.1,_,rfl,non G2,Bj,non (fr e yE)⟩
  refine hD _ _ (kk _ _ hK _ (Nw F3 H3 H5) _ ?_ RG)
  have sm:aB F3 (Nw F3 H3 H5):=Nw.same S3.sub
  refine⟨fun a o e => ?_,E3.same.trans sm,fun a o e => ?_,fun a o e _ t => ?_,rD,fun a ha => ?_,rfl,fun j ow e=>by simp at e,fun a ha=>by simp at ha,?_⟩
  ·unfold Nw at e
   cases q:H3 a with
   | none=>rw[q] at e;exact e
   | some u =>
    rw[q] at e
    have e:F3 a=some o:=e
    exact s6 _ _ (kp _ _ (S3.sub _ _ e) fun z=>by rw[z,RD] at e;cases e)
  ·unfold Nw at e
   cases q:H3 a with
   | none =>
    refine .inr ?_
    cases q0:H a with
    | none=>rfl
    | some u=>obtain⟨u',h'⟩:=E3.gM a u q0;rw[q] at h';cases h'
   | some u =>
    rw[q] at e
    have e:F3 a=some o:=e
    rcases E3.new a o e with z | z | z
    ·exact .inl z
    ·exact .inr z
    ·exact absurd z (wY _)
  ·exact s6 _ _ (kp _ _ (E3.keep a o e (wY _) t) fun z=>by rw[z,uG] at e;cases e)
  ·obtain⟨ps,q⟩:=aE.tb S3.tab ha
   unfold Nw;rw[q];exact S3.nt a ha
  ·show Is (Nw F3 H3 H5) (.lst (((cy fs m.toNat).map (·.2)).map bp)) _
   simp only[Is]
   refine⟨r,_,rfl,by unfold Nw;rw[G2];exact Bj,?_⟩
   rw[<-st]
   have key:∀ xs:List Lt,(∀ e∈xs,e∈es)->ae (Nw F3 H3 H5) (((strip xs).map (·.2)).map bp) ((dB xs).map (·.2)):=by
    intro xs
    induction xs with
    | nil=>intro _;exact .nil
    | cons e xs ih =>
     intro h
     show ae _ (bp e.2.2 :: _) (V.ref e.2.1 :: _)
     simp only[ae]
     refine⟨_,_,rfl,?_,ih fun x hx=>h x (Mp _ hx)⟩
     have he:=h e yE
     show Is _ (.lst (e.2.2.map D.int)) _
     simp only[Is]
     refine⟨e.2.1,e.2.2.map V.int,rfl,by unfold Nw;rw[fr e he];exact s6 _ _ (L4.at_ e he),ni⟩
   exact key es fun _ h=>h
noncomputable def w_ (p q:Int) (fs:List Int):List Int:=fs.map fun x=>if x=p then q else x
theorem RH {p q x y:Int}:(if x=p then q else x)=(if y=p then q else y)↔x=y\/((x=p\/x=q)/\(y=p\/y=q)):=by
 by_cases h1:x=p<;>by_cases h2:y=p
 ·rw[We h1,We h2];constructor<;>intro h<;>omega
 ·rw[We h1,VG h2];constructor<;>intro h<;>omega
 ·rw[VG h1,We h2];constructor<;>intro h<;>omega
 ·rw[VG h1,VG h2];constructor<;>intro h<;>omega
theorem G3 {f:Int->Int} {fs:List Int} {i:Nat} (h:i < fs.length):(fs.map f).getD i 0=f (fs.getD i 0):=by
 rw[vo,D8,lO h,vo,lO h];rfl
theorem RI (fs:List Int) (i j:Nat):gv fs i j=w_ (max (fs.getD i 0) (fs.getD j 0)) (min (fs.getD i 0) (fs.getD j 0)) fs:=rfl
theorem RJ (a b:Int):(max a b=a/\min a b=b)\/(max a b=b/\min a b=a):=by
 by_cases h:a <= b
 ·exact .inr ⟨Int.max_eq_right h,Int.min_eq_left h⟩
 ·exact .inl ⟨Int.max_eq_left (by omega),Int.min_eq_right (by omega)⟩
noncomputable def kq (ws:List (Int × Int × Int)) (st:List Int × List Int) (n:Int):List Int × List Int :=
 if st.2.getD (bV ws n).1 0=st.2.getD (bV ws n).2 0 then st else (st.1 ++ [n],gv st.2 (bV ws n).1 (bV ws n).2)
noncomputable def fK (ws:List (Int × Int × Int)) (fs ns:List Int):List Int × List Int:=ns.foldl (kq ws) ([],fs)
noncomputable def hU (m:Int) (ws:List (Int × Int × Int)) (ns:List Int):List Int:=sortI (fK ws (aL m.toNat) ns).1
theorem RK (ws:List (Int × Int × Int)) (st:List Int × List Int) (n:Int):(kq ws st n).2.length=st.2.length:=by
 unfold kq
 split
 ·rfl
 ·exact rq _ _ _
theorem Bk (ws:List (Int × Int × Int)):∀ (ns:List Int) (st:List Int × List Int),∃ l,(ns.foldl (kq ws) st).1=st.1 ++ l/\l.Sublist ns/\(ns.foldl (kq ws) st).2.length=st.2.length
 | [],st=>⟨[],by simp,.slnil,rfl⟩
 | n :: r,st=>by
  obtain⟨l,h1,h2,h3⟩:=Bk ws r (kq ws st n)
  rw[Zs]
  rw[RK] at h3
  unfold kq at h1 h3 ⊢
  split at h1
  ·rename_i q
   rw[We q] at h3 ⊢
   exact⟨l,h1,h2.cons _,h3⟩
  ·rename_i q
   rw[VG q] at h3 ⊢
   exact⟨n :: l,by rw[h1,Yh];rfl,h2.cons₂ _,h3⟩
theorem lh {a b:Int}:aA (.int a) (.int b)=decide (a=b):=by
 cases q:aA (.int a) (.int b)
 ·exact (VF fun z=>by rw[z,jf] at q;cases q).symm
 ·simp only[aA] at q
  exact (Mr (XD q)).symm
noncomputable def qd:GD:=fun ys ah K=>∃ (m:Int) (ws:List (Int × Int × Int)),bg m ws/\ys=[.p (aH m ws)]/\ah=[]/\∀ ns,bc ws ns->K (.n ((hU m ws ns).map D.int)) []
noncomputable def Bl:WS:=(au (aC 1 (ak 1 wW (ai (aa 0) af))) (au (aC 2 (qF af)) (au (aC 3 (ak 2 rz (ai (aa 0) (ai (aa 2) af)))) (au (dw (bO (aa 1)) (bE 4) (au (aC 5 (d2 (d2 (aa 0) (dC (.int 1)) aQ) (aa 4) aQ)) (a_ (dT (d2 (d2 (aa 3) (d2 (aa 5) (dC (.int 0)) aQ) aQ) (d2 (aa 3) (d2 (aa 5) (dC (.int 1)) aQ) aQ) l3)) (au (jc (j8 (aa 2) (ai (aa 4) af))) (aC 3 (ak 3 um (ai (aa 3) (ai (d2 (aa 5) (dC (.int 0)) aQ) (ai (d2 (aa 5) (dC (.int 1)) aQ) af)))))) cR))) (aF (wu (ai (aa 2) af) wx))))))
theorem RL:∀ ys ah K',ys.length=1->qd ys ah K'->Bl (bJ ah.length K') ⟨ys.map some ++ List.replicate 5 none,ah.map some⟩:=by
 rintro ys ah K' - ⟨m,ws,W,rfl,rfl,k⟩
 have qb:=W.gK
 have m1:=W.m1
 have gJ:=W.gJ
 unfold Bl
 refine aR fun N hN => ?_
 simp? only []
 refine⟨m,ws,W,rfl,rfl,fun ns ho => ?_⟩
 simp? only []
 subst hN
 refine aR fun N hN => ?_
 simp? only []
 subst hN
 refine aR fun N hN => ?_
 simp? only []
 refine⟨m,ws,[],W,fun n hn=>absurd hn W5,.inr ⟨rfl,rfl,?_⟩⟩
 simp? only []
 subst hN
 refine aR fun N hN=>pT fun g' b' K2 hg hb' hK => ?_
 simp? only []
 subst hg hb' hK
 have il:(aL m.toNat).length=m.toNat:=by unfold aL;simp
 have hlen:=ho.len
 have inv:∀ i,(fK ws (aL m.toNat) (ns.take i)).2.length=m.toNat/\(fK ws (aL m.toNat) (ns.take i)).1.length <= 30:=fun i=>by
  obtain⟨l,h1,h2,h3⟩:=Bk ws (ns.take i) ([],aL m.toNat)
  refine⟨h3.trans il,?_⟩
  have:(fK ws (aL m.toNat) (ns.take i)).1=l:=h1
  rw[this]
  have:=h2.length_le
  rw[Wu] at this
  omega
 refine k8 (fun i δ => δ = ⟨[some (.p (aH m ws)),some (.p (.lst (ns.map D.int))),some (.o 0),some (.p (bp (fK ws (aL m.toNat) (ns.take i)).2)),none,none],[some (.lst ((fK ws (aL m.toNat) (ns.take i)).1.map D.int))]⟩) rfl ?_ ?_
 ·rintro i d δ L hi rfl hL
  rw[D8] at hi
  obtain⟨n,G4,rfl⟩:=VI.mp hi
  obtain⟨n0,n1⟩:=ho.nums n (Ws G4)
  obtain⟨y,ey,hy,ea,a,b,e1,e2,h1,h2,_⟩:=kg W n0 n1
  have en:bV ws n=(a,b):=by unfold bV;rw[ey,e1,e2,Wj,Wj]
  obtain⟨hf,hl⟩:=inv i
  have step:fK ws (aL m.toNat) (ns.take (i + 1))=kq ws (fK ws (aL m.toNat) (ns.take i)) n:=by
   have:ns.take (i + 1)=ns.take i ++ [n]:=by rw[XZ,G4];rfl
   rw[this]
   unfold fK
   rw[ZO];rfl
  have kr:=hL _ rfl
  rw[step] at kr
  generalize fK ws (aL m.toNat) (ns.take i)=st at hf hl kr
  obtain⟨acc,fs⟩:=st
  dsimp only at hf hl kr ⊢
  unfold kq at kr
  rw[en] at kr
  dsimp only at kr
  refine⟨trivial,?_⟩
  simp only[bE,WW,WX]
  refine aR fun N2 dY => ?_
  simp? only [eK,aH,ea]
  subst dY
  have a1:=pX (ns:=fs) (i:=a) (by omega)
  have a2:=pX (ns:=fs) (i:=b) (by omega)
  refine ip fun Ay Bn hA hB => ?_
  simp? only [dX,eK,bq,e1,e2,bp,a1,a2,lh]
  by_cases q:fs.getD a 0=fs.getD b 0
  ·rw[Mr q]
   simp? only []
   subst hB
   rw[We q] at kr
   simp? only []
   exact kr
  ·rw[VF q]
   simp? only []
   subst hA
   rw[VG q] at kr
   refine aR fun N2 dY => ?_
   simp? only []
   refine⟨by omega,?_⟩
   subst dY
   simp? only [dX,eK]
   refine⟨fs,a,b,rfl,rfl,by omega,by omega,by omega,?_⟩
   simp? only []
   rw[Wz] at kr
   exact kr
 ·rintro δ rfl
  refine⟨trivial,?_⟩
  obtain⟨hf,hl⟩:=inv ns.length
  rw[oS,WM (qx _)] at *
  show N _
  subst hN
  simp? only [wx,tJ]
  exact⟨by omega,[],rfl,rfl,.inl (k ns ho)⟩
end LJ
namespace LJ
open PySem L2
noncomputable abbrev Wy:=Int × Int × Int
noncomputable def xa (S:Wy->Prop) (a b:Int):Prop:=∃ w,S w/\((w.1=a/\w.2.1=b)\/(w.1=b/\w.2.1=a))
inductive ar (S:Wy->Prop) (a:Int):Int->Prop
 | rf:ar S a a
 | st {b c:Int}:ar S a b->xa S b c->ar S a c
section
variable {S S':Wy->Prop} {a b c:Int}
theorem xa.symm (h:xa S a b):xa S b a:=let ⟨w,h1,h2⟩:=h; ⟨w,h1,h2.symm⟩
theorem ar.trans (h:ar S a b) (h':ar S b c):ar S a c:=by
 induction h' with
 | rf=>exact h
 | st _ e ih=>exact .st ih e
theorem ar.symm (h:ar S a b):ar S b a:=by
 induction h with
 | rf=>exact .rf
 | st _ e ih=>exact (ar.st .rf e.symm).trans ih
theorem ar.bind (h:ar S a b) (k:∀ w,S w->ar S' w.1 w.2.1):ar S' a b:=by
 induction h with
 | rf=>exact .rf
 | st _ e ih =>
  obtain⟨w,h1,h2⟩:=e
  rcases h2 with⟨rfl,rfl⟩ | ⟨rfl,rfl⟩
  ·exact ih.trans (k w h1)
  ·exact ih.trans (k w h1).symm
theorem ar.one {w:Wy} (h:S w):ar S w.1 w.2.1 := .st .rf ⟨w,h,.inl ⟨rfl,rfl⟩⟩
theorem ar.mono (h:ar S a b) (k:∀ w,S w->S' w):ar S' a b:=h.bind fun w hw => .one (k w hw)
theorem ar.none (h:ar S a b) (k:∀ w,¬ S w):a=b:=by
 cases h with
 | rf=>rfl
 | st _ e=>obtain⟨w,h1,_⟩:=e;exact absurd h1 (k w)
theorem ar.add {w:Wy} (k:∀ v,S' v↔S v\/v=w):ar S' a b↔ar S a b\/(ar S a w.1/\ar S w.2.1 b)\/(ar S a w.2.1/\ar S w.1 b):=by
 constructor
 ·intro h
  induction h with
  | rf=>exact .inl .rf
  | st _ e ih =>
   rename_i b c _
   obtain⟨v,h1,h2⟩:=e
   rcases (k v).mp h1 with h1 | rfl
   ·have e':ar S b c := .st .rf ⟨v,h1,h2⟩
    rcases ih with i | ⟨i,j⟩ | ⟨i,j⟩
    ·exact .inl (i.trans e')
    ·exact .inr (.inl ⟨i,j.trans e'⟩)
    ·exact .inr (.inr ⟨i,j.trans e'⟩)
   ·rcases h2 with⟨rfl,rfl⟩ | ⟨rfl,rfl⟩
    ·rcases ih with i | ⟨i,j⟩ | ⟨i,j⟩
     ·exact .inr (.inl ⟨i,.rf⟩)
     ·exact .inr (.inl ⟨i,.rf⟩)
     ·exact .inl i
    ·rcases ih with i | ⟨i,j⟩ | ⟨i,j⟩
     ·exact .inr (.inr ⟨i,.rf⟩)
     ·exact .inl i
     ·exact .inr (.inr ⟨i,.rf⟩)
 ·have up:∀ {x y},ar S x y->ar S' x y:=fun h=>h.mono fun v hv=>(k v).mpr (.inl hv)
  have o:ar S' w.1 w.2.1 := .one ((k w).mpr (.inr rfl))
  rintro (h | ⟨h,h'⟩ | ⟨h,h'⟩)
  ·exact up h
  ·exact ((up h).trans o).trans (up h')
  ·exact ((up h).trans o.symm).trans (up h')
end
variable [aE]
noncomputable def aS (n:Nat) (fs:List Int) (S:Wy->Prop):Prop:=fs.length=n/\∀ i j:Nat,i < n->j < n->(fs.getD i 0=fs.getD j 0↔ar S i j)
theorem G5 {n i:Nat} (h:i < n):(aL n).getD i 0=i:=by
 unfold aL
 rw[vo,D8,W0 h];rfl
theorem aS.start (n:Nat):aS n (aL n) (fun _=>False):=by
 refine⟨by unfold aL;simp,fun i j hi hj => ?_⟩
 rw[G5 hi,G5 hj]
 exact⟨fun e=>by rw[e];exact .rf,fun h=>h.none fun _ z=>z⟩
theorem aS.join {n i j:Nat} {fs:List Int} {S S':Wy->Prop} {w:Wy} {p q:Int} (h:aS n fs S) (hi:i < n) (hj:j < n) (e1:w.1=i) (e2:w.2.1=j) (k:∀ v,S' v↔S v\/v=w) (pq:(p=fs.getD i 0/\q=fs.getD j 0)\/(p=fs.getD j 0/\q=fs.getD i 0)):aS n (w_ p q fs) S':=by
 refine⟨by unfold w_;rw[oS,h.1],fun x y hx hy => ?_⟩
 unfold w_
 rw[G3 (by rw[h.1];exact hx),G3 (by rw[h.1];exact hy),RH,ar.add k,e1,e2,<-h.2 x y hx hy,<-h.2 x i hx hi,<-h.2 x j hx hj,<-h.2 j y hj hy,<-h.2 i y hi hy]
 rcases pq with⟨rfl,rfl⟩ | ⟨rfl,rfl⟩
 ·constructor
  ·rintro (h | ⟨h1 | h1,h2 | h2⟩)
   ·exact .inl h
   ·exact .inl (h1.trans h2.symm)
   ·exact .inr (.inl ⟨h1,h2.symm⟩)
   ·exact .inr (.inr ⟨h1,h2.symm⟩)
   ·exact .inl (h1.trans h2.symm)
  ·rintro (h | ⟨h1,h2⟩ | ⟨h1,h2⟩)
   ·exact .inl h
   ·exact .inr ⟨.inl h1,.inr h2.symm⟩
   ·exact .inr ⟨.inr h1,.inl h2.symm⟩
 ·constructor
  ·rintro (h | ⟨h1 | h1,h2 | h2⟩)
   ·exact .inl h
   ·exact .inl (h1.trans h2.symm)
   ·exact .inr (.inr ⟨h1,h2.symm⟩)
   ·exact .inr (.inl ⟨h1,h2.symm⟩)
   ·exact .inl (h1.trans h2.symm)
  ·rintro (h | ⟨h1,h2⟩ | ⟨h1,h2⟩)
   ·exact .inl h
   ·exact .inr ⟨.inr h1,.inl h2.symm⟩
   ·exact .inr ⟨.inl h1,.inr h2.symm⟩
theorem aS.eU {n i j:Nat} {fs:List Int} {S S':Wy->Prop} {w:Wy} (h:aS n fs S) (hi:i < n) (hj:j < n) (e1:w.1=i) (e2:w.2.1=j) (k:∀ v,S' v↔S v\/v=w) (e:fs.getD i 0=fs.getD j 0):aS n fs S':=by
 refine⟨h.1,fun x y hx hy=>(h.2 x y hx hy).trans ?_⟩
 have ij:=(h.2 i j hi hj).mp e
 rw[ar.add k,e1,e2]
 exact⟨.inl,fun z=>z.elim id fun z=>z.elim (fun ⟨a,b⟩=>(a.trans ij).trans b) fun ⟨a,b⟩=>(a.trans ij.symm).trans b⟩
noncomputable def aq (ws:List Wy) (n:Int):Wy:=ws.getD n.toNat (0,0,0)
theorem RM {m:Int} {ws:List Wy} (W:bg m ws):∀ (ns:List Int),Nums ws ns->ns.Nodup->aS m.toNat (fK ws (aL m.toNat) ns).2 (fun v=>∃ k∈ns,v=aq ws k) ∧
  ∀ n,n∈(fK ws (aL m.toNat) ns).1↔∃ as bs,ns=as ++ n :: bs/\¬ ar (fun v=>∃ k∈as,v=aq ws k) (aq ws n).1 (aq ws n).2.1:=by
 intro ns
 have rev:∀ (rs:List Int),Nums ws rs.reverse->rs.reverse.Nodup->aS m.toNat (fK ws (aL m.toNat) rs.reverse).2 (fun v=>∃ k∈rs.reverse,v=aq ws k) ∧
  ∀ n,n∈(fK ws (aL m.toNat) rs.reverse).1↔∃ as bs,rs.reverse=as ++ n :: bs/\¬ ar (fun v=>∃ k∈as,v=aq ws k) (aq ws n).1 (aq ws n).2.1:=by
  intro rs
  induction rs with
  | nil =>
   intro _ _
   refine⟨?_,fun n=>⟨fun h=>absurd h W5,fun ⟨as,bs,e,_⟩ => ?_⟩⟩
   ·refine⟨(aS.start _).1,fun i j hi hj=>((aS.start _).2 i j hi hj).trans ⟨fun h=>h.mono fun _ z=>z.elim,fun h=>h.mono fun v ⟨k,hk,_⟩=>absurd hk W5⟩⟩
   ·exact absurd e (by simp)
  | cons r rs ih =>
   intro hn nd
   rw[List.reverse_cons] at hn nd ⊢
   have iC:Nums ws rs.reverse:=fun x hx=>hn x (WJ _ hx)
   have RN:=(Xp.mp nd).1
   obtain⟨mk,mem⟩:=ih iC RN
   obtain⟨r0,r1⟩:=hn r (Mq _ yE)
   obtain⟨y,ey,hy,_,i,j,e1,e2,h1,h2,_⟩:=kg W r0 r1
   have ew:aq ws r=y:=ey
   have en:bV ws r=(i,j):=by unfold bV;rw[ey,e1,e2,Wj,Wj]
   have step:fK ws (aL m.toNat) (rs.reverse ++ [r])=kq ws (fK ws (aL m.toNat) rs.reverse) r:=by unfold fK;rw[ZO];rfl
   have kS:∀ v,(∃ k∈rs.reverse ++ [r],v=aq ws k)↔(∃ k∈rs.reverse,v=aq ws k)\/v=aq ws r:=fun v=>by
    constructor
    ·rintro ⟨k,hk,rfl⟩
     rcases WD.mp hk with hk | hk
     ·exact .inl ⟨k,hk,rfl⟩
     ·rw[WB.mp hk];exact .inr rfl
    ·rintro (⟨k,hk,rfl⟩ | rfl)
     ·exact⟨k,WJ _ hk,rfl⟩
     ·exact⟨r,Mq _ yE,rfl⟩
   have split:∀ n (P:List Int->Prop),(∃ as bs,rs.reverse ++ [r]=as ++ n :: bs/\P as)↔(∃ as bs,rs.reverse=as ++ n :: bs/\P as)\/(n=r/\P rs.reverse):=fun n P=>by
    constructor
    ·rintro ⟨as,bs,e,hp⟩
     rcases List.eq_nil_or_concat bs with rfl | ⟨G6,z,rfl⟩
     ·have:=List.append_inj' e rfl
      obtain⟨rfl,e3⟩:=this
      cases e3
      exact .inr ⟨rfl,hp⟩
     ·have e':rs.reverse ++ [r]=(as ++ n :: G6) ++ [z]:=by rw[e];simp
      obtain⟨e3,_⟩:=List.append_inj' e' rfl
      exact .inl ⟨as,G6,e3,hp⟩
    ·rintro (⟨as,bs,e,hp⟩ | ⟨rfl,hp⟩)
     ·exact⟨as,bs ++ [r],by rw[e];simp,hp⟩
     ·exact⟨rs.reverse,[],rfl,hp⟩
   rw[step]
   unfold kq
   rw[en]
   dsimp only
   have G7:=mk.2 i j h1 h2
   by_cases q:(fK ws (aL m.toNat) rs.reverse).2.getD i 0=(fK ws (aL m.toNat) rs.reverse).2.getD j 0
   ·rw[We q]
    refine⟨mk.eU (w:=aq ws r) h1 h2 (by rw[ew];exact e1) (by rw[ew];exact e2) kS q,fun n => ?_⟩
    rw[split n (fun as=>¬ ar (fun v=>∃ k∈as,v=aq ws k) (aq ws n).1 (aq ws n).2.1),mem n]
    refine⟨.inl,fun z=>z.elim id fun ⟨e,hc⟩ => ?_⟩
    subst e
    rw[ew,e1,e2] at hc
    exact absurd (G7.mp q) hc
   ·rw[VG q]
    refine⟨?_,fun n => ?_⟩
    ·dsimp only
     rw[RI]
     exact mk.join (w:=aq ws r) h1 h2 (by rw[ew];exact e1) (by rw[ew];exact e2) kS (RJ _ _)
    ·rw[split n (fun as=>¬ ar (fun v=>∃ k∈as,v=aq ws k) (aq ws n).1 (aq ws n).2.1)]
     dsimp only
     rw[WD,mem n,WB]
     refine or_congr Iff.rfl ⟨fun e=>⟨e,?_⟩,fun h=>h.1⟩
     subst e
     rw[ew,e1,e2]
     exact fun z=>q (G7.mpr z)
 intro hn nd
 have:=rev ns.reverse (by rw[Zq];exact hn) (by rw[Zq];exact nd)
 rw[Zq] at this
 exact this
noncomputable def gX (w:Wy):LK:=[w.2.2,w.1,w.2.1]
noncomputable def bP (v w:Wy):Prop:=HT.lexLt (gX v) (gX w)=true
noncomputable def bt (ws:List Wy) (w:Wy):Prop:=w∈ws/\¬ ar (fun v=>v∈ws/\bP v w) w.1 w.2.1
theorem G8 (ws:List Wy) (n:Int):eM ws n=gX (aq ws n):=rfl
theorem my {ws:List Wy} {n:Int} (h0:0 <= n) (h1:n < (ws.length:Int)):aq ws n∈ws:=by
 unfold aq
 exact Ws (getD_some (by omega))
theorem lj {ws:List Wy} {w:Wy} (h:w∈ws):∃ n:Int,(0 <= n/\n < (ws.length:Int))/\aq ws n=w:=by
 obtain⟨i,hi⟩:=VD.mp h
 have hl:=(oR.mp hi).1
 refine⟨i,⟨by omega,by omega⟩,?_⟩
 unfold aq
 rw[Wj,vo,hi];rfl
theorem G9 {a b:LK} (h:kle a b) (n:a≠b):HT.lexLt a b=true:=by
 cases q:HT.lexLt a b with
 | true=>rfl
 | false=>exact absurd (tW q h) n
theorem G_ {m:Int} {ws:List Wy} (W:bg m ws) {ns:List Int} (ho:bc ws ns) {n:Int}:n∈hU m ws ns↔(0 <= n/\n < (ws.length:Int))/\bt ws (aq ws n):=by
 have nd:ns.Nodup:=ho.perm.nodup_iff.mpr (rB _)
 unfold hU
 rw[(sortI_perm _).mem_iff,(RM W ns ho.nums nd).2 n]
 have before:∀ as bs,ns=as ++ n :: bs->∀ v,(∃ k∈as,v=aq ws k)↔(v∈ws/\bP v (aq ws n)):=fun as bs e v=>by
  have up:=ho.up
  rw[e,Wz,Wr,List.pairwise_append,W9] at up
  obtain⟨_,⟨u2,_⟩,u3⟩:=up
  have hn:n∈ns:=by rw[e];exact Mq _ yE
  have nn:=ho.nums n hn
  rw[e] at nd
  have RO:=Xp.mp nd
  constructor
  ·rintro ⟨k,hk,rfl⟩
   have fu:k∈ns:=by rw[e];exact WJ _ hk
   have kn:=ho.nums k fu
   refine⟨my kn.1 kn.2,G9 (u3 _ (Ys hk) _ yE) fun z => ?_⟩
   have:=Q_ W kn nn z
   subst this
   exact RO.2.2 k hk k yE rfl
  ·rintro ⟨hv,bX⟩
   obtain⟨k,kn,rfl⟩:=lj hv
   have hk:k∈ns:=ho.perm.mem_iff.mpr (by
    unfold aL
    exact Mt.mpr ⟨k.toNat,Wl.mpr (by omega),by simp;omega⟩)
   rw[e] at hk
   rcases WD.mp hk with hk | hk
   ·exact⟨k,hk,rfl⟩
   ·exfalso
    rcases VE.mp hk with rfl | hk
    ·have:HT.lexLt (gX (aq ws k)) (gX (aq ws k))=true:=bX
     rw[qX] at this;cases this
    ·have:=u2 _ (Ys hk)
     have h2:HT.lexLt (eM ws k) (eM ws n)=true:=bX
     unfold kle at this
     rw[this] at h2;cases h2
 constructor
 ·rintro ⟨as,bs,e,hc⟩
  have nn:=ho.nums n (by rw[e];exact Mq _ yE)
  exact⟨nn,my nn.1 nn.2,fun z=>hc (z.mono fun v hv=>(before as bs e v).mpr hv)⟩
 ·rintro ⟨nn,_,hc⟩
  have hn:n∈ns:=ho.perm.mem_iff.mpr (by
   unfold aL
   exact Mt.mpr ⟨n.toNat,Wl.mpr (by omega),by simp;omega⟩)
  obtain⟨as,bs,e⟩:=List.append_of_mem hn
  exact⟨as,bs,e,fun z=>hc (z.mono fun v hv=>(before as bs e v).mp hv)⟩
theorem Ha {m:Int} {ws:List Wy} {ns:List Int} (ho:bc ws ns):(hU m ws ns).Nodup:=by
 unfold hU
 refine (sortI_perm _).nodup_iff.mpr ?_
 obtain⟨l,h1,h2,_⟩:=Bk ws ns ([],aL m.toNat)
 have:(fK ws (aL m.toNat) ns).1=l:=h1
 rw[this]
 exact (ho.perm.nodup_iff.mpr (rB _)).sublist h2
noncomputable def Bm (m:Int) (ws:List Wy) (ns:List Int):List Wy:=(hU m ws ns).map (aq ws)
open Classical in
theorem RP {m:Int} {ws:List Wy} (W:bg m ws) {ns:List Int} (ho:bc ws ns):Bm m ws ns=ws.filter fun w=>decide (bt ws w):=by
 have e1:hU m ws ns=(aL ws.length).filter fun n=>decide (bt ws (aq ws n)):=by
  have s1:(hU m ws ns).Pairwise (· <= ·):=Fp _
  have s2:((aL ws.length).filter fun n=>decide (bt ws (aq ws n))).Pairwise (· <= ·):=by
   refine List.Pairwise.filter _ ?_
   unfold aL
   rw[Xe]
   exact Xx.imp fun {a b} h=>by omega
  refine zQ ?_ s1 s2
  refine (YL (Ha ho) ((rB _).sublist Yr)).mpr fun n => ?_
  rw[G_ W ho,Wm,Ww]
  refine and_congr ⟨fun h => ?_,fun h=>rA h⟩ Iff.rfl
  unfold aL
  exact Mt.mpr ⟨n.toNat,Wl.mpr (by omega),by simp;omega⟩
 have e2:(aL ws.length).map (aq ws)=ws:=by
  refine Yg fun i => ?_
  unfold aL
  rw[Wo,D8]
  by_cases hi:i < ws.length
  ·rw[W0 hi,lO hi]
   show some (aq ws (i:Int))=_
   unfold aq
   rw[Wj,vo,lO hi];rfl
  ·rw[WZ (by rw[Xd];omega),WZ (by omega)];rfl
 unfold Bm
 rw[e1]
 conv=>rhs;rw[<-e2]
 rw[XG]
 congr 1
 rw[e2];rfl
end LJ
namespace LJ
open PySem L2
open Classical in
noncomputable def fL (ws:List Wy):List Wy:=ws.filter fun w=>decide (bt ws w)
variable [aE]
theorem Hb {m:Int} {ws:List Wy} (W:bg m ws) {ns:List Int} (ho:bc ws ns):Bm m ws ns=fL ws:=RP W ho
open Classical in
theorem gY {ws:List Wy} {w:Wy}:w∈fL ws↔bt ws w:=by
 unfold fL
 rw[Wm,Ww]
 exact⟨fun h=>h.2,fun h=>⟨h.1,h⟩⟩
theorem RQ (ws:List Wy):(fL ws).Sublist ws:=Yr
theorem Bo {m:Int} {ws:List Wy} (W:bg m ws):ws.Nodup:=by
 have:=W.unlike
 unfold List.Nodup at this ⊢
 rw[Xe] at this
 exact this.imp fun {a b} h e=>h (by rw[e])
theorem RR {p q a b c d:Int}:HT.lexLt [p,a,b] [q,c,d]=if p=q then HT.lexLt [a,b] [c,d] else decide (p < q):=rfl
noncomputable def fA (ws:List Wy) (w:Wy):Nat:=ws.countP fun v=>HT.lexLt (gX v) (gX w)
theorem Hc {α : Type} {p q : α -> Bool} {x : α}:∀ {l:List α},(∀ y∈l,p y=true->q y=true)->x∈l->q x=true->p x=false->l.countP p < l.countP q
 | y :: l,h,hx,h1,h2=>by
  have le:l.countP p <= l.countP q:=List.countP_mono_left fun z hz=>h z (Mp _ hz)
  rw[XT,XT]
  rcases VE.mp hx with rfl | hx
  ·rw[h1,h2];simp;omega
  ·have:=Hc (fun z hz=>h z (Mp _ hz)) hx h1 h2
   have hy:=h y yE
   cases q1:p y with
   | false=>simp;split<;>omega
   | true=>rw[hy q1];simp;omega
theorem nM {ws:List Wy} {u v:Wy} (hu:u∈ws) (h:bP u v):fA ws u < fA ws v :=
 Hc (fun y _ hy=>qY hy h) hu h (qX _)
theorem xb {ws:List Wy}:∀ (k:Nat) (v:Wy),v∈ws->fA ws v <= k->ar (fun u=>bt ws u/\(bP u v\/u=v)) v.1 v.2.1
 | k,v,hv,hk=>by
  by_cases t:bt ws v
  ·exact .one ⟨t,.inr rfl⟩
  ·have c:ar (fun u=>u∈ws/\bP u v) v.1 v.2.1:=WQ fun z=>t ⟨hv,z⟩
   refine c.bind fun u hu => ?_
   have lt:=nM hu.1 hu.2
   match k,hk with
   | 0,hk=>omega
   | k + 1,hk =>
    refine (xb k u hu.1 (by omega)).mono fun x hx=>⟨hx.1,.inl ?_⟩
    rcases hx.2 with h | rfl
    ·exact qY h hu.2
    ·exact hu.2
theorem RS {m:Int} {ws us:List Wy} (W:bg m ws) (s:us.Sublist ws):bg m us :=
 ⟨W.m1,W.gJ,Xg s.length_le W.gK,fun y hy=>W.ends y (s.subset hy),W.unlike.sublist (s.map _)⟩
theorem qe (n:Nat):(aL n).length=n:=by unfold aL;simp
structure Good (fs:List Int):Prop where
 le:∀ h:Nat,h < fs.length->0 <= fs.getD h 0/\fs.getD h 0 <= h
 own:∀ h:Nat,h < fs.length->fs.getD (fs.getD h 0).toNat 0=fs.getD h 0
theorem getD_at {fs:List Int} {h:Nat} (hl:h < fs.length):fs.getD h 0=fs[h]:=by rw[vo,lO hl];rfl
theorem RT {fs:List Int} {i j h:Nat} (hl:h < fs.length):(gv fs i j).getD h 0=if fs.getD h 0=max (fs.getD i 0) (fs.getD j 0) then min (fs.getD i 0) (fs.getD j 0) else fs.getD h 0:=by
 rw[getD_at (by rw[rq];exact hl),getD_at hl]
 unfold gv
 rw[Xb]
theorem RU (n:Nat):Good (aL n):=by
 have e:∀ h:Nat,h < (aL n).length->(aL n).getD h 0=h:=fun h hl=>by
  rw[qe] at hl
  rw[aL,vo,D8,W0 hl];rfl
 refine⟨fun h hl=>by rw[e h hl];omega,fun h hl => ?_⟩
 rw[e h hl,Wj,e h hl]
theorem Good.join {fs:List Int} (G:Good fs) {i j:Nat} (hi:i < fs.length) (hj:j < fs.length):Good (gv fs i j):=by
 have a1:=G.le i hi
 have a2:=G.le j hj
 have o1:=G.own i hi
 have o2:=G.own j hj
 generalize hg:max (fs.getD i 0) (fs.getD j 0)=g
 generalize hk:min (fs.getD i 0) (fs.getD j 0)=k
 have gk:0 <= k/\k <= g/\k.toNat < fs.length/\fs.getD k.toNat 0=k:=by
  rw[<-hg,<-hk]
  rcases Int.le_total (fs.getD i 0) (fs.getD j 0) with c | c
  ·rw[Int.min_eq_left c,Int.max_eq_right c];exact⟨a1.1,c,by omega,o1⟩
  ·rw[Int.min_eq_right c,Int.max_eq_left c];exact⟨a2.1,c,by omega,o2⟩
 have at_:∀ h,h < fs.length->(gv fs i j).getD h 0=if fs.getD h 0=g then k else fs.getD h 0:=fun h hl=>by rw[RT hl,hg,hk]
 refine⟨fun h hl => ?_,fun h hl => ?_⟩
 ·rw[rq] at hl
  have:=G.le h hl
  rw[at_ h hl]
  split<;>omega
 ·rw[rq] at hl
  have b:=G.le h hl
  have c:=G.own h hl
  rw[at_ h hl]
  by_cases d:fs.getD h 0=g
  ·rw[We d,at_ _ gk.2.2.1,gk.2.2.2]
   split<;>rfl
  ·rw[VG d,at_ _ (by omega),c,VG d]
theorem Hd {m:Int} {ws:List Wy} (W:bg m ws) {n:Int} (h0:0 <= n) (h1:n < (ws.length:Int)):∃ i k:Nat,bV ws n=(i,k)/\(aq ws n).1=i/\(aq ws n).2.1=k/\i < m.toNat/\k < m.toNat:=by
 obtain⟨y,ey,hy,_,i,k,e1,e2,h1,h2,_⟩:=kg W h0 h1
 refine⟨i,k,?_,by unfold aq;rw[ey];exact e1,by unfold aq;rw[ey];exact e2,h1,h2⟩
 unfold bV
 rw[ey,e1,e2,Wj,Wj]
theorem He {m:Int} {ws:List Wy} (W:bg m ws):∀ (ns fs:List Int),Nums ws ns->fs.length=m.toNat->Good fs->Good (iQ ws fs ns)
 | [],_,_,_,G=>G
 | n :: ns,fs,hn,hl,G=>by
  have b:=hn n (yE ..)
  obtain⟨i,k,e,_,_,h1,h2⟩:=Hd W b.1 b.2
  refine He W ns _ (fun x hx=>hn x (Mp _ hx)) (by rw[rq];exact hl) ?_
  show Good (gv fs (bV ws n).1 (bV ws n).2)
  rw[e]
  exact G.join (by omega) (by omega)
theorem Hf {m:Int} {ws:List Wy} (W:bg m ws):∀ (ns fs:List Int) (S:Wy->Prop),Nums ws ns->aS m.toNat fs S->aS m.toNat (iQ ws fs ns) (fun v=>S v\/∃ k∈ns,v=aq ws k)
 | [],fs,S,_,h=>by
  have:(fun v=>S v\/∃ k∈([]:List Int),v=aq ws k)=S:=funext fun v=>propext (by simp)
  rw[this];exact h
 | n :: ns,fs,S,hn,h=>by
  have b:=hn n (yE ..)
  obtain⟨i,k,e,e1,e2,h1,h2⟩:=Hd W b.1 b.2
  have step:aS m.toNat (gv fs i k) (fun v=>S v\/v=aq ws n):=by
   refine aS.join (w:=aq ws n) (p:=max (fs.getD i 0) (fs.getD k 0)) (q:=min (fs.getD i 0) (fs.getD k 0)) h h1 h2 e1 e2 (fun v=>Iff.rfl) ?_
   omega
  have:=Hf W ns _ _ (fun x hx=>hn x (Mp _ hx)) step
  have eq:(fun v=>(S v\/v=aq ws n)\/∃ k∈ns,v=aq ws k)=(fun v=>S v\/∃ k∈n :: ns,v=aq ws k):=funext fun v=>propext (by
   constructor
   ·rintro ((h | h) | ⟨k,hk,h⟩)
    ·exact .inl h
    ·exact .inr ⟨n,yE,h⟩
    ·exact .inr ⟨k,Mp _ hk,h⟩
   ·rintro (h | ⟨k,hk,h⟩)
    ·exact .inl (.inl h)
    ·rcases VE.mp hk with rfl | hk
     ·exact .inl (.inr h)
     ·exact .inr ⟨k,hk,h⟩)
  rw[eq] at this
  show aS _ (iQ ws (gv fs (bV ws n).1 (bV ws n).2) ns) _
  rw[e]
  exact this
noncomputable def fM (ws:List Wy) (ns:List Int):Wy->Prop:=fun v=>∃ k∈ns,v=aq ws k
theorem Bp {m:Int} {ws:List Wy} (W:bg m ws) {ns:List Int} (hn:Nums ws ns):aS m.toNat (f_ m ws ns) (fM ws ns):=by
 have:=Hf W ns _ _ hn (aS.start m.toNat)
 have eq:(fun v=>False\/∃ k∈ns,v=aq ws k)=fM ws ns:=funext fun v=>propext (by unfold fM;simp)
 rw[eq] at this
 exact this
theorem RW {m:Int} {ws:List Wy} (W:bg m ws) {ns:List Int} (hn:Nums ws ns):Good (f_ m ws ns):=He W ns _ hn (qe _) (RU _)
noncomputable def bH (fs:List Int) (i:Nat) (x:Int):List Int:=((List.range i).filter fun h=>decide (fs.getD h 0=x)).map fun h:Nat=>(h:Int)
noncomputable def roots (fs:List Int) (i:Nat):List Nat:=(List.range i).filter fun h=>decide (fs.getD h 0=(h:Int))
theorem Hg {fs:List Int} (G:Good fs):∀ i,i <= fs.length->cy fs i=(roots fs i).map fun r:Nat=>((r:Int),bH fs i (r:Int))
 | 0,_=>rfl
 | i + 1,hi=>by
  have ih:=Hg G i (by omega)
  have le:=G.le i (by omega)
  have own:=G.own i (by omega)
  show lg (cy fs i) (fs.getD i 0) i=_
  rw[ih]
  have keys:((roots fs i).map fun r:Nat=>((r:Int),bH fs i (r:Int))).map (·.1)=(roots fs i).map fun r:Nat=>(r:Int):=by rw[Wo];rfl
  have ku:∀ x,bH fs (i + 1) x=if fs.getD i 0=x then bH fs i x ++ [(i:Int)] else bH fs i x:=fun x=>by
   unfold bH
   rw[Zr,YA]
   by_cases c:fs.getD i 0=x
   ·rw[We c,Wz,Z3 (by simpa using c)];rfl
   ·rw[VG c,Z4 (by simpa using c),List.filter_nil,YC]
  have kz:∀ r,r∈roots fs i↔r < i/\fs.getD r 0=(r:Int):=fun r=>by
   unfold roots
   rw[Wm,Wl,Ww]
  unfold lg
  rw[keys]
  by_cases c:fs.getD i 0=(i:Int)
  ·have no:fs.getD i 0∉(roots fs i).map fun r:Nat=>(r:Int):=fun z=>by
    obtain⟨r,hr,e⟩:=Mt.mp z
    have:=((kz r).mp hr).1
    omega
   rw[VG no]
   have er:roots fs (i + 1)=roots fs i ++ [i]:=by
    unfold roots
    rw[Zr,YA,Z3 (by simpa using c)];rfl
   rw[er,Wz]
   congr 1
   ·refine WR fun r hr => ?_
    have:=((kz r).mp hr).1
    rw[ku,VG (by omega)]
   ·show [(fs.getD i 0,[(i:Int)])]=[((i:Int),bH fs (i + 1) i)]
    rw[ku,We c,c]
    have:bH fs i (i:Int)=[]:=by
     unfold bH
     rw[List.filter_eq_nil_iff.mpr fun h hh => ?_]
     ·rfl
     ·have h1:=Wl.mp hh
      have:=G.le h (by omega)
      rw[Ww]
      omega
    rw[this];rfl
  ·obtain⟨x,ex⟩:∃ x:Nat,fs.getD i 0=x:=⟨(fs.getD i 0).toNat,by omega⟩
   rw[ex] at own le c ⊢
   rw[Wj] at own
   have hx:x∈roots fs i:=(kz x).mpr ⟨by omega,own⟩
   rw[We (Mt.mpr ⟨x,hx,rfl⟩)]
   have er:roots fs (i + 1)=roots fs i:=by
    unfold roots
    rw[Zr,YA,Z4 (by rw[ex];simpa using c),List.filter_nil,YC]
   rw[er,Wo]
   refine WR fun r hr => ?_
   show (if (r:Int)=(x:Int) then ((r:Int),bH fs i r ++ [(i:Int)]) else ((r:Int),bH fs i r))=((r:Int),bH fs (i + 1) r)
   rw[ku,ex]
   by_cases d:(r:Int)=(x:Int)
   ·rw[We d,We d.symm]
   ·rw[VG d,VG (Yi d)]
theorem Bq:∀ {a b:List Int},a.Pairwise (· < ·)->b.Pairwise (· < ·)->(∀ x,x∈a↔x∈b)->a=b
 | [],[],_,_,_=>rfl
 | [],y :: _,_,_,h=>absurd ((h y).mpr (yE ..)) (by simp)
 | x :: _,[],_,_,h=>absurd ((h x).mp (yE ..)) (by simp)
 | x :: a,y :: b,ha,hb,h=>by
  obtain⟨h1,h2⟩:=W9.mp ha
  obtain⟨h3,h4⟩:=W9.mp hb
  have RX:x=y:=by
   rcases VE.mp ((h x).mp (yE ..)) with e | e
   ·exact e
   ·rcases VE.mp ((h y).mpr (yE ..)) with e' | e'
    ·exact e'.symm
    ·have:=h3 x e
     have:=h1 y e'
     omega
  subst RX
  rw[Bq h2 h4 fun z => ?_]
  constructor
  ·intro hz
   rcases VE.mp ((h z).mp (Mp _ hz)) with e | e
   ·have:=h1 z hz;omega
   ·exact e
  ·intro hz
   rcases VE.mp ((h z).mpr (Mp _ hz)) with e | e
   ·have:=h3 z hz;omega
   ·exact e
open Classical in
noncomputable def cls (n:Nat) (S:Wy->Prop) (h:Int):List Int:=(aL n).filter fun x=>decide (ar S h x)
theorem bf {n:Nat} {x:Int}:x∈aL n↔0 <= x/\x < n:=by
 unfold aL
 constructor
 ·intro h
  obtain⟨k,hk,rfl⟩:=Mt.mp h
  have:=Wl.mp hk
  omega
 ·intro h
  exact Mt.mpr ⟨x.toNat,Wl.mpr (by omega),by omega⟩
theorem Br (n:Nat):(aL n).Pairwise (· < ·):=by
 unfold aL
 exact Xe.mpr ((Xx (n:=n)).imp fun h=>by omega)
open Classical in
theorem a8 {n:Nat} {S:Wy->Prop} {h x:Int}:x∈cls n S h↔(0 <= x/\x < n)/\ar S h x:=by
 unfold cls
 rw[Wm,bf,Ww]
open Classical in
theorem uK (n:Nat) (S:Wy->Prop) (h:Int):(cls n S h).Pairwise (· < ·):=(Br n).filter _
structure qf (n:Nat) (S:Wy->Prop) (L:List (List Int)):Prop where
 nd:L.Nodup
 mem:∀ l,l∈L↔∃ h:Int,(0 <= h/\h < n)/\l=cls n S h
theorem Bs {n:Nat} {S:Wy->Prop} {a b:Int} (h:ar S a b):cls n S a=cls n S b :=
 Bq (uK _ _ _) (uK _ _ _) fun x=>by
  rw[a8,a8]
  exact⟨fun ⟨h1,h2⟩=>⟨h1,h.symm.trans h2⟩,fun ⟨h1,h2⟩=>⟨h1,h.trans h2⟩⟩
theorem Bt {n:Nat} {S:Wy->Prop} {a:Int} (h:0 <= a/\a < n):a∈cls n S a:=a8.mpr ⟨h,.rf⟩
theorem RY {x y:Int} {xs ys:List Int} (h:x < y):kle (x :: xs) (y :: ys):=by
 unfold kle
 rw[HT.mT,VG (by omega)]
 exact VF (by omega)
theorem Hh {n:Nat} {fs:List Int} {S:Wy->Prop} (M:aS n fs S) {r:Nat} (hr:r < n) (e:fs.getD r 0=r):bH fs n r=cls n S r:=by
 refine Bq ?_ (uK _ _ _) fun x => ?_
 ·unfold bH
  exact Xe.mpr (((Xx (n:=n)).filter _).imp fun h=>by omega)
 ·rw[a8]
  unfold bH
  constructor
  ·intro h
   obtain⟨k,hk,rfl⟩:=Mt.mp h
   rw[Wm,Wl,Ww] at hk
   exact⟨by omega,(M.2 r k hr hk.1).mp (by rw[e,hk.2])⟩
  ·rintro ⟨⟨h0,h1⟩,hc⟩
   obtain⟨k,rfl⟩:∃ k:Nat,x=k:=⟨x.toNat,by omega⟩
   refine Mt.mpr ⟨k,?_,rfl⟩
   rw[Wm,Wl,Ww]
   have:=(M.2 r k hr (by omega)).mpr hc
   exact⟨by omega,by rw[<-this,e]⟩
noncomputable def qg (fs:List Int) (n:Nat):List (List Int):=(roots fs n).map fun r:Nat=>bH fs n (r:Int)
theorem RZ {fs:List Int} (G:Good fs):(cy fs fs.length).map (·.2)=qg fs fs.length:=by
 rw[Hg G fs.length (qx _),Wo];rfl
theorem xc {n:Nat} {fs:List Int} (G:Good fs) (hl:fs.length=n) {r:Nat} (hr:r < n) (e:fs.getD r 0=r):∃ t,bH fs n r=(r:Int) :: t:=by
 have mem:(r:Int)∈bH fs n r:=by
  unfold bH
  refine Mt.mpr ⟨r,?_,rfl⟩
  rw[Wm,Wl,Ww]
  exact⟨hr,e⟩
 have up:(bH fs n r).Pairwise (· < ·):=by
  unfold bH
  exact Xe.mpr (((Xx (n:=n)).filter _).imp fun h=>by omega)
 cases q:bH fs n r with
 | nil=>rw[q] at mem;simp at mem
 | cons x t =>
  refine⟨t,?_⟩
  have hx:x∈bH fs n r:=by rw[q];exact yE
  unfold bH at hx
  obtain⟨k,hk,rfl⟩:=Mt.mp hx
  rw[Wm,Wl,Ww] at hk
  have l:=G.le k (by omega)
  rw[hk.2] at l
  rw[q] at mem up
  rcases VE.mp mem with z | z
  ·rw[z]
  ·have:=(W9.mp up).1 _ z
   omega
theorem R0 {fs:List Int} (G:Good fs):(qg fs fs.length).Pairwise kle:=by
 unfold qg
 refine Xe.mpr ?_
 have:(roots fs fs.length).Pairwise fun a b=>a < b/\(a < fs.length/\fs.getD a 0=a)/\b < fs.length/\fs.getD b 0=b:=by
  have h1:(roots fs fs.length).Pairwise (· < ·):=(Xx (n:=fs.length)).filter _
  have hm:∀ a∈roots fs fs.length,a < fs.length/\fs.getD a 0=a:=fun a ha=>by
   unfold roots at ha
   rw[Wm,Wl,Ww] at ha
   exact ha
  exact h1.imp_of_mem fun ha hb h=>⟨h,hm _ ha,hm _ hb⟩
 refine this.imp fun {a b} h => ?_
 obtain⟨t,e⟩:=xc G rfl h.2.1.1 h.2.1.2
 obtain⟨u,e'⟩:=xc G rfl h.2.2.1 h.2.2.2
 rw[e,e']
 exact RY (by omega)
theorem R1 {n:Nat} {fs:List Int} {S:Wy->Prop} (G:Good fs) (M:aS n fs S):qf n S (qg fs n):=by
 have hl:=M.1
 have hm:∀ a∈roots fs n,a < n/\fs.getD a 0=a:=fun a ha=>by
  unfold roots at ha
  rw[Wm,Wl,Ww] at ha
  exact ha
 refine⟨?_,fun l => ?_⟩
 ·unfold qg
  refine Xe.mpr ?_
  have h1:(roots fs n).Pairwise (· < ·):=(Xx (n:=n)).filter _
  refine h1.imp_of_mem fun {a b} ha hb h z => ?_
  obtain⟨t,e⟩:=xc G hl (hm a ha).1 (hm a ha).2
  obtain⟨u,e'⟩:=xc G hl (hm b hb).1 (hm b hb).2
  rw[e,e'] at z
  have:=(List.cons.inj z).1
  omega
 ·unfold qg
  constructor
  ·intro h
   obtain⟨r,hr,rfl⟩:=Mt.mp h
   obtain⟨h1,h2⟩:=hm r hr
   exact⟨r,by omega,Hh M h1 h2⟩
  ·rintro ⟨h,hh,rfl⟩
   obtain⟨k,rfl⟩:∃ k:Nat,h=k:=⟨h.toNat,by omega⟩
   have le:=G.le k (by omega)
   have own:=G.own k (by omega)
   obtain⟨r,er⟩:∃ r:Nat,fs.getD k 0=r:=⟨(fs.getD k 0).toNat,by omega⟩
   rw[er] at le own
   rw[Wj] at own
   refine Mt.mpr ⟨r,?_,?_⟩
   ·unfold roots
    rw[Wm,Wl,Ww]
    exact⟨by omega,own⟩
   ·rw[Hh M (by omega) own]
    exact Bs ((M.2 r k (by omega) (by omega)).mp (by rw[own,er]))
noncomputable def iT (m:Int) (ws:List Wy) (ns:List Int):List (List Int):=(cy (f_ m ws ns) m.toNat).map (·.2)
theorem xf {m:Int} {ws:List Wy} (W:bg m ws) {ns:List Int} (hn:Nums ws ns):qf m.toNat (fM ws ns) (iT m ws ns)/\(iT m ws ns).Pairwise kle:=by
 have M:=Bp W hn
 have G:=RW W hn
 have e:iT m ws ns=qg (f_ m ws ns) m.toNat:=by
  unfold iT
  have:=RZ G
  rw[M.1] at this
  exact this
 rw[e]
 refine⟨R1 G M,?_⟩
 have:=R0 G
 rw[M.1] at this
 exact this
theorem R3 {n:Nat} {S:Wy->Prop} {L:List (List Int)} (h:qf n S L) {l l':List Int} {x:Int} (hl:l∈L) (gq:l'∈L) (hx:x∈l) (g8:x∈l'):l=l':=by
 obtain⟨a,_,rfl⟩:=(h.mem l).mp hl
 obtain⟨b,_,rfl⟩:=(h.mem l').mp gq
 exact Bs ((a8.mp hx).2.trans (a8.mp g8).2.symm)
theorem Hi {n:Nat} {S:Wy->Prop}:∀ {L L0:List (List Int)},qf n S L0->(∀ l∈L,l∈L0)->L.Nodup->L.flatten.Nodup
 | [],_,_,_,_=>YK
 | l :: L,L0,h,hs,nd=>by
  rw[XO,Xp]
  rw[XE] at nd
  refine⟨?_,Hi h (fun x hx=>hs x (Mp _ hx)) nd.2,fun x hx y hy e => ?_⟩
  ·obtain⟨a,_,rfl⟩:=(h.mem l).mp (hs l yE)
   exact (uK _ _ _).imp fun h=>by omega
  ·subst e
   obtain⟨l',h1,h2⟩:=List.mem_flatten.mp hy
   exact nd.1 (by rw[R3 h (hs l yE) (hs l' (Mp _ h1)) hx h2];exact h1)
theorem R4 {l:List Int} (h:l.Pairwise (· < ·)):l.Nodup:=h.imp fun h=>by omega
theorem R5 {xs ys:List Int} (nd:xs.Nodup) (up:ys.Pairwise (· < ·)) (h:∀ x,x∈xs↔x∈ys):sortI xs=ys :=
 (Fq ((YL (R4 up) nd).mpr fun x=>(h x).symm) (up.imp fun h=>by omega)).symm
theorem R6 {n:Nat} {S:Wy->Prop} {L:List (List Int)} (h:qf n S L):sortI L.flatten=aL n:=by
 refine R5 (Hi h (fun _ hx=>hx) h.nd) (Br n) fun x => ?_
 rw[List.mem_flatten,bf]
 constructor
 ·rintro ⟨l,hl,hx⟩
  obtain⟨a,_,rfl⟩:=(h.mem l).mp hl
  exact (a8.mp hx).1
 ·intro hx
  exact⟨_,(h.mem _).mpr ⟨x,hx,rfl⟩,Bt hx⟩
theorem Hj:∀ a b:List Int,b8 (a.map D.int) (b.map D.int)=decide (a=b)
 | [],[]=>by simp[b8]
 | [],_ :: _=>by simp[b8]
 | _ :: _,[]=>by simp[b8]
 | x :: a,y :: b=>by
  rw[Wr,Wr]
  simp only[b8]
  rw[lh,Hj a b]
  by_cases e:x=y<;>by_cases e2:a=b<;>simp[e,e2]
theorem nN:∀ us:List Int,bS (us.map D.int)=0
 | []=>by simp[bS]
 | u :: r=>by rw[Wr];simp only[bS,dep];rw[nN r];rfl
theorem lq (l:List Int) (x:Int):((l.map D.int).any fun e=>aA e (.int x))=decide (x∈l):=by
 rw[List.any_map]
 cases q:decide (x∈l) with
 | true=>exact Z0.mpr ⟨x,XC q,jf _⟩
 | false =>
  refine YI.mpr fun y hy => ?_
  show ¬ aA (.int y) (.int x)=true
  rw[lh]
  intro z
  have:=XC z
  subst this
  exact of_decide_eq_false q hy
noncomputable def xg:GD:=fun ys ah K=>∃ (m:Int) (ws:List (Int × Int × Int)) (ns:List Int),bg m ws/\Nums ws ns/\ns.Nodup/\ns.length <= 900/\ys=[.p (aH m ws),.p (bp ns)]/\ah=[]/\K (.p (.int (ns.map fun n=>(ws.getD n.toNat (0,0,0)).2.2).sum)) []
noncomputable def Bu:WS:=(au (jc (ak 2 wX (ai (aa 0) (ai (aa 1) af)))) (aF (dN (ai (fq (bO (aa 1)) [none,some 0] (bE 0) ft (d2 (d2 (d2 (aa 1) (dC (.int 1)) aQ) (aa 0) aQ) (dC (.int 2)) aQ)) af) l4)))
theorem R7:∀ ys ah K',ys.length=2->xg ys ah K'->Bu (bJ ah.length K') ⟨ys.map some ++ List.replicate 0 none,ah.map some⟩:=by
 rintro ys ah K' - ⟨m,ws,ns,W,hn,nd,hl,rfl,rfl,k⟩
 unfold Bu
 refine aR fun N hN => ?_
 simp? only []
 refine⟨m,ws,ns,W,hn,nd,hl,rfl,rfl,?_⟩
 show N _
 subst hN
 unfold bp
 simp? only []
 refine pM (fun d=>match d with
  | .int n => .int (ws.getD n.toNat (0,0,0)).2.2
  | _ => .non) (by rw[oS];omega) trivial ?_ ?_
 ·intro d hd acc L ha h
  obtain⟨n,iC,rfl⟩:=Mt.mp hd
  obtain⟨n0,n1⟩:=hn n iC
  obtain⟨y,ey,hy,ea,_⟩:=kg W n0 n1
  simp? only [eK,at2,aH,ea,bq]
  simp only[ey] at h
  exact⟨ha,h⟩
 ·have e:intsOf ((ns.map D.int).map fun d=>match d with
   | .int n=>D.int (ws.getD n.toNat (0,0,0)).2.2
   | _ => .non)=some (ns.map fun n=>(ws.getD n.toNat (0,0,0)).2.2):=by
   rw[Wo]
   have:=tJ (ns.map fun n=>(ws.getD n.toNat (0,0,0)).2.2)
   rw[Wo] at this
   exact this
  simp? only [l4,e]
  refine⟨⟨fun x hx => ?_,by omega⟩,bB k⟩
  obtain⟨n,iC,rfl⟩:=Mt.mp hx
  obtain⟨n0,n1⟩:=hn n iC
  obtain⟨y,ey,hy,_⟩:=kg W n0 n1
  rw[ey]
  exact⟨(W.ends y hy).2.2.2.1,(W.ends y hy).2.2.2.2⟩
theorem Hk {m:Int} {ws:List Wy} (W:bg m ws) {ns:List Int} (hn:Nums ws ns):(iT m ws ns).length <= 12/\(iT m ws ns).flatten.length <= 12:=by
 have gJ:=W.gJ
 obtain⟨h,_⟩:=xf W hn
 have e:=R6 h
 have fl:(iT m ws ns).flatten.length=m.toNat:=by
  have:=Oz (iT m ws ns).flatten
  rw[e,qe] at this
  exact this.symm
 refine⟨?_,by omega⟩
 have key:∀ L:List (List Int),(∀ l∈L,l≠[])->L.length <= L.flatten.length:=by
  intro L
  induction L with
  | nil=>intro _;simp
  | cons l r ih =>
   intro h
   have h1:=ih fun x hx=>h x (Mp _ hx)
   have h2:l≠[]:=h l yE
   have h3:0 < l.length:=List.length_pos_iff.mpr h2
   rw[XO,D6,D7];omega
 have:=key (iT m ws ns) fun l hl=>by
  obtain⟨a,ha,rfl⟩:=(h.mem l).mp hl
  exact List.ne_nil_of_mem (Bt ha)
 omega
end LJ
namespace HT
open PySem PySem.Spec PyProof.Rows
theorem R8 (A:Around) (s:Shared) (a:Int) (t:Tok) (c:Int) (u:Tok) (prog:Program) (w:World) (E:Value->Shared->Prop) (Q:Value->Shared->Prop) (h:Q (.bool (decide (c < a))) s) :
  wpAny (model prog w) A (richCompare .Gt (.int a t) (.int c u)) Q E s :=
 (PyProof.Rows.gt_int h:wpAny (model prog w) A (compareOp .Gt (.int a t) (.int c u)) Q E s)
section
open PySem.SeqAt
open PySem.AutoSeq1 (wpAny_loadPart')
open PySem.MeetsSeq PySem.MeetsSeq2 PySem.MeetsSeq3
theorem R9 (l b:Addr) (items aN:Array Value) (n n2:Nat) (dd jB:Option Addr) (sl jC:Array (Option Value)) (ns ms:List Int) (hi:IntsAre items.toList ns) (hj:IntsAre aN.toList ms) :
  Meets (Builtin.«tuple.__gt__» ⟨[.ref l,.ref b],[]⟩)
   (fun _ R s=>s.heap.get? l=some { cls := .type "tuple",dict:=dd,data := .seq items n,slots:=sl }/\s.heap.get? b=some { cls := .type "tuple",dict:=jB,data := .seq aN n2,slots:=jC } ∧
    R (.ok (.ret (.bool (lexLt ms ns)))) s) :=
 .of_wp fun prog w A R s h=>by
  obtain⟨hp,g,d,tk,os⟩:=s;obtain⟨hl,hb,h⟩:=h
  have f2:=AutoSeq1.sub_tuple_tuple
  have z1:items.size=ns.length:=by rw[<-hi.length];simp
  have z2:aN.size=ms.length:=by rw[<-hj.length];simp
  wp_walk using Xi hl,Xi hb,YM _ (fun rest b s'=>b.1=none/\s'=⟨hp,g,d,tk,os⟩/\∃ (vs ws:List Value) (e7 iY:List Int),rest=vs.zip ws ∧
   IntsAre vs e7/\IntsAre ws iY/\e7.length + aN.size=iY.length + items.size/\R (.ok (.ret (.bool (lexLt iY e7)))) ⟨hp,g,d,tk,os⟩) _
  case turn =>
   rintro ⟨y,x⟩ rest b s' ⟨hb',rfl,vs,ws,e7,iY,hz,oD,lJ,hlen,hR⟩
   cases oD with
   | nil=>rw[Zd] at hz;cases hz
   | cons a t oE =>
    cases lJ with
    | nil=>rw[ZF] at hz;cases hz
    | cons c u oF =>
     rw[Yz] at hz
     injection hz with yg jS
     injection yg with hy hx
     subst hy hx
     rw[mT] at hR
     simp only[D7] at hlen
     obtain⟨e,he,jT⟩:=DI A.in1 ⟨hp,g,d,tk,os⟩ a t c u
     refine oQ (he prog w _ _ ?_)
     cases e with
     | true =>
      rw[We (jT.mp rfl).symm] at hR
      wp_walk
      exact⟨rfl,rfl,_,_,_,_,jS,oE,oF,by omega,hR⟩
     | false =>
      rw[VG (fun q=>absurd (jT.mpr q.symm) Wf)] at hR
      have yh:=R8 A.in1 ⟨hp,g,d,tk,os⟩ a t c u prog w
      wp_walk using yh
      exact⟨_,rfl,by simpa using hR⟩
  case fin =>
   rintro ⟨b1,b2⟩ s' ⟨hb',rfl,vs,ws,e7,iY,hz,oD,lJ,hlen,hR⟩
   simp only at hb'
   subst hb'
   have hv:lexLt iY e7=decide (aN.size < items.size):=by
    cases oD with
    | nil =>
     cases lJ with
     | nil =>
      simp only[XF] at hlen
      rw[DF]
      exact (VF (by omega)).symm
     | cons c u hw =>
      simp only[XF,D7] at hlen
      rw[DH]
      exact (VF (by omega)).symm
    | cons a t hv =>
     cases lJ with
     | nil =>
      simp only[XF,D7] at hlen
      rw[DG]
      exact (Mr (by omega)).symm
     | cons c u hw =>
      rw[Yz] at hz
      cases hz
   rw[hv] at hR
   wp_walk
   exact⟨_,rfl,by simpa [Builtin.Tuple.tupleCompareSizes] using hR⟩
  case h =>
   exact⟨rfl,rfl,items.toList,aN.toList,ns,ms,rfl,hi,hj,by omega,h⟩
end
section
variable {prog:Program} {w:World} {A:Around} {E:Value->Shared->Prop} {s:Shared}
theorem R_ {l b:Addr} {items aN:Array Value} {ns ms:List Int} {Q:Value->Shared->Prop} (hl:IsTup s.heap l items) (hb:IsTup s.heap b aN) (hi:IntsAre items.toList ns) (hj:IntsAre aN.toList ms)
  (hu:A.units < cLine) (h:Q (.bool (lexLt ms ns)) s):wpAny (model prog w) A (compareOp .Gt (.ref l) (.ref b)) Q E s:=by
 obtain⟨⟨cls,dd,data,sl⟩,ho,hc,n,hd⟩:=id hl
 obtain⟨⟨oG,jB,data2,jC⟩,eQ,e8,n2,hd2⟩:=id hb
 simp only at hc hd e8 hd2
 subst hc hd e8 hd2
 exact richCompare_meets_room (op := .Gt) ⟨_,ho,rfl⟩ ⟨_,eQ,rfl⟩ PySem.F.slot_tuple_gt PySem.F.entry_tuple_gt (PySem.F.args_tuple_gt_2 _ _) (R9 l b items aN n n2 dd jB sl jC ns ms hi hj)
  ⟨ho,eQ,show Value.bool (lexLt ms ns)≠Value.notImplemented/\Q (.bool (lexLt ms ns)) s from ⟨(fun x=>nomatch x),h⟩⟩ hu
end
end HT
namespace L2
open PySem PySem.Spec PyProof.Rows PySem.W
noncomputable def iy:Bool->String
 | false => "min"
 | true => "max"
noncomputable def rE:Bool->String
 | false => "min.loop"
 | true => "max.loop"
noncomputable def Hl:Bool->CmpOp
 | false => .Lt
 | true => .Gt
noncomputable def Sa:String->CmpOp->Builtin:=(fun (f:String->CmpOp->Builtin) (_:f "min" .Lt=Builtin.«min.loop»)=>f) _ rfl
noncomputable def Sb:String->Builtin:=(fun (f:String->Builtin) (_:f "min" = Builtin.«min»)=>f) _ rfl
theorem Hm (mx:Bool):entryFor table (rE mx)=some (Sa (iy mx) (Hl mx)):=by cases mx;exact Zh;exact PySem.F.entry_max_loop
theorem Sd (mx:Bool):entryFor table (iy mx)=some (Sb (iy mx)):=by cases mx;exact PySem.F.entry_min;exact PySem.F.entry_max
theorem Se (mx:Bool):builtinKind (iy mx)=none:=by cases mx;exact PySem.F.kind_min;exact PySem.F.kind_max
theorem Sf (mx:Bool):plainId (iy mx)=true:=by cases mx;exact PySem.F.plain_min;exact PySem.F.plain_max
theorem rF (mx:Bool):plainId (rE mx)=true:=by cases mx;exact Xz;exact PySem.F.plain_max_loop
noncomputable def mz:Bool->LK->LK->Prop
 | false,a,b=>kle a b
 | true,a,b=>kle b a
noncomputable def Bv:Bool->LK->LK->Bool
 | false,a,b=>HT.lexLt a b
 | true,a,b=>HT.lexLt b a
theorem Hn (mx:Bool) (a:LK):mz mx a a:=by cases mx<;>exact kle_refl _
theorem Sg {mx:Bool} {a b c:LK} (h:Bv mx a b=true) (k:mz mx b c):mz mx a c:=by
 cases mx
 ·exact kle_trans (pL h) k
 ·exact kle_trans k (pL h)
theorem Sh {mx:Bool} {a b:LK} (h:¬ Bv mx a b=true):mz mx b a:=by cases mx<;>exact Bool.eq_false_iff.mpr h
theorem Si {prog:Program} {w:World} {A:Around} {E:Value->Shared->Prop} {s:Shared} {mx:Bool} {l b:Addr} {items aN:Array Value} {ns ms:List Int} {Q:Value->Shared->Prop} (hl:IsTup s.heap l items) (hb:IsTup s.heap b aN) (hi:IntsAre items.toList ns) (hj:IntsAre aN.toList ms)
  (hu:A.units < cLine) (h:Q (.bool (Bv mx ns ms)) s):wpAny (model prog w) A (richCompare (Hl mx) (.ref l) (.ref b)) Q E s:=by
 cases mx
 ·exact HT.yi hl hb hi hj hu h
 ·exact HT.R_ hl hb hi hj hu h
theorem Sj (mx:Bool) (a v d:Value):argsOk (iy mx) ⟨[a],[(Str.ofString "key",v),(Str.ofString "default",d)]⟩:=by cases mx<;>(unfold argsOk;kernel_rfl)
section
variable {X:Cx} {pins:List (Addr × Obj)} {σ : St} {H:Hp} {s:Shared} {E:Value->Shared->Prop} {l q I S:Addr} {P:List V->Hp->Prop} {xs:List V} {d:Value} {R:Result->Shared->Prop}
noncomputable def Sk (mx:Bool) (kf:Nat->LK) (xs kvs:List V) (fN:Array Value):Prop :=
 (kvs=[]/\fN = #[])\/∃ (b:Nat) (x:V) (vb:Value) (t:Addr),b < kvs.length/\xs[b]? = some x/\RelV x vb/\kvs[b]? = some (.ref t)/\fN = #[vb,.ref t]/\∀ j,j < kvs.length->mz mx (kf b) (kf j)
theorem Sl (mx:Bool) (kf:Nat->LK) (hh:X.A.handled=none) (hu:X.A.units + 1 < cLine) (kA:l≠I) (kB:S≠I) (fI:∀ H',H' I=none->a0 X pins H' I) (fS:∀ H',H' S=none->a0 X pins H' S)
  (hl:∀ kvs H',P kvs H'->H' l=some (.lst xs)) (hP:∀ kvs H',P kvs H'->∀ i,i < kvs.length->∃ t,kvs[i]? = some (.ref t)/\H' t=some (.tup ((kf i).map V.int)))
  (iw:∀ (bz:List (Addr × Obj)) (x:V) (u:Value) (kvs:List V) (H':Hp) (s':Shared),xs[kvs.length]? = some x->RelV x u->Inv X bz σ H' s'->P kvs H'->wpAny (model X.prog X.w) X.A.in1 (call (.ref q) [u]) (EP X bz σ fun k ig=>P (kvs ++ [k]) ig) (fun _ _=>False) s')
  (fin:∀ kvs H' s',kvs.length=xs.length->P kvs H'->Inv X pins σ H' s'->(xs=[]->R (.ok (.ret d)) s')/\∀ (b:Nat) (x:V) (u:Value),xs[b]? = some x->RelV x u->(∀ j,j < xs.length->mz mx (kf b) (kf j))->R (.ok (.ret u)) s') :
  ∀ (r:Nat) (kvs:List V) (H':Hp) (s':Shared) (fN:Array Value) (c:Nat) (oI:Obj),kvs.length + r=xs.length->Inv X ((S,seqObj "list" fN c) :: (I,oI) :: pins) σ H' s'->P kvs H'->oI.cls = .type "list_iterator" -> oI.data = .fields #[.ref l,.int kvs.length 0]->Sk mx kf xs kvs fN →
   codeAny (model X.prog X.w) X.A (.builtin (rE mx) ⟨[.ref I,.ref q,.ref S],[(Str.ofString "default",d)]⟩) R s':=by
 have cM:(toString (iy mx) ++ toString ".loop" : String)=rE mx:=by cases mx<;>decide
 intro r
 induction r with
 | zero =>
  intro kvs H' s' fN c oI hr J pk kL qh hb
  have pS:=J.pin (S,seqObj "list" fN c) (Mq _ (.head _))
  have pI:=J.pin (I,oI) (Mq _ (.tail _ (.head _)))
  have Jn:=J.bw.bw
  obtain⟨aj,rv,pl,_⟩:=Jn.list (a7.of (hl kvs H' pk))
  have lv:aj.length=xs.length:=rv.length.symm
  have Bw:kvs.length=aj.length:=by omega
  refine XS (Hm mx) ?_
  rw[Xs (rF mx) _]
  show wpAny _ X.A.in1 (seqItems? (.ref S) >>= _) _ _ _
  refine oQ (X_ pS.1 rfl ?_)
  show wpAny _ X.A.in1 (tryCatch (pyNext (.ref I)) _ >>= _) _ _ _
  have W:=YJ (prog:=X.prog) (w:=X.w) (A:=X.A.in1) hh I l kA aj.toArray
  refine oQ (Yu (W.done _ _ _ ⟨⟨oI,pI.1,kL,by rw[qh,vp,<-Bw]⟩,YV pl⟩ fun h' jk fu => ?_))
  have J1:Inv X pins σ H' { s' with heap:=h',toks:=jk }:=Jn.cn (fI H' pI.2.1) fun c o n e=>fu c o (by simpa using n) e
  have iR:=fu S _ (by simpa using kB) pS.1
  rcases hb with⟨ny,rfl⟩ | ⟨b,x,vb,t,hb,hx,rx,ht,rfl,best⟩
  ·refine oQ (q0g (D5 ?_))
   refine (fin kvs H' _ (by omega) pk J1).1 ?_
   cases xs with
   | nil=>rfl
   | cons _ _=>rw[ny] at hr;simp at hr
  ·have s1:=WL h' S (Obj.mapSeq fun _=>(#[]:Array Value))
   show wpAny _ X.A.in1 (updateSeq S (fun _ => #[]) >>= _) _ _ _
   refine oQ (YF iR rfl (oQ (Yw (D5 ?_))))
   exact (fin kvs H' _ (by omega) pk (J1.cn (fS H' pS.2.1) fun c o n e=>(s1.2 c n).trans e)).2 b x vb hx rx fun j hj=>best j (by omega)
 | succ r ih =>
  intro kvs H' s' fN c oI hr J pk kL qh hb
  have pS:=J.pin (S,seqObj "list" fN c) (Mq _ (.head _))
  have pI:=J.pin (I,oI) (Mq _ (.tail _ (.head _)))
  have Jn:=J.bw.bw
  obtain⟨aj,rv,pl,_⟩:=Jn.list (a7.of (hl kvs H' pk))
  have lv:aj.length=xs.length:=rv.length.symm
  have bX:kvs.length < aj.length:=by omega
  refine XS (Hm mx) ?_
  rw[Xs (rF mx) _]
  show wpAny _ X.A.in1 (seqItems? (.ref S) >>= _) _ _ _
  refine oQ (X_ pS.1 rfl ?_)
  show wpAny _ X.A.in1 (tryCatch (pyNext (.ref I)) _ >>= _) _ _ _
  have W:=YJ (prog:=X.prog) (w:=X.w) (A:=X.A.in1) hh I l kA aj.toArray
  refine oQ (Yu (W.item kvs.length _ _ _ (by rw[vp];exact bX) ⟨⟨oI,pI.1,kL,qh⟩,YV pl⟩ fun v h' jk hv qi fu => ?_))
  have hv:aj[kvs.length]? = some v:=by simpa using hv
  obtain⟨jw,mB,kC,jx⟩:=id qi.1
  have hi:kvs.length < xs.length:=by omega
  obtain⟨u,e1,rx⟩:=rv.get (lO hi)
  rw[hv] at e1
  cases e1
  have hx:=lO hi
  generalize xs[kvs.length]=x at hx rx
  have iR:=fu S _ (by simpa using kB) pS.1
  have nI:∀ z,jw.data ≠ .cell z:=fun z e=>by rw[jx] at e;cases e
  have J1:Inv X pins σ H' { s' with heap:=h',toks:=jk }:=Jn.cn (fI H' pI.2.1) fun c o n e=>fu c o (by simpa using n) e
  have J2:=(J1.cW (fI H' pI.2.1) mB nI).cW ((fS H' pS.2.1).cons (p:=(I,jw)) kB.symm) iR lb
  show wpAny _ X.A.in1 (tryCatch (holding [v] (call (.ref q) [v])) _ >>= _) _ _ _
  refine oQ (Yu (WK (XW (iw _ x v kvs H' _ hx rx J2 pk) (fun kv s2 he => ?_) fun _ _ hF=>hF.elim)))
  obtain⟨kx,H2,J3,rk,jo⟩:=he
  obtain⟨t2,et,i8⟩:=hP _ H2 jo kvs.length (by rw[D6];exact Xv _)
  have ek:kx = .ref t2:=by
   rw[Wg (qx _),W7] at et
   simpa using et
  subst ek
  cases rk
  have qS:=J3.pin (S,seqObj "list" fN c) (Mq _ (.head _))
  have qI:=J3.pin (I,jw) (Mq _ (.tail _ (.head _)))
  have Jm:=J3.bw.bw
  have Ho:(kvs ++ [V.ref t2]).length + r=xs.length:=by rw[D6,Wt];omega
  have uL:jw.data = .fields #[.ref l,.int ((kvs ++ [V.ref t2]).length:Nat) 0]:=by rw[jx,D6];rfl
  have put:∀ (b:Nat),b < kvs.length + 1->b=kvs.length->(∀ j,j < kvs.length + 1->mz mx (kf b) (kf j))->codeAny (model X.prog X.w) X.A (.builtin (rE mx) ⟨[.ref I,.ref q,.ref S],[(Str.ofString "default",d)]⟩) R { s2 with heap:=s2.heap.update S (Obj.mapSeq fun _ => #[v,.ref t2]) }:=fun b hb eb best=>by
   subst eb
   have s1:=WL s2.heap S (Obj.mapSeq fun _ => #[v,Value.ref t2])
   obtain⟨c2,e8⟩:∃ c2,(s2.heap.update S (Obj.mapSeq fun _ => #[v,Value.ref t2])).get? S=some (seqObj "list" #[v,.ref t2] c2):=⟨_,YY qS.1 fun _ => #[v,Value.ref t2]⟩
   have J4:Inv X pins σ H2 { s2 with heap:=s2.heap.update S (Obj.mapSeq fun _ => #[v,Value.ref t2]) }:=Jm.cn (t':=s2.toks) (fS H2 qS.2.1) fun c o n e=>(s1.2 c n).trans e
   have J5:=(J4.cW (fI H2 qI.2.1) ((s1.2 I kB.symm).trans qI.1) nI).cW ((fS H2 qS.2.1).cons (p:=(I,jw)) kB.symm) e8 lb
   refine ih _ H2 _ _ c2 jw Ho J5 jo kC uL (.inr ⟨kvs.length,x,v,t2,by rw[D6];exact Xv _,hx,rx,et,rfl,fun j hj=>best j (by rw[D6] at hj;exact hj)⟩)
  rcases hb with⟨ny,rfl⟩ | ⟨b,y,vb,t,hb,hy,ry,ht,rfl,best⟩
  ·show wpAny _ X.A.in1 (updateSeq S (fun _ => #[v,.ref t2]) >>= _) _ _ _
   refine oQ (YF qS.1 rfl ?_)
   rw[cM]
   refine D5 ⟨XX (rF mx) _,put kvs.length (Xv _) rfl fun j hj => ?_⟩
   rw[ny] at hj ⊢
   have:j=0:=by simp at hj;omega
   subst this
   exact Hn _ _
  ·obtain⟨t',Hq,Sm⟩:=hP _ H2 jo b (by rw[D6];omega)
   rw[Wd hb,ht] at Hq
   cases Hq
   obtain⟨i1,r1,Bx,_⟩:=Jm.tuple (bC.of i8)
   obtain⟨i2,r2,By,_⟩:=Jm.tuple (bC.of Sm)
   show wpAny _ X.A.in1 (tryCatch (holding [v,.ref t2] (richCompare _ (.ref t2) (.ref t) >>= _)) _ >>= _) _ _ _
   refine oQ (Yu (WK (oQ ?_)))
   refine Si (A:=X.A.in1) (mx:=mx) (ns:=kf kvs.length) (ms:=kf b) Bx By (by simpa using intsAre_of r1) (by simpa using intsAre_of r2) hu ?_
   refine oQ (WK (XB ?_))
   refine oQ (Yw (D5 ?_))
   split
   ·rename_i hq
    refine oQ (YF qS.1 rfl (oQ (Yw ?_)))
    rw[cM]
    refine D5 ⟨XX (rF mx) _,put kvs.length (Xv _) rfl fun j hj => ?_⟩
    by_cases e:j=kvs.length
    ·subst e;exact Hn _ _
    ·exact Sg hq (best j (by omega))
   ·rename_i hq
    refine oQ (Yw ?_)
    rw[cM]
    refine D5 ⟨XX (rF mx) _,ih _ H2 _ _ c jw Ho J3 jo kC uL (.inr ⟨b,y,vb,t,by rw[D6];omega,hy,ry,by rw[Wd hb];exact ht,rfl,fun j hj => ?_⟩)⟩
    by_cases e:j=kvs.length
    ·subst e;exact Sh hq
    ·exact best j (by rw[D6,Wt] at hj;omega)
theorem Sn (mx:Bool) {Q:Value->Shared->Prop} (kf:Nat->LK) (J:Inv X pins σ H s) (hh:X.A.handled=none) (hu:X.A.units + 1 < cLine) (p0:P [] H)
  (hl:∀ kvs H',P kvs H'->H' l=some (.lst xs)) (hP:∀ kvs H',P kvs H'->∀ i,i < kvs.length->∃ t,kvs[i]? = some (.ref t)/\H' t=some (.tup ((kf i).map V.int)))
  (iw:∀ (bz:List (Addr × Obj)) (x:V) (u:Value) (kvs:List V) (H':Hp) (s':Shared),xs[kvs.length]? = some x->RelV x u->Inv X bz σ H' s'->P kvs H'->wpAny (model X.prog X.w) X.A.in1 (call (.ref q) [u]) (EP X bz σ fun k ig=>P (kvs ++ [k]) ig) (fun _ _=>False) s')
  (fin:∀ kvs H' s',kvs.length=xs.length->P kvs H'->Inv X pins σ H' s'->(xs=[]->Q d s')/\∀ (b:Nat) (x:V) (u:Value),xs[b]? = some x->RelV x u->(∀ j,j < xs.length->mz mx (kf b) (kf j))->Q u s') :
  wpAny (model X.prog X.w) X.A (call (.builtin (iy mx)) [.ref l] [(Str.ofString "key",.ref q),(Str.ofString "default",d)]) Q E s:=by
 have cM:(toString (iy mx) ++ toString ".loop" : String)=rE mx:=by cases mx<;>decide
 obtain⟨aj,rv,pl,_⟩:=J.list (a7.of (hl _ _ p0))
 have qM:=PlainL.lt pl
 refine kmk_tree (Se mx) (Sf mx) (Sd mx) (Sj _ _ _ _) ?_
 show wpAny _ X.A.in1 (Builtin.Builtins.bindParams (iy mx) ["key", "default"] 0 ⟨[],[(Str.ofString "key",.ref q),(Str.ofString "default",d)]⟩ >>= _) _ _ s
 refine oQ (wpAny_of_eq (show Builtin.Builtins.bindParams (iy mx) ["key", "default"] 0 ⟨[],[(Str.ofString "key",.ref q),(Str.ofString "default",d)]⟩=pure [some (.ref q),some d] from rfl) ?_)
 refine oQ (D5 ?_)
 refine oQ (XQ (YV pl) ?_)
 refine oQ (ZV ?_ (W6 _))
 rw[cM]
 refine D5 ⟨XX (rF mx) _,?_⟩
 have J1:Inv X pins σ H { s with heap:=s.heap.push { cls := .type "list_iterator",data := .fields #[.ref l,.int 0 0] } }:=J.kept (h':=s.heap.push { cls := .type "list_iterator",data := .fields #[.ref l,.int 0 0] }) (t':=s.toks) fun b u e=>sC _ e
 have gI:(s.heap.push { cls := .type "list_iterator",data := .fields #[.ref l,.int 0 0] }).get? s.heap.objs.size=some { cls := .type "list_iterator",data := .fields #[.ref l,.int 0 0] }:=VH _ rfl
 have hS:(s.heap.push { cls := .type "list_iterator",data := .fields #[.ref l,.int 0 0] }).objs.size≠s.heap.objs.size:=fun z=>Xk _ (Nat.lt_of_lt_of_eq (My gI) z)
 have fI:∀ H',H' s.heap.objs.size=none->a0 X pins H' s.heap.objs.size:=fun H' e=>J.d8 (qx _) e
 have uM:H s.heap.objs.size=none:=J.aJ.fresh (qx _)
 have kA:l≠s.heap.objs.size:=Wi qM
 generalize s.heap.objs.size=I at gI hS fI uM kA
 generalize s.heap.push { cls := .type "list_iterator",data := .fields #[.ref l,.int 0 0] }=g1 at J1 gI hS
 have fS:∀ H',H' g1.objs.size=none->a0 X pins H' g1.objs.size:=fun H' e=>J1.d8 (qx _) e
 have Bz:H g1.objs.size=none:=J1.aJ.fresh (qx _)
 have J2:Inv X pins σ H { s with heap:=g1.push (seqObj "list" #[] 0) }:=J1.kept (h':=g1.push (seqObj "list" #[] 0)) (t':=s.toks) fun b u e=>sC _ e
 have J3:=(J2.cW (fI H uM) (sC _ gI) (fun z e=>by cases e)).cW ((fS H Bz).cons (p:=(I,_)) hS.symm) (VH _ rfl) lb
 exact Sl mx kf hh hu kA hS fI fS hl hP iw fin xs.length [] H _ #[] 0 _ (by simp) J3 p0 rfl rfl (.inl ⟨rfl,rfl⟩)
end
variable [aE]
noncomputable def mC (mx:Bool) (cp:List (Option Nat)) (fb:WE) (δ : az) (ds:List D) (K:D->Prop):Prop :=
 ∃ key:D->LK,GV cp fb δ ds key/\(ds=[]->K .non)/\∀ d∈ds,(∀ e∈ds,mz mx (key d) (key e))->K d
noncomputable def kD (mx:Bool) (cp:List (Option Nat)) (fb:WE) (x:DV) (δ : az) (K:D->Prop):Prop:=∃ ds,x = .p (.lst ds)/\mC mx cp fb δ ds K
theorem So {mx:Bool} {cp:List (Option Nat)} {fb:WE} {x:DV} {δ : az} {K:D->Prop} (h:kD mx cp fb x δ K):∃ ds,x = .p (.lst ds)/\mC mx cp fb δ ds K:=h
noncomputable def uN (mx:Bool) (f:WE) (cp:List (Option Nat)) (fb:WE):WE:=fun δ K=>f δ fun x δ1=>kD mx cp fb x δ1 fun d=>K (.p d) δ1
noncomputable def xh (mx:Bool):Str:=Str.ofString (iy mx)
section
variable {X:Cx} {params:Arguments} {body:Expr} {scope:Scope} {cu:Pos} {x:Str} {Nb:List Str} {cp:List (Option Nat)} {fb:WE} {T:Addr}
theorem Sq {mx:Bool} {pins:List (Addr × Obj)} {σ : St} {H:Hp} {s:Shared} {E:Value->Shared->Prop} {l:Addr} {F:Hp} {ad:List Addr} {δ : az} {ds:List D} {xs:List V} {d9 jy pos j p2} {Q:VK} (L:dQ X params body scope cu T x Nb cp fb) (hu:X.A.units + 64 < cLine)
  (I:Inv X pins σ H s) (S:SR F ad δ σ H) (hl:F l=some (.lst xs)) (hx:ae F ds xs)
  (hs:mC mx cp fb δ ds fun d=>∀ v F' H',Ext F ad δ.mu H F' ad δ.mu H'->SR F' ad δ σ H'->Is F' d v->Q v H') :
  wpAny (model X.prog X.w) X.A (evalAll ((backToKw pos (keywordEach [⟨some "key",.Lambda params body scope cu,d9⟩,⟨some "default",.Constant .none j p2,jy⟩] X.env)).map (·.2))) (fun kvs s₂ => wpAny (model X.prog X.w) X.A (call (.builtin (iy mx)) [.ref l] (((backToKw pos (keywordEach [⟨some "key",.Lambda params body scope cu,d9⟩,⟨some "default",.Constant .none j p2,jy⟩] X.env)).filterMap (·.1)).zip kvs)) (EP X pins σ Q) E s₂) E s:=by
 obtain⟨key,hk,K0,K⟩:=hs
 obtain⟨k,km,J⟩:=L.room
 obtain⟨cc,fJ,hC⟩:=L.env.code
 show wpAny _ _ (evalAll [do let v <- eval (.Lambda params body scope cu) X.env;standAt pos;pure v,do let v <- eval (.Constant .none j p2) X.env;standAt pos;pure v]) _ _ _
 refine evalAll_cons (oQ ?_)
 have p9:=L.names
 unfold ux at p9
 simp only[WH,WV,Ww] at p9
 have SC:=q9C L.kind p9.1.1.1
 obtain⟨cl,k9,mj,rC⟩:=yG (scope:=scope) (env:=X.env) fun y hy e=>I.ok.has y.1 (SC.free y hy e)
 refine GL I (L.tbl.get H S.tab) L.GW k9 fJ (hC.keeps I.bk) L.env.ng (I.mod.glob.keeps I.bk) (L.env.blt.keeps I.bk) fun f H1 s1 c I1 t1 k1 GK hf hc => ?_
 refine oQ (Ym (D5 ?_))
 refine evalAll_cons (oQ (D5 ?_))
 refine oQ (Ym (D5 ?_))
 refine evalAll_nil ?_
 show wpAny _ _ (call (.builtin (iy mx)) [.ref l] [(Str.ofString "key",.ref f),(Str.ofString "default",.none)]) _ _ _
 have kT:∀ b o,H b=some o->b∉aE.ad->H1 b=some o:=fun b o e t=>k1 b o e fun z=>t (by rw[z];exact L.tbl.mem)
 have jF:=L.tbl.put H H1 S.tab t1 k1
 have S1:=S.uC kT jF
 have E1:=Ext.uC S kT jF
 have lx:=hx.length
 have r1:aY (k + 2) X.A.in1:=aY.in1 (k:=k + 2) km
 have gd:∀ {i:Nat} {d:D},ds[i]? = some d->ds.getD i .non=d:=fun {i d} e=>by rw[vo,e];rfl
 refine Sn mx (l:=l) (xs:=xs) (d := .none) (fun i=>key (ds.getD i .non)) (P:=fun kvs H'=>∃ F',Ext F ad δ.mu H F' ad δ.mu H'/\SR F' ad δ σ H'/\H' f=some (gW f "<lambda>" (X.env.qual ++ "<lambda>") params body scope cl ((X.mg "__name__").getD .none) (.ref c))/\H' c=some (kh c (X.env.qual ++ "<lambda>"))/\kvs.length <= ds.length/\∀ (i:Nat) (d:D) (kv:V),ds[i]? = some d->kvs[i]? = some kv->Is F' (.tup ((key d).map D.int)) kv)
  I1 r1.hd (by omega) ⟨_,E1,S1,hf,hc,W6 _,fun i d kv _ e=>by simp at e⟩ (fun kvs H' ⟨F',E',S',_⟩=>S'.sub _ _ (E'.same _ _ hl)) (fun kvs H' ⟨F',E',S',nH,gy,hle,nJ⟩ i hi => ?_) (fun bz v u kvs H' s' hv rv I' ⟨F',E',S',nH,gy,hle,nJ⟩ => ?_) fun kvs H' s' gq ⟨F',E',S',nH,gy,hle,nJ⟩ I'=>⟨fun h0 => ?_,fun b y u hy ry best => ?_⟩
 ·have hd:=lO (show i < ds.length by omega)
  have is:=nJ i _ _ hd (lO hi)
  simp only[Is] at is
  obtain⟨t,us,e1,e2,e3⟩:=is
  refine⟨t,by rw[lO hi,e1],?_⟩
  rw[gd hd,<-k7 e3];exact S'.sub _ _ e2
 ·have hi:kvs.length < ds.length:=by rw[<-lx];exact (oR.mp hv).1
  have hd:=lO hi
  have A3:Is F' ds[kvs.length] v:=ae.at (hx.same E'.same) hd hv
  obtain⟨QY,A4⟩:=hk _ (Xl hi)
  refine GQ I' nH gy (by rw[show X.A.in1.frames=X.A.frames from rfl];exact I'.ok.frames) r1.hd (aY.depth (r1.mono (by omega:k + 1 <= k + 2))) L.kind L.names L.co L.gen mj rC (fun ct=>L.bind cl _ _ ct u) rv (J ⟨X.A.in1,cl,f,.ref c,s',H'⟩ ((r1.mono (by omega:k + 1 <= k + 2)).deeper _)) ?_
  refine⟨F',ad,_,_,(S'.o_ (cp:=cp)).nG A3,A4,fun y δ' ⟨ey,em⟩ w F2 bT H2 E2 S2 V2 => ?_⟩
  subst ey
  have ea:bT=ad:=by
   have l2:bT.length=ad.length:=by rw[S2.bW,em,S'.bW]
   refine Yg fun i => ?_
   by_cases hi:i < ad.length
   ·rw[lO hi];exact E2.pre i _ (lO hi)
   ·rw[WZ (by omega),WZ (by omega)]
  subst ea
  obtain⟨xV,cO⟩ := δ'
  have em:cO = δ.mu:=em
  subst em
  refine⟨F2,E'.trans E2,SR.back S' E2 S2,E2.iS S' nH (fun _ z=>by cases z) (fun _ z=>by cases z) (fun _ z=>by cases z),E2.iS S' gy (fun _ z=>by cases z) (fun _ z=>by cases z) (fun _ z=>by cases z),by rw[D6,Wt];exact hi,fun i d kv e1 e2 => ?_⟩
  by_cases l8:i < kvs.length
  ·rw[Wd l8] at e2
   exact Is.same E2.same (nJ i d kv e1 e2)
  ·have:i=kvs.length:=by
    have:=(oR.mp e2).1
    rw[D6,Wt] at this
    omega
   subst this
   rw[Wg (qx _),W7] at e2
   cases (show some w=some kv from e2)
   rw[hd] at e1;cases e1
   exact V2
 ·have Sr:ds=[]:=XH.mp (by rw[<-lx,h0];rfl)
  exact⟨.non,H',I',rfl,K0 Sr _ F' H' E' S' (by simp only[Is])⟩
 ·have hb:b < ds.length:=by rw[<-lx];exact (oR.mp hy).1
  have hd:=lO hb
  refine⟨y,H',I',ry,K ds[b] (Xl hb) (fun e he => ?_) _ F' H' E' S' (ae.at (hx.same E'.same) hd hy)⟩
  obtain⟨j,hj,rfl⟩:=WC.mp he
  have:=best j (by omega)
  rw[gd hd,gd (lO hj)] at this
  exact this
variable {e:Expr} {f:WE} {p1 q1 d9 jy:Pos}
theorem Hr {j p2} (mx:Bool) (L:dQ X params body scope cu T x Nb cp fb) (hu:X.A.units + 64 < cLine) (p_:Gl X (xh mx)) (hs:X.mg (xh mx)=none) (qa:bootBuiltins (xh mx)=some (.builtin (iy mx))) (ha:JA X [e] (bL (ai f af)))
  (he:starEach [e] X.env=[(false,eval e X.env)]:=by rfl):JE X (.Call (.Name (xh mx) p1) [e] [⟨some "key",.Lambda params body scope cu,d9⟩,⟨some "default",.Constant .none j p2,jy⟩] q1) (tD (uN mx f cp fb)) :=
 ⟨fun pins s σ H Q I h0_ => el7 h0_ fun F ad δ K S q k =>by
  refine Ya (kM I p_ hs qa ?_ (hn:=by cases mx<;>decide) (hd:=by cases mx<;>decide))
  refine callWith_kw ?_ (he:=by rw[he];rfl) (hplain:=by rw[he];rfl)
  refine a6 (ha.out q1 pins s σ H (fun vs H1=>∃ (l:Addr) (F1:Hp) (aK:List Addr) (δ1:az) (ds:List D) (us:List V),vs=[.ref l]/\F1 l=some (.lst us)/\ae F1 ds us/\Ext F ad δ.mu H F1 aK δ1.mu H1/\SR F1 aK δ1 σ H1/\mC mx cp fb δ1 ds fun d=>K (.p d) δ1) I ?_) fun us s1 uD => ?_
  ·refine⟨F,ad,δ,fun xs δ1=>match xs with
    | [x]=>kD mx cp fb x δ1 fun d=>K (.p d) δ1
    | _=>False,S,q,fun xs δ1 h1 vs F1 aK H1 E1 S1 V1 => ?_⟩
   cases xs with
   | nil=>exact h1.elim
   | cons x xs =>
    cases xs with
    | cons _ _=>exact h1.elim
    | nil =>
     obtain⟨v,r,rfl,W1,W2⟩:=V1
     have W2:r=[]:=W2
     subst W2
     obtain⟨ds,rfl,h2⟩:=So h1
     have W1:Is F1 (.lst ds) v:=W1
     simp only[Is] at W1
     obtain⟨a,us,rfl,g1,g2⟩:=W1
     exact⟨a,F1,aK,δ1,ds,us,rfl,g1,g2,E1,S1,h2⟩
  ·obtain⟨vs,H1,I1,r1,l,F1,aK,δ1,ds,ws,ev,hl,hi,E1,S1,wU⟩:=uD
   subst ev
   obtain⟨u,rfl,rx⟩:=vals1 r1
   cases rx
   refine Sq L hu I1 S1 hl hi ?_
   obtain⟨key,hk,K0,hK⟩:=wU
   exact⟨key,hk,fun h0 v F' H' E' S' is=>k _ _ (K0 h0) _ _ _ _ (E1.trans E') S' is,fun d hd hb v F' H' E' S' is=>k _ _ (hK d hd hb) _ _ _ _ (E1.trans E') S' is⟩⟩
end
end L2
namespace LJ
open PySem L2
variable [aE]
noncomputable def uO:D->D
 | .tup [.int i,_] => .int i
 | _ => .non
noncomputable def uP (p:Int->Bool):D->Bool
 | .tup [.int i,_]=>p i
 | _=>false
theorem BA (p:Int->Bool):∀ (ds:List D) (i:Nat),((jI i ds).filter (uP p)).map uO=((List.range' i ds.length).filter fun k:Nat=>p k).map fun k:Nat=>D.int k
 | [],_=>rfl
 | d :: r,i=>by
  have ih:=BA p r (i + 1)
  show (((D.tup [.int i,d]) :: jI (i + 1) r).filter _).map _=_
  rw[D7,List.range'_succ,Z5,Z5]
  show (if p i=true then _ else _:List D).map _=_
  cases q:p i with
  | true=>simp only[Yy,Wr,ih];rfl
  | false=>simp only[Wn,Xr,ih]
noncomputable def fO (l:List Int) (y:Wy):Bool:=decide (y.1∈l) != decide (y.2.1∈l)
noncomputable def nP (ws:List Wy) (l:List Int):List Int:=(aL ws.length).filter fun n=>fO l (aq ws n)
noncomputable def BB:GD:=fun ys ah K=>∃ (y:Wy) (l:List Int),ys=[.p (bq y),.p (bp l)]/\ah=[]/\K (.p (.bl (fO l y))) []
noncomputable def BC:WS:=(aF (d2 (d2 (d2 (aa 0) (dC (.int 0)) aQ) (aa 1) (gs false)) (d2 (d2 (aa 0) (dC (.int 1)) aQ) (aa 1) (gs false)) l3))
theorem Ss:∀ ys ah K',ys.length=2->BB ys ah K'->BC (bJ ah.length K') ⟨ys.map some ++ List.replicate 0 none,ah.map some⟩:=by
 rintro ys ah K' - ⟨y,l,rfl,rfl,k⟩
 unfold BC
 simp? only [bq,bp,dX,eK]
 have d0:=nN l
 refine⟨by omega,by omega,?_⟩
 rw[lq,lq]
 unfold fO at k
 generalize decide (y.1∈l)=p at k
 generalize decide (y.2.1∈l)=q at k
 cases p<;>cases q<;>exact bB k
noncomputable def BE:GD:=fun ys ah K=>∃ (m:Int) (ws:List Wy) (l:List Int),bg m ws/\ys=[.p (aH m ws),.p (bp l)]/\ah=[]/\K (.p (bp (nP ws l))) []
noncomputable def BF:WS:=(aF (fq (je (ai (d2 (aa 0) (dC (.int 1)) aQ) af)) [none,none,some 1] (kW 2 (gO (bE 0) (gO (bE 1) j3))) (dT (ak 2 BB (ai (aa 1) (ai (aa 2) af)))) (aa 0)))
theorem Su:∀ ys ah K',ys.length=2->BE ys ah K'->BF (bJ ah.length K') ⟨ys.map some ++ List.replicate 0 none,ah.map some⟩:=by
 rintro ys ah K' - ⟨m,ws,l,W,rfl,rfl,k⟩
 have qb:=W.gK
 unfold BF
 simp? only [aH,eK]
 refine j_ (uP fun i=>fO l (aq ws i)) uO (by rw[qO,oS];omega) trivial ?_ ?_
 ·intro d hd acc L' ha h1 h2
  obtain⟨z,hz⟩:=VD.mp hd
  obtain⟨e,z1,z2⟩:=qP hz
  rw[D8] at z1
  obtain⟨y,z3,rfl⟩:=VI.mp z1
  rw[WN] at z2
  subst z2
  have ew:aq ws (z:Int)=y:=by unfold aq;rw[Wj,vo,z3];rfl
  simp only[uP,uO] at h1 h2
  rw[ew] at h1 h2
  simp? only []
  refine⟨y,l,rfl,rfl,?_⟩
  simp? only []
  cases q:fO l y with
  | true=>simp? only [];exact⟨ha,h1 q⟩
  | false=>simp? only [];exact h2 q
 ·have e:=BA (fun i=>fO l (aq ws i)) (ws.map bq) 0
  have e2:(nP ws l).map D.int=((List.range' 0 (ws.map bq).length).filter fun k:Nat=>fO l (aq ws k)).map fun k:Nat=>D.int k:=by
   unfold nP aL
   rw[XG,Wo,oS,<-List.range_eq_range']
   rfl
  rw[<-e2] at e
  rw[e]
  exact bB k
noncomputable def BG:GD:=fun ys ah K=>∃ (m:Int) (ws:List Wy) (ns:List Int),bg m ws/\Nums ws ns/\ns≠[]/\ys=[.p (aH m ws),.p (bp ns)]/\ah=[]/\∀ n∈ns,(∀ e∈ns,kle (eM ws n) (eM ws e))->K (.p (.int n)) []
noncomputable def BH:WS:=(aF (uN false (aa 1) [some 0] (ak 1 uF (ai (d2 (d2 (aa 1) (dC (.int 1)) aQ) (aa 0) aQ) af))))
theorem Sv:∀ ys ah K',ys.length=2->BG ys ah K'->BH (bJ ah.length K') ⟨ys.map some ++ List.replicate 0 none,ah.map some⟩:=by
 rintro ys ah K' - ⟨m,ws,ns,W,hn,ne,rfl,rfl,k⟩
 unfold BH
 simp? only [uN,kD,aH,bp]
 refine⟨ns.map D.int,rfl,fun d=>match d with
  | .int n=>eM ws n
  | _=>[],fun d hd => ?_,fun h0 => ?_,fun d hd best => ?_⟩
 ·obtain⟨n,h,rfl⟩:=Mt.mp hd
  obtain⟨n0,n1⟩:=hn n h
  obtain⟨y,ey,hy,ea,_⟩:=kg W n0 n1
  refine⟨(by intro z;cases z),?_⟩
  simp? only [eK,ea]
  refine⟨y,rfl,rfl,?_⟩
  simp? only []
  unfold eM
  rw[ey]
  rfl
 ·exact absurd (YR.mp h0) ne
 ·obtain⟨n,h,rfl⟩:=Mt.mp hd
  exact bB (k n h fun e he=>best _ (Mt.mpr ⟨e,he,rfl⟩))
theorem Sw {ws:List Wy} {l:List Int}:Nums ws (nP ws l):=fun n h=>rA (Wm.mp h).1
noncomputable def nQ (f:List Int->Bool):D->Bool
 | .lst ds=>match intsOf ds with
  | some l=>f l
  | none=>false
 | _=>false
theorem Hs (f:List Int->Bool) (l:List Int):nQ f (bp l)=f l:=by
 unfold bp
 simp only[nQ,tJ]
theorem Sx {ws:List Wy} {us:List Int} (hu:Nums ws us) (nd:us.Nodup):us.length <= ws.length:=by
 have h:us.Subset (aL ws.length):=fun n h=>by
  have:=hu n h
  exact bf.mpr this
 have:=List.Nodup.length_le_of_subset nd h
 rw[qe] at this
 exact this
end LJ
namespace L2
open PySem PySem.Spec PyProof.Rows PySem.W
theorem Ht (kf:Nat->Int):∀ k,argBest (fun i j=>decide (kf i < kf j)) k <= k/\∀ j,j <= k->kf (argBest (fun i j=>decide (kf i < kf j)) k) <= kf j
 | 0=>⟨qx _,fun j hj=>by
  have e:j=0:=by omega
  subst e
  exact Int.le_refl _⟩
 | k + 1=>by
  obtain⟨h1,h2⟩:=Ht kf k
  show (if decide (kf (k + 1) < kf (argBest _ k))=true then k + 1 else argBest _ k) <= k + 1/\∀ j,j <= k + 1->kf (if decide (kf (k + 1) < kf (argBest _ k))=true then k + 1 else argBest _ k) <= kf j
  by_cases c:kf (k + 1) < kf (argBest (fun i j=>decide (kf i < kf j)) k)
  ·rw[We (Mr c)]
   refine⟨qx _,fun j hj => ?_⟩
   by_cases e:j=k + 1
   ·subst e;exact Int.le_refl _
   ·have:=h2 j (by omega);omega
  ·rw[VG (by rw[VF c];decide)]
   refine⟨by omega,fun j hj => ?_⟩
   by_cases e:j=k + 1
   ·subst e;omega
   ·exact h2 j (by omega)
section
variable {X:Cx}
theorem Sy (hc:X.calm=true):eN X (.builtin "min") (fun xs H Q=>∃ (l:Addr) (ns:List Int),xs=[.ref l]/\a7 X.K H l (ns.map V.int)/\ns≠[]/\∀ x∈ns,(∀ y∈ns,x <= y)->Q (.int x) H):=by
 intro pins s σ H xs us Q I r h
 obtain⟨l,ns,rfl,hq,ne,q⟩:=h
 obtain⟨u,rfl,rx⟩:=vals1 r
 cases rx
 obtain⟨aj,r',pl,_⟩:=I.list hq
 have hl:=r'.length
 rw[oS] at hl
 have hL:=pl.isList
 have ll:l < s.heap.objs.size:=by obtain⟨o,e,_⟩:=hL;exact My e
 have nI:l≠s.heap.objs.size:=Wi ll
 have n0:0 < ns.length:=List.length_pos_iff.mpr ne
 have sz:aj.toArray.size=ns.length:=by rw[vp];exact hl.symm
 have Hu:∀ (i:Nat) (v:Value),aj.toArray[i]? = some v->∃ t,v=Value.int (ns.getD i 0) t:=fun i v hv=>by
  rw[Ye] at hv
  have hi:i < ns.length:=by rw[hl];exact (oR.mp hv).1
  obtain⟨u,e1,t,e2⟩:=r'.get (x:=V.int (ns.getD i 0)) (i:=i) (by rw[D8,lO hi,vo,lO hi];rfl)
  rw[hv] at e1
  cases e1
  exact⟨t,e2⟩
 refine call_min_walk (XQ hL ?_)
 refine⟨s.heap.objs.size,_,_,_,_,_,fun i j=>decide (ns.getD i 0 < ns.getD j 0),rfl,YJ (by rw[Yc];exact I.ok.hd hc) s.heap.objs.size l nI _,⟨⟨_,VH _ rfl,rfl,rfl⟩,hL.push _⟩,fun b hb => ?_,by rw[sz];exact n0,CmpOf.ints_lt (fun i=>ns.getD i 0) Hu,fun v h' tk hv kp => ?_⟩
 ·simp only[VE,W5,Zp] at hb
  rw[Yb]
  rcases hb with e | e
  ·rw[e];exact Xv _
  ·rw[e];exact Xo ll
 ·obtain⟨t,rfl⟩:=Hu _ v hv
  rw[sz] at hv ⊢
  obtain⟨b1,b2⟩:=Ht (fun i=>ns.getD i 0) (ns.length - 1)
  have gm:∀ {i:Nat},i < ns.length->ns.getD i 0∈ns:=fun {i} h=>by rw[vo,lO h];exact Xl h
  refine⟨.int _,H,I.kept (t':=tk) fun b o e=>kp b o (fun z => ?_) (sC _ e),⟨t,rfl⟩,q _ (gm (by omega)) fun y hy => ?_⟩
  ·have:=My e
   rw[WB.mp z] at this
   exact Xk _ this
  ·obtain⟨j,hj,rfl⟩:=WC.mp hy
   have:=b2 j (by omega)
   rw[show ns.getD j 0=ns[j] by rw[vo,lO hj];rfl] at this
   exact this
end
noncomputable def xi:List D->(D->Prop)->Prop
 | [.lst ds],K=>match intsOf ds with
  | some ns=>ns≠[]/\∀ x∈ns,(∀ y∈ns,x <= y)->K (.int x)
  | none=>False
 | _,_=>False
variable [aE] {X:Cx}
theorem Sz (hc:X.calm=true):cH X (.builtin "min") xi:=by
 rintro pins s σ H xs us Q I r ⟨F,ds,K,sub,rd,q,md⟩
 unfold xi at q
 split at q
 ·rename_i es
  split at q
  ·rename_i ns e
   obtain⟨v,rfl,a,vs,rfl,h1,h2⟩:=cI rd
   rw[qR e] at h2
   rw[k7 h2] at h1
   exact Sy hc pins s σ H _ us Q I r ⟨a,ns,rfl,a7.of h1,q.1,fun x hx hm=>md _ _ _ (q.2 x hx hm) (fun _ _ e=>e) rfl⟩
  ·exact q.elim
 ·exact q.elim
end L2
namespace LJ
open PySem L2
variable [aE]
noncomputable def Indep (A:Wy->Prop):Prop:=∀ a,A a->¬ ar (fun v=>A v/\v≠a) a.1 a.2.1
omit [aE] in
theorem Indep.add {A B:Wy->Prop} {w:Wy} (h:Indep A) (k:∀ v,B v↔A v\/v=w) (n:¬ ar A w.1 w.2.1):Indep B:=by
 intro a ha c
 rcases (k a).mp ha with ha | rfl
 ·have aw:a≠w:=fun e=>n (by rw[<-e];exact .one ha)
  have c':ar (fun v=>(A v/\v≠a)\/v=w) a.1 a.2.1:=c.mono fun v hv=>by
   rcases (k v).mp hv.1 with z | z
   ·exact .inl ⟨z,hv.2⟩
   ·exact .inr z
  have m:∀ {x y:Int},ar (fun v=>A v/\v≠a) x y->ar A x y:=fun z=>z.mono fun v hv=>hv.1
  rcases (ar.add fun v=>Iff.rfl).mp c' with z | ⟨z1,z2⟩ | ⟨z1,z2⟩
  ·exact h a ha z
  ·exact n (((m z1).symm.trans (.one ha)).trans (m z2).symm)
  ·exact n (((m z2).trans (ar.one ha).symm).trans (m z1))
 ·exact n (c.mono fun v hv=>by
   rcases (k v).mp hv.1 with z | z
   ·exact z
   ·exact absurd z hv.2)
theorem mD {m:Int} {ws:List Wy} (W:bg m ws) {u v:Wy} (hu:u∈ws) (hv:v∈ws) (ne:u≠v):bP u v\/bP v u:=by
 by_cases c:bP u v
 ·exact .inl c
 ·refine .inr ?_
  have c:kle (gX v) (gX u):=by
   unfold kle
   cases q:HT.lexLt (gX u) (gX v) with
   | false=>rfl
   | true=>exact absurd q c
  refine G9 c fun e=>ne ?_
  obtain⟨a1,a2,a3⟩:=u
  obtain⟨b1,b2,b3⟩:=v
  unfold gX at e
  simp only[List.cons.injEq,and_true] at e
  obtain⟨e1,e2,e3⟩:=e
  subst e1 e2 e3
  rfl
theorem BI {m:Int} {ws:List Wy} (W:bg m ws):Indep (bt ws):=by
 have key:∀ k,Indep fun u=>bt ws u/\fA ws u < k:=by
  intro k
  induction k with
  | zero=>intro a ha;omega
  | succ k ih =>
   by_cases e:∃ w,bt ws w/\fA ws w=k
   ·obtain⟨w,tw,cw⟩:=e
    refine ih.add (w:=w) (fun v => ?_) fun c => ?_
    ·constructor
     ·rintro ⟨tv,cv⟩
      by_cases z:v=w
      ·exact .inr z
      ·refine .inl ⟨tv,?_⟩
       rcases mD W tv.1 tw.1 z with y | y
       ·have:=nM tv.1 y;omega
       ·have:=nM tw.1 y;omega
     ·rintro (⟨tv,cv⟩ | rfl)
      ·exact⟨tv,by omega⟩
      ·exact⟨tw,by omega⟩
    ·refine tw.2 (c.mono fun v hv=>⟨hv.1.1,?_⟩)
     by_cases z:v=w
     ·subst z;omega
     ·rcases mD W hv.1.1 tw.1 z with y | y
      ·exact y
      ·have:=nM tw.1 y;omega
   ·have eq:(fun u=>bt ws u/\fA ws u < k + 1)=fun u=>bt ws u/\fA ws u < k:=funext fun u=>propext ⟨fun ⟨a,b⟩=>⟨a,by
     by_cases z:fA ws u=k
     ·exact absurd ⟨u,a,z⟩ e
     ·omega⟩,fun ⟨a,b⟩=>⟨a,by omega⟩⟩
    rw[eq];exact ih
 have eq:(fun u=>bt ws u/\fA ws u < ws.length + 1)=bt ws:=funext fun u=>propext ⟨fun h=>h.1,fun h=>⟨h,by
  have:=List.countP_le_length (p:=fun v=>HT.lexLt (gX v) (gX u)) (l:=ws)
  unfold fA;omega⟩⟩
 have:=key (ws.length + 1)
 rw[eq] at this
 exact this
theorem uQ {m:Int} {ws:List Wy} (W:bg m ws) {a b:Int} (ha:0 <= a/\a < (ws.length:Int)) (hb:0 <= b/\b < (ws.length:Int)) (e:aq ws a=aq ws b):a=b:=by
 have nd:=Bo W
 unfold aq at e
 have h1:a.toNat < ws.length:=by omega
 have h2:b.toNat < ws.length:=by omega
 rw[vo,vo,lO h1,lO h2] at e
 have:=(XU (h₀ := h1) (h₁ := h2) nd).mp (by simpa using e)
 omega
theorem SA {l:List Int} {v:Wy} (h:fO l v=true):(v.1∈l/\v.2.1∉l)\/(v.2.1∈l/\v.1∉l):=by
 unfold fO at h
 by_cases p:v.1∈l
 ·by_cases q:v.2.1∈l
  ·rw[Mr p,Mr q] at h;cases h
  ·exact .inl ⟨p,q⟩
 ·by_cases q:v.2.1∈l
  ·exact .inr ⟨q,p⟩
  ·rw[VF p,VF q] at h;cases h
theorem gZ {ws:List Wy} {l:List Int} {n:Int}:n∈nP ws l↔(0 <= n/\n < (ws.length:Int))/\fO l (aq ws n)=true:=by
 unfold nP
 rw[Wm,bf]
noncomputable def below (ws:List Wy) (g:Wy):Wy->Prop:=fun v=>v∈ws/\bP v g
noncomputable def dZ (ws:List Wy) (g:Wy):Wy->Prop:=fun v=>bt ws v/\v≠g
structure br (ws:List Wy) (g:Wy) (a b:Int):Prop where
 mem:g∈ws
 up:ar (fun v=>below ws g v\/v=g) a b
 dn:¬ ar (below ws g) a b
theorem xj {v:Wy} (h:bP v v):False:=by
 unfold bP at h
 rw[qX] at h
 cases h
theorem xk {u v w:Wy} (h:bP u v) (h':bP v w):bP u w:=qY h h'
theorem BJ {u v:Wy} (h:bP u v) (h':bP v u):False:=xj (xk h h')
theorem Hv {m:Int} {ws:List Wy} (W:bg m ws) {u v:Wy} (hu:u∈ws) (hv:v∈ws):bP u v↔fA ws u < fA ws v:=by
 refine⟨nM hu,fun h => ?_⟩
 by_cases e:u=v
 ·subst e;omega
 ·rcases mD W hu hv e with z | z
  ·exact z
  ·have:=nM hv z;omega
theorem SD {m:Int} {ws:List Wy} (W:bg m ws) {u v:Wy} (hu:u∈ws) (hv:v∈ws) (h:fA ws u=fA ws v):u=v:=by
 by_cases e:u=v
 ·exact e
 ·rcases mD W hu hv e with z | z
  ·have:=nM hu z;omega
  ·have:=nM hv z;omega
theorem Hw {m:Int} {ws:List Wy} (W:bg m ws) {a b:Int} (ne:a≠b):∀ k,ar (fun v=>v∈ws/\fA ws v < k) a b->∃ g,br ws g a b
 | 0,c=>absurd (c.none fun v hv=>by omega) ne
 | k + 1,c=>by
  by_cases d:ar (fun v=>v∈ws/\fA ws v < k) a b
  ·exact Hw W ne k d
  ·by_cases e:∃ w,w∈ws/\fA ws w=k
   ·obtain⟨w,hw,cw⟩:=e
    refine⟨w,hw,c.mono fun v hv => ?_,fun z=>d (z.mono fun v hv=>⟨hv.1,by have:=(Hv W hv.1 hw).mp hv.2;omega⟩)⟩
    by_cases q:fA ws v < k
    ·exact .inl ⟨hv.1,(Hv W hv.1 hw).mpr (by omega)⟩
    ·exact .inr (SD W hv.1 hw (by omega))
   ·exact absurd (c.mono fun v hv=>⟨hv.1,by
     by_cases q:fA ws v=k
     ·exact absurd ⟨v,hv.1,q⟩ e
     ·omega⟩) d
theorem SE (ws:List Wy) (w:Wy):fA ws w < ws.length + 1:=by
 have:=List.countP_le_length (p:=fun v=>HT.lexLt (gX v) (gX w)) (l:=ws)
 unfold fA;omega
theorem BK {m:Int} {ws:List Wy} (W:bg m ws) {a b:Int} (ne:a≠b) (c:ar (fun v=>v∈ws) a b):∃ g,br ws g a b :=
 Hw W ne (ws.length + 1) (c.mono fun v hv=>⟨hv,SE ws v⟩)
theorem br.symm {ws:List Wy} {g:Wy} {a b:Int} (h:br ws g a b):br ws g b a:=⟨h.mem,h.up.symm,fun z=>h.dn z.symm⟩
theorem br.all {ws:List Wy} {g:Wy} {a b:Int} (h:br ws g a b):ar (fun v=>v∈ws) a b:=h.up.mono fun v hv=>hv.elim (fun z=>z.1) fun z=>z ▸ h.mem
theorem br.kE {ws:List Wy} {g:Wy} {a b:Int} (h:br ws g a b):(ar (below ws g) a g.1/\ar (below ws g) g.2.1 b)\/(ar (below ws g) a g.2.1/\ar (below ws g) g.1 b):=by
 rcases (ar.add fun v=>Iff.rfl).mp h.up with z | z
 ·exact absurd z h.dn
 ·exact z
theorem br.tree {ws:List Wy} {g:Wy} {a b:Int} (h:br ws g a b):bt ws g:=by
 refine⟨h.mem,fun c=>h.dn ?_⟩
 rcases h.kE with⟨p,q⟩ | ⟨p,q⟩
 ·exact (p.trans c).trans q
 ·exact (p.trans c.symm).trans q
theorem BL {ws:List Wy} {g:Wy} {a b:Int} (h:ar (below ws g) a b):ar (fun v=>bt ws v/\bP v g) a b :=
 h.bind fun u hu=>(xb _ u hu.1 (qx _)).mono fun x hx=>⟨hx.1,hx.2.elim (fun z=>xk z hu.2) fun z=>z ▸ hu.2⟩
theorem mE {ws:List Wy} {g:Wy} {a b:Int} (h:ar (below ws g) a b):ar (dZ ws g) a b :=
 (BL h).mono fun v hv=>⟨hv.1,fun e=>xj (e ▸ hv.2)⟩
theorem Hx {ws:List Wy} {a b:Int} (h:ar (fun v=>v∈ws) a b):ar (bt ws) a b :=
 h.bind fun u hu=>(xb _ u hu (qx _)).mono fun x hx=>hx.1
theorem br.parts {m:Int} {ws:List Wy} (W:bg m ws) {g:Wy} {a b:Int} (h:br ws g a b):¬ ar (dZ ws g) a b:=fun c=>by
 refine BI W g h.tree ?_
 rcases h.kE with⟨p,q⟩ | ⟨p,q⟩
 ·exact ((mE p).symm.trans c).trans (mE q).symm
 ·exact ((mE q).trans c.symm).trans (mE p)
theorem br.top {m:Int} {ws:List Wy} (W:bg m ws) {g t:Wy} {a b:Int} (h:br ws g a b) (ht:bt ws t) (p:¬ ar (dZ ws t) a b):bP t g\/t=g:=by
 by_cases e:t=g
 ·exact .inr e
 ·rcases mD W ht.1 h.mem e with z | z
  ·exact .inl z
  ·refine absurd (h.up.bind fun u hu => ?_) p
   rcases hu with hu | rfl
   ·exact (ar.mono (BL (ar.one hu))) fun v hv=>⟨hv.1,fun e=>by subst e;exact BJ hv.2 z⟩
   ·exact .one ⟨h.tree,fun x=>e x.symm⟩
theorem br.cut {m:Int} {ws:List Wy} (W:bg m ws) {g:Wy} {a b:Int} (h:br ws g a b) {l:List Int} (hl:∀ x,0 <= x/\x < m->(x∈l↔ar (dZ ws g) a x)):fO l g=true/\∀ v∈ws,fO l v=true->bP g v\/v=g:=by
 have gm:=W.ends g h.mem
 have ng:¬ ar (dZ ws g) g.1 g.2.1:=BI W g h.tree
 have r1:0 <= g.1/\g.1 < m:=by omega
 have r2:0 <= g.2.1/\g.2.1 < m:=by omega
 constructor
 ·unfold fO
  rcases h.kE with⟨p,q⟩ | ⟨p,q⟩
  ·rw[Mr ((hl _ r1).mpr (mE p)),VF fun z=>ng ((mE p).symm.trans ((hl _ r2).mp z))];rfl
  ·rw[Mr ((hl _ r2).mpr (mE p)),VF fun z=>ng (((hl _ r1).mp z).symm.trans (mE p))];rfl
 ·intro v hv lv
  by_cases e:v=g
  ·exact .inr e
  ·rcases mD W hv h.mem e with z | z
   ·have vm:=W.ends v hv
    have c:ar (dZ ws g) v.1 v.2.1:=mE (.one ⟨hv,z⟩)
    have r1:0 <= v.1/\v.1 < m:=by omega
    have r2:0 <= v.2.1/\v.2.1 < m:=by omega
    rcases SA lv with⟨p,q⟩ | ⟨p,q⟩
    ·exact absurd ((hl _ r2).mpr (((hl _ r1).mp p).trans c)) q
    ·exact absurd ((hl _ r1).mpr (((hl _ r2).mp p).trans c.symm)) q
   ·exact .inl z
theorem Hy {ws us:List Wy} (sub:∀ v∈us,v∈ws) {t:Wy} (h:bt ws t) (ht:t∈us):bt us t:=⟨ht,fun c=>h.2 (c.mono fun v hv=>⟨sub v hv.1,hv.2⟩)⟩
theorem Hz {m:Int} {ws us:List Wy} (W:bg m ws) {g c:Wy} (hu:∀ v,v∈us↔v∈ws/\v≠g) (hg:bt ws g) (tc:bt us c) (nc:¬ bt ws c) :
  bP g c/\((ar (fun v=>dZ ws g v/\bP v c) c.1 g.1/\ar (fun v=>dZ ws g v/\bP v c) g.2.1 c.2.1)\/(ar (fun v=>dZ ws g v/\bP v c) c.1 g.2.1/\ar (fun v=>dZ ws g v/\bP v c) g.1 c.2.1)):=by
 obtain⟨hc,cg⟩:=(hu c).mp tc.1
 have c0:ar (below ws c) c.1 c.2.1:=WQ fun z=>nc ⟨hc,z⟩
 have c1:=BL c0
 have no:¬ ar (fun v=>dZ ws g v/\bP v c) c.1 c.2.1:=fun z=>tc.2 (z.mono fun v hv=>⟨(hu v).mpr ⟨hv.1.1.1,hv.1.2⟩,hv.2⟩)
 have gc:bP g c:=by
  rcases mD W hg.1 hc (fun e=>cg e.symm) with z | z
  ·exact z
  ·exact absurd (c1.mono fun v hv=>⟨⟨hv.1,fun e=>by subst e;exact BJ hv.2 z⟩,hv.2⟩) no
 refine⟨gc,?_⟩
 have k:∀ v,(bt ws v/\bP v c)↔(dZ ws g v/\bP v c)\/v=g:=fun v=>by
  constructor
  ·rintro ⟨p,q⟩
   by_cases e:v=g
   ·exact .inr e
   ·exact .inl ⟨⟨p,e⟩,q⟩
  ·rintro (⟨p,q⟩ | rfl)
   ·exact⟨p.1,q⟩
   ·exact⟨hg,gc⟩
 rcases (ar.add k).mp c1 with z | z
 ·exact absurd z no
 ·exact z
theorem BM {m:Int} {ws us:List Wy} (W:bg m ws) {g c d:Wy} (hu:∀ v,v∈us↔v∈ws/\v≠g) (hg:bt ws g) (hd:d∈ws) (dg:d≠g) (pd:¬ ar (dZ ws g) d.1 d.2.1) (tc:bt us c) (nc:¬ bt ws c):bP c d\/c=d:=by
 obtain⟨hc,cg⟩:=(hu c).mp tc.1
 by_cases e:c=d
 ·exact .inr e
 rcases mD W hc hd e with z | z
 ·exact .inl z
 exfalso
 obtain⟨gc,s⟩:=Hz W hu hg tc nc
 have cd:=xb _ d hd (qx _)
 have S:∀ {x y:Int},ar (fun v=>dZ ws g v/\(bP v d\/v=d)) x y->ar (fun v=>v∈us/\bP v c) x y:=fun h=>h.mono fun v hv=>⟨(hu v).mpr ⟨hv.1.1.1,hv.1.2⟩,hv.2.elim (fun q=>xk q z) fun q=>q ▸ z⟩
 have S2:∀ {x y:Int},ar (fun v=>dZ ws g v/\bP v c) x y->ar (fun v=>v∈us/\bP v c) x y:=fun h=>h.mono fun v hv=>⟨(hu v).mpr ⟨hv.1.1.1,hv.1.2⟩,hv.2⟩
 have D:ar (fun v=>v∈us/\bP v c) d.1 d.2.1 := .one ⟨(hu d).mpr ⟨hd,dg⟩,z⟩
 have G:ar (fun v=>v∈us/\bP v c) g.1 g.2.1:=by
  have SF:ar (fun v=>(dZ ws g v/\(bP v d\/v=d))\/v=g) d.1 d.2.1:=cd.mono fun v hv=>by
   by_cases e:v=g
   ·exact .inr e
   ·exact .inl ⟨⟨hv.1,e⟩,hv.2⟩
  rcases (ar.add fun v=>Iff.rfl).mp SF with y | ⟨y1,y2⟩ | ⟨y1,y2⟩
  ·exact absurd (y.mono fun v hv=>hv.1) pd
  ·exact ((S y1).symm.trans D).trans (S y2).symm
  ·exact ((S y2).trans D.symm).trans (S y1)
 refine tc.2 ?_
 rcases s with⟨p,q⟩ | ⟨p,q⟩
 ·exact ((S2 p).trans G).trans (S2 q)
 ·exact ((S2 p).trans G.symm).trans (S2 q)
theorem BN {m:Int} {ws us:List Wy} (W:bg m ws) {g c:Wy} (hu:∀ v,v∈us↔v∈ws/\v≠g) (hg:bt ws g) (tc:bt us c) (nc:¬ bt ws c):¬ ar (dZ ws g) c.1 c.2.1:=fun z=>by
 obtain⟨gc,s⟩:=Hz W hu hg tc nc
 have S:∀ {x y:Int},ar (fun v=>dZ ws g v/\bP v c) x y->ar (dZ ws g) x y:=fun h=>h.mono fun v hv=>hv.1
 refine BI W g hg ?_
 rcases s with⟨p,q⟩ | ⟨p,q⟩
 ·exact ((S p).symm.trans z).trans (S q).symm
 ·exact ((S q).trans z.symm).trans (S p)
theorem SG {m:Int} {ws us:List Wy} (W:bg m ws) {g d:Wy} (hu:∀ v,v∈us↔v∈ws/\v≠g) (hd:d∈ws) (dg:d≠g) (pd:¬ ar (dZ ws g) d.1 d.2.1):∃ c,bt us c/\¬ bt ws c:=by
 refine WQ fun no=>pd ?_
 refine (Hx (ws:=us) (.one ((hu d).mpr ⟨hd,dg⟩))).mono fun v hv=>⟨WQ fun z=>no ⟨v,hv,z⟩,((hu v).mp hv.1).2⟩
theorem HA {u v:Wy} (h:bP u v\/u=v):u.2.2 <= v.2.2:=by
 rcases h with h | rfl
 ·unfold bP gX at h
  rw[RR] at h
  split at h
  ·omega
  ·have:=XC h;omega
 ·omega
noncomputable def BO:GD:=fun ys ah K=>∃ (m:Int) (ws:List Wy) (ns:List Int),bg m ws/\Nums ws ns/\ys=[.p (aH m ws),.p (bp ns)]/\ah=[]/\(ns=[]->K (.p .non) [])/\∀ n∈ns,(∀ e∈ns,kle (eM ws e) (eM ws n))->K (.p (.int n)) []
noncomputable def BP:WS:=(aF (uN true (aa 1) [some 0] (ak 1 uF (ai (d2 (d2 (aa 1) (dC (.int 1)) aQ) (aa 0) aQ) af))))
theorem SH:∀ ys ah K',ys.length=2->BO ys ah K'->BP (bJ ah.length K') ⟨ys.map some ++ List.replicate 0 none,ah.map some⟩:=by
 rintro ys ah K' - ⟨m,ws,ns,W,hn,rfl,rfl,k0,k⟩
 unfold BP
 simp? only [uN,kD,aH,bp]
 refine⟨ns.map D.int,rfl,fun d=>match d with
  | .int n=>eM ws n
  | _=>[],fun d hd => ?_,fun h0 => ?_,fun d hd best => ?_⟩
 ·obtain⟨n,h,rfl⟩:=Mt.mp hd
  obtain⟨n0,n1⟩:=hn n h
  obtain⟨y,ey,hy,ea,_⟩:=kg W n0 n1
  refine⟨(by intro z;cases z),?_⟩
  simp? only [eK,ea]
  refine⟨y,rfl,rfl,?_⟩
  simp? only []
  unfold eM
  rw[ey]
  rfl
 ·exact bB (k0 (YR.mp h0))
 ·obtain⟨n,h,rfl⟩:=Mt.mp hd
  exact bB (k n h fun e he=>best _ (Mt.mpr ⟨e,he,rfl⟩))
noncomputable def mF (us:List Int) (g:Int):List Int:=us.filter fun n=>decide (n≠g)
open Classical in
noncomputable def qj (ws:List Wy) (us:List Int) (g one other:Int):Bool := !decide (ar (fM ws (mF us g)) one other)
noncomputable def nR (ws:List Wy) (us:List Int) (one other:Int):List Int:=us.filter fun n=>qj ws us n one other
noncomputable def BQ:GD:=fun ys ah K=>∃ (m:Int) (ws:List Wy) (us:List Int) (g:Int) (i j:Nat),bg m ws/\Nums ws us/\us.length <= 900/\i < m.toNat/\j < m.toNat/\ys=[.p (aH m ws),.p (bp us),.p (.int g),.p (.int i),.p (.int j)]/\ah=[]/\K (.p (.bl (qj ws us g i j))) []
noncomputable def BR:WS:=(au (aC 5 (ak 2 rz (ai (aa 0) (ai (fq (bO (aa 1)) [none,some 2] (bE 0) (dT (d2 (aa 0) (aa 1) l3)) (aa 0)) af)))) (aF (d2 (d2 (aa 5) (aa 3) aQ) (d2 (aa 5) (aa 4) aQ) l3)))
open Classical in
theorem SI:∀ ys ah K',ys.length=5->BQ ys ah K'->BR (bJ ah.length K') ⟨ys.map some ++ List.replicate 1 none,ah.map some⟩:=by
 rintro ys ah K' - ⟨m,ws,us,g,i,j,W,hu,ul,hi,hj,rfl,rfl,k⟩
 unfold BR
 refine aR fun N hN => ?_
 rw[show bp us = .lst (us.map D.int) from rfl]
 simp? only []
 refine L2.j_ (fun d=>match d with
  | .int n=>decide (n≠g)
  | _=>false) id (by rw[oS];omega) trivial ?_ ?_
 ·intro d hd acc L' ha h1 h2
  obtain⟨n,iC,rfl⟩:=Mt.mp hd
  dsimp only at h1 h2
  simp? only []
  rw[lh]
  by_cases c:n=g
  ·rw[Mr c]
   simp? only []
   exact h2 (VF fun z=>z c)
  ·rw[VF c]
   simp? only []
   exact⟨ha,h1 (Mr c)⟩
 have e:((us.map D.int).filter fun d=>match d with
  | .int n=>decide (n≠g)
  | _=>false).map id=(mF us g).map D.int:=by
  rw[Yv,XG];rfl
 rw[e]
 have su:Nums ws (mF us g):=fun n h=>hu n (Wm.mp h).1
 simp? only []
 refine⟨m,ws,mF us g,W,su,.inl ⟨rfl,rfl,?_⟩⟩
 have mo:=Bp W su
 unfold qj at k
 generalize f_ m ws (mF us g)=fs at mo
 have a1:=pX (ns:=fs) (i:=i) (by rw[mo.1];exact hi)
 have a2:=pX (ns:=fs) (i:=j) (by rw[mo.1];exact hj)
 simp? only []
 subst hN
 simp? only [bp,a1,a2]
 rw[lh]
 have:decide (fs.getD i 0=fs.getD j 0)=@decide (ar (fM ws (mF us g)) i j) (Classical.propDecidable _):=by
  by_cases c:fs.getD i 0=fs.getD j 0
  ·rw[Mr c,Mr ((mo.2 i j hi hj).mp c)]
  ·rw[VF c,VF fun z=>c ((mo.2 i j hi hj).mpr z)]
 rw[this]
 exact bB k
end LJ
namespace L2
open PySem PySem.Spec PyProof.Rows PySem.W
theorem SJ (a d:Value):argsOk "min" ⟨[a],[(Str.ofString "default",d)]⟩:=by unfold argsOk;kernel_rfl
section
variable {X:Cx} {pins:List (Addr × Obj)} {σ : St} {H:Hp} {s:Shared} {E:Value->Shared->Prop} {l I S:Addr} {ts:List Addr} {d:Value} {R:Result->Shared->Prop}
noncomputable def SK (kf:Nat->LK) (ts:List Addr) (i:Nat) (fN:Array Value):Prop :=
 (i=0/\fN = #[])\/∃ (b:Nat) (t:Addr),b < i/\ts[b]? = some t/\fN = #[.ref t,.ref t]/\∀ j,j < i->kle (kf b) (kf j)
theorem SM (kf:Nat->LK) (hh:X.A.handled=none) (hu:X.A.units + 1 < cLine) (kA:l≠I) (kB:S≠I) (fI:H I=none->a0 X pins H I) (fS:H S=none->a0 X pins H S)
  (hl:H l=some (.lst (ts.map V.ref))) (hP:∀ i t,ts[i]? = some t->H t=some (.tup ((kf i).map V.int)))
  (fin:∀ s',Inv X pins σ H s'->(ts=[]->R (.ok (.ret d)) s')/\∀ (b:Nat) (t:Addr),ts[b]? = some t->(∀ j,j < ts.length->kle (kf b) (kf j))->R (.ok (.ret (.ref t))) s') :
  ∀ (r i:Nat) (s':Shared) (fN:Array Value) (c:Nat) (oI:Obj),i + r=ts.length->Inv X ((S,seqObj "list" fN c) :: (I,oI) :: pins) σ H s'->oI.cls = .type "list_iterator" -> oI.data = .fields #[.ref l,.int i 0]->SK kf ts i fN →
   codeAny (model X.prog X.w) X.A (.builtin "min.loop" ⟨[.ref I,.none,.ref S],[(Str.ofString "default",d)]⟩) R s':=by
 have cM:(toString "min" ++ toString ".loop" : String) = "min.loop" := by decide
 intro r
 induction r with
 | zero =>
  intro i s' fN c oI hr J kL qh hb
  have pS:=J.pin (S,seqObj "list" fN c) (Mq _ (.head _))
  have pI:=J.pin (I,oI) (Mq _ (.tail _ (.head _)))
  have Jn:=J.bw.bw
  obtain⟨aj,rv,pl,_⟩:=Jn.list (a7.of hl)
  have lv:=rv.length
  rw[oS] at lv
  have Bw:i=aj.length:=by omega
  refine XS Zh ?_
  rw[Xs Xz _]
  show wpAny _ X.A.in1 (seqItems? (.ref S) >>= _) _ _ _
  refine oQ (X_ pS.1 rfl ?_)
  show wpAny _ X.A.in1 (tryCatch (pyNext (.ref I)) _ >>= _) _ _ _
  have W:=YJ (prog:=X.prog) (w:=X.w) (A:=X.A.in1) hh I l kA aj.toArray
  refine oQ (Yu (W.done _ _ _ ⟨⟨oI,pI.1,kL,by rw[qh,vp,<-Bw]⟩,YV pl⟩ fun h' jk fu => ?_))
  have J1:Inv X pins σ H { s' with heap:=h',toks:=jk }:=Jn.cn (fI pI.2.1) fun c o n e=>fu c o (by simpa using n) e
  have iR:=fu S _ (by simpa using kB) pS.1
  rcases hb with⟨ny,rfl⟩ | ⟨b,t,hb,ht,rfl,best⟩
  ·refine oQ (q0g (D5 ?_))
   exact (fin _ J1).1 (XH.mp (by omega))
  ·have s1:=WL h' S (Obj.mapSeq fun _=>(#[]:Array Value))
   show wpAny _ X.A.in1 (updateSeq S (fun _ => #[]) >>= _) _ _ _
   refine oQ (YF iR rfl (oQ (Yw (D5 ?_))))
   exact (fin _ (J1.cn (fS pS.2.1) fun c o n e=>(s1.2 c n).trans e)).2 b t ht fun j hj=>best j (by omega)
 | succ r ih =>
  intro i s' fN c oI hr J kL qh hb
  have pS:=J.pin (S,seqObj "list" fN c) (Mq _ (.head _))
  have pI:=J.pin (I,oI) (Mq _ (.tail _ (.head _)))
  have Jn:=J.bw.bw
  obtain⟨aj,rv,pl,_⟩:=Jn.list (a7.of hl)
  have lv:=rv.length
  rw[oS] at lv
  refine XS Zh ?_
  rw[Xs Xz _]
  show wpAny _ X.A.in1 (seqItems? (.ref S) >>= _) _ _ _
  refine oQ (X_ pS.1 rfl ?_)
  show wpAny _ X.A.in1 (tryCatch (pyNext (.ref I)) _ >>= _) _ _ _
  have W:=YJ (prog:=X.prog) (w:=X.w) (A:=X.A.in1) hh I l kA aj.toArray
  refine oQ (Yu (W.item i _ _ _ (by rw[vp];omega) ⟨⟨oI,pI.1,kL,qh⟩,YV pl⟩ fun v h' jk hv qi fu => ?_))
  have hv:aj[i]? = some v:=by simpa using hv
  obtain⟨jw,mB,kC,jx⟩:=id qi.1
  have hi:i < ts.length:=by omega
  have hx:=lO hi
  generalize ts[i]=t2 at hx
  obtain⟨u,e1,rx⟩:=rv.get (x := .ref t2) (by rw[D8,hx];rfl)
  rw[hv] at e1
  cases e1
  cases rx
  have iR:=fu S _ (by simpa using kB) pS.1
  have nI:∀ z,jw.data ≠ .cell z:=fun z e=>by rw[jx] at e;cases e
  have J1:Inv X pins σ H { s' with heap:=h',toks:=jk }:=Jn.cn (fI pI.2.1) fun c o n e=>fu c o (by simpa using n) e
  have J2:=(J1.cW (fI pI.2.1) mB nI).cW ((fS pS.2.1).cons (p:=(I,jw)) kB.symm) iR lb
  have put:(∀ j,j < i + 1->kle (kf i) (kf j))->codeAny (model X.prog X.w) X.A (.builtin "min.loop" ⟨[.ref I,.none,.ref S],[(Str.ofString "default",d)]⟩) R { s' with heap:=h'.update S (Obj.mapSeq fun _ => #[.ref t2,.ref t2]),toks:=jk }:=fun best=>by
   have s1:=WL h' S (Obj.mapSeq fun _ => #[Value.ref t2,Value.ref t2])
   obtain⟨c2,e8⟩:∃ c2,(h'.update S (Obj.mapSeq fun _ => #[Value.ref t2,Value.ref t2])).get? S=some (seqObj "list" #[.ref t2,.ref t2] c2):=⟨_,YY iR fun _ => #[Value.ref t2,Value.ref t2]⟩
   have J4:Inv X pins σ H { s' with heap:=h'.update S (Obj.mapSeq fun _ => #[Value.ref t2,Value.ref t2]),toks:=jk }:=J1.cn (t':=jk) (fS pS.2.1) fun c o n e=>(s1.2 c n).trans e
   have J5:=(J4.cW (fI pI.2.1) ((s1.2 I kB.symm).trans mB) nI).cW ((fS pS.2.1).cons (p:=(I,jw)) kB.symm) e8 lb
   exact ih (i + 1) _ _ c2 jw (by omega) J5 kC jx (.inr ⟨i,t2,by omega,hx,rfl,best⟩)
  rcases hb with⟨ny,rfl⟩ | ⟨b,t,hb,ht,rfl,best⟩
  ·show wpAny _ X.A.in1 (updateSeq S (fun _ => #[.ref t2,.ref t2]) >>= _) _ _ _
   refine oQ (YF iR rfl ?_)
   rw[cM]
   refine D5 ⟨XX Xz _,put fun j hj => ?_⟩
   obtain rfl:j=i:=by omega
   exact kle_refl _
  ·obtain⟨i1,r1,Bx,_⟩:=J2.tuple (bC.of (hP i t2 hx))
   obtain⟨i2,r2,By,_⟩:=J2.tuple (bC.of (hP b t ht))
   show wpAny _ X.A.in1 (tryCatch (holding [.ref t2,.ref t2] (richCompare .Lt (.ref t2) (.ref t) >>= _)) _ >>= _) _ _ _
   refine oQ (Yu (WK (oQ ?_)))
   refine HT.yi (ns:=kf i) (ms:=kf b) Bx By (by simpa using intsAre_of r1) (by simpa using intsAre_of r2) hu ?_
   refine oQ (WK (XB ?_))
   refine oQ (Yw (D5 ?_))
   cases hq:HT.lexLt (kf i) (kf b) with
   | true =>
    simp only[Yy]
    refine oQ (YF iR rfl (oQ (Yw ?_)))
    rw[cM]
    refine D5 ⟨XX Xz _,put fun j hj => ?_⟩
    by_cases e:j=i
    ·subst e;exact kle_refl _
    ·exact kle_trans (pL hq) (best j (by omega))
   | false =>
    simp only[Wn,Xr]
    refine oQ (Yw ?_)
    rw[cM]
    refine D5 ⟨XX Xz _,ih (i + 1) _ _ c jw (by omega) J2 kC jx (.inr ⟨b,t,by omega,ht,rfl,fun j hj => ?_⟩)⟩
    by_cases e:j=i
    ·subst e;exact hq
    ·exact best j (by omega)
theorem SN {Q:Value->Shared->Prop} (kf:Nat->LK) (J:Inv X pins σ H s) (hh:X.A.handled=none) (hu:X.A.units + 1 < cLine)
  (hl:H l=some (.lst (ts.map V.ref))) (hP:∀ i t,ts[i]? = some t->H t=some (.tup ((kf i).map V.int)))
  (fin:∀ s',Inv X pins σ H s'->(ts=[]->Q d s')/\∀ (b:Nat) (t:Addr),ts[b]? = some t->(∀ j,j < ts.length->kle (kf b) (kf j))->Q (.ref t) s') :
  wpAny (model X.prog X.w) X.A (call (.builtin "min") [.ref l] [(Str.ofString "default",d)]) Q E s:=by
 have cM:(toString "min" ++ toString ".loop" : String) = "min.loop" := by decide
 obtain⟨aj,rv,pl,_⟩:=J.list (a7.of hl)
 have qM:=PlainL.lt pl
 refine kmk_tree PySem.F.kind_min PySem.F.plain_min PySem.F.entry_min (SJ _ _) ?_
 show wpAny _ X.A.in1 (Builtin.Builtins.bindParams "min" ["key", "default"] 0 ⟨[],[(Str.ofString "default",d)]⟩ >>= _) _ _ s
 refine oQ (wpAny_of_eq (show Builtin.Builtins.bindParams "min" ["key", "default"] 0 ⟨[],[(Str.ofString "default",d)]⟩=pure [none,some d] from rfl) ?_)
 refine oQ (D5 ?_)
 refine oQ (XQ (YV pl) ?_)
 refine oQ (ZV ?_ (W6 _))
 rw[cM]
 refine D5 ⟨XX Xz _,?_⟩
 have J1:Inv X pins σ H { s with heap:=s.heap.push { cls := .type "list_iterator",data := .fields #[.ref l,.int 0 0] } }:=J.kept (t':=s.toks) fun b u e=>sC _ e
 have gI:(s.heap.push { cls := .type "list_iterator",data := .fields #[.ref l,.int 0 0] }).get? s.heap.objs.size=some { cls := .type "list_iterator",data := .fields #[.ref l,.int 0 0] }:=VH _ rfl
 have hS:(s.heap.push { cls := .type "list_iterator",data := .fields #[.ref l,.int 0 0] }).objs.size≠s.heap.objs.size:=fun z=>Xk _ (Nat.lt_of_lt_of_eq (My gI) z)
 have fI:H s.heap.objs.size=none->a0 X pins H s.heap.objs.size:=J.d8 (qx _)
 have uM:H s.heap.objs.size=none:=J.aJ.fresh (qx _)
 have kA:l≠s.heap.objs.size:=Wi qM
 generalize s.heap.objs.size=I at gI hS fI uM kA
 generalize s.heap.push { cls := .type "list_iterator",data := .fields #[.ref l,.int 0 0] }=g1 at J1 gI hS
 have fS:H g1.objs.size=none->a0 X pins H g1.objs.size:=J1.d8 (qx _)
 have Bz:H g1.objs.size=none:=J1.aJ.fresh (qx _)
 have J2:Inv X pins σ H { s with heap:=g1.push (seqObj "list" #[] 0) }:=J1.kept (t':=s.toks) fun b u e=>sC _ e
 have J3:=(J2.cW (fI uM) (sC _ gI) (fun z e=>by cases e)).cW ((fS Bz).cons (p:=(I,_)) hS.symm) (VH _ rfl) lb
 exact SM kf hh hu kA hS fI fS hl hP fin ts.length 0 _ #[] 0 _ (by simp) J3 rfl rfl (.inl ⟨rfl,rfl⟩)
end
variable [aE]
noncomputable def tupI (k:LK):D := .tup (k.map D.int)
noncomputable def HB (ds:List D) (K:D->Prop):Prop:=∃ ks:List LK,ds=ks.map tupI/\(ks=[]->K .non)/\∀ k∈ks,(∀ e∈ks,kle k e)->K (tupI k)
noncomputable def xm (x:DV) (K:D->Prop):Prop:=∃ ds,x = .p (.lst ds)/\HB ds K
noncomputable def BS (f:WE):WE:=fun δ K=>f δ fun x δ1=>xm x fun d=>K (.p d) δ1
theorem HC {F:Hp}:∀ {ks:List LK} {us:List V},ae F (ks.map tupI) us->∃ ts:List Addr,us=ts.map V.ref/\ts.length=ks.length/\∀ (i:Nat) (t:Addr),ts[i]? = some t->F t=some (.tup ((ks.getD i []).map V.int))
 | [],us,h=>by
  have:=h.length
  exact⟨[],XH.mp this,rfl,fun i t e=>by simp at e⟩
 | k :: ks,us,h=>by
  cases us with
  | nil=>have:=h.length;cases this
  | cons u us =>
   have h1:Is F (tupI k) u:=ae.at h (i:=0) rfl rfl
   have h2:ae F (ks.map tupI) us:=zM 1 h
   obtain⟨ts,rfl,e1,e2⟩:=HC h2
   unfold tupI at h1
   simp only[Is] at h1
   obtain⟨t,ws,rfl,g1,g2⟩:=h1
   rw[k7 g2] at g1
   refine⟨t :: ts,rfl,by rw[D7,D7,e1],fun i t' e => ?_⟩
   cases i with
   | zero=>cases (show some t=some t' from e);exact g1
   | succ i=>exact e2 i t' e
section
variable {X:Cx} {e:Expr} {f:WE} {p1 q1 jy:Pos}
theorem SO {j p2} (hu:X.A.units + 64 < cLine) (hc:X.calm=true) (p_:Gl X "min") (hs:X.mg "min" = none) (qa:bootBuiltins "min" = some (.builtin "min")) (ha:JA X [e] (bL (ai f af)))
  (he:starEach [e] X.env=[(false,eval e X.env)]:=by rfl):JE X (.Call (.Name "min" p1) [e] [⟨some "default",.Constant .none j p2,jy⟩] q1) (tD (BS f)) :=
 ⟨fun pins s σ H Q I h0_ => el7 h0_ fun F ad δ K S q k =>by
  refine Ya (kM I p_ hs qa ?_)
  refine callWith_kw ?_ (he:=by rw[he];rfl) (hplain:=by rw[he];rfl)
  refine a6 (ha.out q1 pins s σ H (fun vs H1=>∃ (l:Addr) (F1:Hp) (aK:List Addr) (δ1:az) (ds:List D) (us:List V),vs=[.ref l]/\F1 l=some (.lst us)/\ae F1 ds us/\Ext F ad δ.mu H F1 aK δ1.mu H1/\SR F1 aK δ1 σ H1/\HB ds fun d=>K (.p d) δ1) I ?_) fun us s1 uD => ?_
  ·refine⟨F,ad,δ,fun xs δ1=>match xs with
    | [x]=>xm x fun d=>K (.p d) δ1
    | _=>False,S,q,fun xs δ1 h1 vs F1 aK H1 E1 S1 V1 => ?_⟩
   cases xs with
   | nil=>exact h1.elim
   | cons x xs =>
    cases xs with
    | cons _ _=>exact h1.elim
    | nil =>
     obtain⟨v,r,rfl,W1,W2⟩:=V1
     have W2:r=[]:=W2
     subst W2
     obtain⟨ds,rfl,h2⟩:xm x fun d=>K (.p d) δ1:=h1
     have W1:Is F1 (.lst ds) v:=W1
     simp only[Is] at W1
     obtain⟨a,us,rfl,g1,g2⟩:=W1
     exact⟨a,F1,aK,δ1,ds,us,rfl,g1,g2,E1,S1,h2⟩
  ·obtain⟨vs,H1,I1,r1,l,F1,aK,δ1,ds,ws,ev,hl,hi,E1,S1,ks,rfl,K0,hK⟩:=uD
   subst ev
   obtain⟨u,rfl,rx⟩:=vals1 r1
   cases rx
   obtain⟨ts,rfl,tl,ht⟩:=HC hi
   show wpAny _ _ (evalAll [do let v <- eval (.Constant .none j p2) X.env;standAt q1;pure v]) _ _ _
   refine evalAll_cons (oQ (D5 ?_))
   refine oQ (Ym (D5 ?_))
   refine evalAll_nil ?_
   show wpAny _ _ (call (.builtin "min") [.ref l] [(Str.ofString "default",.none)]) _ _ _
   refine SN (l:=l) (ts:=ts) (d := .none) (fun i=>ks.getD i []) I1 (I1.ok.hd hc) (by omega) (S1.sub _ _ hl) (fun i t e=>S1.sub _ _ (ht i t e)) fun s' I'=>⟨fun h0 => ?_,fun b t e best => ?_⟩
   ·exact⟨.non,H1,I',rfl,k _ _ (K0 (XH.mp (by rw[<-tl,h0];rfl))) _ _ _ _ E1 S1 (by show Is _ _ _;simp only[Is])⟩
   ·have hb:b < ks.length:=by rw[<-tl];exact (oR.mp e).1
    have gd:∀ {i:Nat} (h:i < ks.length),ks.getD i []=ks[i]:=fun {i} h=>by rw[vo,lO h];rfl
    refine⟨.ref t,H1,I',rfl,k _ _ (hK ks[b] (Xl hb) fun x hx => ?_) _ _ _ _ E1 S1 ?_⟩
    ·obtain⟨j,hj,rfl⟩:=WC.mp hx
     have:=best j (by omega)
     rw[gd hb,gd hj] at this
     exact this
    ·have:=ht b t e
     rw[gd hb] at this
     show Is _ (tupI _) _
     unfold tupI
     simp only[Is]
     exact⟨t,_,rfl,this,ni⟩⟩
end
end L2
namespace LJ
open PySem L2
variable [aE]
structure bF (ws:List Wy) (fo:List Int):Prop where
 nd:fo.Nodup
 mem:∀ n,n∈fo↔(0 <= n/\n < (ws.length:Int))/\bt ws (aq ws n)
theorem uR {m:Int} {ws:List Wy} (W:bg m ws) {os:List Int} (ho:bc ws os):bF ws (hU m ws os):=⟨Ha ho,fun n=>G_ W ho⟩
theorem bF.nums {ws:List Wy} {fo:List Int} (F:bF ws fo):Nums ws fo:=fun n h=>((F.mem n).mp h).1
theorem bF.len {ws:List Wy} {fo:List Int} (F:bF ws fo):fo.length <= ws.length:=Sx F.nums F.nd
theorem uS {S S':Wy->Prop} {a b:Int} (h:∀ v,S v↔S' v):ar S a b↔ar S' a b:=⟨fun c=>c.mono fun v hv=>(h v).mp hv,fun c=>c.mono fun v hv=>(h v).mpr hv⟩
theorem bF.BU {ws:List Wy} {fo:List Int} (F:bF ws fo) (v:Wy):fM ws fo v↔bt ws v :=
 ⟨by rintro ⟨k,hk,rfl⟩;exact ((F.mem k).mp hk).2,fun h=>by obtain⟨n,hn,rfl⟩:=lj h.1;exact⟨n,(F.mem n).mpr ⟨hn,h⟩,rfl⟩⟩
theorem bF.conn {ws:List Wy} {fo:List Int} (F:bF ws fo) {a b:Int}:ar (fM ws fo) a b↔ar (fun v=>v∈ws) a b :=
 (uS F.BU).trans ⟨fun c=>c.mono fun v hv=>hv.1,Hx⟩
theorem bF.uT {m:Int} {ws:List Wy} (W:bg m ws) {fo:List Int} (F:bF ws fo) {g:Int} (hg:0 <= g/\g < (ws.length:Int)) (v:Wy):fM ws (mF fo g) v↔dZ ws (aq ws g) v:=by
 constructor
 ·rintro ⟨k,hk,rfl⟩
  obtain⟨h1,h2⟩:=Wm.mp hk
  exact⟨((F.mem k).mp h1).2,fun e=>XC h2 (uQ W ((F.mem k).mp h1).1 hg e)⟩
 ·rintro ⟨h1,h2⟩
  obtain⟨n,hn,rfl⟩:=lj h1.1
  exact⟨n,Wm.mpr ⟨(F.mem n).mpr ⟨hn,h1⟩,Mr fun e=>h2 (by rw[e])⟩,rfl⟩
theorem xn {m:Int} {ws:List Wy} (W:bg m ws) {fo:List Int} (F:bF ws fo) {n a b:Int}:n∈nR ws fo a b↔((0 <= n/\n < (ws.length:Int))/\bt ws (aq ws n))/\¬ ar (dZ ws (aq ws n)) a b:=by
 unfold nR
 rw[Wm,F.mem]
 refine and_congr_right fun h => ?_
 unfold qj
 rw[X1,Y9,uS (F.uT W h.1)]
theorem xo {ws:List Wy} {a b:Int} (h:kle (eM ws a) (eM ws b)):¬ bP (aq ws b) (aq ws a):=fun z=>by
 unfold kle at h
 rw[G8,G8] at h
 unfold bP at z
 rw[h] at z
 cases z
theorem br.kF {m:Int} {ws:List Wy} (W:bg m ws) {fo:List Int} (F:bF ws fo) {n a b:Int} (hn:0 <= n/\n < (ws.length:Int)) (h:br ws (aq ws n) a b):n∈nR ws fo a b:=(xn W F).mpr ⟨⟨hn,h.tree⟩,h.parts W⟩
theorem SQ {m:Int} {ws:List Wy} (W:bg m ws) {fo:List Int} (F:bF ws fo) {n a b:Int} (ne:a≠b) (c:ar (fun v=>v∈ws) a b) (h:n∈nR ws fo a b) (best:∀ e∈nR ws fo a b,kle (eM ws e) (eM ws n)):br ws (aq ws n) a b:=by
 obtain⟨g,hg⟩:=BK W ne c
 obtain⟨k,hk,rfl⟩:=lj hg.mem
 obtain⟨h1,h2⟩:=(xn W F).mp h
 rcases hg.top W h1.2 h2 with z | z
 ·exact absurd z (xo (best k (hg.kF W F hk)))
 ·rw[z];exact hg
theorem br.one {m:Int} {ws:List Wy} (W:bg m ws) {g h:Wy} {a b:Int} (p:br ws g a b) (q:br ws h a b):g=h:=by
 rcases p.top W q.tree (q.parts W) with y | y
 ·rcases q.top W p.tree (p.parts W) with z | z
  ·exact absurd (xk y z) fun w=>xj w
  ·exact z
 ·exact y.symm
noncomputable def mG (many:Int):Int->List Int->Bool
 | _,[]=>true
 | lo,x :: r=>(decide (lo <= x) && decide (x <= many - 1)) && mG many (x + 1) r
theorem BV {many:Int}:∀ {l:List Int} {lo:Int},l.Pairwise (· < ·)->(∀ x∈l,lo <= x/\x < many)->mG many lo l=true
 | [],_,_,_=>rfl
 | x :: r,lo,h,k=>by
  obtain⟨h1,h2⟩:=W9.mp h
  obtain⟨k1,k2⟩:=k x yE
  unfold mG
  rw[BV h2 fun y hy=>⟨by have:=h1 y hy;omega,(k y (Mp _ hy)).2⟩,Mr k1,Mr (show x <= many - 1 by omega)]
  rfl
noncomputable def BW:GD:=fun ys ah K=>∃ (l:List Int) (m:Int),ys=[.p (bp l),.p (.int m)]/\ah=[]/\K (.p (.bl (mG m 0 l))) []
noncomputable def BX:WS:=(au (a_ (cQ (dT (d1 (aa 0) (gR "list")))) (aF (dC (.bl false))) cR) (au (aC 2 (dC (.int 0))) (au (dw (bO (aa 0)) (bE 3) (au (a_ (cQ (dT (ak 3 k_ (ai (aa 3) (ai (aa 2) (ai (d2 (aa 1) (dC (.int 1)) (oI fun i j => .int (i - j))) af)))))) (aF (dC (.bl false))) cR) (aC 2 (d2 (aa 3) (dC (.int 1)) c9)))) (aF (dC (.bl true))))))
theorem SS:∀ ys ah K',ys.length=2->BW ys ah K'->BX (bJ ah.length K') ⟨ys.map some ++ List.replicate 2 none,ah.map some⟩:=by
 rintro ys ah K' - ⟨l,m,rfl,rfl,k⟩
 unfold BX
 rw[show bp l = .lst (l.map D.int) from rfl]
 refine aR fun N hN => ?_
 simp? only [e_,c7,Bool.true_or]
 subst hN
 refine aR fun N hN => ?_
 simp? only []
 subst hN
 refine aR fun N hN => ?_
 refine pT fun g' b' K2 hg hb' hK => ?_
 simp? only []
 subst hg hb' hK
 refine k8 (fun i δ => ∃ lo:Int,mG m 0 l=mG m lo (l.drop i) /\ δ = ⟨[some (.p (.lst (l.map D.int))),some (.p (.int m)),some (.p (.int lo)),none],[]⟩) ⟨0,rfl,rfl⟩ ?_ ?_
 ·rintro j d δ L hj ⟨lo,e,rfl⟩ hL
  rw[D8] at hj
  obtain⟨x,hx,rfl⟩:=VI.mp hj
  obtain⟨z9,ex⟩:=oR.mp hx
  rw[XA z9,ex,show mG m lo (x :: l.drop (j + 1))=((decide (lo <= x) && decide (x <= m - 1)) && mG m (x + 1) (l.drop (j + 1))) from rfl] at e
  refine⟨trivial,?_⟩
  simp only[bE,WW,WX]
  refine aR fun N2 dY => ?_
  refine ip fun A1 B1 hA hB => ?_
  simp? only []
  refine⟨.int x,lo,m - 1,rfl,rfl,?_⟩
  rw[show ir (.int x) lo (m - 1)=(decide (lo <= x) && decide (x <= m - 1)) from rfl]
  cases q:(decide (lo <= x) && decide (x <= m - 1)) with
  | true =>
   simp? only []
   subst hB
   show N2 _
   subst dY
   simp? only []
   exact hL _ ⟨x + 1,by rw[e,q];rfl,rfl⟩
  | false =>
   simp? only []
   subst hA
   simp? only []
   rw[e,q] at k
   exact bB k
 ·rintro δ ⟨lo,e,rfl⟩
  rw[oS,List.drop_length] at e
  refine⟨trivial,?_⟩
  subst hN
  simp? only []
  rw[e] at k
  exact bB k
noncomputable def xp:GD:=fun ys ah K=>∃ (m:Int) (ws:List Wy) (us:List Int) (i:Nat),bg m ws/\Nums ws us/\i < m.toNat/\ys=[.p (aH m ws),.p (bp us),.p (.int i)]/\ah=[]/\K (.p (bp (cls m.toNat (fM ws us) i))) []
noncomputable def BY:WS:=(au (aC 3 (ak 2 rz (ai (aa 0) (ai (aa 1) af)))) (aF (fq (je (ai (aa 3) af)) [none,none,some 3,some 2] (kW 2 (gO (bE 0) (gO (bE 1) j3))) (dT (d2 (aa 1) (d2 (aa 2) (aa 3) aQ) oEq)) (aa 0))))
open Classical in
theorem SU:∀ ys ah K',ys.length=3->xp ys ah K'->BY (bJ ah.length K') ⟨ys.map some ++ List.replicate 1 none,ah.map some⟩:=by
 rintro ys ah K' - ⟨m,ws,us,i,W,hu,hi,rfl,rfl,k⟩
 have gJ:=W.gJ
 unfold BY
 refine aR fun N hN => ?_
 simp? only []
 refine⟨m,ws,us,W,hu,.inl ⟨rfl,rfl,?_⟩⟩
 have mo:=Bp W hu
 generalize f_ m ws us=fs at mo
 have a1:=pX (ns:=fs) (i:=i) (by rw[mo.1];exact hi)
 rw[show bp fs = .lst (fs.map D.int) from rfl]
 simp? only []
 subst hN
 simp? only []
 refine L2.j_ (uP fun x=>decide (ar (fM ws us) i x)) uO (by rw[qO,oS,mo.1];omega) trivial ?_ ?_
 ·intro d hd acc L' ha h1 h2
  obtain⟨z,hz⟩:=VD.mp hd
  obtain⟨e,z1,z2⟩:=qP hz
  rw[D8] at z1
  obtain⟨y,z3,rfl⟩:=VI.mp z1
  rw[WN] at z2
  subst z2
  have zl:z < m.toNat:=by rw[<-mo.1];exact (oR.mp z3).1
  have ez:fs.getD z 0=y:=by rw[vo,z3];rfl
  simp only[uP,uO] at h1 h2
  simp? only [a1]
  rw[lh]
  by_cases c:ar (fM ws us) i z
  ·rw[Mr (show y=fs.getD i 0 by rw[<-ez];exact ((mo.2 i z hi zl).mpr c).symm)]
   simp? only []
   exact⟨ha,h1 (Mr c)⟩
  ·rw[VF (show ¬ y=fs.getD i 0 from fun e=>c ((mo.2 i z hi zl).mp (by rw[<-e,ez])))]
   simp? only []
   exact h2 (VF c)
 ·have e:=BA (fun x=>decide (ar (fM ws us) i x)) (fs.map D.int) 0
  have e2:(cls m.toNat (fM ws us) i).map D.int=((List.range' 0 (fs.map D.int).length).filter fun k:Nat=>decide (ar (fM ws us) i k)).map fun k:Nat=>D.int k:=by
   unfold cls aL
   rw[XG,Wo,oS,<-List.range_eq_range',mo.1]
   rfl
  rw[<-e2] at e
  rw[e]
  exact bB k
noncomputable def BZ:GD:=fun ys ah K=>∃ (m:Int) (ws:List Wy) (us:List Int) (i j:Nat),bg m ws/\Nums ws us/\us.length <= 900/\i < m.toNat/\j < m.toNat/\ys=[.p (aH m ws),.p (bp us),.p (.int i),.p (.int j)]/\ah=[]/\K (.p (bp (nR ws us i j))) []
noncomputable def B0:WS:=(aF (fq (bO (aa 1)) [none,some 0,some 1,some 2,some 3] (bE 0) (dT (ak 5 BQ (ai (aa 1) (ai (aa 2) (ai (aa 0) (ai (aa 3) (ai (aa 4) af))))))) (aa 0)))
theorem SV:∀ ys ah K',ys.length=4->BZ ys ah K'->B0 (bJ ah.length K') ⟨ys.map some ++ List.replicate 0 none,ah.map some⟩:=by
 rintro ys ah K' - ⟨m,ws,us,i,j,W,hu,ul,hi,hj,rfl,rfl,k⟩
 unfold B0
 rw[show bp us = .lst (us.map D.int) from rfl]
 simp? only []
 refine L2.j_ (fun d=>match d with
  | .int n=>qj ws us n i j
  | _=>false) id (by rw[oS];omega) trivial ?_ ?_
 ·intro d hd acc L' ha h1 h2
  obtain⟨n,iC,rfl⟩:=Mt.mp hd
  dsimp only at h1 h2
  simp? only []
  refine⟨m,ws,us,n,i,j,W,hu,ul,hi,hj,rfl,rfl,?_⟩
  simp? only []
  cases q:qj ws us n i j with
  | true=>simp? only [];exact⟨ha,h1 q⟩
  | false=>simp? only [];exact h2 q
 ·have e:((us.map D.int).filter fun d=>match d with
   | .int n=>qj ws us n i j
   | _=>false).map id=(nR ws us i j).map D.int:=by
   rw[Yv,XG];rfl
  rw[e]
  exact bB k
noncomputable def xq:GD:=fun ys ah K=>∃ (m:Int) (ws:List Wy) (i j:Nat),bg m ws/\i < m.toNat/\j < m.toNat/\i≠j/\ys=[.p (aH m ws),.p (.int i),.p (.int j)]/\ah=[]/\K (.p .non) []
noncomputable def B2:WS:=(au (jc (ak 1 uE (ai (aa 0) af))) (au (a_ (cQ (dT (ak 3 k_ (ai (aa 1) (ai (dC (.int 0)) (ai (d2 (d2 (aa 0) (dC (.int 0)) aQ) (dC (.int 1)) (oI fun i j => .int (i - j))) af)))))) o6 cR) (a_ (mY (cQ (dT (ak 3 k_ (ai (aa 2) (ai (dC (.int 0)) (ai (d2 (d2 (aa 0) (dC (.int 0)) aQ) (dC (.int 1)) (oI fun i j => .int (i - j))) af)))))) (dT (d2 (aa 1) (aa 2) oEq))) o6 cR)))
theorem SW:∀ ys ah K',ys.length=3->xq ys ah K'->B2 (bJ ah.length K') ⟨ys.map some ++ List.replicate 0 none,ah.map some⟩:=by
 rintro ys ah K' - ⟨m,ws,i,j,W,hi,hj,ne,rfl,rfl,k⟩
 have wi:∀ x:Nat,x < m.toNat->ir (.int x) 0 (m - 1)=true:=fun x hx=>by
  show (decide ((0:Int) <= x) && decide ((x:Int) <= m - 1))=true
  rw[Mr (show (0:Int) <= x by omega),Mr (show (x:Int) <= m - 1 by omega)]
  rfl
 unfold B2
 refine aR fun N hN => ?_
 simp? only []
 refine⟨m,ws,W,rfl,rfl,?_⟩
 show N _
 subst hN
 refine aR fun N hN => ?_
 refine ip fun A1 B1 hA hB => ?_
 simp? only [aH,dX]
 refine⟨.int i,0,m - 1,rfl,rfl,?_⟩
 rw[wi i hi]
 simp? only []
 subst hB
 show N _
 subst hN
 refine ip fun A1 B1 hA hB => ?_
 simp? only [dX]
 refine⟨.int j,0,m - 1,rfl,rfl,?_⟩
 rw[wi j hj]
 simp? only []
 rw[lh,VF (show ¬ ((i:Int)=j) by omega)]
 simp? only []
 subst hB
 exact bB k
noncomputable def uU:GD:=fun ys ah K=>∃ (m:Int) (ws:List Wy) (fo:List Int) (i j:Nat),bg m ws/\bF ws fo/\i < m.toNat/\j < m.toNat/\i≠j/\ys=[.p (aH m ws),.p (bp fo),.p (.int i),.p (.int j)]/\ah=[] ∧
 (¬ ar (fun v=>v∈ws) i j->K (.p .non) [])/\∀ n:Int,0 <= n/\n < (ws.length:Int)->br ws (aq ws n) i j->K (.p (.int n)) []
noncomputable def B3:WS:=(au (a_ (dT (d2 (aa 3) (ak 3 xp (ai (aa 0) (ai (aa 1) (ai (aa 2) af)))) (gs true))) (aF (dC .non)) cR) (aF (ak 2 BO (ai (aa 0) (ai (ak 4 BZ (ai (aa 0) (ai (aa 1) (ai (aa 2) (ai (aa 3) af))))) af)))))
theorem SX:∀ ys ah K',ys.length=4->uU ys ah K'->B3 (bJ ah.length K') ⟨ys.map some ++ List.replicate 0 none,ah.map some⟩:=by
 rintro ys ah K' - ⟨m,ws,fo,i,j,W,F,hi,hj,ne,rfl,rfl,k0,k⟩
 have fl:=F.len
 have qb:=W.gK
 unfold B3
 refine aR fun N hN => ?_
 refine ip fun A1 B1 hA hB => ?_
 simp? only []
 refine⟨m,ws,fo,i,W,F.nums,hi,rfl,rfl,?_⟩
 have hm:(j:Int)∈cls m.toNat (fM ws fo) i↔ar (fun v=>v∈ws) i j:=a8.trans ((and_iff_right ⟨by omega,by omega⟩).trans F.conn)
 generalize cls m.toNat (fM ws fo) i=l at hm
 rw[show bp l = .lst (l.map D.int) from rfl]
 simp? only []
 have d0:=nN l
 refine⟨by omega,?_⟩
 rw[lq]
 by_cases c:ar (fun v=>v∈ws) i j
 ·rw[Mr (hm.mpr c)]
  simp? only []
  subst hB
  show N _
  subst hN
  simp? only []
  refine⟨m,ws,fo,i,j,W,F.nums,by omega,hi,hj,rfl,rfl,?_⟩
  simp? only []
  refine⟨m,ws,nR ws fo i j,W,fun n h=>((xn W F).mp h).1.1,rfl,rfl,fun h0 => ?_,fun n hn best => ?_⟩
  ·obtain⟨g,hg⟩:=BK W (show (i:Int)≠j by omega) c
   obtain⟨x,hx,rfl⟩:=lj hg.mem
   have:=hg.kF W F hx
   rw[h0] at this
   exact nomatch this
  ·exact bB (k n ((xn W F).mp hn).1.1 (SQ W F (show (i:Int)≠j by omega) c hn best))
 ·rw[VF fun z=>c (hm.mp z)]
  simp? only []
  subst hA
  simp? only []
  exact bB (k0 c)
noncomputable def qk (m:Int) (ws:List Wy) (n:Int) (i:Int):List Int:=cls m.toNat (dZ ws (aq ws n)) i
theorem SY {n:Nat} {S S':Wy->Prop} {a:Int} (h:∀ v,S v↔S' v):cls n S a=cls n S' a:=by
 rw[show S=S' from funext fun v=>propext (h v)]
noncomputable def B4:GD:=fun ys ah K=>∃ (m:Int) (ws:List Wy) (i j:Nat),bg m ws/\i < m.toNat/\j < m.toNat/\i≠j/\ys=[.p (aH m ws),.p (.int i),.p (.int j)]/\ah=[] ∧
 (¬ ar (fun v=>v∈ws) i j->K (.p .non) [])/\∀ n:Int,0 <= n/\n < (ws.length:Int)->br ws (aq ws n) i j->K (.p (.tup [.int n,bp (qk m ws n i)])) []
noncomputable def B5:WS:=(au (jc (ak 3 xq (ai (aa 0) (ai (aa 1) (ai (aa 2) af))))) (au (aC 3 (ak 1 qd (ai (aa 0) af))) (au (aC 4 (ak 4 uU (ai (aa 0) (ai (aa 3) (ai (aa 1) (ai (aa 2) af)))))) (au (a_ (dT (d2 (aa 4) (dC .non) jn)) (aF (dC .non)) cR) (aF (dr (ai (aa 4) (ai (ak 3 xp (ai (aa 0) (ai (fq (bO (aa 3)) [none,some 4] (bE 0) (dT (d2 (aa 0) (aa 1) l3)) (aa 0)) (ai (aa 1) af)))) af))))))))
theorem S7:∀ ys ah K',ys.length=3->B4 ys ah K'->B5 (bJ ah.length K') ⟨ys.map some ++ List.replicate 2 none,ah.map some⟩:=by
 rintro ys ah K' - ⟨m,ws,i,j,W,hi,hj,ne,rfl,rfl,k0,k⟩
 have qb:=W.gK
 unfold B5
 refine aR fun N hN => ?_
 simp? only []
 refine⟨m,ws,i,j,W,hi,hj,ne,rfl,rfl,?_⟩
 show N _
 subst hN
 refine aR fun N hN => ?_
 simp? only []
 refine⟨m,ws,W,rfl,rfl,fun os ho => ?_⟩
 have F:=uR W ho
 generalize hU m ws os=fo at F
 have fl:=F.len
 simp? only []
 subst hN
 refine aR fun N hN => ?_
 simp? only []
 refine⟨m,ws,fo,i,j,W,F,hi,hj,ne,rfl,rfl,fun c => ?_,fun n hn nk => ?_⟩
 ·simp? only []
  subst hN
  refine aR fun N hN => ?_
  simp? only []
  exact bB (k0 c)
 ·simp? only []
  subst hN
  refine aR fun N hN => ?_
  simp? only []
  subst hN
  simp? only []
  refine L2.j_ (fun d=>match d with
   | .int x=>decide (x≠n)
   | _=>false) id (by rw[oS];omega) trivial ?_ ?_
  ·intro d hd acc L' ha h1 h2
   obtain⟨x,hx,rfl⟩:=Mt.mp hd
   dsimp only at h1 h2
   simp? only []
   rw[lh]
   by_cases c:x=n
   ·rw[Mr c]
    simp? only []
    exact h2 (VF fun z=>z c)
   ·rw[VF c]
    simp? only []
    exact⟨ha,h1 (Mr c)⟩
  have e:((fo.map D.int).filter fun d=>match d with
   | .int x=>decide (x≠n)
   | _=>false).map id=(mF fo n).map D.int:=by
   rw[Yv,XG];rfl
  rw[e]
  simp? only []
  refine⟨m,ws,mF fo n,i,W,fun x h=>F.nums x (Wm.mp h).1,hi,rfl,rfl,?_⟩
  rw[SY (F.uT W hn),show cls m.toNat (dZ ws (aq ws n)) i=qk m ws n i from rfl]
  simp? only []
  exact bB (k n hn nk)
noncomputable def xr:GD:=fun ys ah K=>∃ (m:Int) (ws:List Wy) (i j:Nat) (n:Int) (l:List Int),bg m ws/\i < m.toNat/\j < m.toNat/\i≠j/\(0 <= n/\n < (ws.length:Int))/\br ws (aq ws n) i j/\mG m 0 l=true/\(i:Int)∈l/\(j:Int)∉l/\fO l (aq ws n)=true/\(∀ v∈ws,fO l v=true->bP (aq ws n) v\/v=aq ws n) ∧
 ys=[.p (aH m ws),.p (.int i),.p (.int j),.p (.int n),.p (bp l)]/\ah=[]/\K (.p (.bl true)) []
noncomputable def B6:WS:=(au (jc (ak 3 xq (ai (aa 0) (ai (aa 1) (ai (aa 2) af))))) (au (a_ (mY (cQ (dT (ak 2 BW (ai (aa 4) (ai (d2 (aa 0) (dC (.int 0)) aQ) af))))) (mY (dT (d2 (aa 1) (aa 4) (gs true))) (dT (d2 (aa 2) (aa 4) (gs false))))) (aF (dC (.bl false))) cR) (au (aC 5 (ak 4 uU (ai (aa 0) (ai (ak 1 qd (ai (aa 0) af)) (ai (aa 1) (ai (aa 2) af)))))) (aF (kU (d2 (aa 5) (dC .non) rp) (we (aa 3) (aa 5) (ak 2 BG (ai (aa 0) (ai (ak 2 BE (ai (aa 0) (ai (aa 4) af))) af))) oEq oEq))))))
theorem S8:∀ ys ah K',ys.length=5->xr ys ah K'->B6 (bJ ah.length K') ⟨ys.map some ++ List.replicate 1 none,ah.map some⟩:=by
 rintro ys ah K' - ⟨m,ws,i,j,n,l,W,hi,hj,ne,hn,nk,ri,il,jl,ln,lv,rfl,rfl,k⟩
 have d0:=nN l
 unfold B6
 refine aR fun N hN => ?_
 simp? only []
 refine⟨m,ws,i,j,W,hi,hj,ne,rfl,rfl,?_⟩
 show N _
 subst hN
 refine aR fun N hN => ?_
 refine ip fun A1 B1 hA hB => ?_
 simp? only [aH,dX]
 refine⟨l,m,rfl,rfl,?_⟩
 rw[ri,show bp l = .lst (l.map D.int) from rfl]
 simp? only []
 refine⟨by omega,?_⟩
 rw[lq,Mr il]
 simp? only []
 refine⟨by omega,?_⟩
 rw[lq,VF jl]
 simp? only []
 subst hB
 show N _
 subst hN
 refine aR fun N hN => ?_
 simp? only []
 refine⟨m,ws,W,rfl,rfl,fun os ho => ?_⟩
 have F:=uR W ho
 generalize hU m ws os=fo at F
 simp? only []
 refine⟨m,ws,fo,i,j,W,F,hi,hj,ne,rfl,rfl,fun c=>absurd nk.all c,fun g hg ng => ?_⟩
 obtain rfl:g=n:=uQ W hg hn (ng.one W nk)
 simp? only []
 subst hN
 simp? only []
 rw[jf]
 simp? only []
 refine⟨m,ws,l,W,rfl,rfl,?_⟩
 simp? only []
 have og:g∈nP ws l:=gZ.mpr ⟨hg,ln⟩
 refine⟨m,ws,nP ws l,W,Sw,(fun z=>by rw[z] at og;exact nomatch og),rfl,rfl,fun x hx best => ?_⟩
 obtain⟨x1,x2⟩:=gZ.mp hx
 obtain rfl:x=g:=by
  refine uQ W x1 hg ?_
  rcases lv _ (my x1.1 x1.2) x2 with z | z
  ·exact absurd z (xo (best g og))
  ·exact z
 simp? only []
 rw[jf]
 exact bB k
open Classical in
noncomputable def bN (ws:List Wy) (n:Int):Int:=if h:∃ g:Int,(0 <= g/\g < (ws.length:Int))/\br ws (aq ws g) (aq ws n).1 (aq ws n).2.1 then Classical.choose h else 0
theorem xt {m:Int} {ws:List Wy} (W:bg m ws) {n:Int} (hn:0 <= n/\n < (ws.length:Int)):(0 <= bN ws n/\bN ws n < (ws.length:Int))/\br ws (aq ws (bN ws n)) (aq ws n).1 (aq ws n).2.1:=by
 have hm:=my hn.1 hn.2
 have ex:∃ g:Int,(0 <= g/\g < (ws.length:Int))/\br ws (aq ws g) (aq ws n).1 (aq ws n).2.1:=by
  obtain⟨g,hg⟩:=BK W (show (aq ws n).1≠(aq ws n).2.1 by have:=W.ends _ hm;omega) (.one hm)
  obtain⟨k,hk,rfl⟩:=lj hg.mem
  exact⟨k,hk,hg⟩
 unfold bN
 rw[dif_pos ex]
 exact Classical.choose_spec ex
theorem S9 {m:Int} {ws:List Wy} (W:bg m ws) {n g:Int} (hn:0 <= n/\n < (ws.length:Int)) (hg:0 <= g/\g < (ws.length:Int)) (nk:br ws (aq ws g) (aq ws n).1 (aq ws n).2.1):g=bN ws n :=
 uQ W hg (xt W hn).1 (nk.one W (xt W hn).2)
noncomputable def mH (ws:List Wy) (n:Int):LK:=[(aq ws n).2.2 - (aq ws (bN ws n)).2.2,bN ws n,n]
noncomputable def B7:GD:=fun ys ah K=>∃ (m:Int) (ws:List Wy) (fo:List Int) (n:Int),bg m ws/\bF ws fo/\(0 <= n/\n < (ws.length:Int))/\ys=[.p (aH m ws),.p (bp fo),.p (.int n)]/\ah=[]/\K (.p (tupI (mH ws n))) []
noncomputable def B8:WS:=(au (aC 3 (d2 (d2 (aa 0) (dC (.int 1)) aQ) (aa 2) aQ)) (au (aC 4 (ak 4 uU (ai (aa 0) (ai (aa 1) (ai (d2 (aa 3) (dC (.int 0)) aQ) (ai (d2 (aa 3) (dC (.int 1)) aQ) af)))))) (aF (dr (ai (d2 (d2 (aa 3) (dC (.int 2)) aQ) (d2 (d2 (d2 (aa 0) (dC (.int 1)) aQ) (aa 4) aQ) (dC (.int 2)) aQ) (oI fun i j => .int (i - j))) (ai (aa 4) (ai (aa 2) af)))))))
theorem S_:∀ ys ah K',ys.length=3->B7 ys ah K'->B8 (bJ ah.length K') ⟨ys.map some ++ List.replicate 2 none,ah.map some⟩:=by
 rintro ys ah K' - ⟨m,ws,fo,n,W,F,hn,rfl,rfl,k⟩
 obtain⟨y,ey,hy,ea,i,j,e1,e2,hi,hj,lt⟩:=kg W hn.1 hn.2
 have ey:aq ws n=y:=ey
 unfold B8
 refine aR fun N hN => ?_
 simp? only [aH,eK,ea]
 subst hN
 refine aR fun N hN => ?_
 simp? only [bq,dX,eK]
 refine⟨m,ws,fo,i,j,W,F,hi,hj,by omega,by rw[e1,e2];rfl,rfl,fun c => ?_,fun g hg nk => ?_⟩
 ·rw[<-e1,<-e2] at c
  exact absurd (ar.one hy) c
 ·have eg:g=bN ws n:=S9 W hn hg (by rw[ey,e1,e2];exact nk)
  obtain⟨u,eu,hu,eb,_⟩:=kg W hg.1 hg.2
  have eu:aq ws g=u:=eu
  simp? only []
  subst hN
  simp? only [eK,at2,eb,bq]
  have e:tupI (mH ws n) = .tup [.int (y.2.2 - u.2.2),.int g,.int n]:=by
   unfold mH tupI
   rw[<-eg,eu,ey]
   rfl
  rw[e] at k
  exact bB k
theorem Ta {a b:Int} {r s:LK} (h:kle (a :: r) (b :: s)):a <= b:=by
 unfold kle at h
 by_cases c:b < a
 ·rw[show HT.lexLt (b :: s) (a :: r)=if b=a then HT.lexLt s r else decide (b < a) from rfl,VG (by omega),Mr c] at h
  cases h
 ·omega
noncomputable def qm (ws:List Wy) (fo:List Int):List Int:=(aL ws.length).filter fun n => !decide (n∈fo)
theorem Tb {ws:List Wy} {fo:List Int} (F:bF ws fo) {n:Int}:n∈qm ws fo↔(0 <= n/\n < (ws.length:Int))/\¬ bt ws (aq ws n):=by
 unfold qm
 rw[Wm,bf,X1,Y9,F.mem]
 exact⟨fun ⟨a,b⟩=>⟨a,fun t=>b ⟨a,t⟩⟩,fun ⟨a,b⟩=>⟨a,fun t=>b t.2⟩⟩
noncomputable def B9:GD:=fun ys ah K=>∃ (m:Int) (ws:List Wy),bg m ws/\ys=[.p (aH m ws)]/\ah=[]/\((∀ v∈ws,bt ws v)->K (.p .non) []) ∧
 ∀ n:Int,(0 <= n/\n < (ws.length:Int))->¬ bt ws (aq ws n)->(∀ e:Int,(0 <= e/\e < (ws.length:Int))->¬ bt ws (aq ws e)->kle (mH ws n) (mH ws e))->K (.p (tupI (mH ws n))) []
noncomputable def B_:WS:=(au (aC 1 (ak 1 qd (ai (aa 0) af))) (au (aC 2 (fq (k6 (ai (dN (ai (d2 (aa 0) (dC (.int 1)) aQ) af) cq) af)) [none,some 1] (bE 0) (dT (d2 (aa 0) (aa 1) (gs true))) (aa 0))) (aF (BS (fq (bO (aa 2)) [none,some 0,some 1] (bE 0) ft (ak 3 B7 (ai (aa 1) (ai (aa 2) (ai (aa 0) af)))))))))
theorem Tc:∀ ys ah K',ys.length=1->B9 ys ah K'->B_ (bJ ah.length K') ⟨ys.map some ++ List.replicate 2 none,ah.map some⟩:=by
 rintro ys ah K' - ⟨m,ws,W,rfl,rfl,k0,k⟩
 have qb:=W.gK
 unfold B_
 refine aR fun N hN => ?_
 simp? only []
 refine⟨m,ws,W,rfl,rfl,fun os ho => ?_⟩
 have F:=uR W ho
 generalize hU m ws os=fo at F
 have d0:=nN fo
 simp? only []
 subst hN
 refine aR fun N hN => ?_
 simp? only [aH,eK]
 refine⟨by omega,?_⟩
 refine L2.j_ (fun d=>match d with
  | .int x => !decide (x∈fo)
  | _=>false) id (by rw[jJ];omega) trivial ?_ ?_
 ·intro d hd acc L' ha h1 h2
  obtain⟨z,hz⟩:=VD.mp hd
  obtain⟨_,rfl⟩:=j6 hz
  dsimp only at h1 h2
  simp? only []
  refine⟨by omega,?_⟩
  rw[lq]
  cases q:decide ((0:Int) + z∈fo) with
  | true=>rw[q] at h2;simp? only [];exact h2 rfl
  | false=>rw[q] at h1;simp? only [];exact⟨ha,h1 rfl⟩
 have e:((bG 0 ((ws.length:Int)).toNat).filter fun d=>match d with
  | .int x => !decide (x∈fo)
  | _=>false).map id=(qm ws fo).map D.int:=by
  rw[Yv,Wj]
  unfold qm
  rw[show bG 0 ws.length=(aL ws.length).map D.int by unfold bG aL;rw[Wo];exact WR fun i _=>by simp,XG]
  rfl
 rw[e]
 simp? only []
 subst hN
 have ol:(qm ws fo).length <= 30:=by
  unfold qm
  have:=List.length_filter_le (fun n => !decide (n∈fo)) (aL ws.length)
  rw[qe] at this
  omega
 have om:=fun n=>Tb F (n:=n)
 generalize qm ws fo=ot at ol om
 simp? only [BS,xm]
 refine L2.pM (fun d=>match d with
  | .int n=>tupI (mH ws n)
  | _ => .non) (by rw[oS];omega) trivial ?_ ?_
 ·intro d hd acc L' ha h
  obtain⟨n,hn,rfl⟩:=Mt.mp hd
  dsimp only at h
  simp? only []
  refine⟨m,ws,fo,n,W,F,((om n).mp hn).1,rfl,rfl,?_⟩
  unfold tupI at h ⊢
  simp? only []
  exact⟨ha,h⟩
 ·refine⟨_,rfl,ot.map (mH ws),?_,fun h0 => ?_,fun x hx best => ?_⟩
  ·rw[Wo,Wo];rfl
  ·refine bB (k0 fun v hv => ?_)
   obtain⟨n,hn,rfl⟩:=lj hv
   refine WQ fun t => ?_
   have:=(om n).mpr ⟨hn,t⟩
   rw[YR.mp h0] at this
   exact nomatch this
  ·obtain⟨n,hn,rfl⟩:=Mt.mp hx
   obtain⟨h1,h2⟩:=(om n).mp hn
   exact bB (k n h1 h2 fun e he t=>best _ (Mt.mpr ⟨e,(om e).mpr ⟨he,t⟩,rfl⟩))
end LJ
namespace PySem
open Sem (wp)
section
variable {prog:Program} {w:World} {A:Around} {E:Value->Shared->Prop} {s:Shared} {z TI TO i j:Addr} {fp gp:List Addr} {n m k:Nat} {P P':Nat->Value->Prop} {St V_:Nat->Heap->Prop} {a b:Value}
end
section
variable {prog:Program} {w:World} {A:Around} {E:Value->Shared->Prop} {s:Shared}
end
end PySem
namespace L2
open PySem PySem.Spec PyProof.Rows
section
variable {X:Cx} {pins:List (Addr × Obj)} {σ : St} {H:Hp} {s:Shared}
end
section
variable {X:Cx} {elts:List Expr} {x1:Nat} {tp:Pos}
end
section
variable [aE] {X:Cx} {a b:Expr} {fa:WA}
end
end L2
namespace LJ
open PySem L2
variable [aE]
theorem Td {ds:List D} {t:Nat} (h:t <= ds.length):cutD ds (some (t:Int)) none=ds.drop t:=by
 unfold cutD
 rw[HT.sq ds.length 0 t,HT.yj,Nat.min_eq_left h,WM (by rw[Xw];omega)]
theorem HD {ds:List D} {t:Nat} (h:t <= ds.length):cutD ds none (some (t:Int))=ds.take t:=by
 unfold cutD
 rw[HT.yj,HT.sq ds.length ds.length t,Nat.min_eq_left h,Zb,Z_]
end LJ
namespace L2
open PySem PySem.Spec PyProof.Rows
noncomputable def mI:List D->(D->Prop)->Prop
 | [.bl b],K=>K (.int (if b then 1 else 0))
 | _,_=>False
variable [aE] {X:Cx}
theorem Te:cH X (.type "int") mI:=by
 rintro pins s σ H xs us Q I r ⟨F,ds,K,sub,rd,q,md⟩
 unfold mI at q
 split at q
 ·rename_i b
  obtain⟨v,rfl,rfl⟩:=cI rd
  obtain⟨u,rfl,rx⟩:=vals1 r
  cases rx
  refine call_int_bool ⟨.int (if b then 1 else 0),H,I.tok _,⟨_,rfl⟩,md _ _ _ q (fun _ _ e=>e) rfl⟩
 ·exact q.elim
end L2
namespace LJ
open PySem L2
variable [aE]
theorem HE {m:Int} {ws:List Wy} (W:bg m ws) {os:List Int} (ho:bc ws os) {k:Nat} {n:Int} (hk:os[k]? = some n) (v:Wy):fM ws (os.take k) v↔below ws (aq ws n) v:=by
 have nd:os.Nodup:=ho.perm.nodup_iff.mpr (rB _)
 have up:∀ {a b:Nat} {x y:Int},os[a]? = some x->os[b]? = some y->a < b->kle (eM ws x) (eM ws y):=fun {a b x y} ha hb lt=>by
  have h1:=(oR.mp ha)
  have h2:=(oR.mp hb)
  obtain⟨l1,e1⟩:=h1
  obtain⟨l2,e2⟩:=h2
  have:=Yf.mp ho.up a b (by rw[oS];exact l1) (by rw[oS];exact l2) lt
  rw[Xb,Xb,e1,e2] at this
  exact this
 have hn:=ho.nums n (Ws hk)
 constructor
 ·rintro ⟨x,hx,rfl⟩
  obtain⟨j,hj⟩:=VD.mp hx
  rw[List.getElem?_take] at hj
  split at hj
  ·rename_i lt
   have uV:=ho.nums x (Ws hj)
   refine⟨my uV.1 uV.2,?_⟩
   have ne:aq ws x≠aq ws n:=fun e=>by
    have e:=uQ W uV hn e
    subst e
    obtain⟨l1,e1⟩:=oR.mp hj
    obtain⟨l2,e2⟩:=oR.mp hk
    have:=(XU (h₀ := l1) (h₁ := l2) nd).mp (e1.trans e2.symm)
    omega
   rcases mD W (my uV.1 uV.2) (my hn.1 hn.2) ne with z | z
   ·exact z
   ·exact absurd z (xo (up hj hk lt))
  ·cases hj
 ·rintro ⟨hv,lt⟩
  obtain⟨x,hx,rfl⟩:=lj hv
  obtain⟨j,hj⟩:=VD.mp (ho.perm.mem_iff.mpr (bf.mpr hx))
  by_cases c:j < k
  ·exact⟨x,VD.mpr ⟨j,by rw[List.getElem?_take,We c];exact hj⟩,rfl⟩
  ·exfalso
   by_cases e:j=k
   ·subst e
    rw[hk] at hj
    cases hj
    exact xj lt
   ·exact xo (up hk hj (by omega)) lt
theorem Tf {m:Int} {ws:List Wy} (W:bg m ws) {os:List Int} (ho:bc ws os) {k:Nat} {n:Int} (hk:os[k]? = some n) (v:Wy):fM ws (os.take (k + 1)) v↔below ws (aq ws n) v\/v=aq ws n:=by
 rw[<-HE W ho hk v,XZ,hk]
 constructor
 ·rintro ⟨x,hx,rfl⟩
  rcases WD.mp hx with h | h
  ·exact .inl ⟨x,h,rfl⟩
  ·exact .inr (by rw[show x=n by simpa using h])
 ·rintro (⟨x,hx,rfl⟩ | rfl)
  ·exact⟨x,WJ _ hx,rfl⟩
  ·exact⟨n,Mq _ (by simp),rfl⟩
theorem Tg {os:List Int} {n:Int} (h:n∈os):os[(os.map D.int).findIdx fun e=>aA e (.int n)]? = some n:=by
 have lt:((os.map D.int).findIdx fun e=>aA e (.int n)) < (os.map D.int).length:=Zg ⟨.int n,Mt.mpr ⟨n,h,rfl⟩,jf _⟩
 have e:=List.findIdx_getElem (xs:=os.map D.int) (p:=fun e=>aA e (.int n)) (w:=lt)
 have lt':=lt
 rw[oS] at lt'
 rw[Xb,lh] at e
 rw[lO lt',XC e]
noncomputable def gh (i j:Int) (l:List Int):Bool:=decide (i∈l) && decide (j∈l)
theorem HF {n:Nat} {S:Wy->Prop} {L:List (List Int)} (h:qf n S L) {i j:Int} (c:¬ ar S i j):L.filter (gh i j)=[]:=by
 rw[List.filter_eq_nil_iff]
 intro l hl
 obtain⟨x,hx,rfl⟩:=(h.mem l).mp hl
 unfold gh
 intro z
 rw[WH,Y3,Y3,a8,a8] at z
 exact c (z.1.2.symm.trans z.2.2)
theorem Th {n:Nat} {S:Wy->Prop} {L:List (List Int)} (h:qf n S L) {i j:Int} (hi:0 <= i/\i < (n:Int)) (hj:0 <= j/\j < (n:Int)) (c:ar S i j):(L.filter (gh i j)).length=1:=by
 have all:∀ l∈L.filter (gh i j),l=cls n S i:=fun l hl=>by
  obtain⟨h1,h2⟩:=Wm.mp hl
  obtain⟨x,hx,rfl⟩:=(h.mem l).mp h1
  unfold gh at h2
  rw[WH,Y3,a8] at h2
  exact Bs h2.1.2
 have mem:cls n S i∈L.filter (gh i j):=Wm.mpr ⟨(h.mem _).mpr ⟨i,hi,rfl⟩,by
  unfold gh
  rw[Mr (Bt hi),Mr (a8.mpr ⟨hj,c⟩)];rfl⟩
 have nd:=h.nd.filter (gh i j)
 generalize L.filter (gh i j)=Z at all mem nd
 match Z,all,mem,nd with
 | [_],_,_,_=>rfl
 | a :: b :: r,all,_,nd =>
  have:=(XE.mp nd).1
  rw[all a (.head _),<-all b (.tail _ (.head _))] at this
  exact absurd (.head _) this
theorem HG {i j:Int} {X:List (List Int)} {d:D} (hd:d∈X.map bp) {acc:List D} {L':List D->az->Prop} {δ':az} (e : δ'=⟨[none,some (.p (.int i)),some (.p (.int j))],[]⟩) (ha:acc.length < 1000) (h1:nQ (gh i j) d=true->L' (acc ++ [id d]) δ') (h2:nQ (gh i j) d=false->L' acc δ') :
  q9 δ' (fun _=>True) (bE 0) (gN (dT (d2 (aa 1) (aa 0) (gs false))) (dT (d2 (aa 2) (aa 0) (gs false)))) (aa 0) d acc δ' L':=by
 subst e
 obtain⟨l,hl,rfl⟩:=Mt.mp hd
 rw[Hs] at h1 h2
 have d0:=nN l
 rw[show bp l = .lst (l.map D.int) from rfl] at *
 simp? only []
 refine⟨by omega,?_⟩
 rw[lq]
 unfold gh at h1 h2
 cases p:decide (i∈l) with
 | false=>rw[p] at h2;simp? only [];exact h2 rfl
 | true =>
  simp? only []
  refine⟨by omega,?_⟩
  rw[lq]
  rw[p] at h1 h2
  cases q:decide (j∈l) with
  | false=>rw[q] at h2;simp? only [];exact h2 rfl
  | true=>rw[q] at h1;simp? only [];exact⟨ha,h1 rfl⟩
theorem HH (X:List (List Int)) (i j:Int):((X.map bp).filter (nQ (gh i j))).map id=(X.filter (gh i j)).map bp:=by
 rw[Yv,XG,show nQ (gh i j) ∘ bp=gh i j from funext fun l=>Hs _ l]
theorem Ti {m:Int} {l r:List Int} (hr:∀ x,0 <= x/\x < m->(x∈r↔x∉l)) {v:Wy} (h1:0 <= v.1/\v.1 < m) (h2:0 <= v.2.1/\v.2.1 < m):fO r v=fO l v:=by
 unfold fO
 by_cases p:v.1∈l<;>by_cases q:v.2.1∈l<;>simp[hr _ h1,hr _ h2,p,q]
noncomputable def Ca:GD:=fun ys ah K=>∃ (m:Int) (ws:List Wy) (i j:Nat),bg m ws/\i < m.toNat/\j < m.toNat/\i≠j/\ys=[.p (aH m ws),.p (.int i),.p (.int j)]/\ah=[]/\K (.p (.bl true)) []
noncomputable def Cb:WS:=(au (aC 3 (ak 3 B4 (ai (aa 0) (ai (aa 1) (ai (aa 2) af))))) (au (aC 4 (ak 2 Bd (ai (aa 0) (ai (ak 1 AM (ai (aa 0) af)) af)))) (au (a_ (dT (d2 (aa 3) (dC .non) jn)) (aF (d2 (fq (bO (aa 4)) [none,some 1,some 2] (bE 0) (gN (dT (d2 (aa 1) (aa 0) (gs false))) (dT (d2 (aa 2) (aa 0) (gs false)))) (aa 0)) (eF af) oEq)) cR) (au (lV (aa 3) (kW 2 (gO (bE 5) (gO (bE 6) j3)))) (au (a_ (dT (d2 (ak 5 xr (ai (aa 0) (ai (aa 1) (ai (aa 2) (ai (aa 5) (ai (dN (ai (aa 6) af) wg) af)))))) (dC (.bl true)) rp)) (aF (dC (.bl false))) cR) (au (aC 7 (fq (k6 (ai (d2 (aa 0) (dC (.int 0)) aQ) af)) [none,some 6] (bE 0) (dT (d2 (aa 0) (aa 1) (gs true))) (aa 0))) (au (a_ (dT (d2 (ak 5 xr (ai (aa 0) (ai (aa 2) (ai (aa 1) (ai (aa 5) (ai (aa 7) af)))))) (dC (.bl true)) rp)) (aF (dC (.bl false))) cR) (au (aC 8 (ak 1 wW (ai (aa 0) af))) (au (dw (bO (eF (ai (dr (ai (j9 (aa 8) (ai (aa 5) af) tV) (ai (dC (.int 0)) af))) (ai (dr (ai (d2 (j9 (aa 8) (ai (aa 5) af) tV) (dC (.int 1)) c9) (ai (dC (.int 1)) af))) af)))) (kW 2 (gO (bE 9) (gO (bE 10) j3))) (au (aC 11 (ak 2 Bd (ai (aa 0) (ai (jm (aa 8) ji (qV (aa 9))) af)))) (a_ (dT (d2 (dN (ai (fq (bO (aa 11)) [none,some 1,some 2] (bE 0) (gN (dT (d2 (aa 1) (aa 0) (gs false))) (dT (d2 (aa 2) (aa 0) (gs false)))) (aa 0)) af) cq) (aa 10) l3)) (aF (dC (.bl false))) cR))) (aF (dC (.bl true))))))))))))
theorem Tj:∀ ys ah K',ys.length=3->Ca ys ah K'->Cb (bJ ah.length K') ⟨ys.map some ++ List.replicate 9 none,ah.map some⟩:=by
 rintro ys ah K' - ⟨m,ws,i,j,W,hi,hj,ne,rfl,rfl,k⟩
 have qb:=W.gK
 have gJ:=W.gJ
 have al:Nums ws (aL ws.length):=fun n h=>rA h
 have an:(aL ws.length).Nodup:=rB _
 have ri:(0:Int) <= i/\(i:Int) < m:=by omega
 have rj:(0:Int) <= j/\(j:Int) < m:=by omega
 have Cc:∀ v,fM ws (aL ws.length) v↔v∈ws:=fun v=>⟨by rintro ⟨x,hx,rfl⟩;have:=rA hx;exact my this.1 this.2,fun h=>by obtain⟨x,hx,rfl⟩:=lj h;exact⟨x,bf.mpr hx,rfl⟩⟩
 unfold Cb
 refine aR fun N hN => ?_
 simp? only []
 refine⟨m,ws,i,j,W,hi,hj,ne,rfl,rfl,fun c => ?_,fun n hn nk => ?_⟩
 ·simp? only []
  subst hN
  refine aR fun N hN => ?_
  simp? only []
  refine⟨m,ws,W,rfl,rfl,?_⟩
  simp? only []
  refine⟨m,ws,aL ws.length,W,al,an,by rw[qe];omega,rfl,rfl,?_⟩
  rw[show ((cy (f_ m ws (aL ws.length)) m.toNat).map (·.2))=iT m ws (aL ws.length) from rfl]
  have LO:=(xf W al).1
  have ll:=(Hk W al).1
  have bn:=HF LO (i:=i) (j:=j) fun z=>c ((uS Cc).mp z)
  generalize iT m ws (aL ws.length)=Z at ll bn
  rw[show uo Z = .lst (Z.map bp) from rfl]
  simp? only []
  subst hN
  refine aR fun N hN => ?_
  simp? only []
  refine L2.j_ (nQ (gh i j)) id (by rw[oS];omega) trivial (fun d hd acc L' ha h1 h2=>HG hd rfl ha h1 h2) ?_
  rw[HH,bn]
  simp? only []
  rw[jf]
  exact bB k
 ·simp? only []
  subst hN
  refine aR fun N hN => ?_
  simp? only []
  refine⟨m,ws,W,rfl,rfl,?_⟩
  simp? only []
  refine⟨m,ws,aL ws.length,W,al,an,by rw[qe];omega,rfl,rfl,?_⟩
  simp? only []
  subst hN
  generalize uo ((cy (f_ m ws (aL ws.length)) m.toNat).map (·.2))=Z
  have hl:∀ x,0 <= x/\x < m->(x∈qk m ws n i↔ar (dZ ws (aq ws n)) i x):=fun x hx=>by
   unfold qk
   rw[a8]
   exact and_iff_right (by omega)
  have ul:(qk m ws n i).Pairwise (· < ·):=uK _ _ _
  have rl:∀ x∈qk m ws n i,0 <= x/\x < m:=fun x hx=>by
   have:=(a8.mp hx).1
   omega
  generalize qk m ws n i=l at hl ul rl
  have il:(i:Int)∈l:=(hl _ ri).mpr .rf
  have jl:(j:Int)∉l:=fun z=>nk.parts W ((hl _ rj).mp z)
  obtain⟨c1,c2⟩:=nk.cut W hl
  have d0:=nN l
  refine aR fun N hN => ?_
  simp? only []
  subst hN
  refine aR fun N hN => ?_
  simp? only []
  subst hN
  refine aR fun N hN => ?_
  refine ip fun A1 B1 hA hB => ?_
  rw[show bp l = .lst (l.map D.int) from rfl]
  simp? only []
  refine⟨m,ws,i,j,n,l,W,hi,hj,ne,hn,nk,BV ul rl,il,jl,c1,c2,rfl,rfl,?_⟩
  simp? only []
  subst hB
  show N _
  subst hN
  refine aR fun N hN => ?_
  simp? only [aH,dX]
  refine⟨by omega,?_⟩
  refine L2.j_ (fun d=>match d with
   | .int x => !decide (x∈l)
   | _=>false) id (by rw[jJ];omega) trivial ?_ ?_
  ·intro d hd acc L' ha h1 h2
   obtain⟨z,hz⟩:=VD.mp hd
   obtain⟨_,rfl⟩:=j6 hz
   dsimp only at h1 h2
   simp? only []
   refine⟨by omega,?_⟩
   rw[lq]
   cases q:decide ((0:Int) + z∈l) with
   | true=>rw[q] at h2;simp? only [];exact h2 rfl
   | false=>rw[q] at h1;simp? only [];exact⟨ha,h1 rfl⟩
  have e:((bG 0 m.toNat).filter fun d=>match d with
   | .int x => !decide (x∈l)
   | _=>false).map id=((aL m.toNat).filter fun x => !decide (x∈l)).map D.int:=by
   rw[Yv,pG,XG]
   rfl
  rw[e]
  have hr:∀ x,0 <= x/\x < m->(x∈(aL m.toNat).filter (fun x => !decide (x∈l))↔x∉l):=fun x hx=>by
   rw[Wm,bf,X1,Y9]
   exact and_iff_right (by omega)
  have ur:((aL m.toNat).filter fun x => !decide (x∈l)).Pairwise (· < ·):=(Br _).filter _
  have rr:∀ x∈(aL m.toNat).filter (fun x => !decide (x∈l)),0 <= x/\x < m:=fun x hx=>by
   have:=rA (Wm.mp hx).1
   omega
  generalize (aL m.toNat).filter (fun x => !decide (x∈l))=r at hr ur rr
  simp? only []
  subst hN
  refine aR fun N hN => ?_
  refine ip fun A1 B1 hA hB => ?_
  simp? only []
  have lr:∀ v∈ws,fO r v=fO l v:=fun v hv=>by
   have:=W.ends v hv
   exact Ti hr (by omega) (by omega)
  refine⟨m,ws,j,i,n,r,W,hj,hi,fun z=>ne z.symm,hn,nk.symm,BV ur rr,(hr _ rj).mpr jl,fun z=>(hr _ ri).mp z il,by rw[lr _ nk.mem];exact c1,fun v hv lv=>c2 v hv (by rw[<-lr v hv];exact lv),rfl,rfl,?_⟩
  simp? only []
  subst hB
  show N _
  subst hN
  refine aR fun N hN => ?_
  simp? only []
  refine⟨m,ws,W,rfl,rfl,fun os ho => ?_⟩
  simp? only []
  subst hN
  have on:n∈os:=ho.perm.mem_iff.mpr (bf.mpr hn)
  have ek:=Tg on
  have fl:((os.map D.int).all cJ.cZ=true):=WV.mpr fun d hd=>by
   obtain⟨x,_,rfl⟩:=Mt.mp hd
   rfl
  have HI:((os.map D.int).any fun e=>aA e (.int n))=true:=by rw[lq];exact Mr on
  refine aR fun N hN => ?_
  refine pT fun g' b' K2 hg hb' hK => ?_
  simp? only [j9,wo,tV]
  refine⟨⟨rfl,fl,HI⟩,?_⟩
  refine⟨⟨rfl,fl,HI⟩,?_⟩
  generalize ((os.map D.int).findIdx fun e=>aA e (.int n))=q at ek
  subst hg hb' hK
  have ol:=ho.len
  have od:os.Nodup:=ho.perm.nodup_iff.mpr (rB _)
  have ql:=(oR.mp ek).1
  refine k8 (fun _ δ => δ = ⟨[some (.p (.tup [.int m,.tup (ws.map bq)])),some (.p (.int i)),some (.p (.int j)),some (.p (.tup [.int n,.lst (l.map D.int)])),some (.p Z),some (.p (.int n)),some (.p (.lst (l.map D.int))),some (.p (.lst (r.map D.int))),some (.p (.lst (os.map D.int))),none,none,none],[]⟩) rfl ?_ ?_
  ·rintro x d δ L hx rfl hL
   have hL:=hL _ rfl
   have tk:∀ z:Nat,Nums ws (os.take z):=fun z y hy=>ho.nums y (List.mem_of_mem_take hy)
   obtain⟨z,Cd,rfl,zl,zd⟩:∃ (z:Nat) (Cd:Nat),d = .tup [.int (z:Nat),.int (Cd:Nat)]/\z <= os.length/\((iT m ws (os.take z)).filter (gh i j)).length=Cd:=by
    match x,hx with
    | 0,hx =>
     cases hx
     refine⟨q,0,rfl,by omega,?_⟩
     rw[HF (xf W (tk _)).1 fun c=>nk.dn ((uS (HE W ho ek)).mp c)]
     rfl
    | 1,hx =>
     cases hx
     exact⟨q + 1,1,rfl,by omega,Th (xf W (tk _)).1 (by omega) (by omega) ((uS (Tf W ho ek)).mpr nk.up)⟩
   refine⟨trivial,?_⟩
   simp only[kW,gO,j3,bE,fZ,bJ,D7,XF,Wr,Yj,WW,WX,WN,Nat.reduceAdd,and_self,true_and,Y8,X7]
   refine aR fun N2 dY => ?_
   simp? only []
   rw[HD (by rw[oS];exact zl),<-List.map_take]
   refine⟨m,ws,os.take z,W,tk z,od.sublist (ZM _ _),by rw[Wu];omega,rfl,rfl,?_⟩
   rw[show ((cy (f_ m ws (os.take z)) m.toNat).map (·.2))=iT m ws (os.take z) from rfl]
   have ll:=(Hk W (tk z)).1
   generalize iT m ws (os.take z)=Y at ll zd
   rw[show uo Y = .lst (Y.map bp) from rfl]
   simp? only []
   subst dY
   refine ip fun A1 B1 hA hB => ?_
   simp? only []
   refine L2.j_ (nQ (gh i j)) id (by rw[oS];omega) trivial (fun d hd acc L' ha h1 h2=>HG hd rfl ha h1 h2) ?_
   rw[HH]
   simp? only []
   rw[zd,jf]
   simp? only []
   subst hB
   exact hL
  ·rintro δ rfl
   refine⟨trivial,?_⟩
   subst hN
   simp? only []
   exact bB k
theorem Tn {a b:List Int} (h:a.Perm b):a.sum=b.sum:=by
 induction h with
 | nil=>rfl
 | cons x _ ih=>rw[Yo,Yo,ih]
 | swap x y l=>rw[Yo,Yo,Yo,Yo];omega
 | trans _ _ h1 h2=>exact h1.trans h2
noncomputable def wsum (l:List Wy):Int:=(l.map fun w=>w.2.2).sum
theorem HJ {a b:List Wy} (h:a.Perm b):wsum a=wsum b:=Tn (h.map _)
theorem HK (w:Wy) (l:List Wy):wsum (w :: l)=w.2.2 + wsum l:=by unfold wsum;rw[Wr,Yo]
noncomputable def c6 (ws:List Wy) (k:Nat):List Wy:=ws.take k ++ ws.drop (k + 1)
theorem xu (ws:List Wy) (k:Nat):(c6 ws k).Sublist ws:=by
 unfold c6
 rw[<-List.eraseIdx_eq_take_drop_succ]
 exact List.eraseIdx_sublist ws k
theorem HL {ws:List Wy} {k:Nat} (hk:k < ws.length):ws.Perm (aq ws k :: c6 ws k):=by
 have e:aq ws k=ws[k]:=by
  unfold aq
  rw[Wj,vo,lO hk];rfl
 unfold c6
 rw[e]
 have:ws=ws.take k ++ ws[k] :: ws.drop (k + 1):=by rw[<-XA hk,List.take_append_drop]
 exact (List.Perm.of_eq this).trans List.perm_middle
theorem HM {m:Int} {ws:List Wy} (W:bg m ws) {k:Nat} (hk:k < ws.length) (v:Wy):v∈c6 ws k↔v∈ws/\v≠aq ws k:=by
 have p:=HL hk
 have nd:=p.nodup_iff.mp (Bo W)
 rw[p.mem_iff,VE]
 obtain⟨h1,_⟩:=XE.mp nd
 constructor
 ·intro h
  exact⟨.inr h,fun e=>h1 (e ▸ h)⟩
 ·rintro ⟨rfl | h,e⟩
  ·exact absurd rfl e
  ·exact h
open Classical in
noncomputable def rG (ws us:List Wy):List Wy:=us.filter fun w=>decide (bt ws w)
open Classical in
theorem dE {ws us:List Wy} {v:Wy}:v∈rG ws us↔v∈us/\bt ws v:=by
 unfold rG
 rw[Wm,Y3]
open Classical in
theorem To {ws:List Wy} {k:Nat} (hk:k < ws.length) (ht:bt ws (aq ws k)):(fL ws).Perm (aq ws k :: rG ws (c6 ws k)):=by
 have:=(HL hk).filter fun w=>decide (bt ws w)
 rw[Z5,We (Mr ht)] at this
 exact this
open Classical in
theorem less_none {m:Int} {ws:List Wy} (W:bg m ws) {k:Nat} (hk:k < ws.length) (no:∀ v,bt (c6 ws k) v->bt ws v):fL (c6 ws k)=rG ws (c6 ws k):=by
 refine List.filter_congr fun v hv => ?_
 have:bt (c6 ws k) v↔bt ws v:=⟨no v,fun t=>Hy (fun u hu=>(xu ws k).subset hu) t hv⟩
 by_cases t:bt ws v
 ·rw[Mr t,Mr (this.mpr t)]
 ·rw[VF t,VF fun z=>t (this.mp z)]
theorem Tp {m:Int} {ws:List Wy} (W:bg m ws) {k:Nat} (hk:k < ws.length) (ht:bt ws (aq ws k)) {c:Wy} (tc:bt (c6 ws k) c) (nc:¬ bt ws c):(fL (c6 ws k)).Perm (c :: rG ws (c6 ws k)):=by
 have hu:=HM W hk
 have nd:(c6 ws k).Nodup:=(Bo W).sublist (xu ws k)
 refine (YL (nd.sublist (RQ _)) (XE.mpr ⟨fun h=>nc ?_,nd.sublist Yr⟩)).mpr fun v => ?_
 ·exact (dE.mp h).2
 ·rw[gY,VE]
  constructor
  ·intro tv
   by_cases t:bt ws v
   ·exact .inr (dE.mpr ⟨tv.1,t⟩)
   ·refine .inl ?_
    obtain⟨h1,h2⟩:=(hu v).mp tv.1
    obtain⟨h3,h4⟩:=(hu c).mp tc.1
    rcases BM W hu ht h3 h4 (BN W hu ht tc nc) tv t with z | z
    ·rcases BM W hu ht h1 h2 (BN W hu ht tv t) tc nc with y | y
     ·exact absurd y fun y=>BJ z y
     ·exact y.symm
    ·exact z
  ·rintro (rfl | h)
   ·exact tc
   ·obtain⟨h1,h2⟩:=dE.mp h
    exact Hy (fun u hu=>(xu ws k).subset hu) h2 h1
noncomputable def Ce (ws:List Wy) (ns:List Int) (z:Int):Prop:=∃ n∈ns,∃ c,bt (c6 ws n.toNat) c/\¬ bt ws c/\z=wsum (fL ws) - (aq ws n).2.2 + c.2.2
noncomputable def Cf:GD:=fun ys ah K=>∃ (m:Int) (ws:List Wy),bg m ws/\ys=[.p (aH m ws)]/\ah=[]/\K (.p (.bl true)) []
noncomputable def Cg:WS:=(au (aC 1 (ak 1 qd (ai (aa 0) af))) (au (aC 2 (qF af)) (au (dw (bO (aa 1)) (bE 3) (au (aC 4 (dr (ai (d2 (aa 0) (dC (.int 0)) aQ) (ai (d2 (jm (d2 (aa 0) (dC (.int 1)) aQ) ji (qV (aa 3))) (jm (d2 (aa 0) (dC (.int 1)) aQ) (qV (d2 (aa 3) (dC (.int 1)) c9)) ji) c9) af)))) (au (aC 5 (ak 1 qd (ai (aa 4) af))) (a_ (dT (d2 (dN (ai (aa 5) af) cq) (dN (ai (aa 1) af) cq) oEq)) (jc (j8 (aa 2) (ai (ak 2 xg (ai (aa 4) (ai (aa 5) af))) af))) cR)))) (au (aC 6 (ak 1 B9 (ai (aa 0) af))) (au (a_ (dT (d2 (aa 6) (dC .non) jn)) (aF (d2 (aa 2) (eF af) oEq)) cR) (aF (kU (d2 (aa 2) (eF af) l3) (d2 (dN (ai (aa 2) af) xi) (d2 (ak 2 xg (ai (aa 0) (ai (aa 1) af))) (d2 (aa 6) (dC (.int 0)) aQ) c9) oEq))))))))
theorem Tq:∀ ys ah K',ys.length=1->Cf ys ah K'->Cg (bJ ah.length K') ⟨ys.map some ++ List.replicate 6 none,ah.map some⟩:=by
 rintro ys ah K' - ⟨m,ws,W,rfl,rfl,k⟩
 have qb:=W.gK
 unfold Cg
 refine aR fun N hN => ?_
 simp? only []
 refine⟨m,ws,W,rfl,rfl,fun os ho => ?_⟩
 have F:=uR W ho
 have te:(hU m ws os).map (aq ws)=fL ws:=Hb W ho
 generalize hU m ws os=fo at F te
 have fl:=F.len
 have el:fo.length=(fL ws).length:=by rw[<-te,oS]
 simp? only []
 subst hN
 refine aR fun N hN => ?_
 simp? only []
 subst hN
 refine aR fun N hN => ?_
 refine pT fun g' b' K2 hg hb' hK => ?_
 simp? only []
 subst hg hb' hK
 refine k8 (fun i δ => ∃ zs:List Int,zs.length <= i/\(∀ z,z∈zs↔Ce ws (fo.take i) z) /\ δ = ⟨[some (.p (aH m ws)),some (.p (.lst (fo.map D.int))),some (.o 0),none,none,none,none],[some (.lst (zs.map D.int))]⟩) ⟨[],qx _,(fun z=>⟨(fun h=>nomatch h),(fun ⟨n,h,_⟩=>nomatch h)⟩),rfl⟩ ?_ ?_
 ·rintro i d δ L hi ⟨zs,zl,zm,rfl⟩ hL
  rw[D8] at hi
  obtain⟨n,hn,rfl⟩:=VI.mp hi
  have il:=(oR.mp hn).1
  have et:fo.take (i + 1)=fo.take i ++ [n]:=by rw[XZ,hn];rfl
  obtain⟨rn,tn⟩:=(F.mem n).mp (Ws hn)
  obtain⟨p,rfl⟩:∃ p:Nat,n=p:=⟨n.toNat,by omega⟩
  have hp:p < ws.length:=by omega
  refine⟨trivial,?_⟩
  simp only[bE,WW,WX]
  have e1:cutD (ws.map bq) none (some (p:Int))=(ws.take p).map bq:=by rw[HD (by rw[oS];omega),<-List.map_take]
  have e2:cutD (ws.map bq) (some ((p:Int) + 1)) none=(ws.drop (p + 1)).map bq:=by rw[show ((p:Int) + 1)=((p + 1:Nat):Int) from rfl,Td (by rw[oS];omega),<-List.map_drop]
  have ef:D.tup [.int m,.tup (cutD (ws.map bq) none (some (p:Int)) ++ cutD (ws.map bq) (some ((p:Int) + 1)) none)]=aH m (c6 ws p):=by
   rw[e1,e2,<-Wz]
   rfl
  refine aR fun N2 dY => ?_
  simp? only [aH,dX,eK]
  rw[ef]
  have W2:=RS W (xu ws p)
  refine⟨?_,?_⟩
  ·rw[e1,e2,oS,oS,Wu,Xw];omega
  subst dY
  refine aR fun N2 dY => ?_
  simp? only []
  refine⟨m,c6 ws p,W2,rfl,rfl,fun HN eQ => ?_⟩
  have F2:=uR W2 eQ
  have Ci:(hU m (c6 ws p) HN).map (aq (c6 ws p))=fL (c6 ws p):=Hb W2 eQ
  generalize hU m (c6 ws p) HN=nU at F2 Ci
  have rm:nU.length=(fL (c6 ws p)).length:=by rw[<-Ci,oS]
  have Gk:=F2.len
  have Wa:=W2.gK
  simp? only []
  subst dY
  refine ip fun A1 B1 hA hB => ?_
  simp? only []
  rw[lh]
  have kp:=To hp tn
  by_cases ex:∃ c,bt (c6 ws p) c/\¬ bt ws c
  ·obtain⟨c,tc,nc⟩:=ex
   have pm:=Tp W hp tn tc nc
   have le:nU.length=fo.length:=by rw[el,rm,pm.length_eq,kp.length_eq];rfl
   rw[Mr (show ((nU.length:Nat):Int)=(fo.length:Nat) by omega)]
   simp? only []
   subst hA
   have es:(nU.map fun n=>((c6 ws p).getD n.toNat (0,0,0)).2.2).sum=wsum (fL ws) - (aq ws p).2.2 + c.2.2:=by
    have:(nU.map fun n=>((c6 ws p).getD n.toNat (0,0,0)).2.2)=(fL (c6 ws p)).map fun w=>w.2.2:=by
     rw[<-Ci,Wo];rfl
    rw[this,show ((fL (c6 ws p)).map fun w=>w.2.2).sum=wsum (fL (c6 ws p)) from rfl,HJ pm,HJ kp,HK,HK]
    omega
   simp? only []
   refine⟨m,c6 ws p,nU,W2,F2.nums,F2.nd,by omega,rfl,rfl,?_⟩
   rw[es]
   simp? only []
   refine⟨by omega,?_⟩
   have:=hL ⟨[some (.p (aH m ws)),some (.p (.lst (fo.map D.int))),some (.o 0),none,none,none,none],[some (.lst ((zs ++ [wsum (fL ws) - (aq ws p).2.2 + c.2.2]).map D.int))]⟩ ⟨_,by rw[D6];show _ <= _;simp;omega,fun z => ?_,rfl⟩
   ·rw[Wz] at this
    exact this
   ·rw[WD,zm,et,WB]
    constructor
    ·rintro (⟨x,hx,r⟩ | rfl)
     ·exact⟨x,WJ _ hx,r⟩
     ·exact⟨p,Mq _ (.head _),c,tc,nc,rfl⟩
    ·rintro ⟨x,hx,c',uW,uX,rfl⟩
     rcases WD.mp hx with hx | hx
     ·exact .inl ⟨x,hx,c',uW,uX,rfl⟩
     ·obtain rfl:x=p:=WB.mp hx
      refine .inr ?_
      have:c'∈c :: rG ws (c6 ws p):=pm.mem_iff.mp (gY.mpr uW)
      rcases VE.mp this with e | h
      ·rw[e]
      ·exact absurd (dE.mp h).2 uX
  ·have no:∀ v,bt (c6 ws p) v->bt ws v:=fun v tv=>WQ fun z=>ex ⟨v,tv,z⟩
   have le:nU.length + 1=fo.length:=by rw[el,rm,less_none W hp no,kp.length_eq];rfl
   rw[VF (show ¬ ((nU.length:Nat):Int)=(fo.length:Nat) by omega)]
   simp? only []
   subst hB
   refine hL _ ⟨zs,by omega,fun z => ?_,rfl⟩
   rw[zm,et]
   constructor
   ·rintro ⟨x,hx,r⟩
    exact⟨x,WJ _ hx,r⟩
   ·rintro ⟨x,hx,c',uW,uX,r⟩
    rcases WD.mp hx with hx | hx
    ·exact⟨x,hx,c',uW,uX,r⟩
    ·obtain rfl:x=p:=WB.mp hx
     exact absurd ⟨c',uW,uX⟩ ex
 ·rintro δ ⟨zs,zl,zm,rfl⟩
  rw[oS] at zl
  rw[oS,Z2] at zm
  refine⟨trivial,?_⟩
  subst hN
  have less:∀ {n:Int},n∈fo->∀ v,v∈c6 ws n.toNat↔v∈ws/\v≠aq ws n:=fun {n} h v=>by
   obtain⟨h1,_⟩:=(F.mem n).mp h
   have:=HM W (k:=n.toNat) (by omega) v
   rw[show ((n.toNat:Nat):Int)=n by omega] at this
   exact this
  dsimp only
  refine aR fun N hN => ?_
  simp? only []
  refine⟨m,ws,W,rfl,rfl,fun all => ?_,fun n hn nt best => ?_⟩
  ·simp? only []
   subst hN
   refine aR fun N hN => ?_
   simp? only []
   have z0:zs=[]:=by
    refine List.eq_nil_iff_forall_not_mem.mpr fun z hz => ?_
    obtain⟨x,hx,c,tc,nc,_⟩:=(zm z).mp hz
    exact nc (all c ((less hx c).mp tc.1).1)
   subst z0
   simp? only []
   rw[jf]
   exact⟨[],rfl,rfl,k⟩
  ·obtain⟨gr,nk⟩:=xt W hn
   have gf:bN ws n∈fo:=(F.mem _).mpr ⟨gr,nk.tree⟩
   have hm:=my hn.1 hn.2
   have ng:aq ws n≠aq ws (bN ws n):=fun e=>nt (by rw[e];exact nk.tree)
   have pd:=nk.parts W
   obtain⟨c,tc,nc⟩:=SG W (less gf) hm ng pd
   have cz:wsum (fL ws) - (aq ws (bN ws n)).2.2 + c.2.2∈zs:=(zm _).mpr ⟨_,gf,c,tc,nc,rfl⟩
   have cl:=HA (BM W (less gf) nk.tree hm ng pd tc nc)
   have ne:zs≠[]:=fun z=>by rw[z] at cz;exact nomatch cz
   have ex:tupI (mH ws n) = .tup [.int ((aq ws n).2.2 - (aq ws (bN ws n)).2.2),.int (bN ws n),.int n]:=rfl
   rw[ex]
   simp? only []
   subst hN
   refine aR fun N hN => ?_
   simp? only []
   subst hN
   have d0:=nN zs
   simp? only []
   refine⟨by omega,?_⟩
   rw[show (D.lst [])=D.lst (([]:List Int).map D.int) from rfl]
   simp only[aA,Hj,VF ne]
   simp? only [xi,tJ]
   refine⟨ne,fun x hx low => ?_⟩
   refine⟨m,ws,fo,W,F.nums,F.nd,by omega,rfl,rfl,?_⟩
   have es:(fo.map fun n=>(ws.getD n.toNat (0,0,0)).2.2).sum=wsum (fL ws):=by
    rw[<-te]
    unfold wsum
    rw[Wo]
    rfl
   rw[es]
   have ee:x=wsum (fL ws) + ((aq ws n).2.2 - (aq ws (bN ws n)).2.2):=by
    have h1:=low _ cz
    obtain⟨y,hy,c2,HP,HQ,e2⟩:=(zm x).mp hx
    obtain⟨e8,_⟩:=(less hy c2).mp HP.1
    obtain⟨w,hw,rfl⟩:=lj e8
    obtain⟨Wb,Tr⟩:=xt W hw
    have ty:=((F.mem y).mp hy).2
    have h2:=HA (Tr.top W ty (BN W (less hy) ty HP HQ))
    have h3:=Ta (best w hw HQ)
    omega
   simp? only [dX]
   rw[ee,jf]
   exact⟨[],rfl,rfl,k⟩
noncomputable abbrev KL:KS:=⟨fun _=>False,fun x _=>x = .p (.bl true),fun _=>False,fun _=>False⟩
noncomputable def Cj:WS:=(au (dw (k6 (ai (dC (.int 3)) af)) (bE 2) (au (aC 3 (ak 3 Ar (ai (ak 1 Ak (ai (aa 1) af)) (ai (d2 (eF (ai (dC (.int 12)) (ai (dC (.int 6)) (ai (dC (.int 9)) af)))) (aa 2) aQ) (ai (dC (.int 30)) af))))) (au (dw (k6 (ai (d2 (dC (.int 3)) (dN (ai (d2 (d2 (aa 3) (dC (.int 0)) aQ) (dC (.int 1)) (oI fun i j => .bl (decide (j < i)))) af) mI) eI) af)) (bE 4) (au (aC 5 (ak 2 hJ (ai (aa 1) (ai (d2 (aa 3) (dC (.int 0)) aQ) af)))) (au (aC 6 (d2 (d2 (d2 (aa 5) (dC (.int 1)) c9) (ak 2 hJ (ai (aa 1) (ai (d2 (d2 (aa 3) (dC (.int 0)) aQ) (dC (.int 1)) (oI fun i j => .int (i - j))) af))) c9) (d2 (aa 3) (dC (.int 0)) aQ) (dy (fun _ j=>0 < j) fun i j => .int (i % j)))) (a_ (cQ (dT (ak 3 Ca (ai (aa 3) (ai (aa 5) (ai (aa 6) af)))))) (aF (dC (.bl false))) cR)))) (a_ (cQ (dT (ak 1 Cf (ai (aa 3) af)))) (aF (dC (.bl false))) cR)))) (aF (dC (.bl true))))
theorem Tt {m r s:Int} (hr:0 <= r/\r < m) (hs:0 <= s/\s < m - 1):0 <= (r + 1 + s) % m/\(r + 1 + s) % m < m/\(r + 1 + s) % m≠r:=by
 have h0:=Xt (r + 1 + s) (show m≠0 by omega)
 have h1:=W8 (r + 1 + s) (show 0 < m by omega)
 refine⟨h0,h1,?_⟩
 by_cases c:r + 1 + s < m
 ·rw[Int.emod_eq_of_lt (by omega) c];omega
 ·rw[<-Int.sub_emod_right,Int.emod_eq_of_lt (by omega) (by omega)];omega
theorem Tu (ns:List Int) (hn:ns.length <= 63):Cj KL ⟨none :: some (.o 0) :: List.replicate 5 none,[some (iq ns 0 0)]⟩:=by
 unfold Cj
 refine aR fun N hN => ?_
 simp? only []
 refine⟨by decide,?_⟩
 refine k8 (fun i δ => ∃ o,bj (1000 * i) o /\ δ = ⟨none :: some (.o 0) :: List.replicate 5 none,[some o]⟩) ⟨iq ns 0 0,⟨ns,0,0,rfl,hn,by omega,by omega⟩,rfl⟩ ?_ ?_
 ·rintro j d δ L hj ⟨o,P,rfl⟩ hL
  obtain⟨Cm,rfl⟩:=j6 hj
  have Cm:j < 3:=Cm
  refine⟨trivial,?_⟩
  simp only[bE,Xn,List.replicate_zero,WW,WX]
  obtain⟨hs,ea,h1,Gz⟩:∃ hs:Int,d_ [D.int 12,D.int 6,D.int 9] (0 + (j:Int))=some (.int hs)/\1 <= hs/\hs <= 12:=by
   match j,Cm with
   | 0,_=>exact⟨12,rfl,by decide,by decide⟩
   | 1,_=>exact⟨6,rfl,by decide,by decide⟩
   | 2,_=>exact⟨9,rfl,by decide,by decide⟩
  generalize (0 + (j:Int))=jt at ea
  refine aR fun N2 dY => ?_
  simp? only []
  refine⟨1000 * j,o,rfl,rfl,P,fun o1 P1 => ?_⟩
  simp? only [ea]
  refine⟨1000 * j,hs,30,o1,rfl,rfl,P1,by omega,by omega,by omega,by omega,by omega,fun m ws o2 W _ _ P2 => ?_⟩
  have gJ:=W.gJ
  have m1:=W.m1
  simp? only []
  subst dY
  refine aR fun N2 dY => ?_
  refine pT fun g' b' K2 hg hb' hK => ?_
  simp? only [aH,dX,mI]
  have cm:∀ b:Bool,jP 3 (if b=true then 1 else 0):=fun b=>by cases b<;>exact .inl ⟨by decide,by decide⟩
  refine⟨cm _,?_⟩
  obtain⟨t,et,ht⟩:∃ t:Nat,(3 * (if decide (1 < m)=true then 1 else 0):Int)=t/\(t <= 3/\(m=1->t=0)):=by
   by_cases c:1 < m
   ·exact⟨3,by rw[Mr c];rfl,by omega,fun z=>by omega⟩
   ·exact⟨0,by rw[VF c];rfl,by omega,fun _=>rfl⟩
  rw[et]
  refine⟨by omega,?_⟩
  subst hg hb' hK
  refine k8 (fun i δ => ∃ o',bj (1000 * j + 500 + 2 * i) o' /\ δ = ⟨[none,some (.o 0),some (.p (.int jt)),some (.p (.tup [.int m,.tup (ws.map bq)])),none,none,none],[some o']⟩) ⟨o2,P2.mono (by omega),rfl⟩ ?_ ?_
  ·rintro i d δ L3 hi ⟨o',P',rfl⟩ Tv
   obtain⟨Tw,rfl⟩:=j6 hi
   rw[Wj] at Tw
   have m2:2 <= m:=by
    by_cases c:m=1
    ·have:=ht.2 c;omega
    ·omega
   refine⟨trivial,?_⟩
   simp only[bE,WW,WX]
   refine aR fun N3 Co => ?_
   simp? only [dX]
   refine⟨1000 * j + 500 + 2 * i,m,o',rfl,rfl,P',by omega,by omega,by omega,fun r o3 r0 r1 P3 => ?_⟩
   simp? only []
   subst Co
   refine aR fun N3 Co => ?_
   simp? only [dX]
   refine⟨1000 * j + 500 + 2 * i + 1,m - 1,o3,rfl,rfl,P3,by omega,by omega,by omega,fun s o4 s0 s1 P4 => ?_⟩
   simp? only [dX]
   refine⟨by omega,?_⟩
   obtain⟨e0,e1,e2⟩:=Tt ⟨r0,r1⟩ ⟨s0,s1⟩
   generalize (r + 1 + s) % m=ot at e0 e1 e2
   subst Co
   refine ip fun A1 B1 hA hB => ?_
   simp? only []
   refine⟨m,ws,r.toNat,ot.toNat,W,by omega,by omega,by omega,?_,rfl,?_⟩
   ·rw[show ((r.toNat:Nat):Int)=r by omega,show ((ot.toNat:Nat):Int)=ot by omega];rfl
   simp? only []
   subst hB
   exact Tv _ ⟨o4,P4.mono (by omega),rfl⟩
  ·rintro δ ⟨o',P',rfl⟩
   rw[jJ,Wj] at P'
   refine⟨trivial,?_⟩
   subst dY
   dsimp only
   refine ip fun A1 B1 hA hB => ?_
   simp? only []
   refine⟨m,ws,W,rfl,rfl,?_⟩
   simp? only []
   subst hB
   exact hL _ ⟨o',P'.mono (by omega),rfl⟩
 ·rintro δ ⟨o,P,rfl⟩
  refine⟨trivial,?_⟩
  subst hN
  simp? only []
end LJ
namespace LJ
open PySem L2 PySem.Spec PySem.W PyProof.Rows
structure Ev where
 P:Program
 w:World
 K:PySem.W.Frag
 mg:Str->Option Value
 base:Heap
section
variable [aE]
structure Fx (V:Ev) (k:Nat) (x:Str) (ps:List Str) (n:Nat) (G:GD):Prop where
 ex:∃ f fd,Fn V.P V.w V.K V.mg V.base k x ps (lY G n) f fd
noncomputable def Dx (V:Ev) (x:Str) (st:Stmt):Prop:=∃ f fd,V.mg x=some (.ref f)/\gD V.K x x st f fd
noncomputable def rH (V:Ev) (x:Str) (st:Stmt) (T:Addr) (pos:Pos) (q:Str):Prop:=∃ f fd,(V.mg x=some (.ref f)/\gD V.K x x st f fd)/\gg V.mg V.base fd T pos q
noncomputable def Ct (V:Ev) (x:Str) (i:Int):Prop:=∃ u,V.mg x=some u/\RelV (.int i) u
section
variable {X:Cx} {x:Str} {ps:List Str} {G:GD} {e:Expr} {es:List Expr} {fa:WA} {p pos:Pos} {j k n:Nat}
theorem ax (F:Fx ⟨X.prog,X.w,X.K,X.mg,X.base⟩ j x ps n G) (hr:aY k X.A) (ha:JA X (e :: es) (bL fa)) (hj:Nat.ble j k=true:=by rfl) (hg:Gl X x:=by rfl) (dS:(x == ("__debug__" : Str))=false:=by decide) (he:starEach (e :: es) X.env=(false,eval e X.env) :: starEach es X.env:=by rfl) (dM:(backTo pos (starEach es X.env)).any (·.1)=false:=by rfl) :
  JE X (.Call (.Name x p) (e :: es) [] pos) (tD (ak n G fa)):=let ⟨_,_,F⟩:=F.ex; Oa F.ok (hr.mono (Nat.le_of_ble_eq_true hj)) hg F.vH F.kp F.bd ha dS he dM
theorem Tx (F:Fx ⟨X.prog,X.w,X.K,X.mg,X.base⟩ j x ps n G) (hr:aY k X.A) (ha:JA X (e :: es) (bL fa)) (hj:Nat.ble j k=true:=by rfl) (hg:Gl X x:=by rfl) (dS:(x == ("__debug__" : Str))=false:=by decide) (he:starEach (e :: es) X.env=(false,eval e X.env) :: starEach es X.env:=by rfl) (dM:(backTo pos (starEach es X.env)).any (·.1)=false:=by rfl) :
  JE X (.Call (.Name x p) (e :: es) [] pos) (tD (tF n G fa)):=let ⟨_,_,F⟩:=F.ex; Ob F.ok (hr.mono (Nat.le_of_ble_eq_true hj)) hg F.vH F.kp F.bd ha dS he dM
theorem Cp {i:Int} (C:Ct ⟨X.prog,X.w,X.K,X.mg,X.base⟩ x i) (hg:Gl X x:=by rfl) (hd:(x == ("__debug__" : Str))=false:=by decide):JE X (.Name x pos) (tD (dC (.int i))):=let ⟨_,a,b⟩:=C; NU hg a b hd
end
theorem _root_.L2.gg.env {mg:Str->Option Value} {base:Heap} {fd:FuncData} {T:Addr} {lp:Pos} {q:Str} {aU:Value} (L:gg mg base fd T lp q) (h:fd.code=aU):∃ cc,aU = .ref cc/\CodeHd base cc T:=let ⟨cc,e1,e2⟩:=L.code; ⟨cc,h.symm.trans e1,e2⟩
noncomputable def Tz:NameKind->Bool
 | .local=>true
 | .cell=>true
 | _=>false
noncomputable def TB:NameKind->Bool
 | .free=>false
 | _=>true
noncomputable def TC:ScopeKind->Bool
 | .function=>true
 | _=>false
noncomputable def xv (N P:List Str) (sc:Scope):Bool:=TC sc.kind && !sc.isCoroutine && !sc.isGenerator && decide N.Nodup && decide (N.take P.length=P) && (P.all fun x=>match sc.names.lookup x with
 | some k=>Tz k
 | none=>false) && sc.names.all fun y=>TB y.2
theorem iz {N P:List Str} {sc:Scope} (h:xv N P sc=true):kP N P sc:=by
 unfold xv at h
 simp only[WH,X1,Ww,WV] at h
 obtain⟨⟨⟨⟨⟨⟨h1,h2⟩,h3⟩,h4⟩,h5⟩,h6⟩,h7⟩:=h
 refine⟨?_,h2,h3,h4,h5,fun x hx => ?_,fun y hy z => ?_⟩
 ·cases q:sc.kind<;>rw[q] at h1<;>first | rfl | cases h1
 ·have:=h6 x hx
  split at this
  ·rename_i k e
   rw[e]
   cases k<;>first | exact .inl rfl | exact .inr rfl | cases this
  ·cases this
 ·have:=h7 y hy
  rw[z] at this
  cases this
noncomputable def iA (x:Str) (st:Stmt) (ps:List Str):Prop:=∀ (kV doc pm:Value) (an:Option Addr) (aU ct:Value) (us:List Value),us.length=ps.length->bindArgs (PySem.W.fnOf x x (jD st) (fW st) (cB st) .none kV doc pm an aU ct) ⟨us,[]⟩=pure (ps.zip us)
section
theorem HR {us:List Value} (h:us.length=1):∃ a,us=[a]:=List.length_eq_one_iff.mp h
theorem HS {us:List Value} (h:us.length=2):∃ a b,us=[a,b]:=by
 cases us with
 | nil=>cases h
 | cons a r=>obtain⟨b,rfl⟩:=HR (X8 h);exact⟨a,b,rfl⟩
theorem HU {us:List Value} (h:us.length=3):∃ a b c,us=[a,b,c]:=by
 cases us with
 | nil=>cases h
 | cons a r=>obtain⟨b,c,rfl⟩:=HS (X8 h);exact⟨a,b,c,rfl⟩
theorem HV {us:List Value} (h:us.length=4):∃ a b c d,us=[a,b,c,d]:=by
 cases us with
 | nil=>cases h
 | cons a r=>obtain⟨b,c,d,rfl⟩:=HU (X8 h);exact⟨a,b,c,d,rfl⟩
theorem TF {us:List Value} (h:us.length=5):∃ a b c d e,us=[a,b,c,d,e]:=by
 cases us with
 | nil=>cases h
 | cons a r=>obtain⟨b,c,d,e,rfl⟩:=HV (X8 h);exact⟨a,b,c,d,e,rfl⟩
theorem kG {x:Str} {st:Stmt} {ps:List Str} (h:∀ (kV doc pm:Value) (an:Option Addr) (aU ct a:Value),bindArgs (PySem.W.fnOf x x (jD st) (fW st) (cB st) .none kV doc pm an aU ct) ⟨[a],[]⟩=pure (ps.zip [a]):=by intros;rfl) (hl:ps.length=1:=by rfl):iA x st ps:=fun kV doc pm an aU ct us hu=>by
 obtain⟨a,rfl⟩:=HR (hu.trans hl)
 exact h kV doc pm an aU ct a
theorem iU {x:Str} {st:Stmt} {ps:List Str} (h:∀ (kV doc pm:Value) (an:Option Addr) (aU ct a b:Value),bindArgs (PySem.W.fnOf x x (jD st) (fW st) (cB st) .none kV doc pm an aU ct) ⟨[a,b],[]⟩=pure (ps.zip [a,b]):=by intros;rfl) (hl:ps.length=2:=by rfl):iA x st ps:=fun kV doc pm an aU ct us hu=>by
 obtain⟨a,b,rfl⟩:=HS (hu.trans hl)
 exact h kV doc pm an aU ct a b
theorem lu {x:Str} {st:Stmt} {ps:List Str} (h:∀ (kV doc pm:Value) (an:Option Addr) (aU ct a b c:Value),bindArgs (PySem.W.fnOf x x (jD st) (fW st) (cB st) .none kV doc pm an aU ct) ⟨[a,b,c],[]⟩=pure (ps.zip [a,b,c]):=by intros;rfl) (hl:ps.length=3:=by rfl):iA x st ps:=fun kV doc pm an aU ct us hu=>by
 obtain⟨a,b,c,rfl⟩:=HU (hu.trans hl)
 exact h kV doc pm an aU ct a b c
theorem HW {x:Str} {st:Stmt} {ps:List Str} (h:∀ (kV doc pm:Value) (an:Option Addr) (aU ct a b c d:Value),bindArgs (PySem.W.fnOf x x (jD st) (fW st) (cB st) .none kV doc pm an aU ct) ⟨[a,b,c,d],[]⟩=pure (ps.zip [a,b,c,d]):=by intros;rfl) (hl:ps.length=4:=by rfl):iA x st ps:=fun kV doc pm an aU ct us hu=>by
 obtain⟨a,b,c,d,rfl⟩:=HV (hu.trans hl)
 exact h kV doc pm an aU ct a b c d
theorem HX {x:Str} {st:Stmt} {ps:List Str} (h:∀ (kV doc pm:Value) (an:Option Addr) (aU ct a b c d e:Value),bindArgs (PySem.W.fnOf x x (jD st) (fW st) (cB st) .none kV doc pm an aU ct) ⟨[a,b,c,d,e],[]⟩=pure (ps.zip [a,b,c,d,e]):=by intros;rfl) (hl:ps.length=5:=by rfl):iA x st ps:=fun kV doc pm an aU ct us hu=>by
 obtain⟨a,b,c,d,e,rfl⟩:=TF (hu.trans hl)
 exact h kV doc pm an aU ct a b c d e
variable {V:Ev} {x:Str} {st:Stmt} {N ps:List Str} {k:Nat} {G:GD}
theorem cN (D:Dx V x st) (bd:iA x st ps) (h:∀ {aU:Value} {A:Around} {outer:List Env} {s:Shared} {H:Hp} {E:XK} {f:Addr},aY k (A.deeper (envOfC x (cB st) s.heap.objs.size f aU))->N.Nodup->(A.deeper (envOfC x (cB st) s.heap.objs.size f aU)).units + 64 < cLine →
   ∃ B:WS,eC (dU fD V.P V.w V.K V.mg V.base N x (cB st) f aU A outer s H E).jM (fW st) (dH B)/\∀ ys ah K',ys.length=ps.length->G ys ah K'->B (bJ ah.length K') ⟨ys.map some ++ List.replicate (N.length - ps.length) none,ah.map some⟩) (sc:xv N ps (cB st)=true:=by decide +kernel):Fx V (k + 1) x ps ps.length G :=
 let ⟨f,fd,a,F⟩:=D
 ⟨f,fd,F.N6 (iz sc) fun aU A outer s H E hr=>h hr (iz sc).nd hr.units,a,F.kp,F.binds bd⟩
theorem Cq {T:Addr} {lp:Pos} {q:Str} (D:rH V x st T lp q) (bd:iA x st ps) (h:∀ {aU:Value} {A:Around} {outer:List Env} {s:Shared} {H:Hp} {E:XK} {f:Addr} {fd:FuncData},gg V.mg V.base fd T lp q->fd.code=aU->aY k (A.deeper (envOfC x (cB st) s.heap.objs.size f aU))->N.Nodup->(A.deeper (envOfC x (cB st) s.heap.objs.size f aU)).units + 64 < cLine →
   ∃ B:WS,eC (dU fD V.P V.w V.K V.mg V.base N x (cB st) f aU A outer s H E).jM (fW st) (dH B)/\∀ ys ah K',ys.length=ps.length->G ys ah K'->B (bJ ah.length K') ⟨ys.map some ++ List.replicate (N.length - ps.length) none,ah.map some⟩) (sc:xv N ps (cB st)=true:=by decide +kernel):Fx V (k + 1) x ps ps.length G :=
 let ⟨f,fd,⟨a,F⟩,LD⟩:=D
 ⟨f,fd,F.A5 (iz sc) fun aU A outer s H E hc hr=>h LD hc hr (iz sc).nd hr.units,a,F.kp,F.binds bd⟩
end
end
section
variable {K:PySem.W.Frag} {h:Heap} {mg:Str->Option Value}
noncomputable def Dk (K:PySem.W.Frag) (x:Str) (st:Stmt):Prop:=∃ f fd,PySem.W.nsIn K mainGlobals x=some (some (.ref f))/\gD K x x st f fd
inductive gi (K:PySem.W.Frag):List (Str × Stmt)->Prop
 | nil:gi K []
 | cons {x st r}:Dk K x st->gi K r->gi K ((x,st) :: r)
theorem Cr {x:Str} {st:Stmt} {r:List (Str × Stmt)} {f:Addr} {od an:Option Addr} {sl:Array (Option Value)} {oc kV dc pm cd ct:Value} (a:PySem.W.nsIn K mainGlobals x=some (some (.ref f))) (l:K.lookup f=some ⟨oc,od,.func (PySem.W.fnOf x x (jD st) (fW st) (cB st) .none kV dc pm an cd ct),sl⟩) (q:PySem.W.codeIn K cd x=true) (k:PySem.W.keepIn K (.ref f)=true) (h:gi K r):gi K ((x,st) :: r) :=
 .cons ⟨f,_,a,D9 l q k⟩ h
theorem gi.at {ds:List (Str × Stmt)} (h:gi K ds) (i:Nat) {x:Str} {st:Stmt} (e:ds[i]? = some (x,st)):Dk K x st:=by
 induction h generalizing i with
 | nil=>cases e
 | cons d _ ih=>cases i with
  | zero=>cases e;exact d
  | succ i=>exact ih i e
noncomputable def xw (K:PySem.W.Frag) (x:Str) (st:Stmt) (T:Addr):Prop:=∃ f fd,(PySem.W.nsIn K mainGlobals x=some (some (.ref f))/\gD K x x st f fd)/\∃ cc,fd.code = .ref cc/\PySem.W.codeHdIn K cc T=true
inductive dJ (K:PySem.W.Frag):List (Str × Stmt × Addr)->Prop
 | nil:dJ K []
 | cons {x st T r}:xw K x st T->dJ K r->dJ K ((x,st,T) :: r)
theorem uY {x:Str} {st:Stmt} {T:Addr} {r:List (Str × Stmt × Addr)} {f cc:Addr} {od an:Option Addr} {sl:Array (Option Value)} {oc kV dc pm ct:Value} (a:PySem.W.nsIn K mainGlobals x=some (some (.ref f))) (l:K.lookup f=some ⟨oc,od,.func (PySem.W.fnOf x x (jD st) (fW st) (cB st) .none kV dc pm an (.ref cc) ct),sl⟩) (q:PySem.W.codeIn K (.ref cc) x=true) (k:PySem.W.keepIn K (.ref f)=true) (c:PySem.W.codeHdIn K cc T=true) (h:dJ K r):dJ K ((x,st,T) :: r) :=
 .cons ⟨f,_,⟨a,D9 l q k⟩,cc,rfl,c⟩ h
theorem dJ.at {ds:List (Str × Stmt × Addr)} (h:dJ K ds) (i:Nat) {x:Str} {st:Stmt} {T:Addr} (e:ds[i]? = some (x,st,T)):xw K x st T:=by
 induction h generalizing i with
 | nil=>cases e
 | cons d _ ih=>cases i with
  | zero=>cases e;exact d
  | succ i=>exact ih i e
theorem dJ.code {ds:List (Str × Stmt × Addr)} (h:dJ K ds) {hp:Heap} (X:K.In hp):∀ T∈ds.map (·.2.2),∃ cc,PySem.W.CodeHd hp cc T:=by
 induction h with
 | nil=>intro T hT;exact nomatch hT
 | cons d _ ih =>
  intro T hT
  rcases VE.mp hT with rfl | hT
  ·obtain⟨_,_,_,cc,_,e⟩:=d
   exact⟨cc,PySem.W.codeHd_of_K X e⟩
  ·exact ih T hT
theorem TH {x:Str} {r:List Str} (a:PySem.W.nsIn K mainGlobals x=some none) (h:∀ y∈r,PySem.W.nsIn K mainGlobals y=some none):∀ y∈x :: r,PySem.W.nsIn K mainGlobals y=some none:=fun y hy=>by
 rcases VE.mp hy with rfl | hy
 ·exact a
 ·exact h y hy
theorem TJ {ls:List kj} (nd:(ls.map (·.T)).Nodup):∀ {a b:kj},a∈ls->b∈ls->a.T=b.T->a=b:=by
 induction ls with
 | nil=>intro a b ha;exact nomatch ha
 | cons c r ih =>
  intro a b ha hb e
  rw[Wr,XE] at nd
  rcases VE.mp ha with rfl | ha'<;>rcases VE.mp hb with rfl | hb'
  ·rfl
  ·exact absurd (Mt.mpr ⟨b,hb',e.symm⟩) nd.1
  ·exact absurd (Mt.mpr ⟨a,ha',e⟩) nd.1
  ·exact ih nd.2 ha' hb' e
theorem Dk.v {P:Program} {w:World} {base:Heap} {x:Str} {st:Stmt} (d:Dk K x st) (X:K.In h) (G:h.Ns mainGlobals mg):Dx ⟨P,w,K,mg,base⟩ x st :=
 let ⟨f,fd,a,F⟩:=d
 ⟨f,fd,ZW X G a,F⟩
theorem xw.v {P:Program} {w:World} {base:Heap} {x:Str} {st:Stmt} {ls:List kj} {T:Addr} {lp:Pos} {q:Str} (d:xw K x st T) (X:K.In h) (G:h.Ns mainGlobals mg) (KB:K.In base) (hB:∀ t∈ls,base.BuiltinsAt mg t.T) (nd:(ls.map (·.T)).Nodup) (ng:∀ t∈ls,mainGlobals≠t.T) (hl:⟨T,lp,q⟩∈ls):@rH (ml ls) ⟨P,w,K,mg,base⟩ x st T lp q :=
 let ⟨f,fd,⟨a,F⟩,cc,e1,e2⟩:=d
 letI:aE:=ml ls
 ⟨f,fd,⟨ZW X G a,F⟩,⟨cc,e1,PySem.W.codeHd_of_K KB e2⟩,ng _ hl,hB _ hl,QV hl fun a ha b hb e=>TJ nd ha hb e⟩
noncomputable def Ck (K:PySem.W.Frag) (x:Str) (i:Int):Prop:=∃ u,PySem.W.nsIn K mainGlobals x=some (some u)/\RelV (.int i) u
theorem Ck.v {P:Program} {w:World} {base:Heap} {x:Str} {i:Int} (d:Ck K x i) (X:K.In h) (G:h.Ns mainGlobals mg):Ct ⟨P,w,K,mg,base⟩ x i :=
 let ⟨u,a,r⟩:=d
 ⟨u,ZW X G a,r⟩
noncomputable def Cs:List Str:=["len", "range", "list", "tuple", "set", "sorted", "min", "max", "sum", "all", "any", "enumerate", "zip", "isinstance", "int", "bool", "str"]
theorem TK (X:K.In h) (G:h.Ns mainGlobals mg) (N:∀ x∈Cs,PySem.W.nsIn K mainGlobals x=some none):BT mg :=
 have n:∀ i x,Cs[i]? = some x->mg x=none:=fun i x e=>PySem.W.mg_none_of X G (N x (Ws e))
 ⟨n 0 _ rfl,n 1 _ rfl,n 2 _ rfl,n 3 _ rfl,n 4 _ rfl,n 5 _ rfl,n 6 _ rfl,n 7 _ rfl,n 8 _ rfl,n 9 _ rfl,n 10 _ rfl,n 11 _ rfl,n 12 _ rfl,n 13 _ rfl,n 14 _ rfl,n 15 _ rfl,n 16 _ rfl⟩
end
end LJ
namespace LJ
open PySem L2
noncomputable def top (i:Nat):Stmt:=PySem.Challenge.pw_lotjoin_k74_whole_narrow_and_next.main.body.getD i (.Pass ⟨0,0,0,0⟩)
section
variable [aE] {Z:Ev}
noncomputable abbrev HY:Stmt:=top 9
noncomputable abbrev HZ (Z:Ev):Prop:=Fx Z 1 "is_whole" ["thing"] 1 Au
theorem TL (D:Dx Z "is_whole" HY) (B:BT Z.mg):HZ Z:=cN (N:=["thing"]) D kG fun hr nd hu=>⟨Av,(aX (bx (m8 (qW OJ (by rfl) B.isinstance (by rfl) B.int EC (dv 0)) (mZ (NX (qW OK (by rfl) B.isinstance (by rfl) B.bool NI (dv 0))))))),Qf⟩
noncomputable abbrev H_:Stmt:=top 10
noncomputable abbrev qo (Z:Ev):Prop:=Fx Z 2 "is_within" ["thing", "least", "most"] 3 k_
theorem TM (D:Dx Z "is_within" H_) (B:BT Z.mg) (TN:HZ Z):qo Z:=cN (N:=["thing", "least", "most"]) D lu fun hr nd hu=>⟨Aw,(aX (bx (m8 (ax TN hr (ag (dv 0) ay)) (mZ (Fm Fg Fg (dv 1) (dv 0) (dv 2)))))),Qg⟩
noncomputable abbrev Ia:Stmt:=top 11
noncomputable abbrev Cu (Z:Ev):Prop:=Fx Z 1 "is_tuple_of" ["thing", "size"] 2 wJ
theorem TQ (D:Dx Z "is_tuple_of" Ia) (B:BT Z.mg):Cu Z:=cN (N:=["thing", "size"]) D iU fun hr nd hu=>⟨Ax,(aX (bx (m8 (qW Fy (by rfl) B.isinstance (by rfl) B.tuple ze (dv 0)) (mZ (iM (fG hu) (fh ik (by rfl) B.len WY (ag (dv 0) ay)) (dv 1) (by rfl)))))),Qh⟩
noncomputable abbrev Ib:Stmt:=top 12
noncomputable abbrev Ic (Z:Ev):Prop:=Fx Z 3 "are_ends" ["many", "one", "other"] 3 Az
theorem TR (D:Dx Z "are_ends" Ib) (B:BT Z.mg) (jz:qo Z):Ic Z:=cN (N:=["many", "one", "other"]) D lu fun hr nd hu=>⟨AA,(aX (bx (m8 (ax jz hr (ag (dv 1) (a5 av (dP (bh j7 (dv 0) av) ay)))) (mZ (ax jz hr (ag (dv 2) (dP (bh dF (dv 1) av) (dP (bh j7 (dv 0) av) ay)))))))),Qi⟩
noncomputable abbrev Ie:Stmt:=top 13
noncomputable abbrev Ig (Z:Ev):Prop:=Fx Z 4 "is_way" ["many", "thing"] 2 AB
theorem TU (D:Dx Z "is_way" Ie) (B:BT Z.mg) (TV:Ct Z "MOST_PRICE" 1000000000) (Cv:Cu Z) (TX:Ic Z) (jz:qo Z):Ig Z:=cN (N:=["many", "thing"]) D iU fun hr nd hu=>⟨AD,(aO (cY (iN (g9 (ax Cv hr (ag (dv 1) (a5 av ay))))) (aX (bx gn)) c8) (aX (bx (m8 (ax TX hr (ag (dv 0) (a9 (aV aW (dv 1) av (fun _ _=>rfl)) (a9 (aV aW (dv 1) av (fun _ _=>rfl)) ay)))) (mZ (ax jz hr (a9 (aV aW (dv 1) av (fun _ _=>rfl)) (a5 av (ag (Cp TV) ay))))))))),Qk⟩
noncomputable abbrev Ih:Stmt:=top 14
noncomputable abbrev Ii (Z:Ev):Prop:=Fx Z 5 "are_ways" ["many", "thing"] 2 AG
theorem TY (D:Dx Z "are_ways" Ih) (B:BT Z.mg) (TZ:Ct Z "MOST_WAYS" 30) (T1:Ig Z):Ii Z:=cN (N:=["many", "thing"]) D iU fun hr nd hu=>⟨AH,(aO (cY (JW.jt (tE (iN (g9 (qW Fy (by rfl) B.isinstance (by rfl) B.tuple ze (dv 1)))) (vN (cf tL (fh ik (by rfl) B.len WY (ag (dv 1) ay)) (Cp TZ) (by rfl))))) (aX (bx gn)) c8) (aO (cY (iN (g9 (fh (OD rfl) (by rfl) B.all NK (dP (iP [none,some 0] ["way", "many"] rfl (f7 (dv 1)) (fun d=>(b7 (i:=0) (show (["way", "many"]:List Str).Nodup by decide +kernel) rfl (by trivial))) (fun d=>m9) (fun d=>(ax T1 hr (ag (dv 1) (ag (dv 0) ay))))) ay)))) (aX (bx gn)) c8) (aX (bx (iM (fG hu) (Qe rfl hu (by rfl) B.len WY (by rfl) B.set NJ (dP (iP [none] ["way"] rfl (f7 (dv 1)) (fun d=>(b7 (i:=0) (show (["way"]:List Str).Nodup by decide +kernel) rfl (by trivial))) (fun d=>m9) (fun d=>(wF (dv 0) wc (wd av)))) ay)) (fh ik (by rfl) B.len WY (ag (dv 1) ay)) (by rfl)))))),Ql⟩
noncomputable abbrev Ij:Stmt:=top 15
noncomputable abbrev Ik (Z:Ev):Prop:=Fx Z 6 "is_web" ["thing"] 1 AI
theorem T2 (D:Dx Z "is_web" Ij) (B:BT Z.mg) (T3:Ct Z "MOST_HOUSES" 12) (Cv:Cu Z) (jz:qo Z) (T4:Ii Z):Ik Z:=cN (N:=["thing"]) D kG fun hr nd hu=>⟨AJ,(aO (cY (iN (g9 (ax Cv hr (ag (dv 0) (a5 av ay))))) (aX (bx gn)) c8) (aX (bx (m8 (ax jz hr (a9 (aV aW (dv 0) av (fun _ _=>rfl)) (a5 av (ag (Cp T3) ay)))) (mZ (ax T4 hr (a9 (aV aW (dv 0) av (fun _ _=>rfl)) (a9 (aV aW (dv 0) av (fun _ _=>rfl)) ay)))))))),Qn⟩
noncomputable abbrev Il:Stmt:=top 16
noncomputable abbrev xx (Z:Ev):Prop:=Fx Z 7 "need_web" ["web"] 1 uE
theorem T5 (D:Dx Z "need_web" Il) (B:BT Z.mg) (T6:Ik Z):xx Z:=cN (N:=["web"]) D kG fun hr nd hu=>⟨A8,(aX (cY (iN (g9 (ax T6 hr (ag (dv 0) ay)))) (aX tZ) c8)),Q8⟩
noncomputable abbrev Im:Stmt:=top 17
noncomputable abbrev xy (Z:Ev):Prop:=Fx Z 1 "rank_of" ["way"] 1 uF
theorem T7 (D:Dx Z "rank_of" Im) (B:BT Z.mg):xy Z:=cN (N:=["way"]) D kG fun hr nd hu=>⟨A9,(aX (bx (jG (a9 (aV aW (dv 0) av (fun _ _=>rfl)) (a9 (aV aW (dv 0) av (fun _ _=>rfl)) (a9 (aV aW (dv 0) av (fun _ _=>rfl)) ay)))))),Q9⟩
noncomputable abbrev Io:Stmt:=top 18
noncomputable abbrev Cw (Z:Ev):Prop:=Fx Z 11 "order_of" ["web"] 1 wW
theorem T8 {T:Addr} (D:rH Z "order_of" Io T ⟨48,40,48,76⟩ ((("order_of" : Str) ++ ".<locals>.") ++ "<lambda>")) (B:BT Z.mg) (uZ:xx Z) (u4:xy Z):Cw Z:=Cq (N:=["web", "ways"]) D kG fun LD hc hr nd hu=>⟨A_,(aO (jZ (ax uZ hr (ag (dv 0) ay))) (aO (bD (i:=1) nd rfl (by trivial) (aV aW (dv 0) av (fun _ _=>rfl))) (aX (bx (Q2 (dQ.mk (x := "number") (Nb:=["ways"]) (cp:=[some 1]) ⟨LD.env hc,LD.ng,LD.blt⟩ LD.tbl rfl rfl (by first | rfl | kernel_rfl) rfl rfl (fun _ _ _ _ _=>rfl) ⟨1,hr.mono (by decide),fun d hr=>(ax u4 hr (a9 (aV aW (dv 1) (dv 0) (fun _ _=>rfl)) ay))⟩) rfl (by rfl) B.sorted FP (by rfl) B.range z5 (bU (fh ik (by rfl) B.len WY (ag (dv 1) ay)) ay)))))),Rb⟩
noncomputable abbrev Ip:Stmt:=top 20
noncomputable abbrev Cy (Z:Ev):Prop:=Fx Z 8 "need_ways" ["web", "ways"] 2 wX
theorem T9 (D:Dx Z "need_ways" Ip) (B:BT Z.mg) (uZ:xx Z) (jz:qo Z):Cy Z:=cN (N:=["web", "ways", "last", "seen", "place", "number"]) D iU fun hr nd hu=>⟨Bc,(aO (jZ (ax uZ hr (ag (dv 0) ay))) (aO (cY (iN (g9 (qW FA (by rfl) B.isinstance (by rfl) B.list qB (dv 1)))) (aX tZ) c8) (aO (bD (i:=2) nd rfl (by trivial) (bh j7 (fh ik (by rfl) B.len WY (a9 (aV aW (dv 0) av (fun _ _=>rfl)) ay)) av)) (aO (bD (i:=3) nd rfl (by trivial) Rc) (aX (kY Xj rfl (zG (by rfl) B.enumerate (ag (dv 1) ay)) (qJ rfl (jH (b7 (i:=4) nd rfl (by trivial)) (jH (b7 (i:=5) nd rfl (by trivial)) qH))) (aO (cY (JW.jt (tE (iN (g9 (ax jz hr (ag (dv 5) (a5 av (ag (dv 2) ay)))))) (vN (Rh hu (dv 5) (dv 3))))) (aX tZ) c8) (aX (Ri hu (dv 3) (dv 5) gn))))))))),Rl⟩
noncomputable abbrev Iq:Stmt:=top 21
noncomputable abbrev Cz (Z:Ev):Prop:=Fx Z 1 "joined" ["firsts", "one", "other"] 3 um
theorem T_ (D:Dx Z "joined" Iq) (B:BT Z.mg):Cz Z:=cN (N:=["firsts", "one", "other", "gone", "kept"]) D lu fun hr nd hu=>⟨AK,(aO (bD (i:=3) nd rfl (by trivial) (fh (OE rfl) (by rfl) B.max FO (a9 (aV aW (dv 0) (dv 1) (fun _ _=>rfl)) (a9 (aV aW (dv 0) (dv 2) (fun _ _=>rfl)) ay)))) (aO (bD (i:=4) nd rfl (by trivial) (fh (Fw rfl) (by rfl) B.min tY (a9 (aV aW (dv 0) (dv 1) (fun _ _=>rfl)) (a9 (aV aW (dv 0) (dv 2) (fun _ _=>rfl)) ay)))) (aX (bx (iP [none,some 4,some 3] ["first", "kept", "gone"] rfl (f7 (dv 0)) (fun d=>(b7 (i:=0) (show (["first", "kept", "gone"]:List Str).Nodup by decide +kernel) rfl (by trivial))) (fun d=>m9) (fun d=>(NY (cf (fG hu) (dv 0) (dv 2) (by rfl)) (dv 1) (dv 0)))))))),Qo⟩
noncomputable abbrev Ir:Stmt:=top 22
noncomputable abbrev u5 (Z:Ev):Prop:=Fx Z 2 "firsts_of" ["web", "ways"] 2 rz
theorem Ua (D:Dx Z "firsts_of" Ir) (B:BT Z.mg) (CA:Cz Z):u5 Z:=cN (N:=["web", "ways", "firsts", "number", "way"]) D iU fun hr nd hu=>⟨wK,(aO (bD (i:=2) nd rfl (by trivial) (OF rfl (by rfl) B.list qB (by rfl) B.range z5 (a9 (aV aW (dv 0) av (fun _ _=>rfl)) ay))) (aO (kY Xj rfl (f7 (dv 1)) (b7 (i:=3) nd rfl (by trivial)) (aO (bD (i:=4) nd rfl (by trivial) (aV aW (aV aW (dv 0) av (fun _ _=>rfl)) (dv 3) (fun _ _=>rfl))) (aX (bD (i:=2) nd rfl (by trivial) (ax CA hr (ag (dv 2) (a9 (aV aW (dv 4) av (fun _ _=>rfl)) (a9 (aV aW (dv 4) av (fun _ _=>rfl)) ay)))))))) (aX (bx (dv 2))))),Qp⟩
noncomputable abbrev Iu:Stmt:=top 24
noncomputable abbrev Iv (Z:Ev):Prop:=Fx Z 9 "weight_of" ["web", "ways"] 2 xg
theorem Ub (D:Dx Z "weight_of" Iu) (B:BT Z.mg) (Uc:Cy Z):Iv Z:=cN (N:=["web", "ways"]) D iU fun hr nd hu=>⟨Bu,(aO (jZ (ax Uc hr (ag (dv 0) (ag (dv 1) ay)))) (aX (bx (fh (OC rfl) (by rfl) B.sum OX (dP (iP [none,some 0] ["number", "web"] rfl (f7 (dv 1)) (fun d=>(b7 (i:=0) (show (["number", "web"]:List Str).Nodup by decide +kernel) rfl (by trivial))) (fun d=>m9) (fun d=>(aV aW (aV aW (aV aW (dv 1) av (fun _ _=>rfl)) (dv 0) (fun _ _=>rfl)) av (fun _ _=>rfl)))) ay))))),R7⟩
noncomputable abbrev Iw:Stmt:=top 26
noncomputable abbrev Iy (Z:Ev):Prop:=Fx Z 3 "is_rising" ["thing", "many"] 2 BW
theorem Ud (D:Dx Z "is_rising" Iw) (B:BT Z.mg) (jz:qo Z):Iy Z:=cN (N:=["thing", "many", "least", "number"]) D iU fun hr nd hu=>⟨BX,(aO (cY (iN (g9 (qW FA (by rfl) B.isinstance (by rfl) B.list qB (dv 0)))) (aX (bx gn)) c8) (aO (bD (i:=2) nd rfl (by trivial) av) (aO (kY Xj rfl (f7 (dv 0)) (b7 (i:=3) nd rfl (by trivial)) (aO (cY (iN (g9 (ax jz hr (ag (dv 3) (ag (dv 2) (dP (bh j7 (dv 1) av) ay)))))) (aX (bx gn)) c8) (aX (bD (i:=2) nd rfl (by trivial) (bh dF (dv 3) av))))) (aX (bx gn))))),SS⟩
noncomputable abbrev Iz:Stmt:=top 27
noncomputable abbrev IA (Z:Ev):Prop:=Fx Z 5 "least_of" ["web", "ways"] 2 BG
theorem Ue {T:Addr} (D:rH Z "least_of" Iz T ⟨90,25,90,63⟩ ((("least_of" : Str) ++ ".<locals>.") ++ "<lambda>")) (B:BT Z.mg) (u4:xy Z):IA Z:=Cq (N:=["web", "ways"]) D iU fun LD hc hr nd hu=>⟨BH,(aX (bx (Hr false (dQ.mk (x := "number") (Nb:=["web"]) (cp:=[some 0]) ⟨LD.env hc,LD.ng,LD.blt⟩ LD.tbl rfl rfl (by first | rfl | kernel_rfl) rfl rfl (fun _ _ _ _ _=>rfl) ⟨1,hr.mono (by decide),fun d hr=>(ax u4 hr (a9 (aV aW (aV aW (dv 1) av (fun _ _=>rfl)) (dv 0) (fun _ _=>rfl)) ay))⟩) hu (by rfl) B.min tY (ag (dv 1) ay)))),Sv⟩
noncomputable abbrev IB:Stmt:=top 28
noncomputable abbrev IC (Z:Ev):Prop:=Fx Z 5 "greatest_of" ["web", "ways"] 2 BO
theorem Ug {T:Addr} (D:rH Z "greatest_of" IB T ⟨92,25,92,63⟩ ((("greatest_of" : Str) ++ ".<locals>.") ++ "<lambda>")) (B:BT Z.mg) (u4:xy Z):IC Z:=Cq (N:=["web", "ways"]) D iU fun LD hc hr nd hu=>⟨BP,(aX (bx (Hr true (dQ.mk (x := "number") (Nb:=["web"]) (cp:=[some 0]) ⟨LD.env hc,LD.ng,LD.blt⟩ LD.tbl rfl rfl (by first | rfl | kernel_rfl) rfl rfl (fun _ _ _ _ _=>rfl) ⟨1,hr.mono (by decide),fun d hr=>(ax u4 hr (a9 (aV aW (aV aW (dv 1) av (fun _ _=>rfl)) (dv 0) (fun _ _=>rfl)) ay))⟩) hu (by rfl) B.max FO (ag (dv 1) ay)))),SH⟩
noncomputable abbrev ID:Stmt:=top 29
noncomputable abbrev IE (Z:Ev):Prop:=Fx Z 1 "leads_out" ["way", "houses"] 2 BB
theorem Uh (D:Dx Z "leads_out" ID) (B:BT Z.mg):IE Z:=cN (N:=["way", "houses"]) D iU fun hr nd hu=>⟨BC,(aX (bx (iM (pD hu) (iM (pE hu) (aV aW (dv 0) av (fun _ _=>rfl)) (dv 1) (by rfl)) (iM (pE hu) (aV aW (dv 0) av (fun _ _=>rfl)) (dv 1) (by rfl)) (by rfl)))),Ss⟩
noncomputable abbrev IF:Stmt:=top 30
noncomputable abbrev IG (Z:Ev):Prop:=Fx Z 2 "ways_out" ["web", "houses"] 2 BE
theorem Ui (D:Dx Z "ways_out" IF) (B:BT Z.mg) (Uj:IE Z):IG Z:=cN (N:=["web", "houses"]) D iU fun hr nd hu=>⟨BF,(aX (bx (iP [none,none,some 1] ["number", "way", "houses"] rfl (zG (by rfl) B.enumerate (a9 (aV aW (dv 0) av (fun _ _=>rfl)) ay)) (fun d=>(qJ rfl (jH (b7 (i:=0) (show (["number", "way", "houses"]:List Str).Nodup by decide +kernel) rfl (by trivial)) (jH (b7 (i:=1) (show (["number", "way", "houses"]:List Str).Nodup by decide +kernel) rfl (by trivial)) qH)))) (fun d=>(jd (g9 (ax Uj hr (ag (dv 1) (ag (dv 2) ay)))))) (fun d=>(dv 0))))),Su⟩
noncomputable abbrev IH:Stmt:=top 31
noncomputable abbrev CB (Z:Ev):Prop:=Fx Z 3 "lot_at" ["web", "ways", "house"] 3 xp
theorem Uk (D:Dx Z "lot_at" IH) (B:BT Z.mg) (u6:u5 Z):CB Z:=cN (N:=["web", "ways", "house", "firsts"]) D lu fun hr nd hu=>⟨BY,(aO (bD (i:=3) nd rfl (by trivial) (ax u6 hr (ag (dv 0) (ag (dv 1) ay)))) (aX (bx (iP [none,none,some 3,some 2] ["near", "first", "firsts", "house"] rfl (zG (by rfl) B.enumerate (ag (dv 3) ay)) (fun d=>(qJ rfl (jH (b7 (i:=0) (show (["near", "first", "firsts", "house"]:List Str).Nodup by decide +kernel) rfl (by trivial)) (jH (b7 (i:=1) (show (["near", "first", "firsts", "house"]:List Str).Nodup by decide +kernel) rfl (by trivial)) qH)))) (fun d=>(jd (cf (fG hu) (dv 1) (aV aW (dv 2) (dv 3) (fun _ _=>rfl)) (by rfl)))) (fun d=>(dv 0)))))),SU⟩
noncomputable abbrev II:Stmt:=top 32
noncomputable abbrev IJ (Z:Ev):Prop:=Fx Z 3 "parts" ["web", "ways", "gone", "one", "other"] 5 BQ
theorem Ul (D:Dx Z "parts" II) (B:BT Z.mg) (u6:u5 Z):IJ Z:=cN (N:=["web", "ways", "gone", "one", "other", "firsts"]) D HX fun hr nd hu=>⟨BR,(aO (bD (i:=5) nd rfl (by trivial) (ax u6 hr (ag (dv 0) (dP (iP [none,some 2] ["number", "gone"] rfl (f7 (dv 1)) (fun d=>(b7 (i:=0) (show (["number", "gone"]:List Str).Nodup by decide +kernel) rfl (by trivial))) (fun d=>(jd (cf (pD hu) (dv 0) (dv 1) (by rfl)))) (fun d=>(dv 0))) ay)))) (aX (bx (iM (pD hu) (aV aW (dv 5) (dv 3) (fun _ _=>rfl)) (aV aW (dv 5) (dv 4) (fun _ _=>rfl)) (by rfl))))),SI⟩
noncomputable abbrev IK:Stmt:=top 33
noncomputable abbrev IL (Z:Ev):Prop:=Fx Z 4 "road_of" ["web", "ways", "one", "other"] 4 BZ
theorem Um (D:Dx Z "road_of" IK) (B:BT Z.mg) (Uo:IJ Z):IL Z:=cN (N:=["web", "ways", "one", "other"]) D HW fun hr nd hu=>⟨B0,(aX (bx (iP [none,some 0,some 1,some 2,some 3] ["number", "web", "ways", "one", "other"] rfl (f7 (dv 1)) (fun d=>(b7 (i:=0) (show (["number", "web", "ways", "one", "other"]:List Str).Nodup by decide +kernel) rfl (by trivial))) (fun d=>(jd (g9 (ax Uo hr (ag (dv 1) (ag (dv 2) (ag (dv 0) (ag (dv 3) (ag (dv 4) ay))))))))) (fun d=>(dv 0))))),SV⟩
noncomputable abbrev IM:Stmt:=top 35
noncomputable abbrev u7 (Z:Ev):Prop:=Fx Z 12 "forest_of" ["web"] 1 qd
theorem Uq (D:Dx Z "forest_of" IM) (B:BT Z.mg) (CC:Cw Z) (u6:u5 Z) (CA:Cz Z):u7 Z:=cN (N:=["web", "order", "forest", "firsts", "number", "way"]) D kG fun hr nd hu=>⟨Bl,(aO (bD (i:=1) nd rfl (by trivial) (ax CC hr (ag (dv 0) ay))) (aO (bD (i:=2) nd rfl (by trivial) (vL ay)) (aO (bD (i:=3) nd rfl (by trivial) (ax u6 hr (ag (dv 0) (ag (dv 2) ay)))) (aO (kY Xj rfl (f7 (dv 1)) (b7 (i:=4) nd rfl (by trivial)) (aO (bD (i:=5) nd rfl (by trivial) (aV aW (aV aW (dv 0) av (fun _ _=>rfl)) (dv 4) (fun _ _=>rfl))) (aX (cY (cf (pD hu) (aV aW (dv 3) (aV aW (dv 5) av (fun _ _=>rfl)) (fun _ _=>rfl)) (aV aW (dv 3) (aV aW (dv 5) av (fun _ _=>rfl)) (fun _ _=>rfl)) (by rfl)) (aO (jZ ((lS Xc Yp Yq sD (dv 2) (ag (dv 4) ay)).weak zS)) (aX (bD (i:=3) nd rfl (by trivial) (ax CA hr (ag (dv 3) (a9 (aV aW (dv 5) av (fun _ _=>rfl)) (a9 (aV aW (dv 5) av (fun _ _=>rfl)) ay))))))) c8)))) (aX (bx (OZ O0 (by rfl) B.sorted FP (ag (dv 2) ay)))))))),RL⟩
noncomputable abbrev IP:Stmt:=top 37
noncomputable abbrev CD (Z:Ev):Prop:=Fx Z 8 "need_two" ["web", "one", "other"] 3 xq
theorem Ur (D:Dx Z "need_two" IP) (B:BT Z.mg) (uZ:xx Z) (jz:qo Z):CD Z:=cN (N:=["web", "one", "other"]) D lu fun hr nd hu=>⟨B2,(aO (jZ (ax uZ hr (ag (dv 0) ay))) (aO (cY (iN (g9 (ax jz hr (ag (dv 1) (a5 av (dP (bh j7 (aV aW (dv 0) av (fun _ _=>rfl)) av) ay)))))) (aX tZ) c8) (aX (cY (JW.jt (tE (iN (g9 (ax jz hr (ag (dv 2) (a5 av (dP (bh j7 (aV aW (dv 0) av (fun _ _=>rfl)) av) ay)))))) (vN (cf (fG hu) (dv 1) (dv 2) (by rfl))))) (aX tZ) c8)))),SW⟩
noncomputable abbrev IQ:Stmt:=top 38
noncomputable abbrev xA (Z:Ev):Prop:=Fx Z 6 "greatest_between" ["web", "forest", "one", "other"] 4 uU
theorem Us (D:Dx Z "greatest_between" IQ) (B:BT Z.mg) (CF:CB Z) (Ut:IC Z) (Uu:IL Z):xA Z:=cN (N:=["web", "forest", "one", "other"]) D HW fun hr nd hu=>⟨B3,(aO (cY (cf (v_ hu) (dv 3) (ax CF hr (ag (dv 0) (ag (dv 1) (ag (dv 2) ay)))) (by rfl)) (aX (bx qD)) c8) (aX (bx (ax Ut hr (ag (dv 0) (bU (ax Uu hr (ag (dv 0) (ag (dv 1) (ag (dv 2) (ag (dv 3) ay))))) ay)))))),SX⟩
noncomputable abbrev IS:Stmt:=top 39
noncomputable abbrev IT (Z:Ev):Prop:=Fx Z 13 "narrow_of" ["web", "one", "other"] 3 B4
theorem Uv (D:Dx Z "narrow_of" IS) (B:BT Z.mg) (CG:CD Z) (nV:u7 Z) (u9:xA Z) (CF:CB Z):IT Z:=cN (N:=["web", "one", "other", "forest", "number"]) D lu fun hr nd hu=>⟨B5,(aO (jZ (ax CG hr (ag (dv 0) (ag (dv 1) (ag (dv 2) ay))))) (aO (bD (i:=3) nd rfl (by trivial) (ax nV hr (ag (dv 0) ay))) (aO (bD (i:=4) nd rfl (by trivial) (ax u9 hr (ag (dv 0) (ag (dv 3) (ag (dv 1) (ag (dv 2) ay)))))) (aO (cY (cf Af (dv 4) qD (by rfl)) (aX (bx qD)) c8) (aX (bx (jG (ag (dv 4) (bU (ax CF hr (ag (dv 0) (dP (iP [none,some 4] ["way", "number"] rfl (f7 (dv 3)) (fun d=>(b7 (i:=0) (show (["way", "number"]:List Str).Nodup by decide +kernel) rfl (by trivial))) (fun d=>(jd (cf (pD hu) (dv 0) (dv 1) (by rfl)))) (fun d=>(dv 0))) (ag (dv 1) ay)))) ay))))))))),S7⟩
noncomputable abbrev IU:Stmt:=top 40
noncomputable abbrev IV (Z:Ev):Prop:=Fx Z 13 "is_narrow" ["web", "one", "other", "number", "houses"] 5 xr
theorem Uw (D:Dx Z "is_narrow" IU) (B:BT Z.mg) (CG:CD Z) (Ux:Iy Z) (u9:xA Z) (nV:u7 Z) (Uy:IA Z) (Uz:IG Z):IV Z:=cN (N:=["web", "one", "other", "number", "houses", "greatest"]) D HX fun hr nd hu=>⟨B6,(aO (jZ (ax CG hr (ag (dv 0) (ag (dv 1) (ag (dv 2) ay))))) (aO (cY (JW.jt (tE (iN (g9 (ax Ux hr (ag (dv 4) (a9 (aV aW (dv 0) av (fun _ _=>rfl)) ay))))) (tE (cf (v_ hu) (dv 1) (dv 4) (by rfl)) (vN (cf (pE hu) (dv 2) (dv 4) (by rfl)))))) (aX (bx gn)) c8) (aO (bD (i:=5) nd rfl (by trivial) (ax u9 hr (ag (dv 0) (bU (ax nV hr (ag (dv 0) ay)) (ag (dv 1) (ag (dv 2) ay)))))) (aX (bx (m8 (iM Ag (dv 5) qD (by rfl)) (mZ (Fm (fG hu) (fG hu) (dv 3) (dv 5) (ax Uy hr (ag (dv 0) (bU (ax Uz hr (ag (dv 0) (ag (dv 4) ay))) ay))))))))))),S8⟩
noncomputable abbrev IW:Stmt:=top 41
noncomputable abbrev IX (Z:Ev):Prop:=Fx Z 7 "exchange_for" ["web", "forest", "number"] 3 B7
theorem UA (D:Dx Z "exchange_for" IW) (B:BT Z.mg) (u9:xA Z):IX Z:=cN (N:=["web", "forest", "number", "way", "gone"]) D lu fun hr nd hu=>⟨B8,(aO (bD (i:=3) nd rfl (by trivial) (aV aW (aV aW (dv 0) av (fun _ _=>rfl)) (dv 2) (fun _ _=>rfl))) (aO (bD (i:=4) nd rfl (by trivial) (ax u9 hr (ag (dv 0) (ag (dv 1) (a9 (aV aW (dv 3) av (fun _ _=>rfl)) (a9 (aV aW (dv 3) av (fun _ _=>rfl)) ay)))))) (aX (bx (jG (dP (bh j7 (aV aW (dv 3) av (fun _ _=>rfl)) (aV aW (aV aW (aV aW (dv 0) av (fun _ _=>rfl)) (dv 4) (fun _ _=>rfl)) av (fun _ _=>rfl))) (ag (dv 4) (ag (dv 2) ay)))))))),S_⟩
noncomputable abbrev IY:Stmt:=top 42
noncomputable abbrev IZ (Z:Ev):Prop:=Fx Z 13 "next_best" ["web"] 1 B9
theorem UB (D:Dx Z "next_best" IY) (B:BT Z.mg) (nV:u7 Z) (UC:IX Z):IZ Z:=cN (N:=["web", "forest", "others"]) D kG fun hr nd hu=>⟨B_,(aO (bD (i:=1) nd rfl (by trivial) (ax nV hr (ag (dv 0) ay))) (aO (zx [none,some 1] ["number", "forest"] (i:=2) nd rfl (by trivial) rfl (nh (by rfl) B.range (bU (fh ik (by rfl) B.len WY (a9 (aV aW (dv 0) av (fun _ _=>rfl)) ay)) ay)) (fun d=>(b7 (i:=0) (show (["number", "forest"]:List Str).Nodup by decide +kernel) rfl (by trivial))) (fun d=>(jd (cf (v_ hu) (dv 0) (dv 1) (by rfl)))) (fun d=>(dv 0))) (aX (bx (SO hu rfl (by rfl) B.min tY (dP (iP [none,some 0,some 1] ["number", "web", "forest"] rfl (f7 (dv 2)) (fun d=>(b7 (i:=0) (show (["number", "web", "forest"]:List Str).Nodup by decide +kernel) rfl (by trivial))) (fun d=>m9) (fun d=>(ax UC hr (ag (dv 1) (ag (dv 2) (ag (dv 0) ay)))))) ay)))))),Tc⟩
noncomputable abbrev I0:Stmt:=top 44
noncomputable abbrev I_ (Z:Ev):Prop:=Fx Z 1 "_law_spread" ["cell", "at"] 2 Ai
theorem UD (D:Dx Z "_law_spread" I0) (B:BT Z.mg):I_ Z:=cN (N:=["cell", "at", "primes", "one", "two", "three"]) D iU fun hr nd hu=>⟨Aj,(aO (cY (cf Ou (dv 0) (bh pC av av) (by rfl)) (aX (bx (dv 0))) c8) (aO (bD (i:=2) nd rfl (by trivial) (mX (a5 av (a5 av (a5 av (a5 av (a5 av (a5 av (a5 av (a5 av ay)))))))))) (aO (bD (i:=2) nd rfl (by trivial) (bh dF (dv 2) (mX (a5 av (a5 av (a5 av (a5 av (a5 av ay)))))))) (aO (bD (i:=3) nd rfl (by trivial) (bh jg (bh pC (bh dF (bh dF (bh nq (bh jg (dv 0) av) (bh dF (bh nq av (dv 1)) av)) (bh nq (dv 1) av)) av) av) (aV aW (dv 2) (bh jg (dv 1) av) (fun _ _=>rfl)))) (aO (bD (i:=4) nd rfl (by trivial) (bh jg (bh pC (bh dF (bh dF (bh nq (dv 3) (bh dF (dv 1) av)) (bh jg (dv 0) av)) av) av) (aV aW (dv 2) (bh jg (bh dF (dv 1) av) av) (fun _ _=>rfl)))) (aO (bD (i:=5) nd rfl (by trivial) (bh jg (bh pC (bh dF (bh dF (dv 4) (bh jg (dv 3) av)) (dv 1)) av) (aV aW (dv 2) (bh jg (bh dF (dv 1) av) av) (fun _ _=>rfl)))) (aX (bx (bh dF (bh nq (bh dF (bh nq (dv 3) av) (dv 4)) av) (dv 5)))))))))),PZ⟩
noncomputable abbrev Ja:Stmt:=top 46
noncomputable abbrev Jb (Z:Ev):Prop:=Fx Z 1 "_law_anew" ["pen"] 1 Ak
theorem UE (D:Dx Z "_law_anew" Ja) (B:BT Z.mg):Jb Z:=cN (N:=["pen"]) D kG fun hr nd hu=>⟨Al,(aO ((qA av (sW (dv 0) av set_list)).weak wm) (aX (bx (dv 0)))),P0⟩
noncomputable abbrev Jc:Stmt:=top 47
noncomputable abbrev xB (Z:Ev):Prop:=Fx Z 2 "_law_take" ["pen", "many"] 2 hJ
theorem UG (D:Dx Z "_law_take" Jc) (B:BT Z.mg) (UH:I_ Z):xB Z:=cN (N:=["pen", "many", "at", "cell", "found"]) D iU fun hr nd hu=>⟨Am,(aO (cY (cf (v9 hu) (aV aW (dv 0) av (fun _ _=>rfl)) (dv 1) (by rfl)) (aO (bD (i:=2) nd rfl (by trivial) (aV aW (dv 0) av (fun _ _=>rfl))) (aO (bD (i:=3) nd rfl (by trivial) av) (aO (cY (cf (v9 hu) (dv 2) (fh ik (by rfl) B.len WY (a9 (aV aW (dv 0) av (fun _ _=>rfl)) ay)) (by rfl)) (aX (bD (i:=3) nd rfl (by trivial) (aV aW (aV aW (dv 0) av (fun _ _=>rfl)) (dv 2) (fun _ _=>rfl)))) (aX (cY (cf tL (fh ik (by rfl) B.len WY (a9 (aV aW (dv 0) av (fun _ _=>rfl)) ay)) av (by rfl)) (aX (bD (i:=3) nd rfl (by trivial) (bh jg (aV aW (aV aW (dv 0) av (fun _ _=>rfl)) (bh jg (bh dF (bh nq (dv 2) av) av) (fh ik (by rfl) B.len WY (a9 (aV aW (dv 0) av (fun _ _=>rfl)) ay))) (fun _ _=>rfl)) (bh dF (bh pC av av) (dv 2))))) c8))) (aO ((qA (bh dF (dv 2) av) (sW (dv 0) av set_list)).weak wm) (aX ((qA (ax UH hr (ag (dv 3) (ag (dv 2) ay))) (sW (dv 0) av set_list)).weak wm)))))) c8) (aO (bD (i:=4) nd rfl (by trivial) (bh jg (aV aW (dv 0) av (fun _ _=>rfl)) (dv 1))) (aO ((qA (bh Ot (aV aW (dv 0) av (fun _ _=>rfl)) (dv 1)) (sW (dv 0) av set_list)).weak wm) (aX (bx (dv 4)))))),P5⟩
noncomputable abbrev Jd:Stmt:=top 48
noncomputable abbrev Je (Z:Ev):Prop:=Fx Z 3 "_law_pairs_of" ["pen", "kind", "many"] 3 An
theorem UI (D:Dx Z "_law_pairs_of" Jd) (B:BT Z.mg) (hV:xB Z):Je Z:=cN (N:=["pen", "kind", "many", "every", "other", "ring", "half"]) D lu fun hr nd hu=>⟨Ao,(aO (bD (i:=3) nd rfl (by trivial) (vL ay)) (aO (kY Xj rfl (nh (by rfl) B.range (ag (dv 2) ay)) (b7 (i:=4) nd rfl (by trivial)) (aX (jZ ((lS Xc PySem.F.slot_list_extend PySem.F.type_list_extend Mj (dv 3) (dP (iP [none,some 4] ["one", "other"] rfl (nh (by rfl) B.range (ag (dv 4) ay)) (fun d=>(b7 (i:=0) (show (["one", "other"]:List Str).Nodup by decide +kernel) rfl (by trivial))) (fun d=>m9) (fun d=>(jG (ag (dv 0) (ag (dv 1) ay))))) ay)).weak OL)))) (aO (cY (cf (fG hu) (dv 1) av (by rfl)) (aX (bx (vV [none,some 0] ["other", "pen"] rfl (Oo (by rfl) B.range (a5 av (ag (dv 2) ay))) (fun d=>(b7 (i:=0) (show (["other", "pen"]:List Str).Nodup by decide +kernel) rfl (by trivial))) (fun d=>m9) (fun d=>(jG (bU (ax hV hr (ag (dv 1) (ag (dv 0) ay))) (ag (dv 0) ay))))))) c8) (aO (cY (cf (fG hu) (dv 1) av (by rfl)) (aO (zx [none] ["k"] (i:=5) nd rfl (by trivial) rfl (nh (by rfl) B.range (dP (bh j7 (dv 2) av) ay)) (fun d=>(b7 (i:=0) (show (["k"]:List Str).Nodup by decide +kernel) rfl (by trivial))) (fun d=>m9) (fun d=>(jG (ag (dv 0) (dP (bh dF (dv 0) av) ay))))) (aX (bx (O3 (dv 5) (iP [none,some 2] ["pair", "many"] rfl (f7 (dv 3)) (fun d=>(b7 (i:=0) (show (["pair", "many"]:List Str).Nodup by decide +kernel) rfl (by trivial))) (fun d=>(jd (JW.jt (vO (cf (fG hu) (dv 0) (jG (a5 av (dP (bh j7 (dv 1) av) ay))) (by rfl)) (vM (cf tL (dv 1) av (by rfl))))))) (fun d=>(dv 0))))))) c8) (aO (cY (cf (fG hu) (dv 1) av (by rfl)) (aX (bx (dv 3))) c8) (aO (cY (cf (fG hu) (dv 1) av (by rfl)) (aX (bx (vV [none,some 0] ["pair", "pen"] rfl (f7 (dv 3)) (fun d=>(b7 (i:=0) (show (["pair", "pen"]:List Str).Nodup by decide +kernel) rfl (by trivial))) (fun d=>(jd (cf (fG hu) (ax hV hr (ag (dv 1) (a5 av ay))) av (by rfl)))) (fun d=>(dv 0))))) c8) (aO (cY (cf (fG hu) (dv 1) av (by rfl)) (aO (bD (i:=6) nd rfl (by trivial) (ax hV hr (ag (dv 0) (dP (bh dF (dv 2) av) ay)))) (aX (bx (vV [none,some 6,some 0] ["pair", "half", "pen"] rfl (f7 (dv 3)) (fun d=>(b7 (i:=0) (show (["pair", "half", "pen"]:List Str).Nodup by decide +kernel) rfl (by trivial))) (fun d=>(jd (JW.jt (vO (cf (fG hu) (iM (v9 hu) (aV aW (dv 0) av (fun _ _=>rfl)) (dv 1) (by rfl)) (iM (v9 hu) (aV aW (dv 0) av (fun _ _=>rfl)) (dv 1) (by rfl)) (by rfl)) (vM (cf tL (ax hV hr (ag (dv 2) (a5 av ay))) av (by rfl))))))) (fun d=>(dv 0)))))) c8) (aX (bx (vV [none,some 0] ["pair", "pen"] rfl (f7 (dv 3)) (fun d=>(b7 (i:=0) (show (["pair", "pen"]:List Str).Nodup by decide +kernel) rfl (by trivial))) (fun d=>(jd (cf (fG hu) (ax hV hr (ag (dv 1) (a5 av ay))) av (by rfl)))) (fun d=>(dv 0)))))))))))),P8⟩
noncomputable abbrev Jf:Stmt:=top 49
noncomputable abbrev Jg (Z:Ev):Prop:=Fx Z 4 "_law_web" ["pen", "houses", "most"] 3 Ar
theorem UJ (D:Dx Z "_law_web" Jf) (B:BT Z.mg) (hV:xB Z) (UK:Je Z):Jg Z:=cN (N:=["pen", "houses", "most", "kind", "prices", "many", "pairs", "ways", "k", "one", "other", "price"]) D lu fun hr nd hu=>⟨As,(aO (bD (i:=3) nd rfl (by trivial) (ax hV hr (ag (dv 0) (a5 av ay)))) (aO (bD (i:=4) nd rfl (by trivial) (ax hV hr (ag (dv 0) (a5 av ay)))) (aO (bD (i:=5) nd rfl (by trivial) (bh dF av (ax hV hr (ag (dv 0) (ag (dv 1) ay))))) (aO (bD (i:=6) nd rfl (by trivial) (Tx UK hr (ag (dv 0) (ag (dv 3) (ag (dv 5) ay))))) (aO (bD (i:=7) nd rfl (by trivial) (vL ay)) (aO (kY Xj rfl (nh (by rfl) B.range (bU (fh (Fw rfl) (by rfl) B.min tY (ag (dv 2) (bU (fh ik (by rfl) B.len WY (ag (dv 6) ay)) ay))) ay)) (b7 (i:=8) nd rfl (by trivial)) (aO (ES ((lS Xc PySem.F.slot_list_pop PySem.F.type_list_pop Ml (dv 6) (bU (ax hV hr (ag (dv 0) (bU (fh ik (by rfl) B.len WY (ag (dv 6) ay)) ay))) ay)).weak OM) (qJ rfl (jH (b7 (i:=9) nd rfl (by trivial)) (jH (b7 (i:=10) nd rfl (by trivial)) qH)))) (aO (bD (i:=11) nd rfl (by trivial) (aV aW (mX (a5 av (bU (ax hV hr (ag (dv 0) (a5 av ay))) (dP (bh j7 (bh pC av av) (ax hV hr (ag (dv 0) (a5 av ay)))) (bU (ax hV hr (ag (dv 0) (dP (bh dF (bh pC av av) av) ay))) ay))))) (dv 4) (fun _ _=>rfl))) (aX (jZ ((lS Xc Yp Yq sD (dv 7) (o5 (jG (ag (dv 9) (ag (dv 10) (ag (dv 11) ay)))) ay)).weak zS)))))) (aX (bx (jG (ag (dv 5) (bU (zp OB (by rfl) B.tuple ze (ag (dv 7) ay)) ay))))))))))),P9⟩
noncomputable abbrev Jh:Stmt:=top 50
noncomputable abbrev Ji (Z:Ev):Prop:=Fx Z 1 "_law_all" ["web"] 1 AM
theorem UL (D:Dx Z "_law_all" Jh) (B:BT Z.mg):Ji Z:=cN (N:=["web"]) D kG fun hr nd hu=>⟨AN,(aX (bx (O1 rfl (by rfl) B.list qB (by rfl) B.range z5 (bU (fh ik (by rfl) B.len WY (a9 (aV aW (dv 0) av (fun _ _=>rfl)) ay)) ay)))),Qq⟩
noncomputable abbrev CH:Stmt:=top 23
noncomputable abbrev Jj (Z:Ev):Prop:=Fx Z 9 "lots_of" ["web", "ways"] 2 Bd
theorem UM (D:Dx Z "lots_of" CH) (B:BT Z.mg) (UN:Cy Z) (UO:u5 Z):Jj Z:=by
 obtain⟨f,fd,a,F⟩:=D
 obtain⟨_,_,GF⟩:=UO.ex
 have sc:kP ["web", "ways", "lots", "house", "first"] ["web", "ways"] (cB CH):=iz (by decide +kernel)
 refine⟨f,fd,F.vD sc (fun vs H Q E h=>h.1) (fun aU A outer s H vs Q E hr h => ?_),a,F.kp,F.binds iU⟩
 obtain⟨hl,F0,ad,ys,ah,K',S0,⟨m,ws,ns,W,hn,hd,Be,rfl,rfl,hK⟩,kk⟩:=h
 have nd:=sc.nd
 have hu:=hr.units
 refine⟨_,oW (jZ (ax UN hr (ag (dv 0) (ag (dv 1) ay))))
  (oW (vz (i:=2) nd rfl (Or.inl rfl) gH)
  (oW (y8 Xj rfl (Ex (by rfl) B.enumerate (ie (vB GF.ok (hr.mono (by decide)) (by rfl) GF.vH GF.kp GF.bd .nil vq (ib (jv 0) (ib (jv 1) bo))) bo)) (y7 rfl (sV (sU (i:=3) nd rfl (Or.inl rfl)) (sV (sU (i:=4) nd rfl (Or.inl rfl)) fX)))
   (sT (Et (lS Xc Yp Yq sD (lS Z6 Zu PySem.F.type_dict_setdefault NR (jv 2) (ib (jv 4) (za (vA bo) bo))) (ib (jv 3) bo)))))
  (sT (y6 (lR (NT rfl) (by rfl) B.list qB (ie (Ny Z6 ZT PySem.F.type_dict_values NS (jv 2)) bo)))))),?_⟩
 exact RA (Kf:=Z.K) hl W hn hd Be hK S0 (fun r ows h v F' H' P _=>kk r ows h v F' H' P) fun _ _ h=>h
noncomputable abbrev Jk:Stmt:=top 51
noncomputable abbrev Jl (Z:Ev):Prop:=Fx Z 14 "_law_narrow_right" ["web", "one", "other"] 3 Ca
theorem UP (D:Dx Z "_law_narrow_right" Jk) (B:BT Z.mg) (UQ:IT Z) (Jo:Jj Z) (UR:Ji Z) (Jp:IV Z) (CC:Cw Z):Jl Z:=cN (N:=["web", "one", "other", "found", "every", "number", "houses", "rest", "order", "many", "due", "lots"]) D lu fun hr nd hu=>⟨Cb,(aO (bD (i:=3) nd rfl (by trivial) (ax UQ hr (ag (dv 0) (ag (dv 1) (ag (dv 2) ay))))) (aO (bD (i:=4) nd rfl (by trivial) (ax Jo hr (ag (dv 0) (bU (ax UR hr (ag (dv 0) ay)) ay)))) (aO (cY (cf Af (dv 3) qD (by rfl)) (aX (bx (iM (fG hu) (iP [none,some 1,some 2] ["lot", "one", "other"] rfl (f7 (dv 4)) (fun d=>(b7 (i:=0) (show (["lot", "one", "other"]:List Str).Nodup by decide +kernel) rfl (by trivial))) (fun d=>(jd (JW.jt (vO (cf (pE hu) (dv 1) (dv 0) (by rfl)) (vM (cf (pE hu) (dv 2) (dv 0) (by rfl))))))) (fun d=>(dv 0))) (mX ay) (by rfl)))) c8) (aO (ES (dv 3) (qJ rfl (jH (b7 (i:=5) nd rfl (by trivial)) (jH (b7 (i:=6) nd rfl (by trivial)) qH)))) (aO (cY (cf Ag (ax Jp hr (ag (dv 0) (ag (dv 1) (ag (dv 2) (ag (dv 5) (bU (zp OA (by rfl) B.list qB (ag (dv 6) ay)) ay)))))) gn (by rfl)) (aX (bx gn)) c8) (aO (zx [none,some 6] ["house", "houses"] (i:=7) nd rfl (by trivial) rfl (nh (by rfl) B.range (a9 (aV aW (dv 0) av (fun _ _=>rfl)) ay)) (fun d=>(b7 (i:=0) (show (["house", "houses"]:List Str).Nodup by decide +kernel) rfl (by trivial))) (fun d=>(jd (cf (v_ hu) (dv 0) (dv 1) (by rfl)))) (fun d=>(dv 0))) (aO (cY (cf Ag (ax Jp hr (ag (dv 0) (ag (dv 2) (ag (dv 1) (ag (dv 5) (ag (dv 7) ay)))))) gn (by rfl)) (aX (bx gn)) c8) (aO (bD (i:=8) nd rfl (by trivial) (ax CC hr (ag (dv 0) ay))) (aO (kY Xj rfl (f7 (mX (o5 (jG (bU ((lS Xc Z7 Z8 Ej (dv 8) (ag (dv 5) ay)).weak FE) (a5 av ay))) (o5 (jG (dP (bh dF ((lS Xc Z7 Z8 Ej (dv 8) (ag (dv 5) ay)).weak FE) av) (a5 av ay))) ay)))) (qJ rfl (jH (b7 (i:=9) nd rfl (by trivial)) (jH (b7 (i:=10) nd rfl (by trivial)) qH))) (aO (bD (i:=11) nd rfl (by trivial) (ax Jo hr (ag (dv 0) (a9 (wF (dv 8) wc (wd (dv 9))) ay)))) (aX (cY (cf (pD hu) (fh ik (by rfl) B.len WY (dP (iP [none,some 1,some 2] ["lot", "one", "other"] rfl (f7 (dv 11)) (fun d=>(b7 (i:=0) (show (["lot", "one", "other"]:List Str).Nodup by decide +kernel) rfl (by trivial))) (fun d=>(jd (JW.jt (vO (cf (pE hu) (dv 1) (dv 0) (by rfl)) (vM (cf (pE hu) (dv 2) (dv 0) (by rfl))))))) (fun d=>(dv 0))) ay)) (dv 10) (by rfl)) (aX (bx gn)) c8)))) (aX (bx gn))))))))))),Tj⟩
noncomputable abbrev Jq:Stmt:=top 52
noncomputable abbrev Jr (Z:Ev):Prop:=Fx Z 14 "_law_next_right" ["web"] 1 Cf
theorem US (D:Dx Z "_law_next_right" Jq) (B:BT Z.mg) (nV:u7 Z) (Js:Iv Z) (UT:IZ Z):Jr Z:=cN (N:=["web", "forest", "weights", "number", "fewer", "other", "found"]) D kG fun hr nd hu=>⟨Cg,(aO (bD (i:=1) nd rfl (by trivial) (ax nV hr (ag (dv 0) ay))) (aO (bD (i:=2) nd rfl (by trivial) (vL ay)) (aO (kY Xj rfl (f7 (dv 1)) (b7 (i:=3) nd rfl (by trivial)) (aO (bD (i:=4) nd rfl (by trivial) (jG (a9 (aV aW (dv 0) av (fun _ _=>rfl)) (dP (bh dF (wF (aV aW (dv 0) av (fun _ _=>rfl)) wc (wd (dv 3))) (wF (aV aW (dv 0) av (fun _ _=>rfl)) (wd (bh dF (dv 3) av)) wc)) ay)))) (aO (bD (i:=5) nd rfl (by trivial) (ax nV hr (ag (dv 4) ay))) (aX (cY (cf (fG hu) (fh ik (by rfl) B.len WY (ag (dv 5) ay)) (fh ik (by rfl) B.len WY (ag (dv 1) ay)) (by rfl)) (aX (jZ ((lS Xc Yp Yq sD (dv 2) (bU (ax Js hr (ag (dv 4) (ag (dv 5) ay))) ay)).weak zS))) c8))))) (aO (bD (i:=6) nd rfl (by trivial) (ax UT hr (ag (dv 0) ay))) (aO (cY (cf Af (dv 6) qD (by rfl)) (aX (bx (iM (fG hu) (dv 2) (mX ay) (by rfl)))) c8) (aX (bx (m8 (iM (pD hu) (dv 2) (mX ay) (by rfl)) (mZ (iM (fG hu) (fh (Sz rfl) (by rfl) B.min tY (ag (dv 2) ay)) (bh dF (ax Js hr (ag (dv 0) (ag (dv 1) ay))) (aV aW (dv 6) av (fun _ _=>rfl))) (by rfl))))))))))),Tq⟩
noncomputable abbrev xC:Stmt:=top 45
theorem kH:kP ["script", "cells", "k", "cell"] ["script"] (cB xC):=iz (by decide +kernel)
theorem UU {f:Addr} {fd:FuncData} (F:gD Z.K "_law_open" "_law_open" xC f fd) (h1:Z.mg "list" = none) (h2:Z.mg "enumerate" = none):cE Z.P Z.w Z.K Z.mg Z.base fD 1 f fd ["script"] (GI Z.K):=by
 refine F.vD kH (fun vs H Q E h => ?_) (fun aU A outer s H vs Q E hr h => ?_)
 ·obtain⟨a,ns,rfl,_⟩:=h
  rfl
 ·obtain⟨a,ns,rfl,hS,hlen,fin⟩:=h
  have nd:=kH.nd
  refine⟨_,oW (vz (i:=1) nd rfl (Or.inl rfl) (lR yw (by rfl) h1 PyProof.Rows.boot_list (oX (y9 fV (jv 0) DM (vk cG.out)) bo)))
   (oW (y8 Xj rfl (Ex (by rfl) h2 (oX (y9 fV (jv 0) (vk cG.out) (vk cG.out)) bo)) (y7 rfl (sV (sU (i:=2) nd rfl (Or.inl rfl)) (sV (sU (i:=3) nd rfl (Or.inl rfl)) fX)))
    (sT (qA (sX Ds (Eu DQ (jv 1) (sX ya (jv 2) cG) (fun _ _=>rfl)) (jv 3)) (sW (jv 1) (sX ya (jv 2) cG) set_list))))
   (sT (y6 (vA (oX (jv 1) (oX cG (oX cG bo))))))),?_⟩
  refine⟨_,rfl,_,rfl,a,_,rfl,hS,fun l1 n1=>⟨l1,_,rfl,.inl (a7.of bA),fun c nc => ?_⟩⟩
  have s1:aB H (upd (upd H l1 (.lst (cF (ns.map V.int) none (some 12)))) c (.lst (cF (ns.map V.int) none (some 12)))):=(la n1).trans (la nc)
  refine⟨_,rfl,_,rfl,_,rfl,a,_,rfl,s1.seq hS,fun l2 n2=>⟨l2,rfl,⟨_,a7.of bA⟩,?_⟩⟩
  have UW:H c=none:=(la n1).free nc
  have UX:=n2
  have hcc:∃ ms:List Int,ms.length=min 12 ns.length/\cF (ns.map V.int) none (some 12)=ms.map V.int:=by
   refine⟨_,?_,AO ns none (some 12)⟩
   rw[Wu,Xw]
   have e1:HT.aZ ns.length 0 none=0:=HT.yj _ _
   have e2:HT.aZ ns.length ns.length (some 12)=min 12 ns.length:=HT.sq ns.length ns.length 12
   rw[e1,e2];omega
  have k9:(cF (ns.map V.int) (some 12) (some 63)).length=ns.length - 12:=by
   rw[AO,oS,Wu,Xw]
   have e1:HT.aZ ns.length 0 (some 12)=min 12 ns.length:=HT.sq ns.length 0 12
   have e2:HT.aZ ns.length ns.length (some 63)=min 63 ns.length:=HT.sq ns.length ns.length 63
   rw[e1,e2];omega
  have Jt:∀ i x,(cF (ns.map V.int) (some 12) (some 63))[i]? = some x->∃ n:Int,x=V.int n:=fun i x e=>by
   rw[AO,D8] at e
   cases q:((ns.drop (HT.aZ ns.length 0 (some 12))).take (HT.aZ ns.length ns.length (some 63) - HT.aZ ns.length 0 (some 12)))[i]? with
   | none=>rw[q] at e;cases e
   | some n=>rw[q] at e;exact⟨n,(Wx e).symm⟩
  generalize cF (ns.map V.int) (some 12) (some 63)=rest at k9 Jt n2 ⊢
  obtain⟨ms,zX,UY⟩:=hcc
  refine Ek (K:=Z.K) (a:=l2) (xs:=rest) (fun i σ H2=>∃ (ks:List Int) (v1 v2:Option V),σ = [some (.ref a),some (.ref c),v1,v2]/\H2 c=some (.lst (ks.map V.int))/\ks.length=min 12 ns.length/\H2 l2=some (.lst rest)/\aB H H2)
   ⟨ms,none,none,rfl,?_,zX,bA,?_⟩ (fun i σ H2 _ ⟨_,_,_,_,_,_,q,_⟩=>a7.of q) ?_ ?_
  ·rw[aM (cC bA n2),bA,UY]
  ·exact s1.trans (la n2)
  ·rintro i x T σ H2 hi ⟨ks,v1,v2,rfl,hc,hk,sE,sm⟩ hT
   obtain⟨n,rfl⟩:=Jt i x hi
   have ph:i < rest.length:=(oR.mp hi).1
   have UZ:ks.length=12:=by omega
   have cT:c≠T:=cC hc hT
   have gy:upd H2 T (.tup [.int i,.int n]) c=some (.lst (ks.map V.int)):=by rw[aM cT];exact hc
   have j0:0 <= ((i:Int)) % 12:=Xt _ (by decide)
   have j1:((i:Int)) % 12 < 12:=W8 _ (by decide)
   obtain⟨m,em⟩:=Qs (ns:=ks) j0 (by omega)
   have ix:iZ (ks.map V.int).length ((i:Int) % 12)=some ((i:Int) % 12).toNat:=by
    unfold iZ
    rw[We j0,We (by rw[oS];omega)]
   refine⟨T,_,rfl,bC.of bA,rfl,_,_,rfl,_,_,rfl,rfl,?_⟩
   refine⟨_,rfl,_,rfl,_,_,rfl,rfl,(show (0:Int) < 12 by decide),_,_,_,_,rfl,rfl,a7.of gy,em,_,rfl,_,_,rfl,rfl,_,rfl,_,rfl,_,_,rfl,rfl,(show (0:Int) < 12 by decide),_,_,_,_,rfl,rfl,gy,ix,?_⟩
   refine⟨ks.set ((i:Int) % 12).toNat (m + n),_,_,rfl,?_,by rw[XR];exact hk,?_,?_⟩
   ·rw[bA,List.map_set]
   ·have U0:l2≠c:=by
     intro z
     subst z
     exact absurd UX (by rw[bA];intro y;cases y)
    rw[aM U0,aM (cC sE hT)];exact sE
   ·intro b o e
    rw[aM (cC e UW)]
    exact la hT b o (sm b o e)
  ·rintro σ H2 ⟨ks,v1,v2,rfl,hc,hk,sE,sm⟩
   refine⟨_,rfl,(by show 3 <= sizeLine;decide),fun p np => ?_⟩
   have U1:H p=none:=sm.free np
   exact fin p c _ (sm.trans (la np)) U1 ⟨bA,⟨ks,by rw[aM (cC hc np)];exact hc,by omega⟩,Int.le_refl 0⟩
noncomputable abbrev rJ:Stmt:=top 53
theorem U2 {f qp:Addr} {fd mJ:FuncData} (F:gD Z.K "law" "law" rJ f fd) (B:BT Z.mg) (GO:Fn Z.P Z.w Z.K Z.mg Z.base 1 "_law_open" ["script"] (GI Z.K) qp mJ) (U3:Jg Z) (U4:Jb Z) (hV:xB Z) (U5:Jl Z) (U6:Jr Z):cE Z.P Z.w Z.K Z.mg Z.base fD 21 f fd ["script"] (wM Z.K):=by
 have sc:kP ["script", "pen", "turn", "web", "k", "one", "other"] ["script"] (cB rJ):=iz (by decide +kernel)
 refine F.vD (k:=20) sc (fun vs H Q E h => ?_) (fun aU A outer s H vs Q E hr h => ?_)
 ·obtain⟨a,ns,rfl,_⟩:=h
  rfl
 obtain⟨a,ns,rfl,hS,hlen,hT,fin⟩:=h
 have nd:=sc.nd
 have hu:=hr.units
 have rest:eC (dU fD Z.P Z.w Z.K Z.mg Z.base ["script", "pen", "turn", "web", "k", "one", "other"] "law" (cB rJ) f aU A outer s H E).jM ((fW rJ).drop 1) (dH Cj):=(aO (kY Xj rfl (nh (by rfl) B.range (a5 av ay)) (b7 (i:=2) nd rfl (by trivial)) (aO (bD (i:=3) nd rfl (by trivial) (ax U3 hr (bU (ax U4 hr (ag (dv 1) ay)) (a9 (aV aW (mX (a5 av (a5 av (a5 av ay)))) (dv 2) (fun _ _=>rfl)) (a5 av ay))))) (aO (kY Xj rfl (nh (by rfl) B.range (dP (bh nq av (zp Te (by rfl) B.int EC (dP (iM tL (aV aW (dv 3) av (fun _ _=>rfl)) av (by rfl)) ay))) ay)) (b7 (i:=4) nd rfl (by trivial)) (aO (bD (i:=5) nd rfl (by trivial) (ax hV hr (ag (dv 1) (a9 (aV aW (dv 3) av (fun _ _=>rfl)) ay)))) (aO (bD (i:=6) nd rfl (by trivial) (bh jg (bh dF (bh dF (dv 5) av) (ax hV hr (ag (dv 1) (dP (bh j7 (aV aW (dv 3) av (fun _ _=>rfl)) av) ay)))) (aV aW (dv 3) av (fun _ _=>rfl)))) (aX (cY (iN (g9 (ax U5 hr (ag (dv 3) (ag (dv 5) (ag (dv 6) ay)))))) (aX (bx gn)) c8))))) (aX (cY (iN (g9 (ax U6 hr (ag (dv 3) ay)))) (aX (bx gn)) c8))))) (aX (bx gn)))
 refine⟨_,oW (vz (i:=1) nd rfl (by trivial) (vB GO.ok (hr.mono (by decide)) (by rfl) GO.vH GO.kp GO.bd .nil vq (ib (jv 0) bo))) rest,?_⟩
 refine⟨_,rfl,a,ns,rfl,hS,hlen,fun p c H1 sm hp N1 => ?_⟩
 obtain⟨F',ms,hm,S⟩:=Qt (a:=a) (n:=5) (aE.same hT sm) N1
 exact Qu S (Tu ms hm) fin
end
noncomputable def de:List kj:=[⟨185,⟨90,25,90,63⟩,(("least_of" : Str) ++ ".<locals>.") ++ "<lambda>"⟩,⟨192,⟨92,25,92,63⟩,(("greatest_of" : Str) ++ ".<locals>.") ++ "<lambda>"⟩,⟨140,⟨48,40,48,76⟩,(("order_of" : Str) ++ ".<locals>.") ++ "<lambda>"⟩]
noncomputable def CI:List (Str × Stmt × Addr):=[("least_of",Iz,185),("greatest_of",IB,192),("order_of",Io,140)]
noncomputable abbrev dp (x:Str) (s:Stmt):Str × Stmt:=(x,s)
noncomputable def Ju:List (Str × Stmt):=[dp "is_whole" HY,dp "is_within" H_,dp "is_tuple_of" Ia,dp "are_ends" Ib,dp "is_way" Ie,dp "are_ways" Ih,dp "is_web" Ij,dp "need_web" Il,dp "rank_of" Im,dp "need_ways" Ip,dp "joined" Iq,dp "firsts_of" Ir,dp "lots_of" CH,dp "weight_of" Iu,dp "is_rising" Iw,dp "leads_out" ID,dp "ways_out" IF,dp "lot_at" IH,dp "parts" II,dp "road_of" IK,dp "forest_of" IM,dp "need_two" IP,dp "greatest_between" IQ,dp "narrow_of" IS,dp "is_narrow" IU,dp "exchange_for" IW,dp "next_best" IY,dp "_law_spread" I0,dp "_law_open" xC,dp "_law_anew" Ja,dp "_law_take" Jc,dp "_law_pairs_of" Jd,dp "_law_web" Jf,dp "_law_all" Jh,dp "_law_narrow_right" Jk,dp "_law_next_right" Jq,dp "law" rJ]
theorem U7 {l:PySem.W.OpenLaw} {w:World} {K:PySem.W.Frag} {h:Heap} {mg:Str->Option Value} {fa:Addr} (X:K.In h) (G:h.Ns mainGlobals mg) (U8:mg "law" = some (.ref fa)) (DS:gi K Ju) (LS:dJ K CI) (N:∀ x∈Cs,PySem.W.nsIn K mainGlobals x=some none) (gj:Ck K "MOST_HOUSES" 12) (iB:Ck K "MOST_WAYS" 30) (g6:Ck K "MOST_PRICE" 1000000000)
  : ∃ fd:FuncData,(∀ (s:Shared) (v:Value),BindsTo s fd ⟨[v],[]⟩ [("script",v)])/\∀ base:Heap,K.In base->base.Ns mainGlobals mg->(∀ t∈de,base.BuiltinsAt mg t.T)->cE l.prog w K mg base fD 21 fa fd ["script"] (@wM (ml de) K):=by
 obtain⟨f,fd,a,F⟩:=DS.at (x := "law") (st:=rJ) 36 rfl
 cases U8.symm.trans (ZW X G a)
 letI:aE:=ml de
 have B:=TK X G N
 refine⟨fd,fun s v=>by obtain⟨_,_,_,_,_,_,_,_,_,rfl,_⟩:=F.ex;exact .of_eq rfl,fun base KB _ hB => ?_⟩
 have D:∀ (i:Nat) {x:Str} {st:Stmt},Ju[i]? = some (x,st)->Dx ⟨l.prog,w,K,mg,base⟩ x st:=fun i _ _ e=>(DS.at i e).v X G
 have M:∀ (i:Nat) {x:Str} {st:Stmt} {T:Addr} {lp:Pos} {q:Str},CI[i]? = some (x,st,T)->de[i]? = some ⟨T,lp,q⟩->rH ⟨l.prog,w,K,mg,base⟩ x st T lp q:=fun i _ _ _ _ _ e e2=>(LS.at i e).v X G KB hB (by decide) (by decide) (Ws e2)
 have U9:=TL (D 0 rfl) B
 have rK:=TM (D 1 rfl) B U9
 have Jv:=TQ (D 2 rfl) B
 have U_:=TR (D 3 rfl) B rK
 have Va:=TU (D 4 rfl) B (g6.v X G) Jv U_ rK
 have Vb:=TY (D 5 rfl) B (iB.v X G) Va
 have Vc:=T2 (D 6 rfl) B (gj.v X G) Jv rK Vb
 have CJ:=T5 (D 7 rfl) B Vc
 have CK:=T7 (D 8 rfl) B
 have Jw:=T8 (M 2 rfl rfl) B CJ CK
 have Jx:=T9 (D 9 rfl) B CJ rK
 have Jy:=T_ (D 10 rfl) B
 have xD:=Ua (D 11 rfl) B Jy
 have Vd:=UM (D 12 rfl) B Jx xD
 have Ve:=Ub (D 13 rfl) B Jx
 have Vf:=Ud (D 14 rfl) B rK
 have Vg:=Ue (M 0 rfl rfl) B CK
 have Vh:=Ug (M 1 rfl rfl) B CK
 have Vi:=Uh (D 15 rfl) B
 have Vj:=Ui (D 16 rfl) B Vi
 have Jz:=Uk (D 17 rfl) B xD
 have Vk:=Ul (D 18 rfl) B xD
 have Vl:=Um (D 19 rfl) B Vk
 have xE:=Uq (D 20 rfl) B Jw xD Jy
 have JB:=Ur (D 21 rfl) B CJ rK
 have CL:=Us (D 22 rfl) B Jz Vh Vl
 have Vm:=Uv (D 23 rfl) B JB xE CL Jz
 have Vn:=Uw (D 24 rfl) B JB Vf CL xE Vg Vj
 have Vo:=UA (D 25 rfl) B CL
 have Vp:=UB (D 26 rfl) B xE Vo
 have Vq:=UD (D 27 rfl) B
 have Vr:=UE (D 29 rfl) B
 have CM:=UG (D 30 rfl) B Vq
 have Vs:=UI (D 31 rfl) B CM
 have Vt:=UJ (D 32 rfl) B CM Vs
 have Vu:=UL (D 33 rfl) B
 have Vv:=UP (D 34 rfl) B Vm Vd Vu Vn Jw
 have Vw:=US (D 35 rfl) B xE Ve Vp
 obtain⟨fo,Wc,ao,Fo⟩:=D 28 (x := "_law_open") (st:=xC) rfl
 exact U2 (Z:=⟨l.prog,w,K,mg,base⟩) F B ⟨UU Fo B.list B.enumerate,ao,Fo.kp,Fo.binds kG⟩ Vt Vr CM Vv Vw
theorem Vx {K:PySem.W.Frag} {h:Heap} (X:K.In h) (LS:dJ K CI):∀ t∈de,∃ cc,PySem.W.CodeHd h cc t.T:=fun t ht=>LS.code X t.T (show t.T∈de.map (·.T) from Ys ht)
end LJ
open PySem PySem.W PyProof.Rows
theorem PySem.W.Fast.tw11021365757836173865:True:=trivial
theorem PySem.W.Fast.tw59446385185728177:True:=trivial
theorem PySem.W.Fast.tw975201773543264640:True:=trivial
theorem PySem.W.Fast.tw10863556122354035916:True:=trivial
theorem PySem.W.Fast.tw7754979808952785301:True:=trivial
theorem PySem.W.Fast.tw11884811104665660712:True:=trivial
theorem PySem.W.Fast.tw15166017646341453058:True:=trivial
theorem PySem.W.Fast.tw5285673372986321384:True:=trivial
theorem PySem.W.Fast.tw900148180857430089:True:=trivial
theorem PySem.W.Fast.tw4414139935778970067:True:=trivial
theorem PySem.W.Fast.tw10209529443177963327:True:=trivial
theorem PySem.W.Fast.tw3925665557485756773:True:=trivial
set_option maxRecDepth 100000 in
set_option maxHeartbeats 0 in
theorem PySem.Challenge.cw_lotjoin_k74_whole_narrow_and_next_holds : PySem.Challenge.rw_lotjoin_k74_whole_narrow_and_next.Holds := by
 w_on;o_law;k_head; (case hw=>w_witness2)
 k_fill
 refine LJ.Q4 (l:=PySem.Challenge.rw_lotjoin_k74_whole_narrow_and_next) (kk:=21) LJ.de rfl rfl rfl ⟨rfl,by decide,by decide⟩ ?C (fun P=>by kernel_rfl) ?F
 case C =>
  intro w h KX
  refine LJ.Vx KX ?_
  repeat' first | exact LJ.dJ.nil | refine LJ.uY (by k_is) (by k_is) (by k_is) (by k_is) (by kernel_rfl) ?_
 case F =>
  intro w mg fa h KX G lN
  refine LJ.U7 KX G lN ?dD ?dL ?dN ⟨_,by k_is,_,rfl⟩ ⟨_,by k_is,_,rfl⟩ ⟨_,by k_is,_,rfl⟩
  (case dD=>repeat' first | exact LJ.gi.nil | refine LJ.Cr (by k_is) (by k_is) (by k_is) (by k_is) ?_)
  (case dL=>repeat' first | exact LJ.dJ.nil | refine LJ.uY (by k_is) (by k_is) (by k_is) (by k_is) (by kernel_rfl) ?_)
  (case dN=>repeat' first | exact List.forall_mem_nil _ | refine LJ.TH (by k_is) ?_)
