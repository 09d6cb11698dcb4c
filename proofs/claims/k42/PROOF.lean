import PyProof.Rows.All
import Wide.All
import OpenK.AllK
import Wide.FinOn
import Lean
import PyProof.Rows.SetFrom
import PyProof.TupleKey
import PyProof.SetRoads
import PySem.SetOps
import PyProof.EqAt
import PyProof.EqKinds
import PyProof.TupleCall
import KE.KDictList
import KE.KDictLaws
import PyProof.NeKinds
import PyProof.Draws
import KE.KSortTup
import KE.KLam
import PyProof.ListRange
import PyProof.TupleOfSeq
import KE.KNestM
import PyProof.MinMaxWalk
import PySem.Challenge.RW_lotjoin_k42_whole_marks_and_lots
set_option Elab.async false
set_option linter.all false
set_option maxRecDepth 100000
local macro_rules | `(tactic| trivial) => `(tactic| first | exact Or.inl rfl | exact Or.inr rfl)
abbrev mM:=@List.getElem?_eq_getElem
abbrev pT:=@PySem.wpAny_bind
abbrev pU:=@List.length_map
abbrev pV:=@List.getElem?_eq_some_iff
abbrev rG:=@List.getD_eq_getElem?_getD
abbrev tP:=@PySem.Heap.get?_push_of_some
abbrev we:=@Nat.le_refl
abbrev wg:=@PySem.wpAny_pure
abbrev zR:=@List.size_toArray
abbrev E6:=@List.mem_cons_self
abbrev E7:=@List.getElem?_map
abbrev E8:=@Array.length_toList
abbrev E9:=@List.mem_cons_of_mem
abbrev Mx:=@List.length_cons
abbrev My:=@List.length_append
abbrev Mz:=@PySem.Heap.lt_size
abbrev MA:=@List.mem_cons
abbrev MB:=@Int.toNat_natCast
abbrev MC:=@if_neg
abbrev VV:=@Option.map_eq_some_iff
abbrev VW:=@PySem.Heap.get?_push_size
abbrev VX:=@Array.getElem?_eq_getElem
abbrev VY:=@if_pos
abbrev VZ:=@Nat.ne_of_lt
abbrev V0:=@List.mem_iff_getElem?
abbrev Wr:=@List.mem_singleton
abbrev Ws:=@Bool.false_ne_true
abbrev Wt:=@List.mem_map
abbrev Wu:=@List.getElem?_append_left
abbrev Wv:=@List.mem_append_right
abbrev Ww:=@List.getElem?_append_right
abbrev Wx:=@Array.getElem?_toList
abbrev Wz:=@decide_eq_false
abbrev WB:=@Nat.lt_of_lt_of_le
abbrev WC:=@decide_eq_true
abbrev WD:=@Bool.false_eq_true
abbrev WH:=@List.map_cons
abbrev WJ:=@List.mem_range
abbrev WK:=@List.map_append
abbrev WL:=@List.map_map
abbrev WM:=@PySem.W.mg_of
abbrev WN:=@List.mem_of_getElem?
abbrev WQ:=@List.length_take
abbrev WR:=@List.getElem?_cons_succ
abbrev WU:=@List.lookup_cons
abbrev WV:=@List.not_mem_nil
abbrev WW:=@Option.some.inj
abbrev WX:=@PySem.wpAny_loadPart'
abbrev WY:=@List.getElem?_cons_zero
abbrev WZ:=@PySem.W.mg_none_of
abbrev W0:=@List.mem_iff_getElem
abbrev W5:=@decide_eq_true_eq
abbrev W6:=@List.length_singleton
abbrev W7:=@PySem.Heap.SameBut.update
abbrev W8:=@List.map_congr_left
abbrev W9:=@PySem.wpAny_holding
abbrev W_:=@PySem.F.plainAttrs_list
abbrev Xa:=@List.mem_append
abbrev Xb:=@List.set_cons_zero
abbrev Xc:=@List.set_cons_succ
abbrev Xd:=@PySem.boot_len
abbrev Xe:=@Nat.lt_succ_of_lt
abbrev Xf:=@List.countP_cons
abbrev Xg:=@List.getElem?_range
abbrev Xh:=@PySem.PassesOwn.never
abbrev Xi:=@Nat.zero_add
abbrev Xj:=@List.take_of_length_le
abbrev Xk:=@List.mem_append_left
abbrev Xl:=@List.length_range
abbrev Xm:=@List.mem_filter
abbrev Xn:=@Nat.zero_le
abbrev Xo:=@PySem.Around.under_plainId
abbrev Xp:=@List.getElem?_take_of_lt
abbrev Xq:=@Bool.and_eq_true
abbrev Xr:=@List.nodup_append
abbrev Xs:=@List.pairwise_cons
abbrev Xt:=@List.getElem?_eq_none
abbrev Xu:=@PySem.Heap.get?_update_self
abbrev Xv:=@List.replicate_succ
abbrev Xw:=@List.getElem_map
abbrev Xx:=@PySem.sizeLine_eq
abbrev Xy:=@PySem.wpAny_newObj_type
abbrev Xz:=@Array.getD_eq_getD_getElem?
abbrev XA:=@PyProof.Rows.slot_tuple_getitem
abbrev XB:=@Nat.sub_self
abbrev XC:=@PySem.codeAny_builtin
abbrev XD:=@of_decide_eq_true
abbrev XE:=@if_false
abbrev XF:=@List.getElem?_set_ne
abbrev XG:=@Int.emod_lt_of_pos
abbrev XH:=@PySem.F.called_set
abbrev XI:=@PySem.Heap.get?_update_other
abbrev XJ:=@Nat.le_trans
abbrev XM:=@List.getElem?_set_self
abbrev XN:=@PySem.F.slot_list_append
abbrev XO:=@PySem.F.type_list_append
abbrev XQ:=@PySem.mem_of_lookup
abbrev XR:=@Nat.le_of_lt
abbrev XS:=@List.pairwise_map
abbrev XT:=@PySem.wpAny_setState_of
abbrev XU:=@LawfulBEq.eq_of_beq
abbrev XW:=@Array.getElem?_eq_some_iff
abbrev XX:=@PySem.W.kia_one
abbrev XY:=@Nat.lt_succ_self
abbrev XZ:=@Array.getElem?_eq_none
abbrev X0:=@List.getElem_mem
abbrev X1:=@PySem.wpAny_call_entry
abbrev X7:=@List.exists_cons_of_length_eq_add_one
abbrev X8:=@List.append_assoc
abbrev X9:=@List.flatten_cons
abbrev X_:=@PySem.Heap.size_push
abbrev Ya:=@Nat.lt_irrefl
abbrev Yb:=@List.take_succ
abbrev Yc:=@Int.emod_nonneg
abbrev Yd:=@Ne.symm
abbrev Ye:=@List.map_nil
abbrev Yf:=@List.all_eq_true
abbrev Yg:=@PyProof.Rows.F.plain_set_update_loop
abbrev Yh:=@PySem.wpAny_callSpecial?_slot
abbrev Yi:=@PyProof.Rows.callWith_type1
abbrev Yj:=@Array.toList_setIfInBounds
abbrev Yk:=@List.pairwise_lt_range
abbrev Yl:=@PySem.wpAny_truthy_bool
abbrev Ym:=@List.length_nil
abbrev Yn:=@List.length_set
abbrev Yo:=@List.getElem?_toArray
abbrev Yp:=@List.length_drop
abbrev Yq:=@List.getElem_inj
abbrev Yr:=@PySem.wpAny_mono
abbrev Ys:=@Nat.ne_of_gt
abbrev Yt:=@List.ext_getElem?
abbrev Yu:=@PySem.wpAny_pyIter_list
abbrev Yv:=@PySem.wpAny_pyIter_enum
abbrev Yw:=@List.append_nil
abbrev Yx:=@PySem.plainId_quiet
abbrev Yy:=@List.mem_filterMap
abbrev Yz:=@List.Perm.refl
abbrev YA:=@List.length_eraseIdx_of_lt
abbrev YB:=@List.nodup_nil
abbrev YC:=@or_false
abbrev YD:=@PySem.Obj.data_mapFields
abbrev YE:=@PySem.Around.in1_handled
abbrev YF:=@PySem.F.slot_tuple_iterator_next
abbrev YG:=@Classical.byContradiction
abbrev YH:=@List.pairwise_iff_getElem
abbrev YI:=@List.drop_eq_getElem_cons
abbrev YJ:=@List.nodup_cons
abbrev YK:=@PySem.wpAny_ite_split
abbrev YL:=@Array.toList_push
abbrev YM:=@if_true
abbrev YN:=@List.any_eq_false
abbrev YO:=@Bool.not_true
abbrev YQ:=@List.any_cons
abbrev YR:=@List.length_eq_zero_iff
abbrev YS:=@PyProof.Rows.F.entry_set_update_loop
abbrev YT:=@List.getElem?_replicate
abbrev YU:=@List.map_id
abbrev YV:=@Array.toList_filterMap
abbrev YW:=@of_decide_eq_false
abbrev YX:=@PySem.wpAny_Call_Name_kw
abbrev YY:=@List.filter_append
abbrev YZ:=@Nat.succ.inj
abbrev Y0:=@List.range_succ
abbrev Y1:=@List.find?_cons
abbrev Y2:=@Array.getElem?_setIfInBounds
abbrev Y3:=@List.Perm.append_left
abbrev Y4:=@Nat.le_of_lt_succ
abbrev Y5:=@List.foldl_append
abbrev Y6:=@List.mem_of_mem_take
abbrev Y7:=@Array.perm_iff_toList_perm
abbrev Y8:=@PySem.wpAny_askSetting
abbrev Y9:=@PySem.codeAny_mono
abbrev Y_:=@List.take_length
abbrev Za:=@List.mem_of_find?_eq_some
abbrev Zb:=@List.filterMap_cons
abbrev Zc:=@List.mem_map_of_mem
abbrev Zd:=@PySem.W.codeHd_of_K
abbrev Ze:=@List.eq_of_mem_replicate
abbrev Zf:=@Option.isSome_iff_exists
abbrev Zg:=@PySem.F.args_tuple_add_2
abbrev Zh:=@List.all_cons
abbrev Zi:=@PyProof.Rows.listUpdate_at
abbrev Zj:=@List.find?_some
abbrev Zk:=@Option.map_some
abbrev Zl:=@PySem.wpAny_passesOwn
abbrev Zm:=@PyProof.Rows.get?_update_seq
abbrev Zn:=@List.find?_eq_none
abbrev Zo:=@Nat.lt_of_le_of_lt
abbrev Zp:=@Array.forIn_toList
abbrev Zq:=@PySem.wpAny_pyIter_tuple
abbrev Zr:=@PySem.F.entry_tuple_add
abbrev Zs:=@PySem.wpAny_field
abbrev Zt:=@Array.toList_replicate
abbrev Zu:=@List.drop_zero
abbrev Zv:=@List.getElem_take
abbrev Zw:=@PySem.SetTable.insertAt_perm
abbrev Zx:=@PySem.wpAny_storeSet_of
abbrev Zy:=@Array.size_map
abbrev Zz:=@PySem.wpAny_setField
abbrev ZA:=@PySem.wpAny_typeOf
abbrev ZC:=@PySem.F.plain_list_iadd
abbrev ZD:=@PySem.W.cellsFrom_some
abbrev ZE:=@PySem.F.slot_tuple_add
abbrev ZF:=@List.take_zero
abbrev ZG:=@List.drop_eq_nil_of_le
abbrev ZH:=@List.length_filterMap_eq_countP
abbrev ZI:=@PySem.Obj.isFreed_of_fields
abbrev ZJ:=@List.length_replicate
abbrev ZK:=@PySem.F.slot_list_pop
abbrev ZL:=@PySem.F.type_list_pop
abbrev ZM:=@List.nodup_range
abbrev ZN:=@Nat.le_of_not_lt
abbrev ZO:=@PySem.putSet_of
abbrev ZP:=@PySem.wpAny_forIn_list
abbrev ZQ:=@Nat.le_add_right
abbrev ZR:=@Option.getD_none
abbrev ZS:=@PySem.call_meets
abbrev ZT:=@PySem.wpAny_standAt
abbrev ZU:=@List.sum_cons
abbrev ZV:=@PySem.wpAny_newList
abbrev ZW:=@Bool.true_and
abbrev ZX:=@Array.mem_toList_iff
abbrev ZY:=@List.reverse_reverse
abbrev ZZ:=@Nat.pow_le_pow_right
abbrev Z0:=@List.foldl_cons
abbrev Z1:=@PySem.SeqAt.EqAt.same
abbrev Z2:=@PySem.F.slot_dict_setdefault
abbrev Z3:=@PySem.F.args_tuple_iterator_next_1
abbrev Z4:=@List.filter_map
abbrev Z5:=@PySem.wpAny_setEntries_of
abbrev Z6:=@Nat.succ_pos
abbrev Z8:=@PySem.intKind_is
abbrev Z9:=@PySem.wpAny_seqItems
abbrev Z_:=@PySem.wpAny_runValue
abbrev q0a:=@PySem.Walks.list
abbrev q0b:=@PySem.SeqAt.EqAt.int_str
abbrev q0c:=@PySem.SeqAt.EqAt.str_int
abbrev q0e:=@PySem.SeqAt.EqAt.int_int
abbrev q0f:=@List.zip_cons_cons
abbrev q0h:=@List.perm_ext_iff_of_nodup
abbrev q0i:=@List.mem_or_eq_of_mem_set
abbrev q0j:=@List.extract_eq_take_drop
abbrev q0l:=@List.take_sublist
abbrev q0m:=@bne_self_eq_false
abbrev q0n:=@PySem.Obj.cls_mapFields
abbrev q0o:=@List.zip_nil_left
abbrev q0p:=@Nat.le_succ
abbrev q0q:=@Bool.not_eq_true'
abbrev q0r:=@List.Sublist.refl
abbrev q0s:=@Array.getElem_mem_toList
abbrev q0t:=@Array.size_setIfInBounds
abbrev q0u:=@PySem.F.slot_dict_values
abbrev q0v:=@List.sublist_append_left
abbrev q0y:=@beq_self_eq_true
abbrev q0z:=@Nat.succ_ne_self
abbrev q0A:=@Int.max_eq_right
abbrev q0B:=@Int.min_eq_right
abbrev q0C:=@List.any_eq_true
abbrev q0G:=@Nat.lt_trans
abbrev q0H:=@Nat.sub_zero
abbrev q0I:=@PySem.wpAny_rule
abbrev q0N:=@Nat.le_of_eq
abbrev q0R:=@List.countP_map
abbrev q0S:=@Array.size_push
abbrev q0W:=@List.of_mem_zip
abbrev q0X:=@List.sum_append
abbrev q0Y:=@Array.Perm.refl
abbrev q00:=@Int.min_eq_left
abbrev q01:=@Int.max_eq_left
abbrev q1a:=@Bool.false_and
abbrev q1c:=@Bool.not_false
theorem el7 {α β γ ε : Type} {A B C : α → β → γ → ε → Prop} {R : Prop} (h : ∃ F ad δ K, A F ad δ K ∧ B F ad δ K ∧ C F ad δ K) (k : ∀ F ad δ K, A F ad δ K → B F ad δ K → C F ad δ K → R) : R := h.elim fun F h => h.elim fun a h => h.elim fun d h => h.elim fun K h => k F a d K h.1 h.2.1 h.2.2
theorem el5 {α β : Type} {A B C : α → β → Prop} {R : Prop} (h : ∃ F ad, A F ad ∧ B F ad ∧ C F ad) (k : ∀ F ad, A F ad → B F ad → C F ad → R) : R := h.elim fun F h => h.elim fun a h => k F a h.1 h.2.1 h.2.2
theorem el3 {α : Type} {A B : α → Prop} {R : Prop} (h : ∃ F, A F ∧ B F) (k : ∀ F, A F → B F → R) : R := h.elim fun F h => k F h.1 h.2
set_option compiler.extract_closed false
local macro_rules | `(tactic| omega) => `(tactic| first | lia | omega (config := {}))
namespace LJS
open PySem PySem.SetTable
noncomputable def nx (m i:Nat):Nat:=(i * 5 + 1) % (m + 1)
noncomputable def l_ (m:Nat):Nat->Nat->Nat
 | 0,i=>i
 | n + 1,i=>l_ m n (nx m i)
theorem vR (m:Nat):∀ a b i,l_ m (a + b) i=l_ m b (l_ m a i)
 | 0,b,i=>by rw[Xi];rfl
 | a + 1,b,i=>by rw[Nat.succ_add];exact vR m a b (nx m i)
noncomputable def yt (m:Nat):Nat->Nat->List Nat
 | 0,_=>[]
 | n + 1,i=>i :: yt m n (nx m i)
theorem Ds (m:Nat):∀ {n i e:Nat},e∈yt m n i->∃ k,k < n/\l_ m k i=e
 | 0,_,_,h=>nomatch h
 | n + 1,i,e,h=>by
  rcases MA.mp h with rfl | h
  ·exact⟨0,Z6 _,rfl⟩
  ·obtain⟨k,hk,e⟩:=Ds m h
   exact⟨k + 1,Nat.succ_lt_succ hk,e⟩
noncomputable def Mk (m:Nat):Prop:=m=7\/m=31\/m=127
noncomputable def sF (m:Nat):Bool:=(List.range (m + 1)).all fun e=>(yt m (m + 1) 0).contains e
theorem Dt {m:Nat} (h:Mk m):sF m=true/\l_ m (m + 1) 0=0:=by
 rcases h with rfl | rfl | rfl<;>exact⟨by decide +kernel,by decide +kernel⟩
theorem nL {m:Nat} (h:Mk m) {e:Nat} (he:e <= m):∃ k,k <= m/\l_ m k 0=e:=by
 have:=Yf.mp (Dt h).1 e (WJ.mpr (Nat.lt_succ_of_le he))
 obtain⟨k,hk,q⟩:=Ds m (List.contains_iff_mem.mp this)
 exact⟨k,Y4 hk,q⟩
theorem Jx {m:Nat} (h:Mk m) {i e:Nat} (hi:i <= m) (he:e <= m):∃ n,n <= m/\l_ m n i=e:=by
 obtain⟨a,ha,rfl⟩:=nL h hi
 obtain⟨b,hb,rfl⟩:=nL h he
 by_cases vS:a <= b
 ·refine⟨b - a,by omega,?_⟩
  rw[<-vR];congr 1;omega
 ·refine⟨m + 1 - a + b,by omega,?_⟩
  rw[<-vR,show a + (m + 1 - a + b)=(m + 1) + b by omega,vR,(Dt h).2]
noncomputable def lp (m:Nat):Nat->Nat->Nat->Nat × Nat
 | 0,i,p=>(i,p)
 | n + 1,i,p=>lp m n (leap m i p).1 (leap m i p).2
theorem yu (m:Nat):∀ a b i p,lp m (a + b) i p=lp m b (lp m a i p).1 (lp m a i p).2
 | 0,b,i,p=>by rw[Xi];rfl
 | a + 1,b,i,p=>by rw[Nat.succ_add];exact yu m a b _ _
theorem Du (m:Nat):∀ n i,lp m n i 0=(l_ m n i,0)
 | 0,i=>rfl
 | n + 1,i=>by
  show lp m n (leap m i 0).1 (leap m i 0).2=_
  have e:leap m i 0=(nx m i,0):=by unfold leap nx;simp
  rw[e];exact Du m n _
theorem Dv (m i p:Nat):(leap m i p).1 <= m:=Y4 (Nat.mod_lt _ (Z6 _))
theorem Dw (m:Nat):∀ n i p,(lp m n i p).2=p / 32 ^ n
 | 0,i,p=>by simp[lp]
 | n + 1,i,p=>by
  show (lp m n (leap m i p).1 (leap m i p).2).2=_
  rw[Dw m n]
  show p / 32 / 32 ^ n=_
  rw[Nat.div_div_eq_div_mul,Nat.pow_succ,Nat.mul_comm]
theorem reach {m:Nat} (h:Mk m) {i p e:Nat} (hp:p < 2 ^ 64) (he:e <= m):∃ n,n <= 13 + m/\(lp m n i p).1=e:=by
 have z:(lp m 13 i p).2=0:=by
  rw[Dw]
  exact Nat.div_eq_of_lt (q0G hp (by decide))
 have q:(lp m 13 i p).1 <= m:=by
  rw[yu m 12 1];exact Dv _ _ _
 obtain⟨n,hn,en⟩:=Jx h q he
 refine⟨13 + n,by omega,?_⟩
 rw[yu,z,Du];exact en
theorem Dx (j:Nat):has #[] j=false:=by unfold has;simp
theorem sG {t:SetTable} (hd:t.dummies = #[]) (j:Nat):t.slot j = .empty\/∃ i,t.slot j = .live i/\i < t.place.size/\j∈t.place.toList:=by
 unfold slot
 rw[hd,Dx]
 dsimp only
 by_cases c:(t.place[below t.place j]? == some j)=true
 ·right
  rw[VY c]
  have e:=XU c
  obtain⟨hl,ev⟩:=XW.mp e
  exact⟨_,rfl,hl,by rw[<-ev];exact q0s hl⟩
 ·left
  rw[MC c];rfl
theorem Jy {t:SetTable} (hd:t.dummies = #[]) {j:Nat} (hj:j∉t.place.toList):t.slot j = .empty:=by
 rcases sG hd j with h | ⟨_,_,_,h⟩
 ·exact h
 ·exact absurd h hj
theorem Dy:∀ {l l':List Nat},l.Nodup->(∀ x∈l,x∈l')->l.length <= l'.length
 | [],_,_,_=>Xn _
 | a :: l,l',hn,hs=>by
  have ha:a∈l':=hs a (E6 ..)
  have gu:=YJ.mp hn
  have ih:=Dy (l:=l) (l':=l'.erase a) gu.2 fun x hx=>(List.mem_erase_of_ne (fun z=>gu.1 (by rw[<-z];exact hx))).mpr (hs x (E9 _ hx))
  rw[List.length_erase_of_mem ha] at ih
  have:=List.length_pos_of_mem ha
  rw[Mx];omega
theorem Jz {l:List Nat} {m:Nat} (h:l.length <= m):∃ e,e <= m/\e∉l:=by
 refine YG fun no => ?_
 have all:∀ e,e∈List.range (m + 1)->e∈l:=fun e he=>YG fun z=>no ⟨e,Y4 (WJ.mp he),z⟩
 have:(List.range (m + 1)).length <= l.length:=Dy ZM all
 rw[Xl] at this
 omega
noncomputable def stateOf (t:SetTable) (i p:Nat):Probe:=⟨i,runEnd t.mask i - i,i,p,none⟩
theorem Dz (m i:Nat):runEnd m i - i <= 9:=by unfold runEnd;split<;>omega
section
variable {t:SetTable} {f:Nat->Int} {h:Int}
theorem oZ (F:Nat) (p:Probe):probe.go t f h (F + 1) p=(match t.slot p.j with
  | .empty=>some (.empty p.j p.dummy)
  | .dummy=>probe.go t f h F (t.advance { p with dummy:=some p.j })
  | .live i=>if f i == h then some (.candidate p.j i (t.advance p)) else probe.go t f h F (t.advance p)):=rfl
theorem DA (hd:t.dummies = #[]) (hf:∀ i,i < t.place.size->f i≠h):∀ (k F:Nat) (p:Probe),p.more=k->p.dummy=none →
  (∃ j,probe.go t f h (F + k + 1) p=some (.empty j none))\/probe.go t f h (F + k + 1) p=probe.go t f h F (stateOf t (leap t.mask p.i p.perturb).1 (leap t.mask p.i p.perturb).2)
 | 0,F,p,hm,sH=>by
  show (∃ j,probe.go t f h (F + 1) p=_)\/probe.go t f h (F + 1) p=_
  rw[oZ]
  rcases sG hd p.j with e | ⟨i,e,hi,_⟩
  ·left;rw[e];exact⟨p.j,by rw[sH]⟩
  ·right
   rw[e]
   show (if (f i == h)=true then _ else _)=_
   rw[MC (by intro z;exact hf i hi (XU z))]
   unfold advance
   rw[hm,MC (by omega),sH]
   rfl
 | k + 1,F,p,hm,sH=>by
  have ih:=DA hd hf k F { p with j:=p.j + 1,more:=p.more - 1 } (by show p.more - 1=k;omega) sH
  rw[show F + (k + 1) + 1=(F + k + 1) + 1 by omega,oZ]
  rcases sG hd p.j with e | ⟨i,e,hi,_⟩
  ·left;rw[e];exact⟨p.j,by rw[sH]⟩
  ·rw[e]
   show (∃ j,(if (f i == h)=true then _ else _)=_)\/(if (f i == h)=true then _ else _)=_
   rw[MC (by intro z;exact hf i hi (XU z))]
   have ea:t.advance p={ p with j:=p.j + 1,more:=p.more - 1 }:=by unfold advance;rw[VY (by omega)]
   rw[ea]
   exact ih
theorem DB (hd:t.dummies = #[]) (hf:∀ i,i < t.place.size->f i≠h):∀ (n F i p:Nat),10 * (n + 1) <= F->t.slot (lp t.mask n i p).1 = .empty->∃ j,probe.go t f h F (stateOf t i p)=some (.empty j none)
 | 0,F,i,p,hF,hs=>by
  obtain⟨G,rfl⟩:∃ G,F=G + 1:=⟨F - 1,by omega⟩
  rw[oZ]
  have e:t.slot (stateOf t i p).j = .empty:=hs
  rw[e]
  exact⟨i,rfl⟩
 | n + 1,F,i,p,hF,hs=>by
  have hr:=Dz t.mask i
  obtain⟨G,hG⟩:∃ G,F=G + (runEnd t.mask i - i) + 1:=⟨F - (runEnd t.mask i - i) - 1,by omega⟩
  have:=DA (f:=f) (h:=h) hd hf (runEnd t.mask i - i) G (stateOf t i p) rfl rfl
  rw[<-hG] at this
  rcases this with h1 | h1
  ·exact h1
  ·rw[h1]
   exact DB hd hf n G _ _ (by omega) hs
theorem yw (h:Int):bits h < 2 ^ 64:=by
 unfold bits
 have:=XG h (show (0:Int) < 2 ^ 64 by decide)
 have:=Yc h (show (2 ^ 64:Int)≠0 by decide)
 omega
theorem DC (hd:t.dummies = #[]) (hm:Mk t.mask) (hz:t.place.size <= t.mask) (hf:∀ i,i < t.place.size->f i≠h):∃ j,t.probe f h (t.probeStart h)=some (.empty j none):=by
 obtain⟨e,he,ne⟩:=Jz (l:=t.place.toList) (m:=t.mask) (by rw[E8];exact hz)
 obtain⟨n,hn,en⟩:=reach hm (i:=bits h % (t.mask + 1)) (yw h) he
 exact DB hd hf n _ _ _ (by unfold turns;omega) (by rw[en];exact Jy hd ne)
end
section
variable {m:Nat} {owner:Array (Option Nat)}
theorem yx (F i p:Nat):layClean.free m owner (F + 1) i p=(match (List.range (runEnd m i + 1 - i)).find? fun k=>(owner.getD (i + k) (some 0)).isNone with
   | some k=>some (i + k)
   | none=>layClean.free m owner F (leap m i p).1 (leap m i p).2):=rfl
theorem yy:∀ (n F i p:Nat),n + 1 <= F->(owner.getD (lp m n i p).1 (some 0)).isNone=true->∃ j,layClean.free m owner F i p=some j/\(owner.getD j (some 0)).isNone=true
 | 0,F,i,p,hF,hs=>by
  obtain⟨G,rfl⟩:∃ G,F=G + 1:=⟨F - 1,by omega⟩
  rw[yx]
  cases hc:(List.range (runEnd m i + 1 - i)).find? fun k=>(owner.getD (i + k) (some 0)).isNone with
  | some k =>
   have:=Zj hc
   exact⟨i + k,rfl,this⟩
  | none =>
   have:=Zn.mp hc 0 (WJ.mpr (by unfold runEnd;split<;>omega))
   exact absurd hs this
 | n + 1,F,i,p,hF,hs=>by
  obtain⟨G,rfl⟩:∃ G,F=G + 1:=⟨F - 1,by omega⟩
  rw[yx]
  cases hc:(List.range (runEnd m i + 1 - i)).find? fun k=>(owner.getD (i + k) (some 0)).isNone with
  | some k =>
   have:=Zj hc
   exact⟨i + k,rfl,this⟩
  | none=>exact yy n G _ _ (by omega) hs
end
structure Ow (m:Nat) (owner:Array (Option Nat)) (k:Nat):Prop where
 size:owner.size=m + 1
 cnt:owner.toList.countP Option.isSome=k
 lt:∀ x,some x∈owner.toList->x < k
theorem yz:∀ {l:List (Option Nat)} {j k:Nat},l[j]? = some none->(l.set j (some k)).countP Option.isSome=l.countP Option.isSome + 1
 | [],j,k,h=>by simp at h
 | x :: l,0,k,h=>by
  simp at h;subst h
  rw[Xb,Xf,Xf];rfl
 | x :: l,j + 1,k,h=>by
  simp at h
  rw[Xc,Xf,Xf,yz h];omega
theorem getD_none {owner:Array (Option Nat)} {j:Nat} (h:(owner.getD j (some 0)).isNone=true):owner.toList[j]? = some none:=by
 rw[Xz] at h
 rw[Wx]
 cases e:owner[j]? with
 | none=>rw[e] at h;cases h
 | some x =>
  rw[e] at h
  cases x with
  | none=>rfl
  | some y=>cases h
theorem DD {m:Nat} {owner:Array (Option Nat)} {k:Nat} (O:Ow m owner k) (hk:k <= m):∃ e,e <= m/\(owner.getD e (some 0)).isNone=true:=by
 refine YG fun no => ?_
 have all:∀ x∈owner.toList,x.isSome=true:=by
  intro x hx
  obtain⟨e,he⟩:=V0.mp hx
  cases x with
  | some y=>rfl
  | none =>
   have hl:=(pV.mp he).1
   rw[E8,O.size] at hl
   refine absurd ⟨e,Y4 hl,?_⟩ no
   rw[Xz,<-Wx,he];rfl
 have:=List.countP_eq_length.mpr all
 rw[O.cnt,E8,O.size] at this
 omega
theorem JB {m:Nat} {owner:Array (Option Nat)} {k:Nat} (hm:Mk m) (O:Ow m owner k) (hk:k <= m) (h:Int):∃ j,layClean.free m owner (turns m) (bits h % (m + 1)) (bits h)=some j/\Ow m (owner.setIfInBounds j (some k)) (k + 1):=by
 obtain⟨e,he,hn⟩:=DD O hk
 obtain⟨n,gu,en⟩:=reach hm (i:=bits h % (m + 1)) (yw h) he
 obtain⟨j,ej,hj⟩:=yy (m:=m) (owner:=owner) n (turns m) (bits h % (m + 1)) (bits h) (by unfold turns;omega) (by rw[en];exact hn)
 refine⟨j,ej,by rw[q0t];exact O.size,?_,fun x hx => ?_⟩
 ·rw[Yj,yz (getD_none hj),O.cnt]
 ·rw[Yj] at hx
  rcases q0i hx with h | h
  ·exact Xe (O.lt x h)
  ·cases h;exact XY _
theorem DE (m:Nat):Ow m (Array.replicate (m + 1) none) 0:=by
 refine⟨by simp,?_,fun x hx => ?_⟩
 ·rw[Zt]
  exact List.countP_eq_zero.mpr fun x hx=>by rw[Ze hx];decide
 ·rw[Zt] at hx
  cases Ze hx
noncomputable def iE (m:Nat) (owner:Array (Option Nat)):List (Nat × Nat):=(List.range (m + 1)).filterMap fun j=>(owner.getD j none).map (j,·)
theorem yA {m:Nat} {owner:Array (Option Nat)} {k:Nat} (O:Ow m owner k):(iE m owner).length=k:=by
 unfold iE
 rw[ZH,<-O.cnt]
 have e:owner.toList=(List.range (m + 1)).map fun j=>owner.getD j none:=by
  refine Yt fun i => ?_
  rw[Wx,E7]
  by_cases hi:i < m + 1
  ·rw[Xg hi,Zk,VX (by rw[O.size];exact hi),Xz,VX (by rw[O.size];exact hi)];rfl
  ·rw[XZ (by rw[O.size];omega),Xt (by rw[Xl];omega)];rfl
 rw[e,q0R]
 refine List.countP_congr fun j _ => ?_
 simp
theorem DF {α : Type} {es:Array α} {order:Array Nat} (h:∀ k∈order.toList,k < es.size):(order.filterMap (es[·]?)).size=order.size/\∀ e∈(order.filterMap (es[·]?)).toList,e∈es.toList:=by
 constructor
 ·rw[<-E8,YV,ZH,List.countP_eq_length.mpr fun k hk => ?_,E8]
  rw[VX (h k hk)];rfl
 ·intro e he
  rw[YV] at he
  obtain⟨k,_,q⟩:=Yy.mp he
  exact V0.mpr ⟨k,by rw[Wx];exact q⟩
theorem yB (t:SetTable) (hd:t.dummies = #[]) (j:Nat):(t.put j).1.dummies = #[]/\(t.put j).1.mask=t.mask/\(t.put j).1.place.size=t.place.size + 1/\(t.put j).1.led=t.led/\(t.put j).1.plain=t.plain/\(t.put j).1.moves=t.moves/\(t.put j).1.finger=t.finger:=by
 unfold put
 dsimp only
 rw[hd,Dx]
 refine⟨rfl,rfl,?_,rfl,rfl,rfl,rfl⟩
 unfold insertAt
 simp only[Array.size_append,q0S,Array.size_extract]
 omega
theorem yC {α : Type} (xs:Array α) (p:Nat) (x : α):(insertAt xs p x).size=xs.size + 1:=by
 unfold insertAt
 simp only[Array.size_append,q0S,Array.size_extract]
 omega
end LJS
namespace LJS
open PySem PySem.SetTable PyProof.Rows
structure gA (t:SetTable) (es:Array (Int × Value)) (hs:List Int):Prop where
 lO:t.dummies = #[]
 lP:Mk t.mask
 iz:t.place.size=es.size
 num:es.size=hs.length
 jg:t.tooFull=false
 ins:∀ e∈es.toList,e.1∈hs
noncomputable def kM (h:Heap) (S:Addr) (hs:List Int):Prop:=∃ o es ep t,h.get? S=some o/\o.ExactSet/\o.data = .set es ep t/\gA t es hs
section
variable {t:SetTable} {es:Array (Int × Value)} {hs:List Int}
theorem gA.fill (T:gA t es hs):t.fill=es.size:=by
 unfold SetTable.fill
 rw[T.iz,T.lO];rfl
theorem gA.lt (T:gA t es hs):es.size * 5 < t.mask * 3:=by
 have:=T.jg
 unfold tooFull at this
 rw[T.fill] at this
 have:=YW this
 omega
theorem gA.fits (T:gA t es hs):t.fits es.size=true:=by
 have:=T.lt
 unfold SetTable.fits
 rw[T.fill,T.iz]
 simp
 omega
theorem gA.sI (T:gA t es hs):t.gaveWay=false:=by
 unfold SetTable.gaveWay
 rcases T.lP with h | h | h<;>rw[h]<;>rfl
end
theorem DG:sizeAbove (grown 5) - 1=31:=by decide +kernel
theorem DH:sizeAbove (grown 19) - 1=127:=by decide +kernel
section
variable {prog:Program} {w:World} {A:Around} {E:Value->Shared->Prop} {s:Shared}
end
end LJS
namespace LJS
open PySem PySem.SetTable
noncomputable def Up (xs:Array Nat):Prop:=xs.toList.Pairwise (· < ·)
theorem Up.lt {xs:Array Nat} (u:Up xs) {i k:Nat} (JD:i < k) (hk:k < xs.size):xs[i]'(by omega) < xs[k]:=by
 have:=YH.mp u i k (by rw[E8];omega) (by rw[E8];exact hk) JD
 simpa using this
theorem yD {xs:Array Nat} (u:Up xs) (j:Nat):∀ (fuel lo hi:Nat),hi <= xs.size->lo <= hi->hi - lo <= fuel->(∀ i,(h:i < xs.size)->i < lo->xs[i] < j)->(∀ i,(h:i < xs.size)->hi <= i->j <= xs[i]) →
  below.go xs j fuel lo hi <= xs.size/\(∀ i,(h:i < xs.size)->i < below.go xs j fuel lo hi->xs[i] < j)/\(∀ i,(h:i < xs.size)->below.go xs j fuel lo hi <= i->j <= xs[i])
 | 0,lo,hi,h1,h2,h3,a,b=>by
  have:lo=hi:=by omega
  subst this
  exact⟨h1,a,b⟩
 | fuel + 1,lo,hi,h1,h2,h3,a,b=>by
  unfold below.go
  by_cases c:lo < hi
  ·rw[VY c]
   have hm:(lo + hi) / 2 < xs.size:=by omega
   have em:xs.getD ((lo + hi) / 2) j=xs[(lo + hi) / 2]:=by rw[Xz,VX hm];rfl
   simp only[em]
   by_cases d:xs[(lo + hi) / 2] < j
   ·rw[VY d]
    refine yD u j fuel _ hi h1 (by omega) (by omega) (fun i bX hl => ?_) b
    by_cases e:i < (lo + hi) / 2
    ·exact q0G (u.lt e hm) d
    ·have:i=(lo + hi) / 2:=by omega
     subst this;exact d
   ·rw[MC d]
    refine yD u j fuel lo _ (by omega) (by omega) (by omega) a fun i bX hl => ?_
    by_cases e:(lo + hi) / 2 < i
    ·exact XR (Zo (ZN d) (u.lt e bX))
    ·have:i=(lo + hi) / 2:=by omega
     subst this;exact ZN d
  ·rw[MC c]
   have:lo=hi:=by omega
   subst this
   exact⟨h1,a,b⟩
theorem q_ {xs:Array Nat} (u:Up xs) (j:Nat):below xs j <= xs.size/\(∀ i,(h:i < xs.size)->i < below xs j->xs[i] < j)/\(∀ i,(h:i < xs.size)->below xs j <= i->j <= xs[i]) :=
 yD u j xs.size 0 xs.size (we _) (Xn _) (by omega) (fun i _ h=>by omega) (fun i h h'=>by omega)
theorem JH {xs:Array Nat} (u:Up xs) {i:Nat} (hi:i < xs.size):below xs (xs[i] + 1)=i + 1:=by
 obtain⟨h0,h1,h2⟩:=q_ u (xs[i] + 1)
 have a:i < below xs (xs[i] + 1):=by
  refine Nat.lt_of_not_le fun z => ?_
  have:=h2 i hi z
  omega
 have b:below xs (xs[i] + 1) <= i + 1:=by
  refine ZN fun z => ?_
  have hk:i + 1 < xs.size:=by omega
  have:=h1 (i + 1) hk z
  have:=u.lt (k:=i + 1) (XY i) hk
  omega
 omega
theorem JJ {xs:Array Nat} (u:Up xs):below xs 0=0:=by
 obtain⟨h0,h1,h2⟩:=q_ u 0
 refine Nat.eq_zero_of_not_pos fun z => ?_
 have:=h1 0 (by omega) z
 omega
theorem DI {t:SetTable} (u:Up t.place) {j:Nat} (hj:j∉t.place.toList):Up (t.put j).1.place:=by
 obtain⟨h0,h1,h2⟩:=q_ u j
 show Up (insertAt t.place (below t.place j) j)
 unfold Up insertAt
 generalize below t.place j=p at h0 h1 h2
 have eL:(((t.place.extract 0 p).push j) ++ t.place.extract p t.place.size).toList=t.place.toList.take p ++ ([j] ++ t.place.toList.drop p):=by
  simp only[Array.toList_append,YL,Array.toList_extract,q0j,Zu,q0H,X8]
  have e2:List.take (t.place.size - p) (List.drop p t.place.toList)=List.drop p t.place.toList:=Xj (by rw[Yp,E8];exact we _)
  rw[e2]
 rw[eL]
 have lo:∀ x∈t.place.toList.take p,x < j:=by
  intro x hx
  obtain⟨i,hi,e⟩:=W0.mp hx
  rw[WQ,E8] at hi
  rw[Zv] at e
  have:=h1 i (by omega) (by omega)
  rw[<-e];simpa using this
 have bX:∀ x∈t.place.toList.drop p,j < x:=by
  intro x hx
  obtain⟨i,hi,e⟩:=W0.mp hx
  rw[Yp,E8] at hi
  rw[List.getElem_drop] at e
  have:=h2 (p + i) (by omega) (by omega)
  have JK:j <= x:=by rw[<-e];simpa using this
  refine Nat.lt_of_le_of_ne JK fun z=>hj ?_
  rw[z];exact List.mem_of_mem_drop hx
 refine List.pairwise_append.mpr ⟨u.sublist (q0l _ _),?_,fun a ha b hb => ?_⟩
 ·exact Xs.mpr ⟨bX,u.sublist (List.drop_sublist _ _)⟩
 ·rcases MA.mp hb with rfl | hb
  ·exact lo a ha
  ·exact q0G (lo a ha) (bX b hb)
theorem JL (n:Nat) (f:Nat->Option Nat):(((List.range n).filterMap fun j=>(f j).map fun x=>(j,x)).map (·.1)).Pairwise (· < ·):=by
 rw[XS]
 refine List.Pairwise.filterMap _ (fun a a' cu b hb b' d8 => ?_) (Yk (n:=n))
 obtain⟨x,_,rfl⟩:=VV.mp hb
 obtain⟨y,_,rfl⟩:=VV.mp d8
 exact cu
theorem DJ (m:Nat) (owner:Array (Option Nat)):((iE m owner).map (·.1)).Pairwise (· < ·):=JL (m + 1) fun j=>owner.getD j none
theorem DK {α : Type} (next:Nat->Nat):∀ (fuel k:Nat) (left:List α) (out:Array α),left.length <= fuel->(pickOrder.go next fuel k left out).toList.Perm (out.toList ++ left)
 | 0,k,left,out,h=>by
  have:left=[]:=YR.mp (by omega)
  subst this
  rw[Yw]
  exact Yz _
 | fuel + 1,k,left,out,h=>by
  unfold pickOrder.go
  cases left with
  | nil=>simp
  | cons a l =>
   have cu:next k % (a :: l).length < (a :: l).length:=Nat.mod_lt _ (by rw[Mx];omega)
   rw[mM cu]
   refine (DK next fuel (k + 1) _ _ ?_).trans ?_
   ·rw[YA cu];omega
   ·rw[YL,X8]
    refine Y3 _ ?_
    generalize next k % (a :: l).length=j at cu
    exact (jC cu).symm
where
 jC {α : Type}:∀ {l:List α} {j:Nat} (h:j < l.length),List.Perm l (l[j] :: l.eraseIdx j)
  | [],_,h=>by simp at h
  | a :: l,0,_=>Yz _
  | a :: l,j + 1,h=>(List.Perm.cons a (jC (l:=l) (j:=j) (by simpa using h))).trans (List.Perm.swap _ _ _)
theorem JM {α : Type} (next:Nat->Nat) (xs:Array α):(pickOrder next xs).toList.Perm xs.toList:=by
 have:=DK next xs.size 0 xs.toList #[] (by rw[E8];exact we _)
 unfold pickOrder
 simpa using this
theorem vT {t:SetTable} {f:Nat->Int} {h:Int}:∀ {fuel:Nat} {p:Probe} {j:Nat} {d:Option Nat},probe.go t f h fuel p=some (.empty j d)->t.slot j = .empty
 | 0,_,_,_,e=>nomatch e
 | fuel + 1,p,j,d,e=>by
  rw[oZ] at e
  cases q:t.slot p.j with
  | empty =>
   rw[q] at e
   cases e
   exact q
  | dummy =>
   rw[q] at e
   exact vT e
  | live i =>
   rw[q] at e
   by_cases c:(f i == h)=true
   ·simp only[c,YM] at e;cases e
   ·simp only[c,XE] at e;exact vT e
theorem DL {t:SetTable} (u:Up t.place) {j:Nat} (e:t.slot j = .empty):j∉t.place.toList:=by
 intro hm
 obtain⟨i,hi,ei⟩:=W0.mp hm
 have bX:i < t.place.size:=by rw[<-E8];exact hi
 have yE:t.place[i]=j:=by simpa using ei
 obtain⟨h0,h1,h2⟩:=q_ u j
 have a:¬ i < below t.place j:=fun z=>by have:=h1 i bX z;omega
 have b:¬ below t.place j < i:=fun z=>by
  have:=h2 (below t.place j) (by omega) (we _)
  have:=u.lt z bX
  omega
 have eb:below t.place j=i:=by omega
 unfold slot at e
 rw[eb] at e
 have:(t.place[i]? == some j)=true:=by rw[VX bX,yE];simp
 simp only[this,YM] at e
 cases e
noncomputable def lQ (owner:Array (Option Nat)) (k:Nat):Prop:=(owner.toList.filterMap id).Perm (List.range k)
theorem yF:∀ {l:List (Option Nat)} {j k:Nat},l[j]? = some none->((l.set j (some k)).filterMap id).Perm (k :: l.filterMap id)
 | [],j,k,h=>by simp at h
 | x :: l,0,k,h=>by
  simp at h;subst h
  rw[Xb]
  show (k :: l.filterMap id).Perm (k :: l.filterMap id)
  exact Yz _
 | x :: l,j + 1,k,h=>by
  simp at h
  rw[Xc]
  cases x with
  | none =>
   show ((l.set j (some k)).filterMap id).Perm (k :: l.filterMap id)
   exact yF h
  | some y =>
   show (y :: (l.set j (some k)).filterMap id).Perm (k :: y :: l.filterMap id)
   exact (List.Perm.cons y (yF h)).trans (List.Perm.swap _ _ _)
theorem JN {owner:Array (Option Nat)} {j k:Nat} (P:lQ owner k) (h:owner.toList[j]? = some none):lQ (owner.setIfInBounds j (some k)) (k + 1):=by
 unfold lQ at P ⊢
 rw[Yj,Y0]
 exact (yF h).trans ((List.Perm.cons k P).trans (List.perm_append_singleton k _).symm)
theorem JO {m:Nat} {owner:Array (Option Nat)} {k:Nat} (hm:Mk m) (O:Ow m owner k) (Pm:lQ owner k) (hk:k <= m) (h:Int):∃ j,layClean.free m owner (turns m) (bits h % (m + 1)) (bits h)=some j/\Ow m (owner.setIfInBounds j (some k)) (k + 1)/\lQ (owner.setIfInBounds j (some k)) (k + 1):=by
 obtain⟨e,he,hn⟩:=DD O hk
 obtain⟨n,gu,en⟩:=reach hm (i:=bits h % (m + 1)) (yw h) he
 obtain⟨j,ej,hj⟩:=yy (m:=m) (owner:=owner) n (turns m) (bits h % (m + 1)) (bits h) (by unfold turns;omega) (by rw[en];exact hn)
 refine⟨j,ej,⟨by rw[q0t];exact O.size,?_,fun x hx => ?_⟩,JN Pm (getD_none hj)⟩
 ·rw[Yj,yz (getD_none hj),O.cnt]
 ·rw[Yj] at hx
  rcases q0i hx with h | h
  ·exact Xe (O.lt x h)
  ·cases h;exact XY _
theorem DM {m:Nat} (hm:Mk m):∀ (hs:List Int) (owner:Array (Option Nat)) (k:Nat),Ow m owner k->lQ owner k->k + hs.length <= m + 1 →
  ∃ aX,(hs.foldl (init:=some (owner,k)) fun acc h=>do
   let (owner,k) <- acc
   let j <- layClean.free m owner (turns m) (bits h % (m + 1)) (bits h)
   pure (owner.setIfInBounds j (some k),k + 1))=some (aX,k + hs.length)/\Ow m aX (k + hs.length)/\lQ aX (k + hs.length)
 | [],owner,k,O,Pm,_=>⟨owner,rfl,O,Pm⟩
 | h :: hs,owner,k,O,Pm,hl=>by
  rw[Mx] at hl ⊢
  obtain⟨j,ej,O',P'⟩:=JO hm O Pm (by omega) h
  obtain⟨o2,e2,O2,P2⟩:=DM hm hs _ (k + 1) O' P' (by omega)
  refine⟨o2,?_,by rw[show k + (hs.length + 1)=k + 1 + hs.length by omega];exact⟨O2,P2⟩⟩
  rw[Z0,show k + (hs.length + 1)=k + 1 + hs.length by omega,<-e2]
  congr 1
  show (do let j <- layClean.free m owner (turns m) (bits h % (m + 1)) (bits h);pure (owner.setIfInBounds j (some k),k + 1))=_
  rw[ej];rfl
theorem JP (m:Nat):lQ (Array.replicate (m + 1) none) 0:=by
 unfold lQ
 rw[Zt,List.filterMap_eq_nil_iff.mpr fun x hx=>by rw[Ze hx];rfl]
 exact Yz _
theorem DN {m:Nat} (hm:Mk m) (hs:Array Int) (hz:hs.size <= m + 1):∃ owner,layClean m hs=some owner/\Ow m owner hs.size/\lQ owner hs.size:=by
 obtain⟨o,e,O,Pm⟩:=DM hm hs.toList _ 0 (DE m) (JP m) (by rw[E8];omega)
 rw[Xi,E8] at O Pm
 refine⟨o,?_,O,Pm⟩
 unfold layClean
 rw[<-Array.foldl_toList,e];rfl
theorem DO {m:Nat} {owner:Array (Option Nat)} (hs:owner.size=m + 1):(iE m owner).map (·.2)=owner.toList.filterMap id:=by
 unfold iE
 rw[List.map_filterMap]
 have e:owner.toList=(List.range (m + 1)).map fun j=>owner.getD j none:=by
  refine Yt fun i => ?_
  rw[Wx,E7]
  by_cases hi:i < m + 1
  ·rw[Xg hi,Zk,VX (by rw[hs];exact hi),Xz,VX (by rw[hs];exact hi)];rfl
  ·rw[XZ (by rw[hs];omega),Xt (by rw[Xl];omega)];rfl
 rw[e,List.filterMap_map]
 congr 1
 funext j
 show Option.map (fun x:Nat × Nat=>x.2) (Option.map (fun x=>(j,x)) (owner.getD j none))=owner.getD j none
 cases owner.getD j none<;>rfl
theorem JQ {m:Nat} (hm:Mk m) (t:SetTable) (hs:Array Int) (wanted:Nat) (hw:sizeAbove wanted - 1=m) (hz:hs.size <= m + 1) :
  ∃ t' order,t.relaid hs wanted=some (t',order)/\t'.mask=m/\t'.dummies = #[]/\t'.place.size=hs.size/\t'.led=t.led/\t'.plain=t.plain/\Up t'.place/\order.toList.Perm (List.range hs.size):=by
 obtain⟨owner,e,O,Pm⟩:=DN hm hs hz
 refine⟨{ mask:=m,place:=((iE m owner).map (·.1)).toArray,dummies := #[],finger:=t.finger,led:=t.led,moves:=t.movedTo m,plain:=t.plain },((iE m owner).map (·.2)).toArray,?_,rfl,rfl,?_,rfl,rfl,?_,?_⟩
 ·unfold relaid laid
  rw[hw,e];rfl
 ·rw[zR,pU,yA O]
 ·unfold Up
  exact DJ m owner
 ·show ((iE m owner).map (·.2)).Perm _
  rw[DO O.size];exact Pm
theorem JR {order:Array Nat} {n:Nat} (h:order.toList.Perm (List.range n)):coversAll order n=true:=by
 unfold coversAll
 exact List.isPerm_iff.mpr h
end LJS
namespace LJS
open PySem PySem.SetTable PyProof.Rows
noncomputable def keyOf (e:Int × Value):Int:=match e.2 with
 | .int k _=>k
 | _=>0
structure cN (t:SetTable) (es:Array (Int × Value)) (led:Bool) (ks:List Int):Prop where
 lO:t.dummies = #[]
 lP:Mk t.mask
 iz:t.place.size=es.size
 jg:t.tooFull=false
 up:Up t.place
 sJ:t.plain=true
 yG:t.led=led
 o5:∀ e∈es.toList,∃ k tk,e=(hashInt k,Value.int k tk)
 keys:(es.toList.map keyOf).Perm ks
 ma:ks.Nodup
noncomputable def e_ (h:Heap) (S:Addr) (led:Bool) (ks:List Int):Prop:=∃ o es ep t,h.get? S=some o/\o.ExactSet/\o.data = .set es ep t/\cN t es led ks
section
variable {t:SetTable} {es:Array (Int × Value)} {led:Bool} {ks:List Int}
theorem cN.num (T:cN t es led ks):es.size=ks.length:=by rw[<-T.keys.length_eq,pU,E8]
theorem cN.fill (T:cN t es led ks):t.fill=es.size:=by unfold SetTable.fill;rw[T.iz,T.lO];rfl
theorem cN.lt (T:cN t es led ks):es.size * 5 < t.mask * 3:=by
 have:=T.jg
 unfold tooFull at this
 rw[T.fill] at this
 have:=YW this
 omega
theorem cN.fits (T:cN t es led ks):t.fits es.size=true:=by
 have:=T.lt
 unfold SetTable.fits
 rw[T.fill,T.iz]
 simp
 omega
theorem cN.elems {prog:Program} {w:World} (T:cN t es led ks):ElemsOf (intKind prog w) es.toList:=fun e he=>by
 obtain⟨k,tk,rfl⟩:=T.o5 e he
 exact⟨⟨k,Z8 ..,rfl⟩,rfl⟩
theorem cN.lay (T:cN t es led ks) (k:Int) (tk:Tok):∃ j,j∉t.place.toList/\layNew t es (hashInt k) (.int k tk)=(insertAt es (t.put j).2 (hashInt k,.int k tk),(t.put j).1,false,false):=by
 have lt:=T.lt
 obtain⟨j,ej⟩:=DC (t:=t) (f:=fun _=>hashInt k + 1) (h:=hashInt k) T.lO T.lP (by rw[T.iz];omega) (fun i _ z=>by omega)
 have hs:t.slot j = .empty:=vT ej
 obtain⟨p1,p2,p3,_⟩:=yB t T.lO j
 refine⟨j,DL T.up hs,?_⟩
 have ff:(t.put j).1.fits (insertAt es (t.put j).2 (hashInt k,Value.int k tk)).size=true:=by
  unfold SetTable.fits SetTable.fill
  rw[p1,p2,p3,yC,T.iz]
  simp
  omega
 unfold layNew freeSlot
 rw[ej]
 show (insertAt es (t.put j).2 (hashInt k,Value.int k tk),(t.put j).1.orStandIn (insertAt es (t.put j).2 (hashInt k,Value.int k tk)).size,false,!(t.put j).1.fits (insertAt es (t.put j).2 (hashInt k,Value.int k tk)).size)=_
 unfold SetTable.orStandIn
 rw[ff,VY rfl];rfl
end
section
variable {prog:Program} {w:World} {A:Around} {E:Value->Shared->Prop} {s:Shared}
theorem add_int {S:Addr} {k:Int} {tk:Tok} {led:Bool} {ks:List Int} {Q:Bool->Shared->Prop} (hS:e_ s.heap S led ks) (hl:ks.length < 60)
  (fin:∀ (b:Bool) h',Heap.SameBut S s.heap h'->e_ h' S led (if k∈ks then ks else ks ++ [k])->Q b { s with heap:=h' }):wpAny (model prog w) A (setAddHashed S (.int k tk) (hashInt k)) Q E s:=by
 obtain⟨o,es,ep,t,ho,hex,hd,T⟩:=hS
 have hb:es.size < scanBound:=by rw[T.num];unfold scanBound;omega
 have el:=T.elems (prog:=prog) (w:=w)
 unfold setAddHashed
 refine W9 ?_
 show wpAny _ _ (setAddHashedIn S (.int k tk) (hashInt k) (99999 + 1)) _ _ _
 unfold setAddHashedIn
 refine pT (XT ho hd T.fits ?_)
 dsimp only
 rw[byScan_of (knd:=intKind prog w) rfl hb el]
 simp only[↓reduceIte]
 unfold setAddByScan
 refine pT ?_
 refine pT (q0I ?_)
 refine pT (wpAny_setScan_of (knd:=intKind prog w) (k:=k) (Z8 ..) ho hd T.fits el ?_)
 have DP:∀ e∈es.toList,(intKind prog w).is k e.2=decide (k=keyOf e):=fun e he=>by
  obtain⟨k',rh,rfl⟩:=T.o5 e he
  exact KeyKind.is_eq_decide (Z8 ..) k
 cases hr:es.toList.findIdx? (fun e=>(intKind prog w).is k e.2) with
 | some j =>
  obtain⟨hj,DQ,_⟩:=List.findIdx?_eq_some_iff_getElem.mp hr
  have hm:es.toList[j]∈es.toList:=X0 hj
  rw[DP _ hm] at DQ
  have hk:k∈ks:=T.keys.mem_iff.mp (by rw[XD DQ];exact Wt.mpr ⟨_,hm,rfl⟩)
  dsimp only
  refine wg (wg ?_)
  have e:s={ s with heap:=s.heap }:=by cases s;rfl
  rw[e]
  exact fin false s.heap (Heap.SameBut.refl S s.heap) (by rw[VY hk];exact⟨o,es,ep,t,ho,hex,hd,T⟩)
 | none =>
  have hk:k∉ks:=fun z=>by
   obtain⟨e,he,ek⟩:=Wt.mp (T.keys.mem_iff.mpr z)
   have:=List.findIdx?_eq_none_iff.mp hr e he
   rw[DP e he,<-ek,WC rfl] at this
   cases this
  dsimp only
  obtain⟨j,nj,ej⟩:=T.lay k tk
  rw[ej]
  rw[MC hk] at fin
  obtain⟨p1,p2,p3,p4,p5,p6,p7⟩:=yB t T.lO j
  have up1:=DI T.up nj
  have hX:=yC es (t.put j).2 (hashInt k,Value.int k tk)
  have nM:(insertAt es (t.put j).2 (hashInt k,Value.int k tk)).toList.Perm (es.toList ++ [(hashInt k,Value.int k tk)]):=by
   have:=Zw es (t.put j).2 (hashInt k,Value.int k tk)
   rw[YL] at this
   exact this
  have lt:=T.lt
  have JU:es.size < 60:=by rw[T.num];exact hl
  generalize (t.put j).1=t2 at p1 p2 p3 p4 p5 up1 ⊢
  generalize insertAt es (t.put j).2 (hashInt k,Value.int k tk)=bU at hX nM ⊢
  have ints2:∀ e∈bU.toList,∃ k tk,e=(hashInt k,Value.int k tk):=fun e he=>by
   rcases Xa.mp (nM.mem_iff.mp he) with q | q
   ·exact T.o5 e q
   ·exact⟨k,tk,Wr.mp q⟩
  have nN:(bU.toList.map keyOf).Perm (ks ++ [k]):=by
   refine (nM.map keyOf).trans ?_
   rw[WK]
   exact List.Perm.append_right _ T.keys
  have kN:(ks ++ [k]).Nodup:=Xr.mpr ⟨T.ma,by simp,fun a ha b hb z=>hk (by rw[<-Wr.mp hb,<-z];exact ha)⟩
  have yH:t2.place.size=bU.size:=by rw[p3,T.iz,hX]
  have fl:t2.fill=es.size + 1:=by unfold SetTable.fill;rw[p1,p3,T.iz];rfl
  have nP:t2.fits bU.size=true:=by
   unfold SetTable.fits
   rw[fl,p3,hX,p2,T.iz]
   simp
   rcases T.lP with e | e | e<;>rw[e] at lt ⊢ <;> omega
  refine pT (wg ?_)
  dsimp only
  rw[p5,T.sJ,VY rfl]
  refine pT ?_
  rw[hashByValue_scannable 8 rfl]
  refine wg ?_
  rw[VY (show plainKind (Value.int k tk)=true from rfl)]
  refine pT (Zx ho hd ?_ (by rw[hX,Xx];omega))
  have f_:(s.heap.update S (Obj.putSet bU t2)).get? S=some { o with data := .set bU (ep + 1) t2 }:=by
   have:=Xu (Obj.putSet bU t2) ho (by rw[ZO bU t2 hd];rfl)
   rw[ZO bU t2 hd] at this;exact this
  by_cases tf:t2.tooFull=true
  ·rw[VY (by rw[tf];rfl)]
   have o6:t.mask * 3 <= (es.size + 1) * 5:=by
    unfold tooFull at tf
    rw[fl,p2] at tf
    have:=XD tf
    omega
   obtain⟨m,hm,hw,hsz⟩:∃ m,Mk m/\sizeAbove (grown bU.size) - 1=m/\(es.size + 1) * 5 < m * 3:=by
    rw[hX]
    rcases T.lP with e | e | e
    ·rw[e] at lt o6
     have:es.size + 1=5:=by omega
     rw[this]
     exact⟨31,.inr (.inl rfl),DG,by omega⟩
    ·rw[e] at lt o6
     have:es.size + 1=19:=by omega
     rw[this]
     exact⟨127,.inr (.inr rfl),DH,by omega⟩
    ·rw[e] at o6;omega
   obtain⟨t3,order,er,r1,r2,r3,r4,r5,r6,r7⟩:=JQ hm t2 (bU.map (·.1)) (grown bU.size) hw (by rw[Zy,hX];omega)
   rw[Zy] at r3 r7
   have sL:=relayAll_perm t2 bU (grown bU.size)
   have e3:relayAll t2 bU (grown bU.size)=(order.filterMap (bU[·]?),t3,false):=by
    have JV:(order.filterMap (bU[·]?)).size=bU.size:=by
     have:=DF (es:=bU) (order:=order) fun x hx=>WJ.mp (r7.mem_iff.mp hx)
     rw[this.1,<-E8,r7.length_eq,Xl]
    have ff:t3.fits (order.filterMap (bU[·]?)).size=true:=by
     unfold SetTable.fits SetTable.fill
     rw[JV,r2,r3,r1,hX]
     simp
     omega
    unfold relayAll
    rw[er]
    show (if (coversAll order bU.size && t3.fits (order.filterMap (bU[·]?)).size)=true then _ else _)=_
    rw[JR r7,ff];rfl
   rw[e3] at sL ⊢
   refine pT (wg ?_)
   dsimp only
   generalize order.filterMap (bU[·]?)=vU at sL ⊢
   have DR:vU.size=bU.size:=by rw[<-E8,sL.length_eq,E8]
   refine pT (Zx f_ rfl ?_ (by rw[DR,hX,Xx];omega))
   have fI:((s.heap.update S (Obj.putSet bU t2)).update S (Obj.putSet vU t3)).get? S=some { o with data := .set vU (ep + 1 + 1) t3 }:=by
    have:=Xu (Obj.putSet vU t3) f_ (by rw[ZO _ t3 rfl];rfl)
    rw[ZO _ t3 rfl] at this;exact this
   refine wg (wg (fin true _ ((W7 ..).trans (W7 ..)) ⟨_,_,_,_,fI,hex,rfl,r2,by rw[r1];exact hm,by rw[r3,DR],?_,r6,by rw[r5,p5];exact T.sJ,by rw[r4,p4];exact T.yG,fun e he=>ints2 e (sL.mem_iff.mp he),(sL.map keyOf).trans nN,kN⟩))
   unfold tooFull SetTable.fill
   rw[r2,r3,r1,hX]
   simp
   omega
  ·have sM:t2.tooFull=false:=by cases q:t2.tooFull<;>simp_all
   rw[MC (by rw[sM];decide)]
   refine wg (wg (fin true _ (W7 ..) ⟨_,_,_,_,f_,hex,rfl,p1,by rw[p2];exact T.lP,yH,sM,up1,by rw[p5];exact T.sJ,by rw[p4];exact T.yG,ints2,nN,kN⟩))
theorem DS {ks:List Int}:∀ {vs:List Value},ItemsAre (intKind prog w) ks vs->∀ v∈vs,∃ i t,v = .int i t:=by
 induction ks with
 | nil=>intro vs h v hv;cases h;cases hv
 | cons k ks ih =>
  intro vs h v hv
  cases h with
  | cons h1 h2 =>
   rcases MA.mp hv with rfl | hv
   ·obtain⟨t,e⟩:=Value.isInt_shape (k:=k) (v:=v) (by first | exact h1 | simpa [intKind] using h1)
    exact⟨_,_,e⟩
   ·exact ih h2 v hv
theorem JX {ks:List Int} {a:Addr} {Q:Bool->Shared->Prop} (hk:IsTupleKey (intKind prog w) s.heap ks a) (h:∀ b,Q b s):wpAny (model prog w) A (hashByValue 8 (.ref a)) Q E s:=by
 have hT:=hk.typeIs
 obtain⟨o,ak,n,ho,_,hd,hi⟩:=hk
 show wpAny _ _ (hashByValue (7 + 1) (.ref a)) _ _ _
 unfold hashByValue
 refine pT (wpAny_specialOf hT F.slot_tuple_hash.lookup ?_)
 show wpAny _ _ (seqItems? (.ref a) >>= _) _ _ s
 refine pT (Z9 ho hd ?_)
 refine pT ?_
 show wpAny _ _ (forIn ak _ _) _ _ s
 rw[<-Zp]
 refine ZP _ (fun rest _ s'=>s'=s/\∀ v∈rest,∃ i t,v=Value.int i t) _ ?_ ?_ _ _ ⟨rfl,DS hi⟩
 ·rintro v rest r s' ⟨rfl,gB⟩
  obtain⟨i,t,rfl⟩:=gB v E6
  have e:hashByValue 7 (.int i t)=pure true:=by unfold hashByValue;rfl
  rw[e]
  refine pT (wg ?_)
  simp only[YO,WD,XE]
  exact wg ⟨rfl,fun u hu=>gB u (E9 _ hu)⟩
 ·rintro ⟨r1,r2⟩ s' ⟨rfl,_⟩
  cases r1 with
  | none=>exact wg (h _)
  | some b=>exact wg (h _)
theorem yI {h h':Heap} {ks:List Int} {a:Addr} (x:IsTupleKey (intKind prog w) h ks a) (k:∀ o,h.get? a=some o->h'.get? a=some o):IsTupleKey (intKind prog w) h' ks a:=by
 obtain⟨o,ak,n,ho,r⟩:=x
 exact⟨o,ak,n,k o ho,r⟩
noncomputable abbrev hT (prog:Program) (w:World) (ks:List Int):Int:=tupleKeyHash (intKind prog w) ks
theorem JY {h h':Heap} {S:Addr} {hs:List Int} (x:kM h S hs) (k:∀ o,h.get? S=some o->h'.get? S=some o):kM h' S hs:=by
 obtain⟨o,es,ep,t,ho,r⟩:=x
 exact⟨o,es,ep,t,k o ho,r⟩
end
section
variable {prog:Program} {w:World} {A:Around} {R:Result->Shared->Prop} {I S:Addr} {fp wr:List Addr} {G:Array GenState->Array GenState->Prop} {n:Nat} {P:Nat->Value->Prop} {St:Nat->Shared->Prop}
end
theorem yJ {h h':Heap} {S:Addr} {led:Bool} {ks:List Int} (x:e_ h S led ks) (k:∀ o,h.get? S=some o->h'.get? S=some o):e_ h' S led ks:=by
 obtain⟨o,es,ep,t,ho,r⟩:=x
 exact⟨o,es,ep,t,k o ho,r⟩
noncomputable def once (ks:List Int) (n:Int):List Int:=if n∈ks then ks else ks ++ [n]
noncomputable def nQ (ns:List Int):Nat->List Int
 | 0=>[]
 | i + 1=>once (nQ ns i) (ns.getD i 0)
theorem yK (ns:List Int):∀ i,(nQ ns i).length <= i
 | 0=>we _
 | i + 1=>by
  have:=yK ns i
  show (once (nQ ns i) (ns.getD i 0)).length <= i + 1
  unfold once
  split
  ·omega
  ·rw[My,W6];omega
section
variable {prog:Program} {w:World} {A:Around} {R:Result->Shared->Prop} {I S:Addr} {fp wr:List Addr} {G:Array GenState->Array GenState->Prop} {n:Nat} {P:Nat->Value->Prop} {St:Nat->Shared->Prop}
theorem JZ (W:WalksS prog w A.in1 I fp wr G n P St) (out:S∉fp) {led:Bool} (ns:List Int) (isInt:∀ i v,P i v->∃ t,v = .int (ns.getD i 0) t) (kj:n <= 40) :
  ∀ (left i:Nat) (s:Shared),i + left=n->St i s->e_ s.heap S led (nQ ns i)->(∀ s',Moved (S :: wr) G s s'->e_ s'.heap S led (nQ ns n)->R (.ok (.ret .none)) s') →
   codeAny (model prog w) A (.builtin "set.update.loop" ⟨[.ref S,.ref I],[]⟩) R s:=by
 have kO:S∉wr:=fun z=>out (W.sub _ z)
 have more:∀ b,b∈wr->b∈S :: wr:=fun b hb=>E9 _ hb
 intro left
 induction left with
 | zero =>
  intro i s hi st se fin
  obtain rfl:i=n:=by omega
  refine XC YS ?_
  rw[Xo Yg _]
  show wpAny _ A.in1 (pyNext (.ref I) >>= _) _ _ s
  refine pT (W.done s _ _ st fun s' mv => ?_)
  show wpAny _ A.in1 (ret Value.none) _ _ s'
  exact wg (fin s' (mv.mono more) (yJ se fun o e=>mv.heap S o kO e))
 | succ left ih =>
  intro i s hi st se fin
  have cu:i < n:=by omega
  refine XC YS ?_
  rw[Xo Yg _]
  show wpAny _ A.in1 (pyNext (.ref I) >>= _) _ _ s
  refine pT (W.item i s _ _ cu st fun v s1 hP me mv => ?_)
  obtain⟨t,rfl⟩:=isInt i v hP
  show wpAny _ A.in1 (holding [Value.int (ns.getD i 0) t] (setAdd S (.int (ns.getD i 0) t)) >>= _) _ _ s1
  refine pT (W9 ?_)
  unfold setAdd
  refine W9 (pT ((intKind prog w).pyHash (k:=ns.getD i 0) (Z8 _ _ _ _) ?_))
  have hlen:=yK ns i
  refine add_int (s:={ s1 with toks:=s1.toks + 1 }) (yJ se fun o e=>mv.heap S o kO e) (by omega) fun b h2 sb yL => ?_
  have nS:∀ b,b∈fp->b≠S:=fun b hb z=>out (by rw[<-z];exact hb)
  refine wg ⟨Yx Yg _,ih (i + 1) _ (by omega) (W.frame _ s1 _ _ me (ZQ _ _) fun b hb o e=>by rw[sb.2 b (nS b hb)];exact e) yL fun s3 yM yN => ?_⟩
  refine fin s3 (Moved.trans W.gtrans ((mv.mono more).then_heap (ZQ _ _) fun b o hb e => ?_) yM) yN
  rw[sb.2 b (fun z=>hb (by rw[z];exact E6))];exact e
end
noncomputable abbrev cO (led:Bool):Obj:={ cls := .type "set",dict:=none,data := .set #[] 0 (.fresh 0 0 led) }
section
variable {prog:Program} {w:World} {A:Around} {E:Value->Shared->Prop} {s:Shared}
end
noncomputable abbrev iF (w:World):Bool := !w.params.followText "set-order"
theorem J0 {h:Heap} {S:Addr} {led:Bool} (e:h.get? S=some (cO led)):e_ h S led [] :=
 ⟨_,#[],0,_,e,⟨rfl,rfl,rfl⟩,rfl,rfl,.inl rfl,rfl,by cases led<;>decide,List.Pairwise.nil,rfl,rfl,(fun _ h=>nomatch h),Yz _,YB⟩
section
variable {prog:Program} {w:World} {A:Around} {E:Value->Shared->Prop} {s:Shared}
theorem J5 (a:Value) {Q₁ : Value->Shared->Prop} (h:Q₁ (.ref s.heap.objs.size) { s with heap:=s.heap.push (cO (iF w)) }) :
  codeAny (model prog w) A (.call (.builtin "set.__new__") ⟨[.type "set",a],[]⟩) (wants Q₁ E) s:=by
 refine codeAny_of_tree ?_
 show wpAny _ A.in1 (checkBuiltinCall "set.__new__" ⟨[.type "set",a],[]⟩ >>= fun _=>again (.builtin "set.__new__" ⟨[.type "set",a],[]⟩)) _ _ s
 refine pT (wpAny_of_eq (F.newCall_set_1 a) (wg ⟨Yx F.plain_set_new _,?_⟩))
 refine XC F.entry_set_new ?_
 rw[Xo F.plain_set_new _]
 have x1:=sub_set_self
 unfold Builtin.«set.__new__» Builtin.Frozenset.newClass newSet setsByText
 obtain⟨hp,g,d,tk,os⟩:=s
 dsimp only
 wp_walk
 refine Y8 (wg ?_)
 dsimp only
 simp only[newObj]
 exact pT (wpAny_alloc (wg (wg h)))
set_option maxHeartbeats 3200000 in
theorem J6 {l:Addr} {items:Array Value} {Q:Value->Shared->Prop} (ns:List Int) (hh:A.handled=none) (sN:s.heap.IsList l items) (isInt:∀ (i:Nat) (v:Value),items[i]? = some v->∃ t,v = .int (ns.getD i 0) t) (DT:items.size <= 40)
  (fin:∀ (h':Heap) (tk:Nat),e_ h' s.heap.objs.size (iF w) (nQ ns items.size)->(∀ b o,b < s.heap.objs.size->s.heap.get? b=some o->h'.get? b=some o)->Q (.ref s.heap.objs.size) { s with heap:=h',toks:=tk }) :
  wpAny (model prog w) A (call (.type "set") [.ref l]) Q E s:=by
 obtain⟨c,tl,yO⟩:=XH.mro
 have m1:=XH.made
 have m2:=XH.sub
 have m3:=XH.notType
 have m4:=XH.canCreate
 have m5:=F.typeCall_set_1 (.ref l)
 refine wpAny_call (codeAny_of_tree ?_)
 show wpAny _ _ (callAny (.type "set") _) _ _ _
 refine wg ⟨Code.quiet_builtin _ (by decide +kernel),XC F.entry_type_call ?_⟩
 rw[Around.under_plain (weight_type_call_type "set" [.ref l] []) rfl]
 repeat (any_goals (first | assumption | wp_step))
 refine Y9 (J5 (.ref l) (E:=E) (Q₁ := fun r s1=>r = .ref s.heap.objs.size/\s1={ s with heap:=s.heap.push (cO (iF w)) }) ⟨rfl,rfl⟩) fun r s1 hr => ?_
 cases r with
 | error e=>exact hr
 | ok fl =>
  cases fl with
  | ret obj =>
   obtain⟨rfl,rfl⟩:=hr
   generalize J7:iF w=led at fin ⊢
   have gS:(s.heap.push (cO led)).get? s.heap.objs.size=some (cO led):=VW _ rfl
   have tS:Shared.TypeIs { s with heap:=s.heap.push (cO led) } (.ref s.heap.objs.size) "set" := ⟨_,gS,rfl⟩
   have m6:=XH.init.lookup
   have m7:=XH.init.bind (.ref s.heap.objs.size)
   repeat (any_goals (first | assumption | wp_step))
   refine Y9 (codeAny_call_builtin (R:=wants (fun r s2=>r = .none/\∃ h' tk,s2={ s with heap:=h',toks:=tk }/\e_ h' s.heap.objs.size led (nQ ns items.size) ∧
     ∀ b o,b < s.heap.objs.size->s.heap.get? b=some o->h'.get? b=some o) E) XH.init.plain F.entry_set_init (check_set_init_1 tS ?_)) fun r2 s2 kP => ?_
   ·obtain⟨ol,gl,cl,nl,dl⟩:=sN
    obtain⟨c0,d0,J8,yP⟩:=ol
    simp only at cl dl
    subst cl
    subst dl
    have yQ:(s.heap.push (cO led)).get? l=some { cls := .type "list",dict:=d0,data := .seq items nl,slots:=yP }:=tP _ gl
    have x1:=F.sub_list_set
    have x2:=F.sub_list_frozenset
    have x3:(Value.type "list" == Value.type "dict")=false:=by decide
    have kQ:(s.heap.push (cO led)).IsList l items:=⟨_,yQ,rfl,nl,rfl⟩
    have ll:l < s.heap.objs.size:=Mz gl
    unfold Builtin.«set.__init__» noKeywords Builtin.Frozenset.updateFrom
    generalize yR:pyIter=PI
    wp_walk
    subst yR
    refine Yu kQ (pT (Z_ ?_))
    have h3:A.in1.in1.in1.handled=none:=by simp[hh]
    have ez:(s.heap.push (cO led)).objs.size=s.heap.objs.size + 1:=X_ ..
    have nI:l≠(s.heap.push (cO led)).objs.size:=by rw[ez];exact VZ (Xe ll)
    refine JZ ((q0a h3 _ l nI items).toS) (S:=s.heap.objs.size) ?out (led:=led) ns (fun i v hv=>isInt i v hv) DT items.size 0 _ (Xi _)
     ⟨⟨_,VW _ rfl,rfl,rfl⟩,kQ.push _⟩ ?fresh ?fin
    case out =>
     simp only[MA,WV,YC,not_or,ez]
     exact⟨VZ (XY _),Ys ll⟩
    case fresh =>
     exact J0 (led:=led) (tP _ gS)
    case fin =>
     intro s' mv se
     obtain⟨h',g',d',rh,sO⟩:=s'
     obtain rfl:g'=s.gens:=mv.gens
     obtain rfl:d'=s.drawn:=mv.drawn
     obtain rfl:sO=s.os:=mv.os
     show wpAny _ _ _ _ _ _
     refine wg ?_
     show wpAny _ _ (ret Value.none) _ _ _
     refine wg ⟨rfl,h',rh,rfl,se,fun b o hb e => ?_⟩
     refine mv.heap b o ?_ (tP _ (tP _ e))
     simp only[MA,WV,YC,not_or,ez]
     exact⟨VZ hb,VZ (Xe hb)⟩
   ·cases r2 with
    | error e=>exact kP
    | ok yS =>
     cases yS with
     | ret r =>
      obtain⟨rfl,h',rh,rfl,se,kp⟩:=kP
      repeat (any_goals (first | assumption | wp_step))
      exact fin _ _ se kp
     | next=>exact kP
     | brk=>exact kP
     | cont=>exact kP
  | next=>exact hr
  | brk=>exact hr
  | cont=>exact hr
end
theorem aO:Slot "set_iterator" "__next__" "set_iterator.__next__" :=
 .of (owner := "set_iterator") (n := "__next__") (by rw[typeLookup_type,builtinLookup_eq_fast];kernel_rfl) (by decide +kernel) (by decide +kernel) (by decide +kernel)
  (by first | exact .inl (by decide +kernel) | exact .inr (by decide +kernel)) (by rw[isSubtype_type];kernel_rfl)
theorem DU:Slot "set_iterator" "__iter__" "set_iterator.__iter__" :=
 .of (owner := "set_iterator") (n := "__iter__") (by rw[typeLookup_type,builtinLookup_eq_fast];kernel_rfl) (by decide +kernel) (by decide +kernel) (by decide +kernel)
  (by first | exact .inl (by decide +kernel) | exact .inr (by decide +kernel)) (by rw[isSubtype_type];kernel_rfl)
theorem DW:entryFor table "set_iterator.__next__" = some Builtin.«set_iterator.__next__» := entryFor_of_fast (by kernel_rfl)
theorem J9:entryFor table "set_iterator.__iter__" = some Builtin.«dict_keyiterator.__iter__» :=
 entryFor_alias (id' := "dict_keyiterator.__iter__") (by kernel_rfl) rfl (by decide +kernel) (by kernel_rfl)
theorem J_:entryFor table "set.__iter__" = some Builtin.«frozenset.__iter__» :=
 entryFor_alias (id' := "frozenset.__iter__") (by kernel_rfl) rfl (by decide +kernel) (by kernel_rfl)
theorem DX (a:Value):argsOk "set_iterator.__next__" ⟨[a],[]⟩:=by unfold argsOk;kernel_rfl
theorem Ka (a:Value):argsOk "set_iterator.__iter__" ⟨[a],[]⟩:=by unfold argsOk;kernel_rfl
noncomputable def b9 (h:Heap) (I S:Addr) (first:Value) (i n ep:Nat):Prop:=∃ o,h.get? I=some o/\o.cls = .type "set_iterator" /\ o.data = .fields #[first,.int i 0,.ref S,.int n 0,.int ep 0]
theorem b9.typeIs {s:Shared} {I S:Addr} {f:Value} {i n ep:Nat} (x:b9 s.heap I S f i n ep):s.TypeIs (.ref I) "set_iterator" := let ⟨o,ho,hc,_⟩:=x; ⟨o,ho,hc⟩
theorem b9.at {h h':Heap} {I S:Addr} {f:Value} {i n ep:Nat} (x:b9 h I S f i n ep) (e:∀ o,h.get? I=some o->h'.get? I=some o):b9 h' I S f i n ep:=let ⟨o,ho,r⟩:=x; ⟨o,e _ ho,r⟩
noncomputable def iA (w:World) (S:Addr) (ep:Nat) (es:Array (Int × Value)):Array (Int × Value):=if w.params.followText "set-order" = true then pickOrder (w.params.setOrder S ep) es else es
theorem yT (w:World) (S:Addr) (ep:Nat) (es:Array (Int × Value)):(iA w S ep es).toList.Perm es.toList:=by
 unfold iA
 split
 ·exact JM _ _
 ·exact Yz _
theorem vV (w:World) (S:Addr) (ep:Nat) (es:Array (Int × Value)):(iA w S ep es).size=es.size:=by
 have:=(yT w S ep es).length_eq
 simpa using this
noncomputable def slotAt (t:SetTable) (i:Nat):Nat:=if i=0 then 0 else t.place.getD (i - 1) 0 + 1
structure yU (w:World) (I S:Addr) (o:Obj) (es:Array (Int × Value)) (ep:Nat) (t:SetTable) (i:Nat) (h:Heap):Prop where
 set:h.get? S=some o
 it:∃ slot:Nat,b9 h I S (.int slot 0) i es.size ep/\(w.params.followText "set-order" = false->slot=slotAt t i)
section
variable {prog:Program} {w:World} {A:Around} {I S:Addr} {o:Obj} {es:Array (Int × Value)} {ep:Nat} {t:SetTable} {ks:List Int}
theorem Kb (T:cN t es (iF w) ks) {i:Nat} (hi:i <= es.size):below t.place (slotAt t i)=i:=by
 unfold slotAt
 split
 ·rename_i h;subst h;exact JJ T.up
 ·rename_i h
  have hl:i - 1 < t.place.size:=by rw[T.iz];omega
  have e:t.place.getD (i - 1) 0=t.place[i - 1]:=by simp[Array.getD,hl]
  rw[e,JH T.up hl];omega
theorem DY {E:Value->Shared->Prop} {s:Shared} {Q:Option (Value × Nat)->Shared->Prop} (ho:s.heap.get? S=some o) (hd:o.data = .set es ep t) (T:cN t es (iF w) ks) {slot i:Nat} (hi:i <= es.size) (hs:w.params.followText "set-order" = false->slot=slotAt t i)
  (k:∀ o7:Nat,(w.params.followText "set-order" = false->i < es.size->o7=slotAt t (i + 1))->Q (((iA w S ep es)[i]?).map fun e=>(e.2,o7)) s):wpAny (model prog w) A (setNext S slot i ep) Q E s:=by
 unfold setNext
 refine pT (XT ho hd T.fits ?_)
 dsimp only
 refine pT ?_
 unfold setsByText
 refine pT (Y8 (wg ?_))
 dsimp only
 have mw:(model prog w).w=w:=rfl
 cases q:w.params.followText "set-order" with
 | true =>
  rw[mw,q]
  simp only[q0m,WD,XE,YM]
  refine pT ?_
  unfold setWalk
  refine pT (XT ho hd T.fits ?_)
  dsimp only
  refine pT ?_
  unfold setsByText
  refine pT (Y8 (wg ?_))
  dsimp only
  rw[mw,q,VY rfl]
  refine pT (Y8 (wg ?_))
  refine wg ?_
  have:=k slot fun z=>by rw[q] at z;cases z
  unfold iA at this
  rw[VY q] at this
  exact this
 | false =>
  rw[mw,q,MC (by decide)]
  have yV:=hs q
  subst yV
  have hb:=Kb T hi
  rw[hb]
  refine YK (fun h=>absurd (show (!t.plain && decide (es.size > 1))=true from h) (by rw[T.sJ];simp)) (fun _ => ?_)
  refine pT ?_
  refine YK (c:=(!t.led && !es.isEmpty)=true) (fun h=>absurd h (by rw[T.yG];unfold iF;rw[q];simp)) (fun _ => ?_)
  refine wg (wg ?_)
  have hk:=k (slotAt t (i + 1)) fun _ _=>rfl
  unfold iA at hk
  rw[MC (by rw[q];decide)] at hk
  by_cases hl:i < es.size
  ·have hp:i < t.place.size:=by rw[T.iz];exact hl
   rw[VX hl] at hk
   rw[VX hl,VX hp]
   have e:slotAt t (i + 1)=t.place[i] + 1:=by
    unfold slotAt
    rw[MC (by omega),Nat.add_sub_cancel]
    simp[Array.getD,hp]
   rw[e] at hk
   exact hk
  ·rw[XZ (by omega)] at hk
   rw[XZ (by omega)]
   exact hk
theorem DZ {E:Value->Shared->Prop} {s:Shared} {a:Addr} {ob:Obj} {vs:Array Value} {Q:Array Value->Shared->Prop} (ho:s.heap.get? a=some ob) (hd:ob.data = .fields vs) (h:Q vs s):wpAny (model prog w) A (fieldsOf (.ref a)) Q E s:=by
 unfold fieldsOf
 refine pT (wpAny_load ho ?_)
 rw[hd];exact wg h
theorem Kc (hh:A.handled=none) (gR:S≠I) (hex:o.ExactSet) (hd:o.data = .set es ep t) (T:cN t es (iF w) ks) :
  Walks prog w A I [I,S] [I] es.size (fun i v=>∃ e,(iA w S ep es)[i]? = some e/\v=e.2) (yU w I S o es ep t) where
 sub:=fun b hb=>by simp at hb;simp[hb]
 frame:=fun i h h' st hk=>⟨hk S (by simp) _ st.set,let ⟨slot,x,y⟩:=st.it; ⟨slot,x.at fun o e=>hk I (by simp) o e,y⟩⟩
 item:=fun i s Q E hi st hQ=>by
  obtain⟨slot,hit,hs⟩:=st.it
  obtain⟨oi,rm,hc,o8⟩:=id hit
  unfold pyNext
  refine pT (wpAny_attempt (Yh (name:=Str.ofString "__next__") hit.typeIs aO
   (X1 aO hit.typeIs DW ?_ (DX _))))
  unfold Builtin.«set_iterator.__next__»
  refine pT (m:=slotArgs _ _ _) (wg ?_)
  refine pT (DZ rm o8 ?_)
  dsimp only
  refine pT (Z5 st.set hd T.fits ?_)
  rw[MC (by simp)]
  refine pT (DY st.set hd T (slot:=slot) (i:=i) (by omega) hs fun o7 hn => ?_)
  have ei:(iA w S ep es)[i]? = some ((iA w S ep es)[i]'(by rw[vV];exact hi)):=VX _
  rw[ei]
  dsimp only [Option.map]
  refine pT (Zz rm o8 (by simp) ?_)
  have f_:=Xu (Obj.mapFields (·.setIfInBounds 0 (rawInt o7))) rm (ZI (YD o8 _))
  have yW:=YD o8 (·.setIfInBounds 0 (rawInt (o7:Int)))
  refine pT (Zz f_ yW (by simp) ?_)
  have fI:=Xu (Obj.mapFields (·.setIfInBounds 1 (rawInt ((i:Int) + 1)))) f_ (ZI (YD yW _))
  have hd2:=YD yW (·.setIfInBounds 1 (rawInt ((i:Int) + 1)))
  refine wg ⟨_,rfl,wg (hQ _ _ s.toks ⟨_,ei,rfl⟩ ⟨?_,o7,⟨_,fI,?_,?_⟩,fun z=>hn z hi⟩ fun b ob hb e => ?_)⟩
  ·rw[XI _ _ (Yd gR),XI _ _ (Yd gR)];exact st.set
  ·exact (q0n ..).trans ((q0n ..).trans hc)
  ·rw[hd2];simp[rawInt]
  ·have d8:I≠b:=fun z=>hb (by simp[z])
   rw[XI _ _ d8,XI _ _ d8];exact e
 done:=fun s Q E st hQ=>by
  obtain⟨slot,hit,hs⟩:=st.it
  obtain⟨oi,rm,hc,o8⟩:=id hit
  unfold pyNext
  refine pT (wpAny_attempt (Yh (name:=Str.ofString "__next__") hit.typeIs aO
   (X1 aO hit.typeIs DW ?_ (DX _))))
  unfold Builtin.«set_iterator.__next__»
  refine pT (m:=slotArgs _ _ _) (wg ?_)
  refine pT (DZ rm o8 ?_)
  dsimp only
  refine pT (Z5 st.set hd T.fits ?_)
  rw[MC (by simp)]
  refine pT (DY st.set hd T (slot:=slot) (i:=es.size) (we _) hs fun o7 hn => ?_)
  rw[XZ (by rw[vV];exact we _)]
  dsimp only [Option.map]
  refine pT (Zz rm o8 (by simp) ?_)
  show wpAny _ _ (newExc (.type "StopIteration") [] >>= _) _ _ _
  refine pT ?_
  simp only[newExc,newTuple]
  refine pT (Xy ?_ (by size_fits))
  refine pT (m:=firstArgMember _ _) (wpAny_of_eq (a:=Value.none) (by first | rfl | (simp only[firstArgMember];rfl)) ?_)
  refine Xy ?_ (by size_fits)
  simp only[raiseNew]
  refine pT (wpAny_handled ?_)
  rw[show A.in1.handled=none from hh]
  refine pT (wg (wpAny_throw ?_))
  refine pT (wpAny_isInstance (T := "StopIteration") (b:=true) ⟨_,VW _ rfl,rfl⟩ isSubtype_stop ?_)
  refine wg (hQ _ s.toks fun b ob hb e => ?_)
  have d8:b≠I:=fun z=>hb (by simp[z])
  exact (((W7 ..).extBut.push _).push _) b ob d8 e
 self:=fun i s Q E st hQ=>by
  obtain⟨slot,hit,_⟩:=st.it
  refine wpAny_pyIter_slot hit.typeIs DU (X1 DU hit.typeIs J9 ?_ (Ka _))
  show wpAny _ _ (ret (.ref I)) _ _ s
  exact wg ⟨_,rfl, "set_iterator",_,hit.typeIs,aO.lookup,hQ⟩
theorem Kd {E:Value->Shared->Prop} {s:Shared} {Q:Bool->Shared->Prop} (ho:s.heap.get? S=some o) (hd:o.data = .set es ep t) (T:cN t es (iF w) ks) (k:Q false s):wpAny (model prog w) A (setDrawn S) Q E s:=by
 unfold setDrawn
 refine pT (XT ho hd T.fits ?_)
 dsimp only
 refine pT ?_
 unfold setsByText
 refine pT (Y8 (wg ?_))
 refine wg ?_
 have e:(!(model prog w).w.params.followText "set-order" && (!t.plain && decide (es.size > 1)))=false:=by rw[T.sJ];simp
 exact e ▸ k
theorem Ke {E:Value->Shared->Prop} {s:Shared} {Q:Value->Shared->Prop} (ho:s.heap.get? S=some o) (hex:o.ExactSet) (hd:o.data = .set es ep t) (T:cN t es (iF w) ks)
  (k:∀ h',(∀ b ob,s.heap.get? b=some ob->h'.get? b=some ob)->yU w s.heap.objs.size S o es ep t 0 h'->Q (.ref s.heap.objs.size) { s with heap:=h' }):wpAny (model prog w) A (pyIter (.ref S)) Q E s:=by
 have tS:s.TypeIs (.ref S) "set" := ⟨o,ho,hex.1⟩
 refine wpAny_pyIter_slot tS F.slot_set_iter (X1 F.slot_set_iter tS J_ ?_ (F.args_set_iter_1 _))
 unfold Builtin.«frozenset.__iter__»
 refine pT (m:=Builtin.Frozenset.slot0 _ _) (wg (a:=S) ?_)
 refine pT (m:=Builtin.Frozenset.sizeOf _) ?_
 unfold Builtin.Frozenset.sizeOf
 refine pT (Z5 ho hd T.fits (wg ?_))
 refine pT (Kd ho hd T ?_)
 simp only[WD,XE]
 refine pT (wg ?_)
 refine pT (wpAny_setEpoch_of ho hd T.fits ?_)
 refine pT (m:=newFields _ _) (Xy (wg ⟨_,rfl, "set_iterator",_,⟨_,VW _ rfl,rfl⟩,aO.lookup,?_⟩))
 refine k _ (fun b ob e=>tP _ e) ⟨tP _ ho,0,⟨_,VW _ rfl,rfl,rfl⟩,fun _=>rfl⟩
end
section
variable {prog:Program} {w:World} {A:Around} {S:Addr} {o:Obj} {es:Array (Int × Value)} {ep:Nat} {t:SetTable} {ks:List Int}
theorem Kg {E:Value->Shared->Prop} {s:Shared} {Q:Bool->Shared->Prop} (tS:s.TypeIs (.ref S) "set") (k:Q false s):wpAny (model prog w) A (Builtin.List.listLengthHint (.ref S)) Q E s:=by
 unfold Builtin.List.listLengthHint
 refine pT (wpAny_specialOf tS F.slot_set_len.lookup ?_)
 generalize yX:("set.__len__" : String)=Kh
 wp_delta
 rw[show splitId Kh=some ("set", "__len__") from by subst yX;decide +kernel]
 subst yX
 refine pT (wpAny_isInstance (T := "set") (b:=true) tS (by rw[isSubtype_type];kernel_rfl) ?_)
 refine YK (fun vS=>absurd vS (by decide)) (fun _ => ?_)
 refine YK (fun _ => ?_) (fun vS=>absurd (by decide +kernel) vS)
 refine pT (ZA tS ?_)
 exact wg k
theorem Ki {E:Value->Shared->Prop} {s:Shared} {Q:List Value->Shared->Prop} (hh:A.handled=none) (ho:s.heap.get? S=some o) (hex:o.ExactSet) (hd:o.data = .set es ep t) (T:cN t es (iF w) ks) (hn:es.size <= 1000)
  (h:∀ (h':Heap) (tk:Nat),(∀ b ob,s.heap.get? b=some ob->h'.get? b=some ob)->s.heap.objs.size <= h'.objs.size->Q ((iA w S ep es).toList.map (·.2)) { s with heap:=h',toks:=tk }):wpAny (model prog w) A (collect (.ref S)) Q E s:=by
 have tS:s.TypeIs (.ref S) "set" := ⟨o,ho,hex.1⟩
 have lS:S < s.heap.objs.size:=Mz ho
 unfold collect
 refine pT (Z_ (XC F.entry_proto_collect ?_))
 rw[Xo F.plain_proto_collect _]
 show wpAny _ A.in1 (newList [] >>= fun l=>again (.builtin "list.__iadd__" ⟨[l,.ref S],[]⟩)) _ _ s
 refine pT (Xy ?_)
 refine wg ⟨Yx ZC _,XC F.entry_list_iadd ?_⟩
 rw[Xo ZC _]
 generalize vW:({ s with heap:=s.heap.push { cls := .type "list",data := .seq ([]:List Value).toArray } }:Shared)=s1
 have f_:s1.heap.get? S=some o:=by rw[<-vW];exact tP _ ho
 have gL:s1.heap.get? s.heap.objs.size=some { cls := .type "list",data := .seq ([]:List Value).toArray }:=by rw[<-vW];exact VW _ rfl
 have z1:s1.heap.objs.size=s.heap.objs.size + 1:=by rw[<-vW];exact X_ ..
 show wpAny _ A.in1 (Builtin.List.listExtendWith (.ref s.heap.objs.size) (.ref S) (.ref s.heap.objs.size)) _ _ _
 unfold Builtin.List.listExtendWith
 refine pT (ZA (T := "set") ⟨o,f_,hex.1⟩ ?_)
 have h1:Builtin.List.listSameRef (.ref s.heap.objs.size) (.ref S)=false:=by simp[Builtin.List.listSameRef];exact Ys lS
 have h2:(Value.type "set" == Value.type "list")=false:=by decide
 have h3:(Value.type "set" == Value.type "tuple")=false:=by decide
 simp only[h1,h2,h3,Bool.or_false,WD,XE]
 refine pT (Ke f_ hex hd T fun fJ o9 km => ?_)
 refine pT (W9 (Kg ⟨o,o9 _ _ f_,hex.1⟩ ?_))
 have gR:S≠s1.heap.objs.size:=by rw[z1];exact VZ (Xe lS)
 have W:=(Kc (prog:=prog) (A:=A.in1) (I:=s1.heap.objs.size) (by simp[hh]) gR hex hd T).toS
 have Kj:s.heap.objs.size∉[s1.heap.objs.size,S]:=by
  simp only[MA,WV,YC,not_or,z1]
  exact⟨VZ (XY _),Ys lS⟩
 have key:∀ (nR:Heap) (c:Nat),yU w s1.heap.objs.size S o es ep t 0 nR->nR.get? s.heap.objs.size=some { cls := .type "list",data := .seq #[] c }->(∀ b ob,b≠s.heap.objs.size->fJ.get? b=some ob->nR.get? b=some ob) →
   codeAny (model prog w) A (.builtin "list.extend.loop" ⟨[.ref s.heap.objs.size,.ref s1.heap.objs.size,.ref s.heap.objs.size],[]⟩) (fun r s'=>match r with
    | .ok (.ret v)=>wpAny (model prog w) A (match v with
     | .ref a=>do match (<- load a).data with
      | .seq xs _=>pure xs.toList
      | _=>unsupported "internal:collect"
     | _=>unsupported "internal:collect") Q E s'
    | .ok _=>False
    | .error e=>E e s') { s1 with heap:=nR }:=by
  intro nR c st hL kp
  refine codeAny_extend_loopS W (by rw[Xx];omega) _ Kj _ es.size 0 _ #[] c rfl (Xn _) st hL (ItemsOf.nil _) fun s' b_ c' hm rp jh => ?_
  show wpAny _ A (load s.heap.objs.size >>= _) _ _ s'
  refine pT (wpAny_load rp (wg ?_))
  have ea:b_.toList=(iA w S ep es).toList.map (·.2):=by
   refine Yt fun i => ?_
   rw[E7]
   by_cases hi:i < es.size
   ·have D0:i < b_.size:=by rw[jh.1];exact hi
    obtain⟨e,he,hv⟩:=jh.2 i _ (VX D0)
    rw[Wx,VX D0,Wx,he,hv];rfl
   ·rw[Wx,XZ (by rw[jh.1];omega),Wx,XZ (by rw[vV];omega)];rfl
  rw[ea]
  obtain⟨VP,g3,d3,VQ,Kk⟩:=s'
  obtain rfl:g3=s1.gens:=hm.gens
  obtain rfl:d3=s1.drawn:=hm.drawn
  obtain rfl:Kk=s1.os:=hm.os
  subst vW
  refine h _ _ (fun b ob e => ?_) (XR (Mz rp))
  have hb:b < s.heap.objs.size:=Mz e
  refine hm.heap b ob ?_ (kp b ob (VZ hb) (o9 b ob (tP _ e)))
  simp only[MA,WV,YC,not_or]
  exact⟨VZ hb,by show b≠(s.heap.push _).objs.size;rw[X_];exact VZ (Xe hb)⟩
 have i7:=o9 _ _ gL
 refine YK (fun _ => ?_) (fun _=>wg ⟨Yx F.plain_extend_loop _,key _ _ km i7 (fun b ob _ e=>e)⟩)
 refine pT (q0I ?_)
 refine pT ?_
 show wpAny _ _ (updateSeq s.heap.objs.size (·.push .none) >>= fun _=>updateSeq s.heap.objs.size (·.pop)) _ _ _
 refine pT (wpAny_updateSeq i7 rfl ?_)
 have D1:=Xu (Obj.mapSeq (·.push Value.none)) i7 rfl
 refine wpAny_updateSeq (hz:=by seq_fits) D1 rfl ?_
 have Kl:=Xu (Obj.mapSeq (·.pop)) D1 rfl
 have yY:∀ b ob,b≠s.heap.objs.size->fJ.get? b=some ob->((fJ.update s.heap.objs.size (Obj.mapSeq (·.push Value.none))).update s.heap.objs.size (Obj.mapSeq (·.pop))).get? b=some ob :=
  fun b ob hb e=>(XI _ _ (Yd hb)).trans ((XI _ _ (Yd hb)).trans e)
 refine wg ⟨Yx F.plain_extend_loop _,key _ _ ?_ Kl yY⟩
 obtain⟨slot,it,sl⟩:=km.it
 exact⟨yY _ _ (VZ lS) km.set,slot,it.at fun ob e=>yY _ _ (by rw[z1];exact Ys (XY _)) e,sl⟩
end
end LJS
namespace L2
open PySem PySem.Spec PyProof.Rows
noncomputable abbrev Key:=Sum Int Str
noncomputable def rq:Key->Value->Bool
 | .inl k,v=>Value.isInt k v
 | .inr x,v=>Value.isStrOf x v
noncomputable def yZ (w:World):Key->Int
 | .inl k=>hashInt k
 | .inr x=>hashStr w x
theorem mf:∀ {k:Key} {v:Value},rq k v=true->(∃ i t,k=Sum.inl i/\v=Value.int i t)\/(∃ x t,k=Sum.inr x/\v=Value.str x t)
 | .inl i,v,h=>by
  obtain⟨t,e⟩:=Value.isInt_shape (k:=i) (v:=v) h
  exact .inl ⟨i,t,rfl,e⟩
 | .inr x,v,h=>by
  obtain⟨t,e⟩:=Value.isStrOf_shape (x:=x) (v:=v) h
  exact .inr ⟨x,t,rfl,e⟩
theorem Km (i:Int) (t:Tok):rq (.inl i) (.int i t)=true:=by simp[rq,Value.isInt]
theorem Kn (x:Str) (t:Tok):rq (.inr x) (.str x t)=true:=by simp[rq,Value.isStrOf]
theorem Ko (a b:Int):decide ((Sum.inl a:Key)=Sum.inl b)=(a == b):=by
 by_cases e:a=b
 ·subst e;simp
 ·have h:¬ (Sum.inl a:Key)=Sum.inl b:=fun q=>e (Sum.inl.inj q)
  rw[Wz h]
  exact (beq_eq_false_iff_ne.mpr e).symm
theorem Kp (a b:Str):decide ((Sum.inr a:Key)=Sum.inr b)=decide (a=b):=by
 by_cases e:a=b
 ·subst e;simp
 ·have h:¬ (Sum.inr a:Key)=Sum.inr b:=fun q=>e (Sum.inr.inj q)
  rw[Wz h,Wz e]
theorem Kq (a:Int) (b:Str):decide ((Sum.inl a:Key)=Sum.inr b)=false:=Wz (fun q=>nomatch q)
theorem Kr (a:Str) (b:Int):decide ((Sum.inr a:Key)=Sum.inl b)=false:=Wz (fun q=>nomatch q)
noncomputable def iG (prog:Program) (w:World):PySem.KeyKind prog w Key where
 is:=rq
 hash:=yZ w
 inj:=fun v a b ha hb=>by
  rcases mf ha with⟨i,t,rfl,rfl⟩ | ⟨x,t,rfl,rfl⟩
  ·rcases mf hb with⟨j,u,rfl,e⟩ | ⟨y,u,rfl,e⟩
   ·injection e with e1 _;rw[e1]
   ·exact nomatch e
  ·rcases mf hb with⟨j,u,rfl,e⟩ | ⟨y,u,rfl,e⟩
   ·exact nomatch e
   ·injection e with e1 _;rw[e1]
 byValue:=fun k v h=>by
  rcases mf h with⟨i,t,rfl,rfl⟩ | ⟨x,t,rfl,rfl⟩<;>rfl
 pyHash:=fun hv h=>by
  rcases mf hv with⟨i,t,rfl,rfl⟩ | ⟨x,t,rfl,rfl⟩
  ·exact wpAny_pyHash_int h
  ·exact wpAny_pyHash_str h
 eqBool:=fun hu hv h=>by
  rcases mf hu with⟨i,t,rfl,rfl⟩ | ⟨x,t,rfl,rfl⟩
  ·rcases mf hv with⟨j,u,rfl,rfl⟩ | ⟨y,u,rfl,rfl⟩
   ·rw[Ko] at h;exact wpAny_eqBool_int h
   ·rw[Kq] at h;exact q0b i t y u _ _ _ _ h
  ·rcases mf hv with⟨j,u,rfl,rfl⟩ | ⟨y,u,rfl,rfl⟩
   ·rw[Kr] at h;exact q0c x t j u _ _ _ _ h
   ·rw[Kp] at h;exact wpAny_eqBool_str h
 «strs» := fun k x t v h=>by
  rcases mf h with⟨i,u,rfl,e⟩ | ⟨y,u,rfl,e⟩
  ·exact nomatch e
  ·injection e with e1 _
   subst e1
   cases v<;>rfl
theorem Ks (prog:Program) (w:World) (i:Int) (t:Tok):(iG prog w).is (.inl i) (.int i t)=true:=Km i t
theorem Kt (prog:Program) (w:World) (x:Str) (t:Tok):(iG prog w).is (.inr x) (.str x t)=true:=Kn x t
inductive V where
 | non | bl (b:Bool) | int (i:Int) | str (x:Str) | byt (b:Array UInt8) | flt (b:UInt64) | ref (a:Addr) | ty (n:String)
 deriving DecidableEq
noncomputable def RelV:V->Value->Prop
 | .non,u=>u=Value.none
 | .bl b,u=>u=Value.bool b
 | .int i,u=>∃ t,u=Value.int i t
 | .str x,u=>∃ t,u=Value.str x t
 | .byt b,u=>∃ t,u=Value.bytes b t
 | .flt b,u=>∃ t,u=Value.float b t
 | .ref a,u=>u=Value.ref a
 | .ty n,u=>u=Value.type n
noncomputable abbrev Vals:List V->List Value->Prop:=Paired RelV
theorem Vals.length {xs:List V} {us:List Value} (r:Vals xs us):xs.length=us.length:=Paired.length r
theorem Vals.get:∀ {xs:List V} {us:List Value} {i:Nat} {x:V},Vals xs us->xs[i]? = some x->∃ u,us[i]? = some u/\RelV x u
 | _,_,_,_,.nil,e=>by simp at e
 | _,_,0,_,.cons r _,e=>by simp at e;subst e;exact⟨_,rfl,r⟩
 | _,_,i + 1,x,.cons _ t,e=>by
  obtain⟨u,h1,h2⟩:=Vals.get (i:=i) (x:=x) t (by simpa using e)
  exact⟨u,by simpa using h1,h2⟩
theorem Vals.set {x:V} {u:Value} (r:RelV x u):∀ {xs:List V} {us:List Value} (i:Nat),Vals xs us->Vals (xs.set i x) (us.set i u)
 | _,_,_,.nil => .nil
 | _,_,0,.cons _ t => .cons r t
 | _,_,i + 1,.cons q t => .cons q (Vals.set r i t)
theorem Vals.append:∀ {xs ys:List V} {us ws:List Value},Vals xs us->Vals ys ws->Vals (xs ++ ys) (us ++ ws)
 | _,_,_,_,.nil,s=>s
 | _,_,_,_,.cons r t,s => .cons r (Vals.append t s)
theorem Vals.take:∀ {xs:List V} {us:List Value} (n:Nat),Vals xs us->Vals (xs.take n) (us.take n)
 | _,_,0,_ => .nil
 | _,_,_ + 1,.nil => .nil
 | _,_,n + 1,.cons r t => .cons r (Vals.take n t)
theorem Vals.drop:∀ {xs:List V} {us:List Value} (n:Nat),Vals xs us->Vals (xs.drop n) (us.drop n)
 | _,_,0,r=>r
 | _,_,_ + 1,.nil => .nil
 | _,_,n + 1,.cons _ t=>Vals.drop n t
noncomputable def ji:Option V->Option Value->Prop
 | some v,some u=>RelV v u
 | none,none=>True
 | _,_=>False
noncomputable def KV {κ : Type}:List (κ × V)->List (κ × Value)->Prop:=Paired fun (p : κ × V) (q : κ × Value)=>p.1=q.1/\RelV p.2 q.2
noncomputable def kV:Key->V
 | .inl i => .int i
 | .inr x => .str x
inductive HO where
 | lst (xs:List V)
 | tup (xs:List V)
 | dK (kvs:List (Key × V)) | dT (kvs:List (List Key × V))
 | set (S:Int->Bool) (n:Nat)
 | ins (C dx:Addr) (fs:List (Str × V))
 | own (x:Addr)
 | xd (fs:List (Str × V))
 | met (f x:Addr)
 | rng (lo hi:Int)
 | frz (o:Obj) (u:HO)
 | tbl (ps:Array Value)
 | ext (φ : Heap->Prop)
noncomputable abbrev Hp:=Addr->Option HO
noncomputable def upd (H:Hp) (a:Addr) (o:HO):Hp:=fun b=>if b=a then some o else H b
theorem bK {H:Hp} {a:Addr} {o:HO}:upd H a o a=some o:=by unfold upd;rw[VY rfl]
theorem aQ {H:Hp} {a b:Addr} {o:HO} (h:b≠a):upd H a o b=H b:=by unfold upd;rw[MC h]
theorem Ku {H:Hp} {a b:Addr} {o u:HO} (h:H a=some o) (h':H b=some u) (d:o≠u):a≠b:=by
 intro e;subst e;rw[h] at h';exact d (WW h')
theorem dq {H:Hp} {a b:Addr} {o:HO} (h:H a=some o) (h':H b=none):a≠b:=by
 intro e;subst e;rw[h] at h';cases h'
section
variable (P:Program) (w:World)
noncomputable def aI (H:Hp) (h:Heap) (a:Addr):HO->Prop
 | .lst xs=>xs.length <= sizeLine/\∃ (ak:List Value) (n:Nat),Vals xs ak/\h.get? a=some { cls := .type "list",data := .seq ak.toArray n }
 | .tup xs=>xs.length <= sizeLine/\∃ ak:List Value,Vals xs ak/\IsTup h a ak.toArray
 | .dK kvs=>kvs.length <= sizeLine/\(a == sysModules)=false/\∃ vs,KV kvs vs/\h.DictOf (iG P w) a vs
 | .dT kvs=>kvs.length <= sizeLine/\(a == sysModules)=false/\∃ xs:List (List Key × Addr × Value),
   Paired (fun (p:List Key × V) (q:List Key × Addr × Value)=>p.1=q.1/\H q.2.1=some (.tup (p.1.map kV))/\RelV p.2 q.2.2) kvs xs ∧
   ∃ o es ep,h.get? a=some o/\o.ExactDict/\o.data = .dict es ep/\es.toList=xs.map (entryOfKey (tupleKind (iG P w)))/\(xs.map (·.1)).Nodup
 | .set S n=>h.SetOf (intKind P w) a S n
 | .ins C dx fs=>H dx=some (.own a)/\fs.length <= 1000/\dx≠a/\h.get? a=some (PySem.W.instObj C dx) ∧
   ∃ mA,h.Ns1 dx mA/\(∀ f,ji (fs.lookup f) (mA f))/\PySem.Within mA (fs.map (·.1))
 | .own _=>∃ o,h.get? a=some o
 | .xd fs=>∃ mA,h.Ns1 a mA/\∀ f,ji (fs.lookup f) (mA f)
 | .rng lo hi=>∃ t u v,h.get? a=some { cls := .type "range",data := .fields #[.int lo t,.int hi u,.int 1 v] }
 | .frz o u=>h.get? a=some o/\aI H h a u
 | .tbl ps=>h.get? a=some { cls := .none,data := .fields ps }
 | .met f x=>h.get? a=some (PySem.W.methodObj (.ref f) (.ref x))
 | .ext φ => φ h/\(∃ o,h.get? a=some o)/\∀ h1 h2:Heap,φ h1->(∀ o,h1.get? a=some o->h2.get? a=some o) -> φ h2
noncomputable def d9 (H:Hp) (h:Heap):Prop:=∀ a o,H a=some o->aI P w H h a o
end
section
variable {P:Program} {w:World} {H H':Hp} {h h':Heap} {a:Addr} {o:HO}
theorem aI.lt (x:aI P w H h a o):a < h.objs.size:=by
 cases o with
 | lst xs=>obtain⟨_,_,_,_,e⟩:=x;exact Mz e
 | tup xs=>obtain⟨_,_,_,p⟩:=x;exact p.lt
 | dK kvs=>obtain⟨_,_,_,_,o,_,_,e,_⟩:=x;exact Mz e
 | dT kvs=>obtain⟨_,_,_,_,o,_,_,e,_⟩:=x;exact Mz e
 | set S n=>obtain⟨o,_,_,_,e,_⟩:=x;exact Mz e
 | ins C dx fs=>obtain⟨_,_,_,e,_⟩:=x;exact Mz e
 | own y=>obtain⟨_,e⟩:=x;exact Mz e
 | xd fs=>obtain⟨_,⟨_,_,_,e,_⟩,_⟩:=x;exact Mz e
 | rng lo hi=>obtain⟨_,_,_,e⟩:=x;exact Mz e
 | frz ob u=>obtain⟨e,_⟩:=x;exact Mz e
 | tbl ps=>exact Mz (show h.get? a=some _ from x)
 | met f y=>exact Mz (show h.get? a=some _ from x)
 | ext φ => obtain⟨_,⟨_,e⟩,_⟩:=x;exact Mz e
theorem Paired.o_ {α β : Type} {F G : α -> β -> Prop}:∀ {l₁ : List α} {l₂ : List β},Paired F l₁ l₂ -> (∀ a b,F a b->G a b)->Paired G l₁ l₂
 | _,_,.nil,_ => .nil
 | _,_,.cons r t,f => .cons (f _ _ r) (Paired.o_ t f)
theorem aI.gC (x:aI P w H h a o) (k:∀ b u,(b=a\/H b=some (.own a))->h.get? b=some u->h'.get? b=some u)
  (ho:∀ b,H b=some (.own a)->H' b=some (.own a)) (ht:∀ b xs,H b=some (.tup xs)->H' b=some (.tup xs)):aI P w H' h' a o:=by
 induction o with
 | lst xs=>obtain⟨z,ak,n,r,e⟩:=x;exact⟨z,ak,n,r,k _ _ (.inl rfl) e⟩
 | tup xs=>obtain⟨z,ak,r,ob,e,c⟩:=x;exact⟨z,ak,r,ob,k _ _ (.inl rfl) e,c⟩
 | dK kvs=>obtain⟨z,y,vs,r,ob,es,ep,e,c⟩:=x;exact⟨z,y,vs,r,ob,es,ep,k _ _ (.inl rfl) e,c⟩
 | dT kvs =>
  obtain⟨z,y,xs,r,ob,es,ep,e,c⟩:=x
  exact⟨z,y,xs,Paired.o_ r fun p q z=>⟨z.1,ht _ _ z.2.1,z.2.2⟩,ob,es,ep,k _ _ (.inl rfl) e,c⟩
 | set S n=>obtain⟨ob,es,ep,t,e,c⟩:=x;exact⟨ob,es,ep,t,k _ _ (.inl rfl) e,c⟩
 | ins C dx fs =>
  obtain⟨d,z,ne,e,mA,⟨od,es,ep,e2,c⟩,r⟩:=x
  exact⟨ho _ d,z,ne,k _ _ (.inl rfl) e,mA,⟨od,es,ep,k _ _ (.inr d) e2,c⟩,r⟩
 | own y=>obtain⟨ob,e⟩:=x;exact⟨ob,k _ _ (.inl rfl) e⟩
 | xd fs=>obtain⟨mA,⟨od,es,ep,e,c⟩,r⟩:=x;exact⟨mA,⟨od,es,ep,k _ _ (.inl rfl) e,c⟩,r⟩
 | rng lo hi=>obtain⟨t,u,v,e⟩:=x;exact⟨t,u,v,k _ _ (.inl rfl) e⟩
 | frz ob u ih=>obtain⟨e,q⟩:=x;exact⟨k _ _ (.inl rfl) e,ih q⟩
 | tbl ps =>
  have e:h.get? a=some { cls := .none,data := .fields ps }:=x
  show h'.get? a=some { cls := .none,data := .fields ps }
  exact k a _ (.inl rfl) e
 | met f y =>
  have e:h.get? a=some (PySem.W.methodObj (.ref f) (.ref y)):=x
  show h'.get? a=some (PySem.W.methodObj (.ref f) (.ref y))
  exact k a _ (.inl rfl) e
 | ext φ => obtain⟨p,⟨o,e⟩,st⟩:=x;exact⟨st _ _ p fun o q=>k _ _ (.inl rfl) q,⟨o,k _ _ (.inl rfl) e⟩,st⟩
theorem d9.lt (x:d9 P w H h) (e:H a=some o):a < h.objs.size:=(x a o e).lt
theorem d9.fresh (x:d9 P w H h) (e:h.objs.size <= a):H a=none:=by
 cases q:H a with
 | none=>rfl
 | some u=>exact absurd (WB (x.lt q) e) (Ya _)
theorem d9.kept (x:d9 P w H h) (k:∀ b u,h.get? b=some u->h'.get? b=some u):d9 P w H h':=fun a o e =>
 (x a o e).gC (fun b u _ q=>k b u q) (fun _ q=>q) fun _ _ q=>q
theorem d9.laid (x:d9 P w H h) (k:∀ b u,h.get? b=some u->h'.get? b=some u) (hp:h.objs.size <= a) (new:aI P w (upd H a o) h' a o):d9 P w (upd H a o) h':=fun b u e=>by
 have hn:=x.fresh hp
 by_cases hb:b=a
 ·subst hb;rw[bK] at e;cases e;exact new
 ·rw[aQ hb] at e
  exact (x b u e).gC (fun c v _ q=>k c v q) (fun c q=>by rw[aQ (dq q hn)];exact q) fun c xs q=>by rw[aQ (dq q hn)];exact q
end
noncomputable def Rd (H:Hp) (a:Addr) (u:HO):Prop:=H a=some u\/∃ o,H a=some (.frz o u)
theorem Rd.ok {P:Program} {w:World} {H:Hp} {h:Heap} {a:Addr} {u:HO} (r:Rd H a u) (x:d9 P w H h):aI P w H h a u:=by
 rcases r with r | ⟨o,r⟩
 ·exact x a u r
 ·obtain⟨_,q⟩:=x a _ r
  exact q
noncomputable def sP:Option HO->Prop
 | some (.lst _)=>True
 | some (.dK _)=>True
 | some (.dT _)=>True
 | some (.set _ _)=>True
 | some (.ins _ _ _)=>True
 | some (.ext _)=>True
 | _=>False
section
variable {P:Program} {w:World} {H:Hp} {h h':Heap} {x e:Addr} {o':HO}
theorem d9.write (ok:d9 P w H h) (mu:sP (H x)) (he:e=x\/H e=some (.own x)) (k:∀ b u,b≠e->h.get? b=some u->h'.get? b=some u) (lR:∃ u,h'.get? e=some u)
  (new:aI P w (upd H x o') h' x o'):d9 P w (upd H x o') h':=fun b u q=>by
 have sQ:∀ c y,H c=some (.own y)->c≠x:=fun c y r z=>by subst z;rw[r] at mu;exact mu
 have y_:∀ c xs,H c=some (.tup xs)->c≠x:=fun c xs r z=>by subst z;rw[r] at mu;exact mu
 by_cases hb:b=x
 ·subst hb;rw[bK] at q;cases q;exact new
 ·rw[aQ hb] at q
  by_cases pb:b=e
  ·have q':H b=some (.own x):=by
    rcases he with z | z
    ·exact absurd (pb.trans z) hb
    ·rw[pb];exact z
   rw[q] at q';cases q'
   obtain⟨v,hv⟩:=lR
   exact⟨v,by rw[pb];exact hv⟩
  ·refine (ok b u q).gC (fun c v hc r=>k c v ?_ r) (fun c r=>by rw[aQ (sQ c b r)];exact r) fun c xs r=>by rw[aQ (y_ c xs r)];exact r
   rcases hc with rfl | hc
   ·exact pb
   ·rintro rfl
    rcases he with z | z
    ·exact sQ c b hc z
    ·rw[hc] at z;cases z;exact hb rfl
end
structure Un (fs ex:List Addr) (H H':Hp) (h h':Heap):Prop where
 keep:∀ b o,h.get? b=some o->H b=none->b∉fs->b∉ex->h'.get? b=some o
 slot:∀ b o,h.get? b=some o->H b=none->b∈fs->b∉ex->∃ sl,h'.get? b=some { o with slots:=sl }
 free:∀ b o,h.get? b=some o->H b=none->b∉ex->H' b=none
 there:∀ b o,h.get? b=some o->b∉ex->∃ o',h'.get? b=some o'
 gb:∀ b xs,H b=some (.tup xs)->H' b=some (.tup xs)
 gD:∀ b o u,H b=some (.frz o u)->H' b=some (.frz o u)
 gE:∀ b ps,H b=some (.tbl ps)->∃ more,H' b=some (.tbl (ps ++ more))
section
variable {fs Kv ex VR:List Addr} {H H1 H2:Hp} {h h1 h2 h':Heap} {a x e:Addr} {o:HO}
theorem Un.any (u:Un fs ex H H1 h h1) {b:Addr} {ob:Obj} (q:h.get? b=some ob) (n:H b=none) (hx:b∉ex):∃ sl,h1.get? b=some { ob with slots:=sl }:=by
 by_cases hb:b∈fs
 ·exact u.slot b ob q n hb hx
 ·exact⟨ob.slots,u.keep b ob q n hb hx⟩
theorem Un.kept (k:∀ b u,h.get? b=some u->h'.get? b=some u):Un fs ex H H h h' :=
 ⟨fun b ob q _ _ _=>k b ob q,fun b ob q _ _ _=>⟨ob.slots,k b ob q⟩,fun _ _ _ n _=>n,fun b ob q _=>⟨ob,k b ob q⟩,fun _ _ q=>q,fun _ _ _ q=>q,fun _ ps q=>⟨#[],by rw[q];simp⟩⟩
theorem Un.refl:Un fs ex H H h h:=Un.kept fun _ _ q=>q
theorem Un.laid (k:∀ b u,h.get? b=some u->h'.get? b=some u) (hp:h.objs.size <= a) (hn:H a=none):Un fs ex H (upd H a o) h h' where
 keep:=fun b u q _ _ _=>k b u q
 slot:=fun b u q _ _ _=>⟨u.slots,k b u q⟩
 free:=fun b u q n _=>by rw[aQ (VZ (WB (Mz q) hp))];exact n
 there:=fun b u q _=>⟨u,k b u q⟩
 gb:=fun b xs q=>by rw[aQ (dq q hn)];exact q
 gD:=fun b u xs q=>by rw[aQ (dq q hn)];exact q
 gE:=fun b ps q=>⟨#[],by rw[aQ (dq q hn),q];simp⟩
theorem Un.write (mu:sP (H x)) (he:e=x\/H e=some (.own x)) (k:∀ b u,b≠e->h.get? b=some u->h'.get? b=some u) (lR:∃ u,h'.get? e=some u):Un fs ex H (upd H x o) h h':=by
 have hx:∀ b,H b=none->b≠x:=fun b n z=>by subst z;rw[n] at mu;exact mu
 have hb:∀ b,H b=none->b≠e:=fun b n z=>by
  subst z
  rcases he with r | r
  ·exact hx b n r
  ·rw[n] at r;cases r
 have hm:∀ b u,H b=some u->¬ sP (some u)->b≠x:=fun b u q nm z=>by subst z;rw[q] at mu;exact nm mu
 refine⟨fun b u q n _ _=>k b u (hb b n) q,fun b u q n _ _=>⟨u.slots,k b u (hb b n) q⟩,fun b u q n _=>by rw[aQ (hx b n)];exact n,fun b u q _ => ?_,
  fun b xs q=>by rw[aQ (hm b _ q fun z=>z)];exact q,fun b u xs q=>by rw[aQ (hm b _ q fun z=>z)];exact q,fun b ps q=>⟨#[],by rw[aQ (hm b _ q fun z=>z),q];simp⟩⟩
 by_cases pb:b=e
 ·subst pb;exact lR
 ·exact⟨u,k b u pb q⟩
end
noncomputable def vX (h:Heap) (H:Hp):List Addr:=(List.range h.objs.size).filter fun a=>(H a).isSome
noncomputable def gF (h:Heap) (H:Hp):Heap:=PySem.W.hideAll h (vX h H)
theorem Kw (h:Heap) (H:Hp):(gF h H).objs.size=h.objs.size:=PySem.W.hideAll_size _ _
theorem Kx {h:Heap} {H:Hp} {b:Addr} {o:Obj} (e:h.get? b=some o) (n:H b=none):(gF h H).get? b=some o :=
 PySem.W.hideAll_get _ e fun hm=>by
  have q:(H b).isSome=true:=(Xm.mp hm).2
  rw[n] at q;simp at q
theorem Ky {h:Heap} {H:Hp} {b:Addr} {o:Obj} (e:(gF h H).get? b=some o):h.get? b=some o/\H b=none:=by
 have e':h.get? b=some o:=PySem.W.of_hideAll (vX h H) e
 refine⟨e',?_⟩
 cases q:H b with
 | none=>rfl
 | some x =>
  have hm:b∈vX h H:=Xm.mpr ⟨WJ.mpr (Mz e'),by simp[q]⟩
  have z:(gF h H).get? b=none:=PySem.W.hideAll_none (vX h H) hm
  rw[z] at e;cases e
structure Mod (K:PySem.W.Frag) (mg:Str->Option Value) (base:Heap):Prop where
 nU:K.In base
 glob:base.Ns mainGlobals mg
 blt:∃ mb,base.Ns builtinsNs mb/\∀ x:Str,x ≠ "__name__" -> mb x=bootBuiltins x
 nolimit:base.NoLimit
structure Cx where
 prog:Program
 w:World
 K:PySem.W.Frag
 mg:Str->Option Value
 base:Heap
 A:Around
 N:List Str
 s₀ : Shared
 H₀ : Hp
 env:Env
 outer:List Env
 stack:List Env
 ex:List Addr
 fn:Str->Bool
 calm:Bool
 pn:List (Addr × Obj)
 xe:Value->Shared->Prop
noncomputable def kq (l:List Env):List Addr:=l.filterMap (·.frame)
noncomputable abbrev Cx.fs (X:Cx):List Addr:=kq X.outer
noncomputable def pd (sc:Scope) (x:Str):Prop:=sc.names.lookup x=some .local\/sc.names.lookup x=some .cell\/sc.names.lookup x=some .free
noncomputable def Loc (sc:Scope) (x:Str):Prop:=sc.names.lookup x=some .local\/sc.names.lookup x=some .cell
noncomputable def Look (env:Env) (h:Heap) (m:Str->Option Value) (x:Str) (u:Value):Prop :=
 (env.kindOf x=some .local/\m x=some u)\/((env.kindOf x=some .cell\/env.kindOf x=some .free)/\∃ c,env.cells.lookup x=some c/\h.IsCell c (some u))
structure Cx.Ok (X:Cx):Prop where
 mod:Mod X.K X.mg X.base
 kind:X.env.scope.kind = .function
 glob:X.env.globals=mainGlobals
 blt:X.env.builtins=builtinsNs
 above:X.s₀.heap.objs.size <= X.env.locals
 inj:∀ x y c,X.env.cells.lookup x=some c->X.env.cells.lookup y=some c->x=y
 has:∀ x,(X.env.kindOf x=some .cell\/X.env.kindOf x=some .free)->∃ c,X.env.cells.lookup x=some c
 sR:∀ x c,X.fn x=true->X.env.cells.lookup x=some c->X.s₀.heap.objs.size <= c
 hd:X.calm=true->X.A.handled=none
 frames:X.A.frames=some X.stack
 vY:X.stack=X.outer\/(X.stack=X.env :: X.outer/\X.env.frame=some X.env.locals)
 D2:∀ b∈X.ex,b≠X.env.locals/\∀ x c,X.env.cells.lookup x=some c->c≠b
 bs:∀ b o,X.base.get? b=some o->X.s₀.heap.get? b=some o/\X.H₀ b=none
 nV:X.base.objs.size <= X.s₀.heap.objs.size
 kR:∀ b o,X.base.get? b=some o->b∉X.ex
 mi:∀ b∈X.ex,b∉X.fs
 fK:X.s₀.heap.FunFrames X.base X.outer
 pe:∀ b∈X.fs,X.H₀ b=none
structure Inv (X:Cx) (pins:List (Addr × Obj)) (σ : List (Option V)) (H:Hp) (s:Shared):Prop where
 ok:X.Ok
 os:s.os=X.s₀.os
 bare:AllBare s.gens
 base:Un X.fs X.ex X.H₀ H X.s₀.heap s.heap
 loc:∃ m,s.heap.Ns X.env.locals m/\∀ (i:Nat) (x:Str) (v:V),X.N[i]? = some x -> σ[i]? = some (some v)->pd X.env.scope x->∃ u,RelV v u/\Look X.env s.heap m x u
 cell:∀ x c,X.env.cells.lookup x=some c->∃ v,s.heap.IsCell c v
 free:H X.env.locals=none
 c7:∀ x c,X.env.cells.lookup x=some c->H c=none
 pin:∀ p∈X.pn ++ pins,s.heap.get? p.1=some p.2/\H p.1=none/\p.1≠X.env.locals/\p.1∉X.fs/\∀ v,p.2.data ≠ .cell v
 aM:d9 X.prog X.w H s.heap
 len : σ.length=X.N.length
section
variable {X:Cx} {pins:List (Addr × Obj)} {σ : List (Option V)} {H H':Hp} {s:Shared} {h':Heap}
theorem Cx.Ok.za (ok:X.Ok) {b:Addr} {o:Obj} (e:X.base.get? b=some o):b∉X.fs:=fun hb=>by
 have:=(ok.fK.mem hb).1
 rw[e] at this;cases this
theorem Inv.bs (I:Inv X pins σ H s):∀ b o,X.base.get? b=some o->s.heap.get? b=some o/\H b=none:=fun b o e =>
 ⟨I.base.keep b o (I.ok.bs b o e).1 (I.ok.bs b o e).2 (I.ok.za e) (I.ok.kR b o e),I.base.free b o (I.ok.bs b o e).1 (I.ok.bs b o e).2 (I.ok.kR b o e)⟩
theorem Inv.bk (I:Inv X pins σ H s):∀ b o,X.base.get? b=some o->s.heap.get? b=some o:=fun b o e=>(I.bs b o e).1
theorem Inv.mod (I:Inv X pins σ H s):Mod X.K X.mg X.base:=I.ok.mod
theorem Inv.iH (I:Inv X pins σ H s):X.K.In s.heap:=I.ok.mod.nU.keeps I.bk
theorem Inv.nolimit (I:Inv X pins σ H s):s.heap.NoLimit:=I.ok.mod.nolimit.keeps I.bk
theorem Inv.lt (I:Inv X pins σ H s):X.env.locals < s.heap.objs.size:=let ⟨_,hn,_⟩:=I.loc;hn.lt
theorem Inv.sz (I:Inv X pins σ H s):X.s₀.heap.objs.size <= s.heap.objs.size:=XJ I.ok.above (XR I.lt)
theorem Inv.zb (I:Inv X pins σ H s) {a:Addr} (h:s.heap.objs.size <= a):a∉X.fs:=fun hb=>by
 obtain⟨_,o,ho,_⟩:=I.ok.fK.mem hb
 exact absurd (WB (Mz ho) (XJ I.sz h)) (Ya _)
theorem Inv.pf (I:Inv X pins σ H s):∀ x c,X.env.cells.lookup x=some c->c≠X.env.locals:=fun x c e z=>by
 obtain⟨v,o,ho,hd⟩:=I.cell x c e
 obtain⟨m,⟨o',es,ep,jQ,Kz,_⟩,_⟩:=I.loc
 rw[z,jQ] at ho;cases ho;rw[Kz] at hd;cases hd
theorem Inv.fK (I:Inv X pins σ H s):s.heap.FunFrames X.base X.outer:=by
 have all:∀ (l:List Env),(∀ b∈kq l,b∈X.fs)->X.s₀.heap.FunFrames X.base l->s.heap.FunFrames X.base l:=by
  intro l
  induction l with
  | nil=>intro _ _;trivial
  | cons env r ih =>
   intro hs hl
   obtain⟨hk,⟨L,o,hf,hn,ho,hd⟩,hr⟩:=hl
   have hL:L∈X.fs:=hs L (by unfold kq;rw[Zb,hf];exact E6)
   obtain⟨sl,e⟩:=I.base.slot L o ho (I.ok.pe L hL) hL fun z=>I.ok.mi L z hL
   exact⟨hk,⟨L,_,hf,hn,e,hd⟩,ih (fun b hb=>hs b (by unfold kq;rw[Zb,hf];exact E9 _ hb)) hr⟩
 exact all X.outer (fun _ hb=>hb) I.ok.fK
theorem Inv.stack (I:Inv X pins σ H s):s.heap.FunFrames X.base X.stack:=by
 rcases I.ok.vY with e | ⟨e,hf⟩
 ·rw[e];exact I.fK
 ·rw[e]
  obtain⟨m,hn,_⟩:=I.loc
  refine .cons (by rw[I.ok.kind];decide) hf hn ?_ I.fK
  exact Heap.get?_none_of_le (XJ I.ok.nV I.ok.above)
theorem Inv.hZ (I:Inv X pins σ H s):∀ b∈kq X.stack,b∈X.env.locals :: X.fs:=fun b hb=>by
 rcases I.ok.vY with e | ⟨e,hf⟩
 ·rw[e] at hb;exact E9 _ hb
 ·rw[e] at hb
  unfold kq at hb
  rw[Zb,hf] at hb
  exact hb
theorem Inv.jD (I:Inv X pins σ H s):∀ b∈kq X.stack,H b=none:=fun b hb=>by
 rcases MA.mp (I.hZ b hb) with e | hb
 ·rw[e];exact I.free
 ·obtain⟨_,o,ho,_⟩:=I.ok.fK.mem hb
  exact I.base.free b o ho (I.ok.pe b hb) fun z=>I.ok.mi b z hb
theorem Inv.step {g':Array GenState} {t':Nat} {d':Drawn} {ch:List Addr} (I:Inv X pins σ H s)
  (lT:∀ b∈ch,(b∈X.ex\/X.s₀.heap.objs.size <= b)/\b≠X.env.locals/\(∀ x c,X.env.cells.lookup x=some c->c≠b)/\∀ p∈X.pn ++ pins,p.1≠b)
  (keep:∀ b o,b≠X.env.locals->b∉X.fs->b∉ch->s.heap.get? b=some o->H b=none->h'.get? b=some o)
  (slot:∀ b o,b≠X.env.locals->b∈X.fs->b∉ch->s.heap.get? b=some o->H b=none->∃ sl,h'.get? b=some { o with slots:=sl }) (free:∀ b o,b∉ch->s.heap.get? b=some o->H b=none->H' b=none)
  (there:∀ b o,b∉ch->s.heap.get? b=some o->∃ o',h'.get? b=some o')
  (gb:∀ b xs,H b=some (.tup xs)->H' b=some (.tup xs)) (gD:∀ b o u,H b=some (.frz o u)->H' b=some (.frz o u)) (gE:∀ b ps,H b=some (.tbl ps)->∃ more,H' b=some (.tbl (ps ++ more)))
  (ns:∀ m,s.heap.Ns X.env.locals m->h'.Ns X.env.locals m) (aM:d9 X.prog X.w H' h') (hg:AllBare g') :
  Inv X pins σ H' { s with heap:=h',gens:=g',drawn:=d',toks:=t' }:=by
 have D3:∀ b o,X.s₀.heap.get? b=some o->b≠X.env.locals:=fun b o e=>VZ (WB (Mz e) I.ok.above)
 have vZ:∀ b o,X.s₀.heap.get? b=some o->b∉X.ex->b∉ch:=fun b o e hx hb=>by
  rcases (lT b hb).1 with z | z
  ·exact hx z
  ·exact absurd (WB (Mz e) z) (Ya _)
 have cellK:∀ x c,X.env.cells.lookup x=some c->∀ v,s.heap.IsCell c v->h'.IsCell c v:=fun x c e v ⟨o,ho,hd⟩=>by
  have nW:c∉ch:=fun z=>(lT c z).2.2.1 x c e rfl
  by_cases hc:c∈X.fs
  ·obtain⟨sl,q⟩:=slot c o (I.pf x c e) hc nW ho (I.c7 x c e)
   exact⟨_,q,hd⟩
  ·exact⟨o,keep c o (I.pf x c e) hc nW ho (I.c7 x c e),hd⟩
 refine⟨I.ok,I.os,hg,⟨fun b o e n hb hx => ?_,fun b o e n hb hx => ?_,fun b o e n hx => ?_,fun b o e hx => ?_,fun b xs e=>gb b xs (I.base.gb b xs e),fun b o xs e=>gD b o xs (I.base.gD b o xs e),fun b ps e => ?_⟩,?_,fun x c e => ?_,?_,fun x c e => ?_,fun p hp => ?_,aM,I.len⟩
 ·exact keep b o (D3 b o e) hb (vZ b o e hx) (I.base.keep b o e n hb hx) (I.base.free b o e n hx)
 ·obtain⟨sl,e1⟩:=I.base.slot b o e n hb hx
  obtain⟨D4,e2⟩:=slot b _ (D3 b o e) hb (vZ b o e hx) e1 (I.base.free b o e n hx)
  exact⟨D4,e2⟩
 ·obtain⟨o',e1⟩:=I.base.there b o e hx
  exact free b o' (vZ b o e hx) e1 (I.base.free b o e n hx)
 ·obtain⟨o',e1⟩:=I.base.there b o e hx
  exact there b o' (vZ b o e hx) e1
 ·obtain⟨m1,e1⟩:=I.base.gE b ps e
  obtain⟨m2,e2⟩:=gE b _ e1
  exact⟨m1 ++ m2,by rw[e2,Array.append_assoc]⟩
 ·obtain⟨m,hn,hl⟩:=I.loc
  refine⟨m,ns m hn,fun i x v e1 e2 e3 => ?_⟩
  obtain⟨u,r,l⟩:=hl i x v e1 e2 e3
  refine⟨u,r,?_⟩
  rcases l with l | ⟨k,c,e,z⟩
  ·exact .inl l
  ·exact .inr ⟨k,c,e,cellK x c e _ z⟩
 ·obtain⟨v,z⟩:=I.cell x c e
  exact⟨v,cellK x c e v z⟩
 ·obtain⟨m,⟨o,_,_,ho,_⟩,_⟩:=I.loc
  exact free _ o (fun z=>(lT _ z).2.1 rfl) ho I.free
 ·obtain⟨v,o,ho,hd⟩:=I.cell x c e
  exact free c o (fun z=>(lT c z).2.2.1 x c e rfl) ho (I.c7 x c e)
 ·obtain⟨e,n,ne,nf,d⟩:=I.pin p hp
  have nW:p.1∉ch:=fun z=>(lT p.1 z).2.2.2 p hp rfl
  exact⟨keep p.1 p.2 ne nf nW e n,free p.1 p.2 nW e n,ne,nf,d⟩
theorem Inv.un {t':Nat} (I:Inv X pins σ H s) (u:Un X.fs [] H H' s.heap h') (aM:d9 X.prog X.w H' h'):Inv X pins σ H' { s with heap:=h',toks:=t' }:=by
 obtain⟨m,⟨o,es,ep,ho,r⟩,_⟩:=id I.loc
 obtain⟨sl,hL⟩:=u.any ho I.free (by simp)
 exact I.step (g':=s.gens) (d':=s.drawn) (ch:=[]) (fun _ z=>nomatch z) (fun b o _ hb _ e n=>u.keep b o e n hb (by simp)) (fun b o _ hb _ e n=>u.slot b o e n hb (by simp)) (fun b o _ e n=>u.free b o e n (by simp)) (fun b o _ e=>u.there b o e (by simp)) u.gb u.gD u.gE (fun m' hm=>by
  obtain⟨o',sS,zc,jQ,r'⟩:=hm
  rw[ho] at jQ;cases jQ
  exact⟨_,sS,zc,hL,r'⟩) aM I.bare
theorem Inv.call {g':Array GenState} {t':Nat} {d':Drawn} {ch:List Addr} (I:Inv X pins σ H s) (u:Un (kq X.stack) ch H H' s.heap h') (aM:d9 X.prog X.w H' h') (hg:AllBare g')
  (lT:∀ b∈ch,(b∈X.ex\/X.s₀.heap.objs.size <= b)/\b≠X.env.locals/\(∀ x c,X.env.cells.lookup x=some c->c≠b)/\∀ p∈X.pn ++ pins,p.1≠b) :
  Inv X pins σ H' { s with heap:=h',gens:=g',drawn:=d',toks:=t' }:=by
 obtain⟨m,⟨o,es,ep,ho,r⟩,_⟩:=id I.loc
 obtain⟨sl,hL⟩:=u.any ho I.free fun z=>(lT _ z).2.1 rfl
 exact I.step (ch:=ch) lT (fun b o hL hb hc e n=>u.keep b o e n (fun z=>(MA.mp (I.hZ b z)).elim hL hb) hc) (fun b o _ _ hc e n=>u.any e n hc) (fun b o hc e n=>u.free b o e n hc) (fun b o hc e=>u.there b o e hc) u.gb u.gD u.gE (fun m' hm=>by
  obtain⟨o',sS,zc,jQ,r'⟩:=hm
  rw[ho] at jQ;cases jQ
  exact⟨_,sS,zc,hL,r'⟩) aM hg
theorem Inv.turned {t':Nat} {it:Addr} (I:Inv X pins σ H s) (k:∀ b o,b≠it->s.heap.get? b=some o->h'.get? b=some o) (hn:H it=none) (hL:it≠X.env.locals)
  (h1:it∈X.ex\/X.s₀.heap.objs.size <= it) (h2:∀ x c,X.env.cells.lookup x=some c->c≠it) (h3:∀ p∈X.pn ++ pins,p.1≠it):Inv X pins σ H { s with heap:=h',toks:=t' }:=by
 have D5:∀ b u,H b=some u->b≠it:=fun b u e z=>by rw[z,hn] at e;cases e
 refine I.step (g':=s.gens) (d':=s.drawn) (ch:=[it]) (fun b hb => ?_) (fun b o _ _ hc e _=>k b o (fun z=>hc (by simp[z])) e) (fun b o _ _ hc e _=>⟨o.slots,k b o (fun z=>hc (by simp[z])) e⟩) (fun _ _ _ _ n=>n)
  (fun b o hc e=>⟨o,k b o (fun z=>hc (by simp[z])) e⟩) (fun _ _ e=>e) (fun _ _ _ e=>e) (fun b ps e=>⟨#[],by rw[e];simp⟩) (fun m hm => ?_) (fun b u e => ?_) I.bare
 ·have e:b=it:=by simpa using hb
  subst e
  exact⟨h1,hL,h2,h3⟩
 ·obtain⟨o,es,ep,ho,r⟩:=hm
  exact⟨o,es,ep,k _ o (Yd hL) ho,r⟩
 ·refine (I.aM b u e).gC (fun c v hc q=>k c v ?_ q) (fun _ q=>q) fun _ _ q=>q
  rcases hc with z | z
  ·rw[z];exact D5 b u e
  ·exact D5 c _ z
theorem Inv.tok (I:Inv X pins σ H s) (t:Nat):Inv X pins σ H { s with toks:=t }:=I.un (h':=s.heap) (t':=t) Un.refl I.aM
theorem Inv.kept {t':Nat} (I:Inv X pins σ H s) (k:∀ b u,s.heap.get? b=some u->h'.get? b=some u):Inv X pins σ H { s with heap:=h',toks:=t' }:=I.un (Un.kept k) (I.aM.kept k)
theorem Inv.laid {a:Addr} {o:HO} {t':Nat} (I:Inv X pins σ H s) (k:∀ b u,s.heap.get? b=some u->h'.get? b=some u) (hp:s.heap.objs.size <= a) (new:aI X.prog X.w (upd H a o) h' a o) :
  Inv X pins σ (upd H a o) { s with heap:=h',toks:=t' }:=I.un (Un.laid k hp (I.aM.fresh hp)) (I.aM.laid k hp new)
theorem Inv.write {x e:Addr} {o:HO} {t':Nat} (I:Inv X pins σ H s) (mu:sP (H x)) (he:e=x\/H e=some (.own x)) (k:∀ b u,b≠e->s.heap.get? b=some u->h'.get? b=some u) (lR:∃ u,h'.get? e=some u)
  (new:aI X.prog X.w (upd H x o) h' x o):Inv X pins σ (upd H x o) { s with heap:=h',toks:=t' }:=I.un (Un.write mu he k lR) (I.aM.write mu he k lR new)
theorem Inv.fU {du:List (Addr × Obj)} (I:Inv X pins σ H s) (h:∀ p∈du,s.heap.get? p.1=some p.2/\H p.1=none/\p.1≠X.env.locals/\p.1∉X.fs/\∀ v,p.2.data ≠ .cell v):Inv X du σ H s :=
 ⟨I.ok,I.os,I.bare,I.base,I.loc,I.cell,I.free,I.c7,fun p hp=>(Xa.mp hp).elim (fun z=>I.pin p (Xk _ z)) (h p),I.aM,I.len⟩
theorem D6 {N:List Str} (hN:N.Nodup) {i j:Nat} {x:Str} (a:N[i]? = some x) (b:N[j]? = some x):i=j:=by
 obtain⟨h1,e1⟩:=pV.mp a
 obtain⟨h2,e2⟩:=pV.mp b
 exact (Yq hN).mp (e1.trans e2.symm)
theorem D7 {M:Model} {A:Around} {E:Value->Shared->Prop} {i:Nat} {x:Str} {v:V} {u:Value} {Q:Unit->Shared->Prop} (I:Inv X pins σ H s) (hN:X.N.Nodup) (hi:X.N[i]? = some x) (hx:Loc X.env.scope x) (r:RelV v u)
  (h:∀ s',Inv X pins (σ.set i (some v)) H s'->(∃ a,Heap.SameBut a s.heap s'.heap/\(a=X.env.locals\/X.env.cells.lookup x=some a))->Q () s') (hf:X.fn x=true\/X.env.scope.names.lookup x=some .local:=by first | exact .inl rfl | exact .inr rfl | assumption):wpAny M A (storeName X.env x u) Q E s:=by
 obtain⟨m,hn,hl⟩:=id I.loc
 have zd:(X.env.scope.kind == .class || (X.env.scope.kind == .module && X.env.locals != X.env.globals))=false:=by rw[I.ok.kind];rfl
 have D8:i < σ.length:=by rw[I.len];exact (pV.mp hi).1
 have pf:=I.pf
 have tracked:∀ {a:Addr} {h':Heap},(∃ o,s.heap.get? a=some o/\H a=none)->Heap.SameBut a s.heap h'->d9 X.prog X.w H h':=fun {a h'} ha hs b ob e=>by
  obtain⟨_,_,nX⟩:=ha
  refine (I.aM b ob e).gC (fun c w' hc q=>(hs.2 c ?_).trans q) (fun _ q=>q) fun _ _ q=>q
  rintro rfl
  rcases hc with rfl | hc
  ·rw[nX] at e;cases e
  ·rw[nX] at hc;cases hc
 rcases hx with hk | hk
 ·refine wpAny_storeName_local hk hn (fun h' gu hs => ?_) zd
  obtain⟨oL,_,_,kU,_⟩:=id hn
  refine h _ ⟨I.ok,I.os,I.bare,⟨fun b o e n hb hx => ?_,fun b o e n hb hx => ?_,I.base.free,fun b o e hx => ?_,I.base.gb,I.base.gD,I.base.gE⟩,⟨_,gu,fun j y v' e1 e2 e3 => ?_⟩,fun y c e => ?_,I.free,I.c7,fun p hp => ?_,tracked ⟨oL,kU,I.free⟩ hs,by simpa using I.len⟩ ⟨_,hs,.inl rfl⟩
  ·exact (hs.2 b (VZ (WB (Mz e) I.ok.above))).trans (I.base.keep b o e n hb hx)
  ·obtain⟨sl,e1⟩:=I.base.slot b o e n hb hx
   exact⟨sl,(hs.2 b (VZ (WB (Mz e) I.ok.above))).trans e1⟩
  ·obtain⟨o',e1⟩:=I.base.there b o e hx
   exact⟨o',(hs.2 b (VZ (WB (Mz e) I.ok.above))).trans e1⟩
  ·by_cases hj:j=i
   ·subst hj
    rw[hi] at e1;cases e1
    rw[XM D8] at e2
    cases e2
    exact⟨u,r,.inl ⟨hk,by simp⟩⟩
   ·rw[XF (Yd hj)] at e2
    obtain⟨u',r',q⟩:=hl j y v' e1 e2 e3
    refine⟨u',r',?_⟩
    rcases q with⟨k,e⟩ | ⟨k,c,e,z⟩
    ·refine .inl ⟨k,?_⟩
     have:y≠x:=fun e=>hj (D6 hN e1 (e ▸ hi))
     simp[this,e]
    ·exact .inr ⟨k,c,e,z.sameBut hs (pf y c e)⟩
  ·obtain⟨w',z⟩:=I.cell y c e
   exact⟨w',z.sameBut hs (pf y c e)⟩
  ·obtain⟨e,n,ne,nf,d⟩:=I.pin p hp
   exact⟨(hs.2 p.1 ne).trans e,n,ne,nf,d⟩
 ·have mn:X.fn x=true:=by
   rcases hf with z | z
   ·exact z
   ·rw[z] at hk;cases hk
  obtain⟨c,hc⟩:=I.ok.has x (.inl hk)
  obtain⟨w',z⟩:=I.cell x c hc
  refine wpAny_storeName_cell I.ok.kind hk hc z (fun h' kr hs => ?_)
  obtain⟨oc,D9,ze⟩:=id z
  refine h { s with heap:=h' } ⟨I.ok,I.os,I.bare,⟨fun b o e n hb hx => ?_,fun b o e n hb hx => ?_,I.base.free,fun b o e hx => ?_,I.base.gb,I.base.gD,I.base.gE⟩,⟨m,hn.sameBut hs (Yd (pf x c hc)),fun j y v' e1 e2 e3 => ?_⟩,fun y c' e => ?_,I.free,I.c7,fun p hp => ?_,tracked ⟨oc,D9,I.c7 x c hc⟩ hs,by simpa using I.len⟩ ⟨c,hs,.inr hc⟩
  ·exact (hs.2 b (VZ (WB (Mz e) (I.ok.sR x c mn hc)))).trans (I.base.keep b o e n hb hx)
  ·obtain⟨sl,e1⟩:=I.base.slot b o e n hb hx
   exact⟨sl,(hs.2 b (VZ (WB (Mz e) (I.ok.sR x c mn hc)))).trans e1⟩
  ·obtain⟨o',e1⟩:=I.base.there b o e hx
   exact⟨o',(hs.2 b (VZ (WB (Mz e) (I.ok.sR x c mn hc)))).trans e1⟩
  ·by_cases hj:j=i
   ·subst hj
    rw[hi] at e1;cases e1
    rw[XM D8] at e2
    cases e2
    exact⟨u,r,.inr ⟨.inl hk,c,hc,kr⟩⟩
   ·rw[XF (Yd hj)] at e2
    obtain⟨u',r',q⟩:=hl j y v' e1 e2 e3
    refine⟨u',r',?_⟩
    rcases q with q | ⟨k,c',e,z'⟩
    ·exact .inl q
    ·refine .inr ⟨k,c',e,z'.sameBut hs ?_⟩
     rintro rfl
     exact hj (D6 hN e1 (I.ok.inj _ _ _ e hc ▸ hi))
  ·by_cases hcc:c'=c
   ·subst hcc;exact⟨_,kr⟩
   ·obtain⟨w2,z2⟩:=I.cell y c' e
    exact⟨w2,z2.sameBut hs hcc⟩
  ·obtain⟨e,n,ne,nf,d⟩:=I.pin p hp
   refine⟨(hs.2 p.1 ?_).trans e,n,ne,nf,d⟩
   intro q
   rw[q,D9] at e
   have q':oc=p.2:=WW e
   exact d w' (by rw[<-q'];exact ze)
theorem D_ {M:Model} {A:Around} {E:Value->Shared->Prop} {i:Nat} {x:Str} {v:V} {u:Value} {Q:Unit->Shared->Prop} (I:Inv X pins σ H s) (hN:X.N.Nodup) (hi:X.N[i]? = some x) (hx:Loc X.env.scope x) (r:RelV v u)
  (h:∀ s',Inv X pins (σ.set i (some v)) H s'->Q () s') (hf:X.fn x=true\/X.env.scope.names.lookup x=some .local:=by first | exact .inl rfl | exact .inr rfl | assumption):wpAny M A (storeName X.env x u) Q E s :=
 D7 I hN hi hx r (fun s' I' _=>h s' I') hf
theorem Inv.sT {s':Shared} {ch:List Addr} (I:Inv X pins σ H s) (ho:s'.os=s.os) (u:Un (kq X.stack) ch H H' s.heap s'.heap) (aM:d9 X.prog X.w H' s'.heap) (hg:AllBare s'.gens)
  (lT:∀ b∈ch,(b∈X.ex\/X.s₀.heap.objs.size <= b)/\b≠X.env.locals/\(∀ x c,X.env.cells.lookup x=some c->c≠b)/\∀ p∈X.pn ++ pins,p.1≠b):Inv X pins σ H' s':=by
 obtain⟨h',g',d',t',o'⟩:=s'
 have e:o'=s.os:=ho
 subst e
 exact I.call (g':=g') (t':=t') (d':=d') u aM hg lT
end
noncomputable abbrev XK:=Value->Option Addr->Hp->Prop
noncomputable abbrev St:=List (Option V)
noncomputable abbrev VK:=V->Hp->Prop
noncomputable abbrev TE:=St->Hp->VK->Prop
noncomputable abbrev TT:=St->Hp->(Bool->Hp->Prop)->Prop
noncomputable abbrev TA:=St->Hp->(List V->Hp->Prop)->Prop
structure Ends where
 nx:St->Hp->Prop
 rt:VK
 bk:St->Hp->Prop:=fun _ _=>False
 ct:St->Hp->Prop:=fun _ _=>False
noncomputable abbrev TS:=Ends->St->Hp->Prop
noncomputable def EP (X:Cx) (pins:List (Addr × Obj)) (σ : St) (Q:VK) (u:Value) (s':Shared):Prop:=∃ v H',Inv X pins σ H' s'/\RelV v u/\Q v H'
noncomputable def TP (X:Cx) (pins:List (Addr × Obj)) (σ : St) (Q:Bool->Hp->Prop) (b:Bool) (s':Shared):Prop:=∃ H',Inv X pins σ H' s'/\Q b H'
noncomputable def AP (X:Cx) (pins:List (Addr × Obj)) (σ : St) (Q:List V->Hp->Prop) (us:List Value) (s':Shared):Prop:=∃ vs H',Inv X pins σ H' s'/\Vals vs us/\Q vs H'
noncomputable def SP (X:Cx) (pins:List (Addr × Obj)) (D:Ends) (f:Flow) (s':Shared):Prop :=
 match f with
 | .next=>∃ σ' H',Inv X pins σ' H' s'/\D.nx σ' H'
 | .brk=>∃ σ' H',Inv X pins σ' H' s'/\D.bk σ' H'
 | .cont=>∃ σ' H',Inv X pins σ' H' s'/\D.ct σ' H'
 | .ret u=>∃ v σ' H',Inv X pins σ' H' s'/\RelV v u/\D.rt v H'
noncomputable def PE (X:Cx) (e:Expr) (t:TE):Prop :=
 ∀ (pins:List (Addr × Obj)) (s:Shared) (σ : St) (H:Hp) (Q:VK),Inv X pins σ H s->t σ H Q->wpAny (model X.prog X.w) X.A (eval e X.env) (EP X pins σ Q) X.xe s
noncomputable def PT (X:Cx) (e:Expr) (t:TT):Prop :=
 ∀ (pins:List (Addr × Obj)) (s:Shared) (σ : St) (H:Hp) (Q:Bool->Hp->Prop),Inv X pins σ H s->t σ H Q->wpAny (model X.prog X.w) X.A (isTrue e X.env (eval e X.env)) (TP X pins σ Q) X.xe s
noncomputable def PW (X:Cx) (e:Expr) (t:TT):Prop :=
 ∀ (whole:Sem Value) (pins:List (Addr × Obj)) (s:Shared) (σ : St) (H:Hp) (Q:Bool->Hp->Prop),Inv X pins σ H s->t σ H Q->wpAny (model X.prog X.w) X.A (isTrue e X.env whole) (TP X pins σ Q) X.xe s
theorem PW.pt {X:Cx} {e:Expr} {t:TT} (h:PW X e t):PT X e t:=h _
noncomputable def PA (X:Cx) (es:List Expr) (t:TA):Prop :=
 ∀ (pos:Pos) (pins:List (Addr × Obj)) (s:Shared) (σ : St) (H:Hp) (Q:List V->Hp->Prop),Inv X pins σ H s->t σ H Q->wpAny (model X.prog X.w) X.A (spliced (backTo pos (starEach es X.env))) (AP X pins σ Q) X.xe s
noncomputable def PS (X:Cx) (st:Stmt) (t:TS):Prop :=
 ∀ (pins:List (Addr × Obj)) (s:Shared) (σ : St) (H:Hp) (D:Ends),Inv X pins σ H s->t D σ H->wpAny (model X.prog X.w) X.A (exec st X.env) (SP X pins D) X.xe s
noncomputable def iI (X:Cx) (st:List Stmt) (t:TS):Prop :=
 ∀ (pins:List (Addr × Obj)) (s:Shared) (σ : St) (H:Hp) (D:Ends),Inv X pins σ H s->t D σ H->wpAny (model X.prog X.w) X.A (execs st X.env) (SP X pins D) X.xe s
theorem bg {α : Type} {t:Sem α} {Q Q' : α -> Shared->Prop} {M:Model} {A:Around} {E:Value->Shared->Prop} {s:Shared} (h:wpAny M A t Q E s) (hQ:∀ a s,Q a s->Q' a s):wpAny M A t Q' E s:=Yr h hQ fun _ _ x=>x
section
variable {X:Cx}
noncomputable def gG (i:Nat):TE:=fun σ H Q=>∃ v,σ[i]? = some (some v)/\Q v H
noncomputable def tC (v:V):TE:=fun _ H Q=>Q v H
theorem Ea {i:Nat} {x:Str} {pos:Pos} (hN:X.N[i]? = some x) (hv:pd X.env.scope x) (hd:(x == ("__debug__" : Str))=false:=by decide) (gc:(x == ("__classdict__" : Str))=false:=by decide):PE X (.Name x pos) (gG i):=by
 intro pins s σ H Q I h
 obtain⟨v,e,h⟩:=h
 obtain⟨m,hn,hl⟩:=I.loc
 obtain⟨u,r,l⟩:=hl i x v hN e hv
 have fin:EP X pins σ Q u s:=⟨v,H,I,r,h⟩
 rcases l with⟨hk,hm⟩ | ⟨hk,c,hc,nY⟩
 ·exact wpAny_Name (wpAny_loadName_local I.ok.kind hk hn hm fin) hd
 ·rcases hk with hk | hk
  ·exact wpAny_Name (wpAny_loadName_cell I.ok.kind hk hc nY fin) hd
  ·exact wpAny_Name (wpAny_loadName_free I.ok.kind hk hc nY fin gc) hd
theorem KC {i j pos}:PE X (.Constant (.int i) j pos) (tC (.int i)):=fun _ _ _ H _ I h=>wpAny_Constant_int ⟨.int i,H,I.tok _,⟨_,rfl⟩,h⟩
theorem KD {b j pos}:PE X (.Constant (.bool b) j pos) (tC (.bl b)):=fun _ _ _ H _ I h=>Constant_bool ⟨.bl b,H,I,rfl,h⟩
noncomputable def Gl (X:Cx) (x:Str):Prop:=X.env.kindOf x=some .globalImplicit
theorem Eb {E:Value->Shared->Prop} {pins:List (Addr × Obj)} {s:Shared} {σ : St} {H:Hp} {x:Str} {u:Value} {pos:Pos} {Q:Value->Shared->Prop} (I:Inv X pins σ H s) (hg:Gl X x) (hm:X.mg x=some u) (h:Q u s)
  (hd:(x == ("__debug__" : Str))=false:=by decide):wpAny (model X.prog X.w) X.A (eval (.Name x pos) X.env) Q E s :=
 Calls.Name_function_global I.ok.kind hg (Calls.loadGlobal_global (by rw[I.ok.glob];exact I.mod.glob.keeps I.bk) hm h) hd
theorem mq {E:Value->Shared->Prop} {pins:List (Addr × Obj)} {s:Shared} {σ : St} {H:Hp} {x:Str} {u:Value} {pos:Pos} {Q:Value->Shared->Prop} (I:Inv X pins σ H s) (hg:Gl X x) (hm:X.mg x=none) (hv:bootBuiltins x=some u) (h:Q u s)
  (hn:x ≠ "__name__" := by decide) (hd:(x == ("__debug__" : Str))=false:=by decide):wpAny (model X.prog X.w) X.A (eval (.Name x pos) X.env) Q E s:=by
 obtain⟨mb,h1,h2⟩:=I.mod.blt
 exact Calls.Name_function_global I.ok.kind hg (Calls.loadGlobal_builtin (by rw[I.ok.glob];exact I.mod.glob.keeps I.bk) hm (by rw[I.ok.blt];exact h1.keeps I.bk) ((h2 x hn).trans hv) h) hd
theorem KG {x:Str} {v:V} {u:Value} {pos:Pos} (hg:Gl X x) (hm:X.mg x=some u) (r:RelV v u) (hd:(x == ("__debug__" : Str))=false:=by decide):PE X (.Name x pos) (tC v) :=
 fun _ _ _ H _ I h=>Eb I hg hm ⟨v,H,I,r,h⟩ hd
theorem KH {x:Str} {v:V} {u:Value} {pos:Pos} (hg:Gl X x) (hm:X.mg x=none) (hv:bootBuiltins x=some u) (r:RelV v u) (hn:x ≠ "__name__" := by decide) (hd:(x == ("__debug__" : Str))=false:=by decide):PE X (.Name x pos) (tC v) :=
 fun _ _ _ H _ I h=>mq I hg hm hv ⟨v,H,I,r,h⟩ hn hd
variable {a b:Expr} {ta tb:TE} {pos:Pos}
noncomputable def PC (X:Cx) (op:CmpOp) (a b:Expr) (t:TE):Prop :=
 ∀ (pins:List (Addr × Obj)) (s:Shared) (σ : St) (H:Hp) (Q:VK),Inv X pins σ H s->t σ H Q →
  wpAny (model X.prog X.w) X.A (eval a X.env) (fun v s₁ => wpAny (model X.prog X.w) X.A (eval b X.env) (fun u s₂ => wpAny (model X.prog X.w) X.A (compareOp op v u) (EP X pins σ Q) X.xe s₂) X.xe s₁) X.xe s
noncomputable def tB (t:TE):TT:=fun σ H Q=>t σ H fun x H1=>∃ c,x = .bl c/\Q c H1
theorem KI {op:CmpOp} {t:TE} (h:PC X op a b t) (h1:behindInMarks op b=false:=by first | exact KJ _ (by decide) (by decide) | rfl):PT X (.Compare a [op] [b] pos) (tB t):=by
 intro pins s σ H Q I hw
 refine wpAny_isTrue_Compare1 (bg (h pins s σ H _ I hw) fun v s1 h1=>bg h1 fun u s2 h2=>bg h2 fun c s3 h0_ => el5 h0_ fun x H1 I1 r1 q1 => ?_) h1
 obtain⟨d,rfl,q⟩:=q1
 cases r1
 exact Yl ⟨H1,I1,q⟩
theorem KN {e:Expr} {t:TE} (h:PE X e t) (he:∀ whole,isTrue e X.env whole=(do let v <- whole;standAt e.pos;holding [v] (truthy v)):=by intro _;rfl):PT X e (tB t):=by
 intro pins s σ H Q I hw
 refine isTrue_plain (bg (h pins s σ H _ I hw) fun v s1 h0_ => el5 h0_ fun x H1 I1 r1 q1 => ?_) (he _)
 obtain⟨d,rfl,q⟩:=q1
 cases r1
 exact Yl ⟨H1,I1,q⟩
variable {tA lU:TT} {rest:List Expr}
noncomputable def ph (t u:TT):TT:=fun σ H Q=>t σ H fun c H1=>if c=true then u σ H1 Q else Q false H1
noncomputable def zf (t u:TT):TT:=fun σ H Q=>t σ H fun c H1=>if c=true then Q true H1 else u σ H1 Q
noncomputable def sU (t:TT):TT:=fun σ H Q=>t σ H fun c H1=>Q (!c) H1
theorem KO (ha:PT X a tA):PW X (.BoolOp .And [a] pos) tA:=by
 intro wh pins s σ H Q I h
 refine isTrue_and (bg (ha pins s σ H Q I h) fun c s1 e => ?_)
 cases c with
 | true=>exact isTrue_and_nil e
 | false=>exact e
theorem KP (ha:PT X a tA):PW X (.BoolOp .Or [a] pos) tA:=by
 intro wh pins s σ H Q I h
 refine isTrue_or (bg (ha pins s σ H Q I h) fun c s1 e => ?_)
 cases c with
 | false=>exact isTrue_or_nil e
 | true=>exact e
theorem KQ (ha:PT X a tA) (hb:PW X (.BoolOp .And (b :: rest) pos) lU):PW X (.BoolOp .And (a :: b :: rest) pos) (ph tA lU):=by
 intro wh pins s σ H Q I h
 refine isTrue_and (bg (ha pins s σ H _ I h) fun c s1 h0_ => el3 h0_ fun H1 I1 q1 => ?_)
 cases c with
 | true=>exact hb wh pins s1 σ H1 Q I1 q1
 | false=>exact⟨H1,I1,q1⟩
theorem KR (ha:PT X a tA) (hb:PW X (.BoolOp .Or (b :: rest) pos) lU):PW X (.BoolOp .Or (a :: b :: rest) pos) (zf tA lU):=by
 intro wh pins s σ H Q I h
 refine isTrue_or (bg (ha pins s σ H _ I h) fun c s1 h0_ => el3 h0_ fun H1 I1 q1 => ?_)
 cases c with
 | true=>exact⟨H1,I1,q1⟩
 | false=>exact hb wh pins s1 σ H1 Q I1 q1
theorem KU (ha:PT X a tA):PT X (.UnaryOp .Not a pos) (sU tA):=by
 intro pins s σ H Q I h
 exact isTrue_not (ha pins s σ H (fun c H1=>Q (!c) H1) I h)
noncomputable def Ec (ta tb:TE):TE:=fun σ H Q=>ta σ H fun x H1=>∃ c,x = .bl c/\if c=true then tb σ H1 Q else Q (.bl false) H1
noncomputable def Ed (ta:TE):TE:=fun σ H Q=>ta σ H fun x H1=>∃ c,x = .bl c/\Q (.bl (!c)) H1
theorem KW {op} {t:TE} (h:PE X a t):PE X (.BoolOp op [a] pos) t:=fun pins s σ H Q I hw=>BoolOp_one (h pins s σ H Q I hw)
theorem KY (ha:PE X a ta) (hb:PE X (.BoolOp .And (b :: rest) pos) tb):PE X (.BoolOp .And (a :: b :: rest) pos) (Ec ta tb):=by
 intro pins s σ H Q I h
 refine BoolOp_and (bg (ha pins s σ H _ I h) fun v s1 h0_ => el5 h0_ fun x H1 I1 r1 q1 => ?_)
 obtain⟨c,rfl,q1⟩:=q1
 cases r1
 refine Yl ?_
 cases c with
 | true=>exact hb pins s1 σ H1 Q I1 q1
 | false=>exact⟨.bl false,H1,I1,rfl,q1⟩
theorem KZ (ha:PE X a ta):PE X (.UnaryOp .Not a pos) (Ed ta):=by
 intro pins s σ H Q I h
 refine UnaryOp_ (bg (ha pins s σ H _ I h) fun v s1 h0_ => el5 h0_ fun x H1 I1 r1 q1 => ?_)
 obtain⟨c,rfl,q1⟩:=q1
 cases r1
 exact not_of (Yl ⟨.bl (!c),H1,I1,rfl,q1⟩)
noncomputable def Ee (t:TT) (ta tb:TE):TE:=fun σ H Q=>t σ H fun c H1=>if c=true then ta σ H1 Q else tb σ H1 Q
theorem K1 {c:Expr} (hc:PT X c tA) (ha:PE X a ta) (hb:PE X b tb):PE X (.IfExp c a b pos) (Ee tA ta tb):=by
 intro pins s σ H Q I h
 refine wpAny_IfExp (bg (hc pins s σ H _ I h) fun d s1 h0_ => el3 h0_ fun H1 I1 q1 => ?_)
 cases d with
 | true=>exact ha pins s1 σ H1 Q I1 q1
 | false=>exact hb pins s1 σ H1 Q I1 q1
end
noncomputable def bj (K:PySem.W.Frag) (H:Hp) (a:Addr) (xs:List V):Prop :=
 Rd H a (.lst xs) ∨
  ∃ (o:Obj) (ak:Array Value) (n:Nat),K.lookup a=some o/\o.cls = .type "list" /\ o.dict=none/\o.data = .seq ak n/\ak.size <= sizeLine/\Vals xs ak.toList
noncomputable def bV (K:PySem.W.Frag) (H:Hp) (a:Addr) (xs:List V):Prop :=
 Rd H a (.tup xs) ∨
  ∃ (o:Obj) (ak:Array Value) (n:Nat),K.lookup a=some o/\o.cls = .type "tuple" /\ o.data = .seq ak n/\ak.size <= sizeLine/\Vals xs ak.toList
noncomputable def zg:Value->Option V
 | .none=>some .non
 | .bool b=>some (.bl b)
 | .int i _=>some (.int i)
 | .str x _=>some (.str x)
 | .bytes b _=>some (.byt b)
 | .float b _=>some (.flt b)
 | .ref a=>some (.ref a)
 | .type n=>some (.ty n)
 | _=>none
theorem RelV.abs {x:V} {u:Value} (r:RelV x u):zg u=some x:=by
 cases x with
 | non=>cases r;rfl
 | bl _=>cases r;rfl
 | int _=>obtain⟨t,rfl⟩:=r;rfl
 | str _=>obtain⟨t,rfl⟩:=r;rfl
 | byt _=>obtain⟨t,rfl⟩:=r;rfl
 | flt _=>obtain⟨t,rfl⟩:=r;rfl
 | ref _=>cases r;rfl
 | ty _=>cases r;rfl
theorem RelV.inj {x y:V} {u:Value} (r:RelV x u) (q:RelV y u):x=y:=WW (r.abs.symm.trans q.abs)
theorem Vals.inj:∀ {xs ys:List V} {us:List Value},Vals xs us->Vals ys us->xs=ys
 | _,_,_,.nil,.nil=>rfl
 | _,_,_,.cons r t,.cons r' t'=>by rw[r.inj r',Vals.inj t t']
section
variable {X:Cx} {pins:List (Addr × Obj)} {σ : St} {H:Hp} {s:Shared} {a:Addr} {xs ys:List V}
theorem bj.of {K:PySem.W.Frag} (h:H a=some (.lst xs)):bj K H a xs := .inl (.inl h)
theorem bV.of {K:PySem.W.Frag} (h:H a=some (.tup xs)):bV K H a xs := .inl (.inl h)
theorem Inv.list (I:Inv X pins σ H s) (h:bj X.K H a xs):∃ ak:List Value,Vals xs ak/\PlainL s.heap a ak.toArray/\xs.length <= sizeLine:=by
 rcases h with h | ⟨o,ak,n,hk,hc,hd,hs,hz,r⟩
 ·obtain⟨z,ak,n,r,e⟩:=h.ok I.aM
  exact⟨ak,r,⟨_,n,e,rfl,rfl,rfl⟩,z⟩
 ·refine⟨ak.toList,r,⟨o,n,I.iH a o hk,hc,hd,by simpa using hs⟩,?_⟩
  have e:=r.length
  simp only[E8] at e
  omega
theorem Inv.tuple (I:Inv X pins σ H s) (h:bV X.K H a xs):∃ ak:List Value,Vals xs ak/\IsTup s.heap a ak.toArray/\xs.length <= sizeLine:=by
 rcases h with h | ⟨o,ak,n,hk,hc,hs,hz,r⟩
 ·obtain⟨z,ak,r,p⟩:=h.ok I.aM
  exact⟨ak,r,p,z⟩
 ·refine⟨ak.toList,r,⟨o,I.iH a o hk,hc,n,by simpa using hs⟩,?_⟩
  have e:=r.length
  simp only[E8] at e
  omega
theorem Inv.iJ (I:Inv X pins σ H s) (h:bj X.K H a xs) (h':bj X.K H a ys):xs=ys:=by
 obtain⟨ak,r,⟨o,n,e,_,_,d⟩,_⟩:=I.list h
 obtain⟨its',r',⟨o',n',e',_,_,d'⟩,_⟩:=I.list h'
 rw[e] at e';cases e'
 rw[d] at d'
 injection d' with d1 _
 have:ak=its':=by simpa using congrArg Array.toList d1
 subst this
 exact r.inj r'
theorem Inv.gT (I:Inv X pins σ H s) (h:bV X.K H a xs) (h':bV X.K H a ys):xs=ys:=by
 obtain⟨ak,r,⟨o,e,_,n,d⟩,_⟩:=I.tuple h
 obtain⟨its',r',⟨o',e',_,n',d'⟩,_⟩:=I.tuple h'
 rw[e] at e';cases e'
 rw[d] at d'
 injection d' with d1 _
 have:ak=its':=by simpa using congrArg Array.toList d1
 subst this
 exact r.inj r'
end
noncomputable abbrev Cx.gH (X:Cx) (E:Value->Shared->Prop):Cx:={ X with xe:=E }
noncomputable abbrev Cx.mx (X:Cx):Cx:=X.gH fun _ _=>False
theorem Cx.Ok.gH {X:Cx} (ok:X.Ok) (E:Value->Shared->Prop):(X.gH E).Ok :=
 ⟨ok.mod,ok.kind,ok.glob,ok.blt,ok.above,ok.inj,ok.has,ok.sR,ok.hd,ok.frames,ok.vY,ok.D2,ok.bs,ok.nV,ok.kR,ok.mi,ok.fK,ok.pe⟩
theorem Cx.Ok.dw {X:Cx} {E:Value->Shared->Prop} (ok:(X.gH E).Ok):X.Ok :=
 ⟨ok.mod,ok.kind,ok.glob,ok.blt,ok.above,ok.inj,ok.has,ok.sR,ok.hd,ok.frames,ok.vY,ok.D2,ok.bs,ok.nV,ok.kR,ok.mi,ok.fK,ok.pe⟩
section
variable {X:Cx} {pins:List (Addr × Obj)} {σ : St} {H:Hp} {s:Shared} {E:Value->Shared->Prop}
theorem Inv.gH (I:Inv X pins σ H s) (E:Value->Shared->Prop):Inv (X.gH E) pins σ H s:=⟨I.ok.gH E,I.os,I.bare,I.base,I.loc,I.cell,I.free,I.c7,I.pin,I.aM,I.len⟩
theorem Inv.dw (I:Inv (X.gH E) pins σ H s):Inv X pins σ H s:=⟨I.ok.dw,I.os,I.bare,I.base,I.loc,I.cell,I.free,I.c7,I.pin,I.aM,I.len⟩
theorem SP.dw {D:Ends} {f:Flow} {s':Shared} (h:SP (X.gH E) pins D f s'):SP X pins D f s':=by
 cases f with
 | next=>obtain⟨σ',H',I,q⟩:=h;exact⟨σ',H',I.dw,q⟩
 | brk=>obtain⟨σ',H',I,q⟩:=h;exact⟨σ',H',I.dw,q⟩
 | cont=>obtain⟨σ',H',I,q⟩:=h;exact⟨σ',H',I.dw,q⟩
 | ret u=>obtain⟨v,σ',H',I,r,q⟩:=h;exact⟨v,σ',H',I.dw,r,q⟩
theorem iI.mx {st:List Stmt} {t:TS} (h:iI X.mx st t):iI X st t:=fun pins s σ H D I hw =>
 Yr (h pins s σ H D (I.gH _) hw) (fun _ _ q=>q.dw) fun _ _ z=>False.elim z
end
section
variable {X:Cx} {st:Stmt} {rest:List Stmt} {t u:TS} {e:Expr} {te:TE} {pos:Pos}
noncomputable def Ef:TS:=fun D σ H=>D.nx σ H
noncomputable def kW (t u:TS):TS:=fun D σ H=>t { D with nx:=u D } σ H
theorem K4:iI X [] Ef:=fun _ _ σ H _ I h=>wpAny_execs_nil ⟨σ,H,I,h⟩
theorem K5 (h1:PS X st t) (h2:iI X rest u):iI X (st :: rest) (kW t u):=by
 intro pins s σ H D I h
 refine wpAny_execs_cons (bg (h1 pins s σ H { D with nx:=u D } I h) fun f s1 q => ?_)
 cases f with
 | next =>
  obtain⟨σ',H',I',q⟩:=q
  exact h2 pins s1 σ' H' D I' q
 | ret v=>exact q
 | brk=>exact q
 | cont=>exact q
theorem K6 (h1:PS X st t):iI X [st] t:=by
 intro pins s σ H D I h
 refine wpAny_execs_cons (bg (h1 pins s σ H D I h) fun f s1 q => ?_)
 cases f with
 | next=>exact wpAny_execs_nil q
 | ret v=>exact q
 | brk=>exact q
 | cont=>exact q
theorem Inv.quiet {pins:List (Addr × Obj)} {σ : St} {H:Hp} {s:Shared} (I:Inv X pins σ H s):interactive X.env=false:=by simp[interactive,I.ok.kind]
noncomputable def zh (te:TE):TS:=fun D σ H=>te σ H fun _ H1=>D.nx σ H1
theorem K7 (he:PE X e te) (hs:swapsWith e none pos.line X.env=pure false:=by rfl):PS X (.Expr e pos) (zh te):=by
 intro pins s σ H D I h
 exact wpAny_Expr_any (bg (he pins s σ H _ I h) fun v s1 h0_ => el5 h0_ fun x H1 I1 r1 q1 =>⟨σ,H1,I1,q1⟩) I.quiet hs
noncomputable def px (te:TE):TS:=fun D σ H=>te σ H D.rt
theorem K8 (he:PE X e te):PS X (.Return (some e) pos) (px te):=by
 intro pins s σ H D I h
 exact wpAny_Return_some (bg (he pins s σ H _ I h) fun v s1 h0_ => el5 h0_ fun x H1 I1 r1 q1 =>⟨x,σ,H1,I1,r1,q1⟩)
noncomputable def sV (c:TT) (t u:TS):TS:=fun D σ H=>c σ H fun b H1=>if b=true then t D σ H1 else u D σ H1
theorem K9 {c:Expr} {a b:List Stmt} {tc:TT} (hc:PT X c tc) (ha:iI X a t) (hb:iI X b u):PS X (.If c a b pos) (sV tc t u):=by
 intro pins s σ H D I h
 refine wpAny_If (bg (hc pins s σ H _ I h) fun d s1 h0_ => el3 h0_ fun H1 I1 q1 => ?_)
 cases d with
 | true=>exact ha pins s1 σ H1 D I1 q1
 | false=>exact hb pins s1 σ H1 D I1 q1
end
noncomputable abbrev TG:=V->St->Hp->(St->Hp->Prop)->Prop
noncomputable abbrev jE:=List V->St->Hp->(St->Hp->Prop)->Prop
noncomputable def PG (X:Cx) (target:Expr) (t:TG):Prop :=
 ∀ (pins:List (Addr × Obj)) (s:Shared) (σ : St) (H:Hp) (v:V) (u:Value) (Q:St->Hp->Prop),Inv X pins σ H s->RelV v u->t v σ H Q →
  wpAny (model X.prog X.w) X.A (assign target X.env u) (fun _ s'=>∃ σ' H',Inv X pins σ' H' s'/\Q σ' H') X.xe s
noncomputable def sW (X:Cx) (ts:List Expr) (t:jE):Prop :=
 ∀ (pins:List (Addr × Obj)) (s:Shared) (σ : St) (H:Hp) (vs:List V) (us:List Value) (Q:St->Hp->Prop),Inv X pins σ H s->Vals vs us->t vs σ H Q →
  wpAny (model X.prog X.w) X.A (assignInOrder ((assignEach ts X.env).map (·.2)) us) (fun _ s'=>∃ σ' H',Inv X pins σ' H' s'/\Q σ' H') X.xe s
noncomputable abbrev my:=V->V->V->Hp->(Hp->Prop)->Prop
noncomputable def pA (X:Cx) (t:my):Prop :=
 ∀ (pins:List (Addr × Obj)) (s:Shared) (σ : St) (H:Hp) (o i v:V) (ov iv u:Value) (Q:Hp->Prop),Inv X pins σ H s->RelV o ov->RelV i iv->RelV v u->t o i v H Q →
  wpAny (model X.prog X.w) X.A (setItem ov iv u) (fun _ s'=>∃ H',Inv X pins σ H' s'/\Q H') X.xe s
section
variable {X:Cx} {pos:Pos}
noncomputable def lV (i:Nat):TG:=fun v σ H Q=>Q (σ.set i (some v)) H
theorem K_ {i:Nat} {x:Str} (hN:X.N.Nodup) (hi:X.N[i]? = some x) (hx:Loc X.env.scope x) (hf:X.fn x=true\/X.env.scope.names.lookup x=some .local:=by first | exact .inl rfl | exact .inr rfl | assumption):PG X (.Name x pos) (lV i):=by
 intro pins s σ H v u Q I r h
 exact wpAny_assign_Name (D_ I hN hi hx r (fun s' I'=>⟨_,H,I',h⟩) hf)
noncomputable def pB:jE:=fun vs σ H Q=>vs=[]/\Q σ H
noncomputable def v3 (t:TG) (u:jE):jE:=fun vs σ H Q=>∃ v r,vs=v :: r/\t v σ H fun σ' H'=>u r σ' H' Q
theorem La:sW X [] pB:=by
 intro pins s σ H vs us Q I r h
 obtain⟨e,h⟩:=h
 subst e
 cases r
 exact assignInOrder_nil ⟨σ,H,I,h⟩
theorem Lb {e:Expr} {es:List Expr} {t:TG} {u:jE} (h1:PG X e t) (h2:sW X es u)
  (hs:(assignEach (e :: es) X.env).map (·.2)=assign e X.env :: (assignEach es X.env).map (·.2):=by rfl):sW X (e :: es) (v3 t u):=by
 intro pins s σ H vs us Q I r h
 obtain⟨v,vr,e1,h⟩:=h
 subst e1
 cases r with
 | cons r rr =>
  rw[hs]
  refine assignInOrder_cons (bg (h1 pins s σ H _ _ _ I r h) fun _ s1 ⟨σ1,H1,I1,q1⟩ => ?_)
  exact h2 pins s1 σ1 H1 _ _ Q I1 rr q1
noncomputable def pC (K:PySem.W.Frag) (n:Nat) (t:jE):TG:=fun v σ H Q=>∃ a xs,v = .ref a/\bV K H a xs/\xs.length=n/\t xs σ H Q
theorem Lc {es:List Expr} {k:Nat} {t:jE} {n:Nat} (hc:X.calm=true) (h:sW X es t)
  (hn:(assignEach es X.env).length=n:=by rfl) (kX:(assignEach es X.env).findIdx? (·.1)=none:=by rfl):PG X (.Tuple es k pos) (pC X.K n t):=by
 intro pins s σ H v u Q I r hw
 obtain⟨a,xs,e1,hq,hl,hw⟩:=hw
 subst e1
 cases r
 obtain⟨ak,rv,ht,hz⟩:=I.tuple hq
 refine assign_Tuple_tuple (I.ok.hd hc) ht (by simp[hn,<-hl,rv.length]) kX fun h' hx => ?_
 have I1:Inv X pins σ H { s with heap:=h' }:=I.kept (t':=s.toks) fun b o e=>hx b o (VZ (Mz e)) e
 exact h pins _ σ H xs _ Q I1 (by simpa using rv) hw
noncomputable def pD (to ti:TE) (t:my):TG:=fun v σ H Q=>to σ H fun o H1=>ti σ H1 fun i H2=>t o i v H2 fun H3=>Q σ H3
theorem Ld {o i:Expr} {to ti:TE} {t:my} (ho:PE X o to) (hi:PE X i ti) (hs:pA X t)
  (ha:∀ v,assign (.Subscript o i pos) X.env v=(do
   let ov <- holding [v] (eval o X.env)
   let iv <- holding [v,ov] (eval i X.env)
   standAt pos
   holding [v,ov,iv] (setItem ov iv v)
   release [v,ov,iv] []):=by intro _;rfl):PG X (.Subscript o i pos) (pD to ti t):=by
 intro pins s σ H v u Q I r h
 rw[ha]
 refine pT (W9 (bg (ho pins s σ H _ I h) fun ov s1 h0_ => el5 h0_ fun x H1 I1 r1 q1 => ?_))
 refine pT (W9 (bg (hi pins s1 σ H1 _ I1 q1) fun iv s2 h0_ => el5 h0_ fun y H2 I2 r2 q2 => ?_))
 refine pT (ZT (pT (W9 (bg (hs pins s2 σ H2 x y v ov iv u _ I2 r1 r2 r q2) fun _ s3 h0_ => el3 h0_ fun H3 I3 q3 => ?_))))
 exact wpAny_release ⟨σ,H3,I3,q3⟩
noncomputable def h8 (te:TE) (g:TG):TS:=fun D σ H=>te σ H fun x H1=>g x σ H1 D.nx
theorem Le {tg e:Expr} {te:TE} {g:TG} (he:PE X e te) (hg:PG X tg g) (hs:swapsWithSole [tg] e pos.line X.env=pure false:=by rfl) (hw:swappedStores [tg] e X.env=pure none:=by rfl)
  (h1:(assignEach [tg] X.env).map (·.2)=[assign tg X.env]:=by rfl):PS X (.Assign [tg] e pos) (h8 te g):=by
 intro pins s σ H D I h
 refine wpAny_Assign_stores (bg (he pins s σ H _ I h) fun v s1 h0_ => el5 h0_ fun x H1 I1 r1 q1 => ?_) hs hw
 rw[h1]
 exact bg (hg pins s1 σ H1 x v _ I1 r1 q1) fun _ s2 q=>q
theorem Lf {i:Nat} {x:Str} {e:Expr} {te:TE} {pos':Pos} (hN:X.N.Nodup) (hi:X.N[i]? = some x) (hx:Loc X.env.scope x) (he:PE X e te) (hs:swapsWith e (some (.Name x pos')) pos.line X.env=pure false:=by rfl) (hf:X.fn x=true\/X.env.scope.names.lookup x=some .local:=by first | exact .inl rfl | exact .inr rfl | assumption) :
  PS X (.Assign [.Name x pos'] e pos) (h8 te (lV i)):=by
 intro pins s σ H D I h
 refine wpAny_Assign_Name (bg (he pins s σ H _ I h) fun v s1 h0_ => el5 h0_ fun y H1 I1 r1 q1 => ?_) hs
 exact D_ I1 hN hi hx r1 (fun s2 I2=>⟨_,H1,I2,q1⟩) hf
end
structure It where
 go:Nat->Hp->Prop
 rz:Nat->Hp->V->Hp->Prop
 stop:Nat->Hp->Prop
noncomputable def bx (X:Cx) (pins:List (Addr × Obj)) (H:Hp) (b:Addr):Prop :=
 H b=none/\b≠X.env.locals/\b∉X.fs/\(b∈X.ex\/X.s₀.heap.objs.size <= b)/\(∀ x c,X.env.cells.lookup x=some c->c≠b)/\∀ p∈X.pn ++ pins,p.1≠b
theorem Inv.iK {X:Cx} {pins:List (Addr × Obj)} {σ : St} {H H':Hp} {s:Shared} {b:Addr} (I:Inv X pins σ H s) (hb:s.heap.objs.size <= b) (hn:H' b=none):bx X pins H' b:=by
 refine⟨hn,Ys (WB I.lt hb),I.zb hb,.inr (XJ I.sz hb),fun x c e z => ?_,fun p hp z => ?_⟩
 ·obtain⟨v,q⟩:=I.cell x c e
  exact absurd (WB q.lt (by rw[z];exact hb)) (Ya _)
 ·exact absurd (WB (Mz (I.pin p hp).1) (by rw[z];exact hb)) (Ya _)
structure Turn (P:Program) (w:World) (K:PySem.W.Frag) (tg:Expr) (J:It) (fp:List Addr) (it:Addr) (tn:Nat->Heap->Prop):Prop where
 mem:it∈fp
 obj:∀ i h,tn i h->∀ b∈fp,∃ o,h.get? b=some o/\∀ v,o.data ≠ .cell v
 keep:∀ i h h',tn i h->(∀ b∈fp,∀ o,h.get? b=some o->h'.get? b=some o)->tn i h'
 item:∀ (X:Cx),X.prog=P->X.w=w->X.K=K->X.calm=true->∀ (i:Nat) (pins:List (Addr × Obj)) (s:Shared) (σ : St) (H:Hp) (E:Value->Shared->Prop),Inv X pins σ H s->(∀ b∈fp,bx X pins H b)->tn i s.heap->J.go i H →
  wpAny (model P w) X.A (pyNext (.ref it)) (fun r s1=>∃ u,r=some u ∧
   wpAny (model P w) X.A (letOwnedTupleGo tg (.ref it) u) (fun _ s2=>∃ x H',Inv X pins σ H' s2/\RelV x u/\J.rz i H x H'/\tn (i + 1) s2.heap/\∀ b∈fp,H' b=none) E s1) E s
 done:∀ (X:Cx),X.prog=P->X.w=w->X.K=K->X.calm=true->∀ (i:Nat) (pins:List (Addr × Obj)) (s:Shared) (σ : St) (H:Hp) (E:Value->Shared->Prop),Inv X pins σ H s->(∀ b∈fp,bx X pins H b)->tn i s.heap->J.stop i H →
  wpAny (model P w) X.A (pyNext (.ref it)) (fun r s1=>r=none/\Inv X pins σ H s1) E s
 self:∀ (A:Around) (i:Nat) (s:Shared) (Q:Value->Shared->Prop) (E:Value->Shared->Prop),tn i s.heap->Q (.ref it) s->wpAny (model P w) A (pyIter (.ref it)) Q E s
noncomputable abbrev TI:=St->Hp->(It->Hp->Prop)->Prop
noncomputable def Eg (X:Cx) (pins:List (Addr × Obj)) (σ : St) (tg:Expr) (R:It->Hp->Prop) (zi:Value) (s2:Shared):Prop :=
 ∃ (it:Addr) (fp:List Addr) (tn:Nat->Heap->Prop) (J:It) (H':Hp),zi = .ref it/\Inv X pins σ H' s2/\Turn X.prog X.w X.K tg J fp it tn/\tn 0 s2.heap/\(∀ b∈fp,bx X pins H' b)/\R J H'
noncomputable def PI (X:Cx) (tg iter:Expr) (wi:TI):Prop :=
 ∀ (pins:List (Addr × Obj)) (s:Shared) (σ : St) (H:Hp) (R:It->Hp->Prop),Inv X pins σ H s->wi σ H R →
  wpAny (model X.prog X.w) X.A (eval iter X.env) (fun v s1=>wpAny (model X.prog X.w) X.A (pyIter v) (Eg X pins σ tg R) X.xe s1) X.xe s
theorem zj {M:Model} {A:Around} {E:Value->Shared->Prop} {s:Shared} {tg:Expr} {it:Addr} {u:Value} {o:Obj} {n:String} {vs:Array Value} {Q:Unit->Shared->Prop} (ho:s.heap.get? it=some o) (hc:o.cls = .type n) (hd:o.data = .fields vs)
  (hn:["enumerate", "zip", "dict_itemiterator", "dict_reverseitemiterator", "odict_iterator", "itertools.zip_longest", "itertools.pairwise"].contains n=false) (hQ:Q () s):wpAny M A (letOwnedTupleGo tg (.ref it) u) Q E s:=by
 unfold letOwnedTupleGo
 cases tg<;>first
  | exact wg hQ
  | (cases u<;>first
    | exact wg hQ
    | (refine pT (wpAny_load ho ?_)
       rw[hc,hd]
       show wpAny M A (if (["enumerate", "zip", "dict_itemiterator", "dict_reverseitemiterator", "odict_iterator", "itertools.zip_longest", "itertools.pairwise"].contains n && vs[0]? == some (rawInt _))=true then _ else _) Q E s
       rw[MC (by intro h;rw[hn,q1a] at h;cases h)]
       exact wg hQ))
noncomputable def Eh (K:PySem.W.Frag) (a:Addr):It :=
 ⟨fun i H=>∃ xs x,bj K H a xs/\xs[i]? = some x,fun i H x H'=>H'=H/\∀ xs,bj K H a xs->xs[i]? = some x,fun i H=>∃ xs,bj K H a xs/\xs.length <= i⟩
noncomputable def Ei (K:PySem.W.Frag) (a:Addr):It :=
 ⟨fun i H=>∃ xs x,bV K H a xs/\xs[i]? = some x,fun i H x H'=>H'=H/\∀ xs,bV K H a xs->xs[i]? = some x,fun i H=>∃ xs,bV K H a xs/\xs.length <= i⟩
noncomputable def sX (lo:Int) (n:Nat):It:=⟨fun i _=>i < n,fun i H x H'=>H'=H/\x = .int (lo + i),fun i _=>n <= i⟩
theorem Lg {P:Program} {w:World} {K:PySem.W.Frag} {tg:Expr} (a it:Addr):Turn P w K tg (Eh K a) [it] it (fun i h=>h.IsListIter it a i) where
 mem:=by simp
 obj:=fun i h st b hb=>by
  have e:b=it:=by simpa using hb
  subst e
  obtain⟨o,e,c,d⟩:=st
  exact⟨o,e,fun v z=>by rw[d] at z;cases z⟩
 keep:=fun i h h' st k=>st.at fun o e=>k it (by simp) o e
 item:=by
  intro X hP hw hK hc i pins s σ H E I hf st hg
  subst hP hw hK
  obtain⟨xs,x,hq,hx⟩:=hg
  obtain⟨ak,rv,p,hz⟩:=I.list hq
  obtain⟨u,hu,ru⟩:=rv.get hx
  obtain⟨f0,f1,f2,f3,f4,f5⟩:=hf it (by simp)
  refine wpAny_pyNext_list_item st p.isList (x:=u) (by simpa using hu) fun h' gU sb => ?_
  have I1:Inv X pins σ H { s with heap:=h' }:=I.turned (t':=s.toks) (fun b o hb e=>(sb.2 b hb).trans e) f0 f1 f3 f4 f5
  obtain⟨o,e,c,d⟩:=id gU
  exact⟨u,rfl,zj (s:={ s with heap:=h' }) e c d (by decide) ⟨x,H,I1,ru,⟨rfl,fun ys hy=>by rw[I.iJ hy hq];exact hx⟩,gU,fun b hb=>(hf b hb).1⟩⟩
 done:=by
  intro X hP hw hK hc i pins s σ H E I hf st hg
  subst hP hw hK
  obtain⟨xs,hq,hx⟩:=hg
  obtain⟨ak,rv,p,hz⟩:=I.list hq
  obtain⟨f0,f1,f2,f3,f4,f5⟩:=hf it (by simp)
  have hl:=rv.length
  exact wpAny_pyNext_list_end (I.ok.hd hc) st p.isList (by simp;omega) fun h' eb=>⟨rfl,I.turned (t':=s.toks) (fun b o hb e=>eb b o hb e) f0 f1 f3 f4 f5⟩
 self:=fun _ _ _ _ _ st h=>wpAny_pyIter_listiter st h
theorem Lh {P:Program} {w:World} {K:PySem.W.Frag} {tg:Expr} (a it:Addr):Turn P w K tg (Ei K a) [it] it (fun i h=>h.IsTupleIter it a i) where
 mem:=by simp
 obj:=fun i h st b hb=>by
  have e:b=it:=by simpa using hb
  subst e
  obtain⟨o,e,c,d⟩:=st
  exact⟨o,e,fun v z=>by rw[d] at z;cases z⟩
 keep:=fun i h h' st k=>st.at fun o e=>k it (by simp) o e
 item:=by
  intro X hP hw hK hc i pins s σ H E I hf st hg
  subst hP hw hK
  obtain⟨xs,x,hq,hx⟩:=hg
  obtain⟨ak,rv,p,hz⟩:=I.tuple hq
  obtain⟨u,hu,ru⟩:=rv.get hx
  obtain⟨f0,f1,f2,f3,f4,f5⟩:=hf it (by simp)
  refine wpAny_pyNext_tuple_item st (show s.heap.IsTuple a ak.toArray from p) (x:=u) (by simpa using hu) fun h' gU sb => ?_
  have I1:Inv X pins σ H { s with heap:=h' }:=I.turned (t':=s.toks) (fun b o hb e=>(sb.2 b hb).trans e) f0 f1 f3 f4 f5
  obtain⟨o,e,c,d⟩:=id gU
  exact⟨u,rfl,zj (s:={ s with heap:=h' }) e c d (by decide) ⟨x,H,I1,ru,⟨rfl,fun ys hy=>by rw[I.gT hy hq];exact hx⟩,gU,fun b hb=>(hf b hb).1⟩⟩
 done:=by
  intro X hP hw hK hc i pins s σ H E I hf st hg
  subst hP hw hK
  obtain⟨xs,hq,hx⟩:=hg
  obtain⟨ak,rv,p,hz⟩:=I.tuple hq
  obtain⟨f0,f1,f2,f3,f4,f5⟩:=hf it (by simp)
  have hl:=rv.length
  exact wpAny_pyNext_tuple_end (I.ok.hd hc) st (show s.heap.IsTuple a ak.toArray from p) (by simp;omega) fun h' eb=>⟨rfl,I.turned (t':=s.toks) (fun b o hb e=>eb b o hb e) f0 f1 f3 f4 f5⟩
 self:=fun _ _ _ _ _ st h=>wpAny_pyIter_tupleiter st h
theorem Li {P:Program} {w:World} {K:PySem.W.Frag} {tg:Expr} (it:Addr) (lo:Int) (n:Nat):Turn P w K tg (sX lo n) [it] it (fun i h=>IsRangeIter h it (lo + (i:Nat) * 1) ((n:Int) - (i:Nat)) 1) where
 mem:=by simp
 obj:=fun i h st b hb=>by
  have e:b=it:=by simpa using hb
  subst e
  exact⟨_,st,fun v z=>by
   have z':Data.fields _=Data.cell v:=z
   cases z'⟩
 keep:=fun i h h' st k=>k it (by simp) _ st
 item:=by
  intro X hP hw hK hc i pins s σ H E I hf st hg
  subst hP hw hK
  obtain⟨f0,f1,f2,f3,f4,f5⟩:=hf it (by simp)
  have W:=Walks.range (prog:=X.prog) (w:=X.w) (I.ok.hd hc) it lo 1 n
  refine W.item i s _ _ hg st fun v h' tk hv gU kk => ?_
  obtain⟨t,rfl⟩:=hv
  have I1:Inv X pins σ H { s with heap:=h',toks:=tk }:=I.turned (fun b o hb e=>kk b o (by simpa using hb) e) f0 f1 f3 f4 f5
  refine⟨_,rfl,zj (s:={ s with heap:=h',toks:=tk }) (n := "range_iterator") gU rfl rfl (by decide) ⟨.int (lo + i),H,I1,⟨t,?_⟩,⟨rfl,rfl⟩,gU,fun b hb=>(hf b hb).1⟩⟩
  rw[Int.mul_one]
 done:=by
  intro X hP hw hK hc i pins s σ H E I hf st hg
  subst hP hw hK
  obtain⟨f0,f1,f2,f3,f4,f5⟩:=hf it (by simp)
  exact wpAny_pyNext_range_end (I.ok.hd hc) st (by have:n <= i:=hg;omega) fun h' eb=>⟨rfl,I.turned (t':=s.toks) (fun b o hb e=>eb b o hb e) f0 f1 f3 f4 f5⟩
 self:=fun _ _ _ _ _ st h=>wpAny_pyIter_rangeiter st h
section
variable {X:Cx} {tg:Expr}
theorem Ej {pins:List (Addr × Obj)} {σ : St} {H:Hp} {s:Shared} {R:It->Hp->Prop} {E:Value->Shared->Prop} {lo hi:Int} {t u v:Tok} {tk:Nat} (I:Inv X pins σ H s) (h1 : -(2 ^ 62) <= lo) (h2:lo < 2 ^ 62) (h3 : -(2 ^ 62) <= hi) (h4:hi < 2 ^ 62)
  (q:R (sX lo (hi - lo).toNat) H):wpAny (model X.prog X.w) X.A (pyIter (.ref s.heap.objs.size)) (Eg X pins σ tg R) E { s with heap:=s.heap.push { cls := .type "range",data := .fields #[.int lo t,.int hi u,.int 1 v] },toks:=tk }:=by
 refine wpAny_pyIter_range (IsRange.new ..) (small_one h1 h2 h3 h4) ?_
 have I1:Inv X pins σ H { s with heap:=s.heap.push { cls := .type "range",data := .fields #[.int lo t,.int hi u,.int 1 v] },toks:=tk }:=I.kept fun b o e=>tP _ e
 refine⟨(s.heap.push { cls := .type "range",data := .fields #[.int lo t,.int hi u,.int 1 v] }).objs.size,[(s.heap.push { cls := .type "range",data := .fields #[.int lo t,.int hi u,.int 1 v] }).objs.size],_,_,H,rfl,
  I1.kept (t':=tk) fun b o e=>tP _ e,Li _ lo (hi - lo).toNat,?_,fun b hb => ?_,q⟩
 ·have e1:lo + ((0:Nat):Int) * 1=lo:=by simp
  have e2:(((hi - lo).toNat:Nat):Int) - ((0:Nat):Int)=Builtin.Range.rangeSize lo hi 1:=by rw[rangeSize_one];split<;>omega
  show IsRangeIter _ _ (lo + ((0:Nat):Int) * 1) ((((hi - lo).toNat:Nat):Int) - ((0:Nat):Int)) 1
  rw[e1,e2]
  exact VW _ rfl
 ·have e:b=(s.heap.push { cls := .type "range",data := .fields #[.int lo t,.int hi u,.int 1 v] }).objs.size:=by simpa using hb
  subst e
  exact I1.iK (we _) (I1.aM.fresh (we _))
noncomputable def Ek (ta:TA):TI:=fun σ H R=>ta σ H fun vs H1=>∃ j:Int,vs=[.int j] /\ -(2 ^ 62) <= j/\j < 2 ^ 62/\R (sX 0 j.toNat) H1
noncomputable def El (ta:TA):TI:=fun σ H R=>ta σ H fun vs H1=>∃ i j:Int,vs=[.int i,.int j]/\(-(2 ^ 62) <= i/\i < 2 ^ 62 /\ -(2 ^ 62) <= j/\j < 2 ^ 62)/\R (sX i (j - i).toNat) H1
theorem Lj {a:Expr} {ta:TA} {p pos:Pos} (hg:Gl X "range") (hm:X.mg "range" = none) (ha:PA X [a] ta) (hs:starEach [a] X.env=[(false,eval a X.env)]:=by rfl):PI X tg (.Call (.Name "range" p) [a] [] pos) (Ek ta):=by
 intro pins s σ H R I h
 refine Call_ (mq I hg hm boot_range (Yi (bg (ha pos pins s σ H _ I h) fun us s1 h0_ => el5 h0_ fun vs H1 I1 r1 q1 => ?_) hs rfl))
 obtain⟨j,e,q1,q2,q⟩:=q1
 subst e
 cases r1 with
 | cons r rr =>
  cases rr
  obtain⟨t,rfl⟩:=r
  exact call_range_1 (Ej I1 (by omega) (by omega) q1 q2 (by simpa using q))
theorem Lk {a b:Expr} {ta:TA} {p pos:Pos} (hg:Gl X "range") (hm:X.mg "range" = none) (ha:PA X [a,b] ta) (hs:starEach [a,b] X.env=[(false,eval a X.env),(false,eval b X.env)]:=by rfl) (jF:starEach [b] X.env=[(false,eval b X.env)]:=by rfl) :
  PI X tg (.Call (.Name "range" p) [a,b] [] pos) (El ta):=by
 intro pins s σ H R I h
 refine Call_ (mq I hg hm boot_range (Yi (bg (ha pos pins s σ H _ I h) fun us s1 h0_ => el5 h0_ fun vs H1 I1 r1 q1 => ?_) (by rw[hs,jF]) (by rw[jF];rfl)))
 obtain⟨i,j,e,⟨q1,q2,q3,q4⟩,q⟩:=q1
 subst e
 cases r1 with
 | cons r rr =>
  cases rr with
  | cons r' rr =>
   cases rr
   obtain⟨t,rfl⟩:=r
   obtain⟨t',rfl⟩:=r'
   exact call_range_2 (Ej I1 q1 q2 q3 q4 q)
noncomputable def pE (wi:TI) (g:TG) (tb:TS):TS:=fun D σ H=>wi σ H fun J H1=>∃ W:Nat->Nat->St->Hp->Prop,(∃ m,W 0 m σ H1)/\∀ i m σ H,W i m σ H →
 (J.stop i H/\D.nx σ H)\/(J.go i H/\∃ N:St->Hp->Prop,(∀ σ' H',N σ' H'->∃ m',m' < m/\W (i + 1) m' σ' H')/\∀ x H',J.rz i H x H'->g x σ H' fun σ2 H2=>tb { D with nx:=N,ct:=N,bk:=D.nx } σ2 H2)
noncomputable def sY (fp:List Addr) (h:Heap):List (Addr × Obj):=fp.filterMap fun b=>(h.get? b).map fun o=>(b,o)
theorem v5 {fp:List Addr} {h:Heap} {b:Addr} {o:Obj} (hb:b∈fp) (e:h.get? b=some o):(b,o)∈sY fp h:=Yy.mpr ⟨b,hb,by rw[e];rfl⟩
theorem Ll {fp:List Addr} {h:Heap} {p:Addr × Obj} (hp:p∈sY fp h):p.1∈fp/\h.get? p.1=some p.2:=by
 obtain⟨b,hb,e⟩:=Yy.mp hp
 cases q:h.get? b with
 | none=>rw[q] at e;cases e
 | some o =>
  rw[q] at e
  have e':(b,o)=p:=WW e
  subst e'
  exact⟨hb,q⟩
theorem Inv.pinned {pins:List (Addr × Obj)} {σ : St} {H:Hp} {s:Shared} {fp:List Addr} (I:Inv X pins σ H s) (hf:∀ b∈fp,bx X pins H b) (ho:∀ b∈fp,∃ o,s.heap.get? b=some o/\∀ v,o.data ≠ .cell v):Inv X (pins ++ sY fp s.heap) σ H s :=
 I.fU fun p hp=>(Xa.mp hp).elim (fun z=>I.pin p (Wv _ z)) fun z=>by
  obtain⟨hb,e⟩:=Ll z
  obtain⟨f0,f1,f2,_⟩:=hf p.1 hb
  obtain⟨o,e',d⟩:=ho p.1 hb
  rw[e] at e';cases e'
  exact⟨e,f0,f1,f2,d⟩
theorem Inv.d_ {pins pl:List (Addr × Obj)} {σ : St} {H:Hp} {s:Shared} (I:Inv X (pins ++ pl) σ H s):Inv X pins σ H s:=I.fU fun p hp=>I.pin p (Wv _ (Xk _ hp))
theorem Lm {iter:Expr} {body:List Stmt} {wi:TI} {g:TG} {tb:TS} {pos:Pos} (hp:PassesOwn (model X.prog X.w) X.A X.env X.xe) (hc:X.calm=true) (hi:PI X tg iter wi) (hg:PG X tg g) (hb:iI X body tb)
  (hs:∀ x,foldedSetIterable iter X.env x=pure x:=by intro _;rfl):PS X (.For tg iter body [] pos) (pE wi g tb):=by
 intro pins s σ H D I h
 refine wpAny_For (bg (hi pins s σ H _ I h) fun v s1 h1=>bg h1 fun zi s2 h2 => ?_) hs
 obtain⟨it,fp,tn,J,H2,e,I2,T,km,f2,W,⟨m0,w0⟩,turn⟩:=h2
 subst e
 have jj:∀ {H':Hp},(∀ b∈fp,H' b=none)->∀ b∈fp,bx X pins H' b:=fun hn b hb=>⟨hn b hb,(f2 b hb).2⟩
 refine codeAny_forLoop_any (fun n s'=>∃ i σ' H',Inv X pins σ' H' s'/\tn i s'.heap/\(∀ b∈fp,H' b=none)/\W i n σ' H') ?_ m0 ⟨0,σ,H2,I2,km,fun b hb=>(f2 b hb).1,w0⟩
 rintro n s3 ⟨i,σ3,H3,I3,rA,sZ,w3⟩
 rcases turn i n σ3 H3 w3 with⟨stop,qn⟩ | ⟨go,N,hN,step⟩
 ·refine Zl hp (bg (T.done X rfl rfl rfl hc i pins s3 σ3 H3 X.xe I3 (jj sZ) rA stop) fun r s4 ⟨hr,I4⟩ => ?_)
  subst hr
  exact wpAny_execs_nil ⟨σ3,H3,I4,qn⟩
 ·refine Zl hp (bg (T.item X rfl rfl rfl hc i pins s3 σ3 H3 X.xe I3 (jj sZ) rA go) fun r s4 ⟨u,hr,h4⟩ => ?_)
  subst hr
  refine Zl hp (bg h4 fun _ s5 ⟨x,H5,I5,r5,y5,pF,zk⟩ => ?_)
  have zo:=I5.pinned (jj zk) (T.obj _ _ pF)
  refine Zl hp (bg (hg _ s5 σ3 H5 x u _ zo r5 (step x H5 y5)) fun _ s6 ⟨σ6,H6,I6,q6⟩ => ?_)
  refine Zl hp (bg (hb _ s6 σ6 H6 _ I6 q6) fun f s7 q7 => ?_)
  have again:∀ {σ7:St} {H7:Hp},Inv X (pins ++ sY fp s5.heap) σ7 H7 s7->N σ7 H7->∃ m,m < n/\∃ i σ' H',Inv X pins σ' H' s7/\tn i s7.heap/\(∀ b∈fp,H' b=none)/\W i m σ' H':=fun {σ7 H7} I7 n7=>by
   obtain⟨m',hm,w7⟩:=hN σ7 H7 n7
   refine⟨m',hm,i + 1,σ7,H7,I7.d_,T.keep _ _ _ pF fun b hb o e=>(I7.pin (b,o) (Wv _ (Wv _ (v5 hb e)))).1,fun b hb => ?_,w7⟩
   obtain⟨o,e,d⟩:=T.obj _ _ pF b hb
   exact (I7.pin (b,o) (Wv _ (Wv _ (v5 hb e)))).2.1
  cases f with
  | next=>obtain⟨σ7,H7,I7,n7⟩:=q7;exact again I7 n7
  | cont=>obtain⟨σ7,H7,I7,n7⟩:=q7;exact again I7 n7
  | brk=>obtain⟨σ7,H7,I7,q7⟩:=q7;exact⟨σ7,H7,I7.d_,q7⟩
  | ret v=>obtain⟨x7,σ7,H7,I7,r7,q7⟩:=q7;exact⟨x7,σ7,H7,I7.d_,r7,q7⟩
end
noncomputable abbrev R2:=V->V->Hp->VK->Prop
noncomputable def dW (X:Cx) (f:Value->Value->Sem Value) (r:R2):Prop :=
 ∀ (pins:List (Addr × Obj)) (s:Shared) (σ : St) (H:Hp) (x y:V) (v u:Value) (Q:VK),Inv X pins σ H s->RelV x v->RelV y u->r x y H Q →
  wpAny (model X.prog X.w) X.A (f v u) (EP X pins σ Q) X.xe s
noncomputable def v7 (X:Cx) (f:Value->Sem Value) (r:V->Hp->VK->Prop):Prop :=
 ∀ (pins:List (Addr × Obj)) (s:Shared) (σ : St) (H:Hp) (x:V) (v:Value) (Q:VK),Inv X pins σ H s->RelV x v->r x H Q →
  wpAny (model X.prog X.w) X.A (f v) (EP X pins σ Q) X.xe s
noncomputable def fV (X:Cx) (f:Value) (r:List V->Hp->VK->Prop):Prop :=
 ∀ (pins:List (Addr × Obj)) (s:Shared) (σ : St) (H:Hp) (xs:List V) (us:List Value) (Q:VK),Inv X pins σ H s->Vals xs us->r xs H Q →
  wpAny (model X.prog X.w) X.A (call f us) (EP X pins σ Q) X.xe s
noncomputable def mz (r:R2) (ta tb:TE):TE:=fun σ H Q=>ta σ H fun x H1=>tb σ H1 fun y H2=>r x y H2 Q
noncomputable def Em (r:V->Hp->VK->Prop) (ta:TE):TE:=fun σ H Q=>ta σ H fun x H1=>r x H1 Q
noncomputable def rI (C:Int->Int->Prop) (g:Int->Int->V):R2:=fun x y H Q=>∃ i j,x = .int i/\y = .int j/\C i j/\Q (g i j) H
noncomputable def mB (g:Int->Int->V):R2:=fun x y H Q=>∃ i j,x = .int i/\y = .int j/\Q (g i j) H
noncomputable def rU (g:Int->V):V->Hp->VK->Prop:=fun x H Q=>∃ i,x = .int i/\Q (g i) H
section
variable {X:Cx} {a b c:Expr} {ta tb tc:TE} {pos:Pos}
theorem pG (ha:PE X a ta) (hb:PE X b tb) {pins:List (Addr × Obj)} {s:Shared} {σ : St} {H:Hp} {R:V->V->Hp->Prop} (I:Inv X pins σ H s)
  (h:ta σ H fun x H1=>tb σ H1 fun y H2=>R x y H2) {Q:Value->Shared->Prop} {f:Value->Value->Sem Value}
  (hf:∀ v u s2 x y H2,Inv X pins σ H2 s2->RelV x v->RelV y u->R x y H2->wpAny (model X.prog X.w) X.A (f v u) Q X.xe s2) :
  wpAny (model X.prog X.w) X.A (eval a X.env) (fun v s₁ => wpAny (model X.prog X.w) X.A (eval b X.env) (fun u s₂ => wpAny (model X.prog X.w) X.A (f v u) Q X.xe s₂) X.xe s₁) X.xe s:=by
 refine bg (ha pins s σ H _ I h) fun v s1 h0_ => el5 h0_ fun x H1 I1 r1 q1 => ?_
 refine bg (hb pins s1 σ H1 _ I1 q1) fun u s2 h0_ => el5 h0_ fun y H2 I2 r2 q2 => ?_
 exact hf v u s2 x y H2 I2 r1 r2 q2
theorem Ln {op:Operator} {r:R2} (ho:dW X (binaryOp op) r) (ha:PE X a ta) (hb:PE X b tb):PE X (.BinOp a op b pos) (mz r ta tb):=by
 intro pins s σ H Q I h
 exact wpAny_BinOp (pG ha hb I h fun v u s2 x y H2 I2 rx ry q=>ho pins s2 σ H2 x y v u Q I2 rx ry q)
theorem Lo {op:UnaryOp} {r:V->Hp->VK->Prop} (ho:v7 X (unaryOp op) r) (ha:PE X a ta):PE X (.UnaryOp op a pos) (Em r ta):=by
 intro pins s σ H Q I h
 exact UnaryOp_ (bg (ha pins s σ H _ I h) fun v s1 h0_ => el5 h0_ fun x H1 I1 r1 q1 =>ho pins s1 σ H1 x v Q I1 r1 q1)
theorem v8 {f:Value->Value->Sem Value} {C:Int->Int->Prop} {g:Int->Int->Int}
  (rule:∀ (i j:Int) (t u:Tok) (s:Shared) (Q:Value->Shared->Prop) (E:Value->Shared->Prop),C i j->Q (.int (g i j) s.toks) { s with toks:=s.toks + 1 }->wpAny (model X.prog X.w) X.A (f (.int i t) (.int j u)) Q E s) :
  dW X f (rI C fun i j => .int (g i j)):=by
 intro pins s σ H x y v u Q I rx ry h
 obtain⟨i,j,rfl,rfl,hc,q⟩:=h
 obtain⟨t,rfl⟩:=rx
 obtain⟨t',rfl⟩:=ry
 exact rule i j t t' s _ _ hc ⟨.int (g i j),H,I.tok _,⟨_,rfl⟩,q⟩
theorem s_ {f:Value->Value->Sem Value} {g:Int->Int->Int}
  (rule:∀ (i j:Int) (t u:Tok) (s:Shared) (Q:Value->Shared->Prop) (E:Value->Shared->Prop),Q (.int (g i j) s.toks) { s with toks:=s.toks + 1 }->wpAny (model X.prog X.w) X.A (f (.int i t) (.int j u)) Q E s) :
  dW X f (mB fun i j => .int (g i j)):=by
 intro pins s σ H x y v u Q I rx ry h
 obtain⟨i,j,rfl,rfl,q⟩:=h
 obtain⟨t,rfl⟩:=rx
 obtain⟨t',rfl⟩:=ry
 exact rule i j t t' s _ _ ⟨.int (g i j),H,I.tok _,⟨_,rfl⟩,q⟩
theorem mC {f:Value->Value->Sem Value} {g:Int->Int->Bool}
  (rule:∀ (i j:Int) (t u:Tok) (s:Shared) (Q:Value->Shared->Prop) (E:Value->Shared->Prop),Q (.bool (g i j)) s->wpAny (model X.prog X.w) X.A (f (.int i t) (.int j u)) Q E s) :
  dW X f (mB fun i j => .bl (g i j)):=by
 intro pins s σ H x y v u Q I rx ry h
 obtain⟨i,j,rfl,rfl,q⟩:=h
 obtain⟨t,rfl⟩:=rx
 obtain⟨t',rfl⟩:=ry
 exact rule i j t t' s _ _ ⟨.bl (g i j),H,I,rfl,q⟩
noncomputable def tu (i j:Int):Prop:=j≠0/\j.natAbs < 1073741824
noncomputable def h9 (i j:Int):Prop:=0 <= j/\j <= 1000000/\i.natAbs < 2 ^ 64
noncomputable def mD (i j:Int):Prop:=(-(2 ^ 64) < i/\i < 2 ^ 64)\/(-(2 ^ 64) < j/\j < 2 ^ 64)
theorem mD.ok {i j:Int} (h:mD i j):IntMulOk i j:=by
 rcases h with⟨h1,h2⟩ | ⟨h1,h2⟩
 ·exact .of_left (intBits_le_64 h1 h2)
 ·exact .of_right (intBits_le_64 h1 h2)
theorem En:dW X (binaryOp .Add) (mB fun i j => .int (i + j)):=s_ fun _ _ _ _ _ _ _ q=>add_int q
theorem Lp:dW X (binaryOp .Sub) (mB fun i j => .int (i - j)):=s_ fun _ _ _ _ _ _ _ q=>sub_int q
theorem Lq:dW X (binaryOp .Mult) (rI mD fun i j => .int (i * j)):=v8 fun _ _ _ _ _ _ _ hc q=>mul_int q hc.ok
theorem Lr:dW X (binaryOp .FloorDiv) (rI tu fun i j => .int (i.fdiv j)):=v8 fun _ _ _ _ _ _ _ hc q=>floordiv_int hc.1 q (.inl (PyProof.noPylong_small hc.2))
theorem zp:dW X (binaryOp .Mod) (rI (fun _ j=>0 < j) fun i j => .int (i % j)):=v8 fun i j _ _ _ _ _ hc q=>by
 have h1:(0:Int) < j:=hc
 exact mod_int' (by omega) (by rw[Int.fmod_eq_emod_of_nonneg i (by omega)];exact q)
theorem Ls:dW X (binaryOp .Pow) (rI h9 fun i j => .int (i ^ j.toNat)):=v8 fun _ _ _ _ _ _ _ hc q=>pow_int_small hc.1 hc.2.1 hc.2.2 q
theorem Lu {f:Value->Sem Value} {g:Int->Int}
  (rule:∀ (i:Int) (t:Tok) (s:Shared) (Q:Value->Shared->Prop) (E:Value->Shared->Prop),Q (.int (g i) s.toks) { s with toks:=s.toks + 1 }->wpAny (model X.prog X.w) X.A (f (.int i t)) Q E s) :
  v7 X f (rU fun i => .int (g i)):=by
 intro pins s σ H x v Q I rx h
 obtain⟨i,rfl,q⟩:=h
 obtain⟨t,rfl⟩:=rx
 exact rule i t s _ _ ⟨.int (g i),H,I.tok _,⟨_,rfl⟩,q⟩
theorem Lw:v7 X (unaryOp .USub) (rU fun i => .int (-i)):=Lu fun _ _ _ _ _ q=>neg_int q
theorem Lx:dW X (compareOp .Lt) (mB fun i j => .bl (decide (i < j))):=mC fun _ _ _ _ _ _ _ q=>lt_int q
theorem Ly:dW X (compareOp .LtE) (mB fun i j => .bl (decide (i <= j))):=mC fun _ _ _ _ _ _ _ q=>le_int q
theorem Lz:dW X (compareOp .Gt) (mB fun i j => .bl (decide (j < i))):=mC fun _ _ _ _ _ _ _ q=>gt_int q
theorem LA:dW X (compareOp .GtE) (mB fun i j => .bl (decide (j <= i))):=mC fun _ _ _ _ _ _ _ q=>ge_int q
theorem zq (b:Expr) {op:CmpOp} (h:op ≠ .In:=by decide) (h2:op ≠ .NotIn:=by decide):behindInMarks op b=false:=by
 have e1:(op == CmpOp.In)=false:=by cases op<;>first | rfl | exact absurd rfl h
 have e2:(op == CmpOp.NotIn)=false:=by cases op<;>first | rfl | exact absurd rfl h2
 cases b<;>simp[behindInMarks,e1,e2]
theorem LB {op:CmpOp} {r:R2} (ho:dW X (compareOp op) r) (ha:PE X a ta) (hb:PE X b tb) (hm:behindInMarks op b=false):PE X (.Compare a [op] [b] pos) (mz r ta tb):=by
 intro pins s σ H Q I h
 exact wpAny_Compare1 (pG ha hb I h fun v u s2 x y H2 I2 rx ry q=>ho pins s2 σ H2 x y v u Q I2 rx ry q) hm
noncomputable def Eo (t:TE):TT:=fun σ H Q=>t σ H fun x H'=>∃ k,x = .bl k/\Q k H'
theorem LC {op:CmpOp} {r:R2} (ho:dW X (compareOp op) r) (ha:PE X a ta) (hb:PE X b tb) (hm:behindInMarks op b=false):PT X (.Compare a [op] [b] pos) (Eo (mz r ta tb)):=by
 intro pins s σ H Q I h
 refine wpAny_isTrue_Compare1 (bg (ha pins s σ H _ I h) fun v s1 h0_ => el5 h0_ fun x H1 I1 r1 q1 =>bg (hb pins s1 σ H1 _ I1 q1) fun u s2 h0_ => el5 h0_ fun y H2 I2 r2 q2 =>
  bg (ho pins s2 σ H2 x y v u _ I2 r1 r2 q2) fun c s3 ⟨z,H3,I3,r3,k,e,q3⟩ => ?_) hm
 subst e
 cases r3
 exact Yl ⟨H3,I3,q3⟩
noncomputable def Ep (r r':R2) (ta tb tc:TE):TE:=fun σ H Q=>ta σ H fun x H1=>tb σ H1 fun y H2=>r x y H2 fun z H3=>∃ k,z = .bl k ∧
 (if k=true then tc σ H3 fun w' H4=>r' y w' H4 Q else Q (.bl false) H3)
theorem LF {op kY:CmpOp} {r r':R2} (ho:dW X (compareOp op) r) (jQ:dW X (compareOp kY) r') (ha:PE X a ta) (hb:PE X b tb) (hc:PE X c tc)
  (hm:lastMarks [op,kY] [b,c]=false:=by with_unfolding_all rfl):PE X (.Compare a [op,kY] [b,c] pos) (Ep r r' ta tb tc):=by
 intro pins s σ H Q I h
 refine Compare_chain (bg (ha pins s σ H _ I h) fun v s1 h0_ => el5 h0_ fun x H1 I1 r1 q1 =>chain_link (bg (hb pins s1 σ H1 _ I1 q1) fun u s2 h0_ => el5 h0_ fun y H2 I2 r2 q2 =>
  bg (ho pins s2 σ H2 x y v u _ I2 r1 r2 q2) fun d s3 ⟨z,H3,I3,r3,k,e,q3⟩ => ?_)) hm
 subst e
 cases r3
 refine Yl ?_
 cases k with
 | false=>exact ite_ff ⟨.bl false,H3,I3,rfl,q3⟩
 | true=>exact ite_tt (chain_last (bg (hc pins s3 σ H3 _ I3 q3) fun w' s4 ⟨z',H4,I4,r4,q4⟩=>jQ pins s4 σ H4 y z' u w' Q I4 r2 r4 q4))
theorem rB:(sizeLine:Nat) < 2 ^ 63:=by rw[Xx];decide
theorem LG:dW X (binaryOp .Add) (fun x y H Q=>∃ i j,x = .str i/\y = .str j/\i.length + j.length <= sizeLine/\Q (.str (i ++ j)) H):=by
 intro pins s σ H x y v u Q I rx ry h
 obtain⟨i,j,rfl,rfl,hz,q⟩:=h
 obtain⟨t,rfl⟩:=rx
 obtain⟨t',rfl⟩:=ry
 exact add_str (fun t' tk=>⟨.str (i ++ j),H,I.tok _,⟨_,rfl⟩,q⟩) hz
theorem vals1 {x:V} {us:List Value} (r:Vals [x] us):∃ u,us=[u]/\RelV x u:=by
 cases r with
 | cons r1 r2=>cases r2;exact⟨_,rfl,r1⟩
theorem vals2 {x y:V} {us:List Value} (r:Vals [x,y] us):∃ u w',us=[u,w']/\RelV x u/\RelV y w':=by
 cases r with
 | cons r1 r2 =>
  cases r2 with
  | cons r3 r4=>cases r4;exact⟨_,_,rfl,r1,r3⟩
theorem LH (hc:X.calm=true):fV X (.builtin "max") (fun xs H Q=>∃ i j,xs=[.int i,.int j]/\Q (.int (if j > i then j else i)) H):=by
 intro pins s σ H xs us Q I r h
 obtain⟨i,j,rfl,q⟩:=h
 obtain⟨u,w',rfl,⟨t,rfl⟩,⟨t',rfl⟩⟩:=vals2 r
 refine max_two_ints (I.ok.hd hc) fun h' tk k=>⟨_,H,I.kept k,?_,q⟩
 by_cases hj:j > i
 ·rw[VY hj,VY hj];exact⟨_,rfl⟩
 ·rw[MC hj,MC hj];exact⟨_,rfl⟩
theorem LI (hc:X.calm=true):fV X (.builtin "min") (fun xs H Q=>∃ i j,xs=[.int i,.int j]/\Q (.int (if j < i then j else i)) H):=by
 intro pins s σ H xs us Q I r h
 obtain⟨i,j,rfl,q⟩:=h
 obtain⟨u,w',rfl,⟨t,rfl⟩,⟨t',rfl⟩⟩:=vals2 r
 refine min_two_ints (I.ok.hd hc) fun h' tk k=>⟨_,H,I.kept k,?_,q⟩
 by_cases hj:j < i
 ·rw[VY hj,VY hj];exact⟨_,rfl⟩
 ·rw[MC hj,MC hj];exact⟨_,rfl⟩
end
structure pH (h:Heap) (x dx C:Addr) (mA:Str->Option Value):Prop where
 obj:h.get? x=some (PySem.W.instObj C dx)
 ns:h.Ns1 dx mA
 ne:dx≠x
theorem LL {h:Heap} {dx:Addr} {mA:Str->Option Value} (n:h.Ns1 dx mA):∃ od,h.get? dx=some od/\∀ name,PySem.W.lookIn name od=some (mA name):=by
 obtain⟨o,es,ep,ho,hd,hk,_,hm⟩:=n
 refine⟨o,ho,fun name => ?_⟩
 have e:=hm name
 unfold nsFind findBy at e
 rw[<-Array.find?_toList] at e
 unfold PySem.W.lookIn
 rw[hd]
 dsimp only
 split
 ·rename_i y q
  rw[q] at e
  exact congrArg some e
 ·rename_i q
  rw[q] at e
  have a:es.toList.any (·.refKey)=false:=by
   rw[YN]
   intro y hy
   obtain⟨z,t,zr⟩:=hk y (ZX.mp hy)
   simp[DictEntry.refKey,zr]
  have a':¬ es.toList.any (·.refKey)=true:=by rw[a];exact Ws
  rw[MC a']
  exact congrArg some e
theorem pH.look {h:Heap} {x dx C:Addr} {mA:Str->Option Value} (I:pH h x dx C mA):∃ od,PySem.W.InstAt h x (PySem.W.instObj C dx) C (some od)/\∀ name,PySem.W.lookIn name od=some (mA name) :=
 let ⟨od,ho,hl⟩:=LL I.ns
 ⟨od,⟨I.obj,rfl,rfl,ho⟩,hl⟩
section
variable {prog:Program} {w:World} {A:Around} {E:Value->Shared->Prop} {s:Shared} {K:PySem.W.Frag} {x dx C f:Addr} {mA:Str->Option Value} {name:Str} {v:Value}
end
section
variable {P:Program} {w:World} {H H':Hp} {h h':Heap} {a C dx:Addr} {fs Kv:List (Str × V)}
theorem LM (aM:d9 P w H h) (e:H a=some (.ins C dx fs)):∃ mA,pH h a dx C mA/\(∀ f,ji (fs.lookup f) (mA f))/\PySem.Within mA (fs.map (·.1))/\fs.length <= 1000/\H dx=some (.own a):=by
 obtain⟨d,z,ne,ob,mA,n,r,q⟩:=(show aI P w H h a (.ins C dx fs) from aM a _ e)
 exact⟨mA,⟨ob,n,ne⟩,r,q,z,d⟩
end
structure zt (K:PySem.W.Frag) (C:Addr):Prop where
 pg:PySem.W.plainGet K C Str.empty=true
 hd:PySem.W.hasDictIn K C=true
 po:PySem.W.plainOver K C=true
 sa:PySem.W.findIn K (.ref C) "__setattr__" = some (some (.builtin "object.__setattr__"))
theorem zt.get {K:PySem.W.Frag} {C:Addr} (c:zt K C) (f:Str):PySem.W.plainGet K C f=true:=c.pg
section
variable {X:Cx} {pins:List (Addr × Obj)} {σ : St} {H:Hp} {s:Shared} {a C dx:Addr} {fs:List (Str × V)} {f:Str} {v:V} {A:Around} {E:Value->Shared->Prop}
end
section
variable {X:Cx} {o e value:Expr} {f:Str} {pos pos' zu:Pos} {ta tv:TE}
end
section
variable {X:Cx} {pins:List (Addr × Obj)} {σ : St} {H:Hp} {s:Shared} {A:Around} {E:Value->Shared->Prop} {Q:Value->Shared->Prop} {c:Value} {b:Bool}
inductive eg (K:PySem.W.Frag) (H:Hp):V->Value->Prop where
 | non:eg K H .non (.type "NoneType")
 | bl (x:Bool):eg K H (.bl x) (.type "bool")
 | int (i:Int):eg K H (.int i) (.type "int")
 | str (x:Str):eg K H (.str x) (.type "str")
 | flt (x:UInt64):eg K H (.flt x) (.type "float")
 | lst {a:Addr} {xs:List V} (e:H a=some (.lst xs)):eg K H (.ref a) (.type "list")
 | frz {a:Addr} {o:Obj} {xs:List V} (e:H a=some (.frz o (.lst xs))):eg K H (.ref a) (.type "list")
 | tup {a:Addr} {xs:List V} (e:H a=some (.tup xs)):eg K H (.ref a) (.type "tuple")
 | dK {a:Addr} {kvs:List (Key × V)} (e:H a=some (.dK kvs)):eg K H (.ref a) (.type "dict")
 | dT {a:Addr} {kvs:List (List Key × V)} (e:H a=some (.dT kvs)):eg K H (.ref a) (.type "dict")
 | ins {a C dx:Addr} {fs:List (Str × V)} (e:H a=some (.ins C dx fs)) (cl:zt K C) (ha:PySem.W.findIn K (.ref C) "__class__" = some (some (.builtin "object.__class__")))
   (hn:PySem.W.specialIn K (.builtin "object.__class__") "__get__" = some (some (.builtin "getset_descriptor.__get__"))) (Er:PySem.W.takesIn K (.builtin "object.__class__")=some true)
   (hm:PySem.W.mroIn K C (.type "object")=some true):eg K H (.ref a) (.ref C)
theorem LN {x:V} {u t:Value} (I:Inv X pins σ H s) (rx:RelV x u) (ty:eg X.K H x t) (e:PySem.W.kitOne X.K t c=some b) (h:∀ tk,Q (.bool b) { s with toks:=tk }) :
  wpAny (model X.prog X.w) A (call (.builtin "isinstance") [u,c]) Q E s:=by
 cases ty with
 | non=>cases (show u=Value.none from rx);exact XX PySem.W.kitx_none I.iH True.intro e (fun z=>nomatch z) h
 | bl y=>cases (show u=Value.bool y from rx);exact XX PySem.W.kitx_bool I.iH True.intro e (fun z=>nomatch z) h
 | int i=>obtain⟨t,q⟩:=(show ∃ t,u=Value.int i t from rx);cases q;exact XX PySem.W.kitx_int I.iH True.intro e (fun z=>nomatch z) h
 | str y=>obtain⟨t,q⟩:=(show ∃ t,u=Value.str y t from rx);cases q;exact XX PySem.W.kitx_str I.iH True.intro e (fun z=>nomatch z) h
 | flt y=>obtain⟨t,q⟩:=(show ∃ t,u=Value.float y t from rx);cases q;exact XX PySem.W.kitx_float I.iH True.intro e (fun z=>nomatch z) h
 | @lst a xs ea =>
  cases (show u=Value.ref a from rx)
  obtain⟨_,_,n,_,h1⟩:=(show aI X.prog X.w H s.heap a (.lst xs) from I.aM a _ ea)
  exact XX PySem.W.kitx_list I.iH ⟨_,h1,rfl⟩ e (fun z=>nomatch z) h
 | @frz a ob xs ea =>
  cases (show u=Value.ref a from rx)
  obtain⟨_,_,_,n,_,h1⟩:=(show aI X.prog X.w H s.heap a (.frz ob (.lst xs)) from I.aM a _ ea)
  exact XX PySem.W.kitx_list I.iH ⟨_,h1,rfl⟩ e (fun z=>nomatch z) h
 | @tup a xs ea =>
  cases (show u=Value.ref a from rx)
  obtain⟨_,_,_,p⟩:=(show aI X.prog X.w H s.heap a (.tup xs) from I.aM a _ ea)
  obtain⟨o,h1,h2,_⟩:=p
  exact XX PySem.W.kitx_tuple I.iH ⟨o,h1,h2⟩ e (fun z=>nomatch z) h
 | @dK a kvs ea =>
  cases (show u=Value.ref a from rx)
  obtain⟨_,_,vs,_,p⟩:=(show aI X.prog X.w H s.heap a (.dK kvs) from I.aM a _ ea)
  obtain⟨o,es,ep,h1,h2,_⟩:=p
  exact XX PySem.W.kitx_dict I.iH ⟨o,h1,h2.1⟩ e (fun z=>nomatch z) h
 | @dT a kvs ea =>
  cases (show u=Value.ref a from rx)
  obtain⟨_,_,xs,_,o,es,ep,h1,h2,_⟩:=(show aI X.prog X.w H s.heap a (.dT kvs) from I.aM a _ ea)
  exact XX PySem.W.kitx_dict I.iH ⟨o,h1,h2.1⟩ e (fun z=>nomatch z) h
 | @ins a C dx fs ea cl ha hn Er hm =>
  cases (show u=Value.ref a from rx)
  obtain⟨mA,O,_⟩:=LM I.aM ea
  obtain⟨od,J,_⟩:=O.look
  exact XX (PySem.W.kitx_own (cl.get _) cl.hd ha hn Er hm) I.iH J e (fun z=>nomatch z) h
end
structure bz (k:Nat) (A:Around):Prop where
 hd:A.handled=none
 dp:A.depth + 3 * k + 5 < recursionLimit
 un:A.units + 16 * k + 200 < cLine
theorem bz.mono {j k:Nat} {A:Around} (r:bz k A) (h:j <= k):bz j A:=⟨r.hd,by have:=r.dp;omega,by have:=r.un;omega⟩
theorem bz.deeper {k:Nat} {A:Around} (r:bz (k + 1) A) (env:Env):bz k (A.deeper env) :=
 ⟨r.hd,by have:=r.dp;show A.depth + 1 + 3 * k + 5 < _;omega,by have:=r.un;show A.units + 3 + 16 * k + 200 < _;omega⟩
theorem bz.in1 {k:Nat} {A:Around} (r:bz (k + 1) A):bz k A.in1 :=
 ⟨r.hd,by have:=r.dp;show A.depth + 3 * k + 5 < _;omega,by have:=r.un;show A.units + 1 + 16 * k + 200 < _;omega⟩
theorem bz.depth {k:Nat} {A:Around} (r:bz k A):A.depth < recursionLimit:=by have:=r.dp;omega
theorem bz.units {k:Nat} {A:Around} (r:bz k A):A.units + 64 < cLine:=by have:=r.un;omega
noncomputable def iL:TA:=fun _ H Q=>Q [] H
noncomputable def gv (ta:TE) (tr:TA):TA:=fun σ H Q=>ta σ H fun x H1=>tr σ H1 fun xs H2=>Q (x :: xs) H2
section
variable {X:Cx} {e:Expr} {es:List Expr} {te:TE} {t:TA} {pos:Pos}
theorem LO:PA X [] iL:=fun _ _ _ _ H Q I h=>Calls.spliced_nil ⟨[],H,I,.nil,h⟩
theorem pI (ha:PE X e te) (hr:PA X es t) (hs:starEach (e :: es) X.env=(false,eval e X.env) :: starEach es X.env:=by rfl):PA X (e :: es) (gv te t):=by
 intro pos pins s σ H Q I h
 rw[hs]
 show wpAny _ _ (spliced ((false,eval e X.env) :: backTo pos (starEach es X.env))) _ _ s
 refine Calls.spliced_cons (bg (ha pins s σ H _ I h) fun u s1 h0_ => el5 h0_ fun x H1 I1 r1 q1 => ?_)
 exact bg (hr pos pins s1 σ H1 _ I1 q1) fun us s2 h0_ => el5 h0_ fun xs H2 I2 r2 q2 =>⟨x :: xs,H2,I2,.cons r1 r2,q2⟩
noncomputable def tE (t:TA):TE:=fun σ H Q=>t σ H fun xs H1=>xs.length <= sizeLine/\∀ p,H1 p=none->Q (.ref p) (upd H1 p (.tup xs))
noncomputable def pJ (t:TA):TE:=fun σ H Q=>t σ H fun xs H1=>xs.length <= sizeLine/\∀ p,H1 p=none->Q (.ref p) (upd H1 p (.lst xs))
theorem LP {x1} (h:PA X es t):PE X (.Tuple es x1 pos) (tE t):=by
 intro pins s σ H Q I hq
 refine wpAny_Tuple_spliced (bg (h pos pins s σ H _ I hq) fun us s1 ⟨xs,H1,I1,r,z,q⟩=>⟨by rw[<-r.length];exact z,?_⟩)
 have hf:H1 s1.heap.objs.size=none:=I1.aM.fresh (we _)
 refine⟨.ref s1.heap.objs.size,upd H1 s1.heap.objs.size (.tup xs),I1.laid (t':=s1.toks) (fun b u e=>tP _ e) (we _) ?_,rfl,q _ hf⟩
 exact⟨z,us,r,⟨_,VW _ rfl,rfl,_,rfl⟩⟩
theorem LQ (h:PA X es t):PE X (.List es pos) (pJ t):=by
 intro pins s σ H Q I hq
 refine wpAny_List_spliced (bg (h pos pins s σ H _ I hq) fun us s1 ⟨xs,H1,I1,r,z,q⟩=>⟨by rw[<-r.length];exact z,?_⟩)
 have hf:H1 s1.heap.objs.size=none:=I1.aM.fresh (we _)
 refine⟨.ref s1.heap.objs.size,upd H1 s1.heap.objs.size (.lst xs),I1.laid (t':=s1.toks) (fun b u e=>tP _ e) (we _) ?_,rfl,q _ hf⟩
 exact⟨z,us,0,r,VW _ rfl⟩
end
noncomputable abbrev Sp:=List V->Hp->VK->XK->Prop
noncomputable abbrev jR:=List Env->Hp->Shared->XK->Value->Shared->Prop
structure mE (P:Program) (w:World) (K:PySem.W.Frag) (mg:Str->Option Value) (base:Heap) (A:Around) (outer:List Env) (s:Shared) (H:Hp):Prop where
 frames:A.frames=some outer
 mod:Mod K mg base
 bs:∀ b o,base.get? b=some o->s.heap.get? b=some o/\H b=none
 nV:base.objs.size <= s.heap.objs.size
 fK:s.heap.FunFrames base outer
 pe:∀ b∈kq outer,H b=none
 aM:d9 P w H s.heap
 bare:AllBare s.gens
noncomputable def CE (outer:List Env) (P:Program) (w:World) (H:Hp) (s:Shared) (Q:VK) (u:Value) (s':Shared):Prop :=
 ∃ v H',s'.os=s.os/\AllBare s'.gens/\Un (kq outer) [] H H' s.heap s'.heap/\d9 P w H' s'.heap/\RelV v u/\Q v H'
noncomputable def CR (CX:jR) (outer:List Env) (P:Program) (w:World) (H:Hp) (s:Shared) (Q:VK) (E:XK) (r:Result) (s':Shared):Prop :=
 match r with
 | .ok (.ret u)=>CE outer P w H s Q u s'
 | .ok _=>False
 | .error e=>CX outer H s E e s'
structure aY (P:Program) (w:World) (K:PySem.W.Frag) (mg:Str->Option Value) (base:Heap) (CX:jR) (k:Nat) (f:Addr) (fd:FuncData) (ps:List Str) (sp:Sp):Prop where
 len:∀ vs H Q E,sp vs H Q E->vs.length=ps.length
 run:∀ (A:Around) (outer:List Env) (s:Shared) (H:Hp) (args:Args) (us:List Value) (vs:List V) (Q:VK) (E:XK),bz k A->mE P w K mg base A outer s H->BindsTo s fd args (ps.zip us)->Vals vs us->sp vs H Q E →
  codeAny (model P w) A (.call (.ref f) args) (CR CX outer P w H s Q E) s
section
variable {X:Cx} {pins:List (Addr × Obj)} {σ : St} {H:Hp} {s s':Shared}
theorem Inv.tF (I:Inv X pins σ H s):mE X.prog X.w X.K X.mg X.base X.A X.stack s H :=
 ⟨I.ok.frames,I.ok.mod,I.bs,XJ I.ok.nV I.sz,I.stack,I.jD,I.aM,I.bare⟩
theorem Inv.after {Q:VK} {u:Value} (I:Inv X pins σ H s) (h:CE X.stack X.prog X.w H s Q u s'):EP X pins σ Q u s':=by
 obtain⟨v,H',os,bare,un,aM,r,q⟩:=h
 obtain⟨hh,g,d,t,sO⟩:=s'
 obtain rfl:sO=s.os:=os
 exact⟨v,H',I.call (h':=hh) (g':=g) (d':=d) (t':=t) (ch:=[]) un aM bare (fun b z=>absurd z (by simp)),r,q⟩
end
noncomputable def tG (sp:Sp) (kZ:List V) (E:XK) (t:TA):TE:=fun σ H Q=>t σ H fun vs H1=>sp (vs ++ kZ) H1 Q E
noncomputable def Binds (K:PySem.W.Frag) (fd:FuncData) (ps:List Str) (ds:List Value):Prop :=
 ∀ (s:Shared) (us:List Value),K.In s.heap->(us ++ ds).length=ps.length->BindsTo s fd ⟨us,[]⟩ (ps.zip (us ++ ds))
theorem Binds.all {K:PySem.W.Frag} {fd:FuncData} {ps:List Str} (h:∀ us:List Value,us.length=ps.length->bindArgs fd ⟨us,[]⟩=pure (ps.zip us)):Binds K fd ps []:=fun s us _ hl=>by
 rw[Yw] at hl ⊢
 exact .of_eq (h us hl)
noncomputable def v9 (CX:jR) (X:Cx) (E:XK):Prop:=∀ (pins:List (Addr × Obj)) (σ : St) (H:Hp) (s:Shared) (e:Value) (s':Shared),Inv X pins σ H s->CX X.stack H s E e s'->X.xe e s'
section
variable {X:Cx} {CX:jR} {k:Nat} {f C:Addr} {fd:FuncData} {ps:List Str} {sp:Sp} {kZ:List V} {ds:List Value} {E:XK} {x m:Str} {p pos apos:Pos} {e o:Expr} {es:List Expr} {ta:TE} {t:TA}
theorem LR {pins:List (Addr × Obj)} {σ : St} {H:Hp} {s:Shared} {Q:VK} {us:List Value} {vs:List V} (F:aY X.prog X.w X.K X.mg X.base CX k f fd ps sp) (hr:bz k X.A) (hb:Binds X.K fd ps ds) (hd:Vals kZ ds) (hx:v9 CX X E)
  (I:Inv X pins σ H s) (r:Vals vs us) (h:sp (vs ++ kZ) H Q E):wpAny (model X.prog X.w) X.A (call (.ref f) us) (EP X pins σ Q) X.xe s:=by
 have r2:Vals (vs ++ kZ) (us ++ ds):=r.append hd
 have hl:(us ++ ds).length=ps.length:=by rw[<-r2.length];exact F.len _ _ _ _ h
 refine wpAny_call (Y9 (F.run X.A X.stack s H ⟨us,[]⟩ (us ++ ds) (vs ++ kZ) Q E hr I.tF (hb s us I.iH hl) r2 h) fun r s' hq => ?_)
 cases r with
 | error e=>exact hx pins σ H s e s' I hq
 | ok fl =>
  cases fl with
  | ret u=>exact I.after hq
  | next=>exact False.elim hq
  | brk=>exact False.elim hq
  | cont=>exact False.elim hq
theorem LS (F:aY X.prog X.w X.K X.mg X.base CX k f fd ps sp) (hr:bz k X.A) (hg:Gl X x) (hm:X.mg x=some (.ref f)) (hk:PySem.W.keepIn X.K (.ref f)=true) (hb:Binds X.K fd ps ds) (hd:Vals kZ ds) (hx:v9 CX X E)
  (ha:PA X (e :: es) t) (gI:(x == ("__debug__" : Str))=false:=by decide) (he:starEach (e :: es) X.env=(false,eval e X.env) :: starEach es X.env:=by rfl) (gw:(backTo pos (starEach es X.env)).any (·.1)=false:=by rfl) :
  PE X (.Call (.Name x p) (e :: es) [] pos) (tG sp kZ E t):=by
 intro pins s σ H Q I h
 refine YX (Eb I hg hm ?_ gI)
 refine PySem.W.callWith_K (h₀ := X.base) I.ok.mod.nU hk (bg (ha pos pins s σ H _ I h) fun us s1 h0_ => el5 h0_ fun vs H1 I1 r q =>⟨I1.iH,?_⟩) he gw
 exact LR F hr hb hd hx I1 r q
end
section
variable {X:Cx} {CX:jR} {k:Nat} {f C:Addr} {fd:FuncData} {ps ks:List Str} {sp:Sp} {E:XK} {x m:Str} {p pos apos jk:Pos} {e o:Expr} {es:List Expr} {VS:List Keyword} {te ta:TE} {t tk:TA} {nm:Option Str}
variable {g:List Value->List Value->List Value} {gV:List V->List V->List V}
end
structure dz (N P:List Str) (sc:Scope):Prop where
 kind:sc.kind = .function
 co:sc.isCoroutine=false
 gen:sc.isGenerator=false
 nd:N.Nodup
 pre:N.take P.length=P
 par:∀ x∈P,sc.names.lookup x=some .local\/sc.names.lookup x=some .cell
 pK:∀ y∈sc.names,y.2 ≠ .free
theorem Es {kindOf:Str->Option NameKind} {x:Str}:∀ {binds:List (Str × Value)} {m:Str->Option Value},(∀ v,(x,v)∉binds)->bindL kindOf binds m x=m x
 | [],_,_=>rfl
 | (n,v) :: r,m,h=>by
  unfold bindL
  rw[Es fun w hw=>h w (E9 _ hw)]
  split
  ·have:x≠n:=by rintro rfl;exact h v E6
   simp[this]
  ·rfl
theorem Et {kindOf:Str->Option NameKind} {x:Str}:∀ {binds:List (Str × Value)} {m:Str->Option Value},(∀ v,(x,v)∉binds)->bindC kindOf binds m x=m x
 | [],_,_=>rfl
 | (n,v) :: r,m,h=>by
  unfold bindC
  rw[Et fun w hw=>h w (E9 _ hw)]
  split
  ·rfl
  ·have:x≠n:=by rintro rfl;exact h v E6
   simp[this]
theorem Eu {kindOf:Str->Option NameKind} {x:Str} {v:Value}:∀ {P:List Str} {vs:List Value} {i:Nat} {m:Str->Option Value},P.Nodup->P[i]? = some x->vs[i]? = some v->kindOf x=some .local →
  bindL kindOf (P.zip vs) m x=some v
 | [],_,_,_,_,h,_,_=>by simp at h
 | _ :: _,[],_,_,_,_,h,_=>by simp at h
 | p :: P,w :: vs,0,m,nd,h1,h2,hk=>by
  simp at h1 h2;subst h1;subst h2
  show bindL kindOf ((p,w) :: P.zip vs) m p=_
  unfold bindL
  rw[Es fun v hv=>(YJ.mp nd).1 (q0W hv).1,VY hk]
  simp
 | p :: P,w :: vs,i + 1,m,nd,h1,h2,hk=>by
  show bindL kindOf ((p,w) :: P.zip vs) m x=_
  unfold bindL
  exact Eu (i:=i) (YJ.mp nd).2 (by simpa using h1) (by simpa using h2) hk
theorem Ew {kindOf:Str->Option NameKind} {x:Str} {v:Value}:∀ {P:List Str} {vs:List Value} {i:Nat} {m:Str->Option Value},P.Nodup->P[i]? = some x->vs[i]? = some v->kindOf x≠some .local →
  bindC kindOf (P.zip vs) m x=some v
 | [],_,_,_,_,h,_,_=>by simp at h
 | _ :: _,[],_,_,_,_,h,_=>by simp at h
 | p :: P,w :: vs,0,m,nd,h1,h2,hk=>by
  simp at h1 h2;subst h1;subst h2
  show bindC kindOf ((p,w) :: P.zip vs) m p=_
  unfold bindC
  rw[Et fun v hv=>(YJ.mp nd).1 (q0W hv).1,MC hk]
  simp
 | p :: P,w :: vs,i + 1,m,nd,h1,h2,hk=>by
  show bindC kindOf ((p,w) :: P.zip vs) m x=_
  unfold bindC
  exact Ew (i:=i) (YJ.mp nd).2 (by simpa using h1) (by simpa using h2) hk
noncomputable def start (N:List Str) (vs:List V):St:=vs.map some ++ List.replicate (N.length - vs.length) none
noncomputable def gJ (CX:jR) (P:Program) (w:World) (K:PySem.W.Frag) (mg:Str->Option Value) (base:Heap) (N:List Str) (qual:Str) (scope:Scope) (f:Addr) (cd:Value) (A:Around) (outer:List Env) (s:Shared) (H:Hp) (E:XK):Cx where
 prog:=P
 w:=w
 K:=K
 mg:=mg
 base:=base
 A:=A.deeper (envOfC qual scope s.heap.objs.size f cd)
 N:=N
 s₀ := s
 H₀ := H
 env:=envOfC qual scope s.heap.objs.size f cd
 outer:=outer
 stack:=envOfC qual scope s.heap.objs.size f cd :: outer
 ex:=[]
 calm:=true
 fn:=fun _=>true
 pn:=[]
 xe:=fun e s'=>wpAny (model P w) (A.deeper (envOfC qual scope s.heap.objs.size f cd)) (leaving (envOfC qual scope s.heap.objs.size f cd) e) (fun _ jm=>CX outer H s E e jm) (fun e' jm=>CX outer H s E e' jm) s'
theorem Ex {sc:Scope} {n:Nat} {x:Str} (h:sc.names.lookup x=some .cell):∃ c,(cellsFrom n sc.names []).lookup x=some c:=by
 have q:=ZD sc.names n [] (.inl h)
 exact Zf.mp q
theorem LU {CX:jR} {P:Program} {w:World} {K:PySem.W.Frag} {mg:Str->Option Value} {base:Heap} {N ps:List Str} {qual:Str} {scope:Scope} {f:Addr} {cd:Value} {A:Around} {outer:List Env} {s s1:Shared} {H:Hp} {E:XK} {us:List Value} {vs:List V}
  (S:dz N ps scope) (hd:A.handled=none) (e0:mE P w K mg base A outer s H) (hl:vs.length=ps.length) (r:Vals vs us)
  (x:InCallC s s.heap.objs.size (bindL (envOfC qual scope s.heap.objs.size f cd).kindOf (ps.zip us) fun _=>none) (cellsFrom (s.heap.objs.size + 1) scope.names []) (bindC (envOfC qual scope s.heap.objs.size f cd).kindOf (ps.zip us) fun _=>none) s1) :
  Inv (gJ CX P w K mg base N qual scope f cd A outer s H E) [] (start N vs) H s1:=by
 have gw:ps.length <= N.length:=by have:=congrArg List.length S.pre;rw[WQ] at this;omega
 obtain⟨h1,tk,rfl,hk⟩:=x.done
 have mF:∀ b:Addr,b∉(gJ CX P w K mg base N qual scope f cd A outer s H E).ex:=fun b z=>absurd (show b∈([]:List Addr) from z) (by simp)
 refine⟨⟨e0.mod,S.kind,rfl,rfl,we _,fun y z c h1 h2 => ?_,fun y hy => ?_,fun y c _ h => ?_,fun _=>hd,Around.frames_deeper e0.frames,.inr ⟨rfl,rfl⟩,fun b z=>absurd z (mF b),e0.bs,e0.nV,fun b _ _=>mF b,fun b z=>absurd z (mF b),e0.fK,e0.pe⟩,
  rfl,e0.bare,Un.kept hk,⟨_,x.toInCall.ns,fun i y v h1 h2 h3 => ?_⟩,fun y c h=>⟨_,x.cell y c h⟩,e0.aM.fresh (we _),fun y c h => ?_,fun p hp=>absurd (show p∈([]:List (Addr × Obj)) from hp) (by simp),e0.aM.kept hk,?_⟩
 ·exact name_of_addr x.apart (XQ h1) (XQ h2)
 ·have hy:scope.names.lookup y=some .cell\/scope.names.lookup y=some .free:=hy
  rcases hy with hy | hy
  ·exact Ex hy
  ·exact absurd rfl (S.pK _ (XQ hy))
 ·exact XR (x.above y c (XQ h))
 ·have hi:i < vs.length:=by
   unfold start at h2
   by_cases hi:i < vs.length
   ·exact hi
   ·rw[Ww (by simpa using hi)] at h2
    rw[YT] at h2
    split at h2<;>cases h2
  have ha:vs[i]? = some v:=by
   unfold start at h2
   rw[Wu (by simpa using hi),E7] at h2
   cases e:vs[i]? with
   | none=>rw[e] at h2;cases h2
   | some a=>rw[e] at h2;cases h2;rfl
  obtain⟨u,hu,rv⟩:=r.get ha
  have hp:ps[i]? = some y:=by
   rw[<-S.pre,Xp (by omega)];exact h1
  have Ey:ps.Nodup:=by rw[<-S.pre];exact S.nd.sublist (q0l _ _)
  refine⟨u,rv,?_⟩
  rcases S.par y (WN hp) with k | k
  ·exact .inl ⟨k,Eu Ey hp hu k⟩
  ·obtain⟨c,e⟩:=Ex (n:=s.heap.objs.size + 1) k
   refine .inr ⟨.inl k,c,e,?_⟩
   have q:=x.cell y c e
   rw[Ew Ey hp hu (by show scope.names.lookup y≠_;rw[k];decide)] at q
   exact q
 ·exact e0.aM.fresh (XR (x.above y c (XQ h)))
 ·unfold start
  show _=N.length
  rw[My,pU,ZJ]
  omega
theorem Ez {CX:jR} {P:Program} {w:World} {K:PySem.W.Frag} {mg:Str->Option Value} {base:Heap} {k:Nat} {f:Addr} {name qual:Str} {params:Arguments} {body:List Stmt} {scope:Scope} {dV kV doc pm bo ct oc:Value} {an od:Option Addr}
  {mG:Array (Option Value)} {N ps:List Str} {sp:Sp} (lk:K.lookup f=some ⟨oc,od,.func (PySem.W.fnOf name qual params body scope dV kV doc pm an bo ct),mG⟩) (gc:PySem.W.codeIn K bo qual=true) (S:dz N ps scope)
  (len:∀ vs H Q E,sp vs H Q E->vs.length=ps.length)
  (eu:∀ (A:Around) (outer:List Env) (s:Shared) (H:Hp) (vs:List V) (Q:VK) (E:XK),bz k (A.deeper (envOfC qual scope s.heap.objs.size f bo))->sp vs H Q E →
   ∃ t,iI (gJ CX P w K mg base N qual scope f bo A outer s H E) body t/\t { nx:=fun _ H'=>Q .non H',rt:=Q } (start N vs) H) :
  aY P w K mg base CX (k + 1) f (PySem.W.fnOf name qual params body scope dV kV doc pm an bo ct) ps sp:=by
 refine⟨len,fun A outer s H args us vs Q E hr e0 hb r nZ => ?_⟩
 have hl:=len _ _ _ _ nZ
 have KX:K.In s.heap:=e0.mod.nU.keeps fun b o e=>(e0.bs b o e).1
 have lim:s.heap.NoLimit:=e0.mod.nolimit.keeps fun b o e=>(e0.bs b o e).1
 have tH:∀ y∈ps.zip us,scope.names.lookup y.1=some .local\/(scope.names.lookup y.1=some .cell/\((cellsFrom (s.heap.objs.size + 1) scope.names []).lookup y.1).isSome=true):=fun ⟨n,v⟩ hy=>by
  rcases S.par n (q0W hy).1 with q | q
  ·exact .inl q
  ·exact .inr ⟨q,ZD _ _ _ (.inl q)⟩
 refine codeAny_call_function hr.depth (KX _ _ lk) rfl S.co S.gen rfl (PySem.W.codeRec_of KX gc) (hb _ _ _ _ ?_)
 refine wpAny_newFunctionEnv_cells S.kind tH fun env he s1 x => ?_
 subst he
 refine⟨lim.keeps x.toInCall.keep,codeAny_func ?_⟩
 obtain⟨t,ht,hq⟩:=eu A outer s H vs Q E (hr.deeper _) nZ
 have I:Inv (gJ CX P w K mg base N qual scope f bo A outer s H E) [] (start N vs) H s1:=LU S hr.hd e0 hl r x
 refine Yr (ht [] s1 (start N vs) H _ I hq) (fun fl s' hs => ?_) fun e s' hs=>hs
 have fin:∀ {σ':St} {H':Hp} {v:V} {u:Value},Inv (gJ CX P w K mg base N qual scope f bo A outer s H E) [] σ' H' s'->RelV v u->Q v H'->CE outer P w H s Q u s' :=
  fun {σ' H' v u} J rv q=>⟨v,H',J.os,J.bare,J.base,J.aM,rv,q⟩
 cases fl with
 | ret u =>
  obtain⟨v,σ',H',J,rv,q⟩:=hs
  exact fin J rv q
 | next =>
  obtain⟨σ',H',J,q⟩:=hs
  exact fin (v:=V.non) (u:=Value.none) J rfl q
 | brk =>
  obtain⟨_,_,_,q⟩:=hs
  exact False.elim q
 | cont =>
  obtain⟨_,_,_,q⟩:=hs
  exact False.elim q
section
variable {X:Cx} {x:Str} {p pos:Pos} {e:Expr} {es:List Expr} {t:TA} {id T:String} {r:List V->Hp->VK->Prop}
noncomputable def pL (r:List V->Hp->VK->Prop) (t:TA):TE:=fun σ H Q=>t σ H fun vs H1=>r vs H1 Q
theorem LV (hc:fV X (.builtin id) r) (hg:Gl X x) (hm:X.mg x=none) (hv:bootBuiltins x=some (.builtin id)) (ha:PA X (e :: es) t) (hn:x ≠ "__name__" := by decide) (gI:(x == ("__debug__" : Str))=false:=by decide)
  (he:starEach (e :: es) X.env=(false,eval e X.env) :: starEach es X.env:=by rfl) (gw:(backTo pos (starEach es X.env)).any (·.1)=false:=by rfl):PE X (.Call (.Name x p) (e :: es) [] pos) (pL r t):=by
 intro pins s σ H Q I h
 refine YX (mq I hg hm hv ?_ hn gI)
 exact PyProof.Rows.callWith_builtin1 (bg (ha pos pins s σ H _ I h) fun us s1 h0_ => el5 h0_ fun vs H1 I1 r1 q1 =>hc pins s1 σ H1 vs us Q I1 r1 q1) he gw
theorem LW (hc:fV X (.type T) r) (hg:Gl X x) (hm:X.mg x=none) (hv:bootBuiltins x=some (.type T)) (ha:PA X (e :: es) t) (hn:x ≠ "__name__" := by decide) (gI:(x == ("__debug__" : Str))=false:=by decide)
  (he:starEach (e :: es) X.env=(false,eval e X.env) :: starEach es X.env:=by rfl) (gw:(backTo pos (starEach es X.env)).any (·.1)=false:=by rfl):PE X (.Call (.Name x p) (e :: es) [] pos) (pL r t):=by
 intro pins s σ H Q I h
 refine YX (mq I hg hm hv ?_ hn gI)
 exact Yi (bg (ha pos pins s σ H _ I h) fun us s1 h0_ => el5 h0_ fun vs H1 I1 r1 q1 =>hc pins s1 σ H1 vs us Q I1 r1 q1) he gw
end
end L2
namespace HT
open PySem PyProof.Rows
noncomputable def lexLt:List Int->List Int->Bool
 | [],[]=>false
 | [],_ :: _=>true
 | _ :: _,[]=>false
 | x :: xs,y :: ys=>if x=y then lexLt xs ys else decide (x < y)
theorem mH (x y:Int) (xs ys:List Int):lexLt (x :: xs) (y :: ys)=if x=y then lexLt xs ys else decide (x < y):=rfl
theorem EA:lexLt [] []=false:=rfl
theorem EB (y:Int) (ys:List Int):lexLt [] (y :: ys)=true:=rfl
theorem EC (x:Int) (xs:List Int):lexLt (x :: xs) []=false:=rfl
theorem LX (A:Around) (s:Shared) (a:Int) (t:Tok) (c:Int) (u:Tok):∃ e,SeqAt.EqAt A s (.int a t) (.int c u) e/\(e=true↔a=c) :=
 ⟨(a == c),q0e a t c u,by simp⟩
theorem ED (A:Around) (s:Shared) (a:Int) (t:Tok) (c:Int) (u:Tok) (prog:Program) (w:World) (E:Value->Shared->Prop) (Q:Value->Shared->Prop) (h:Q (.bool (decide (a < c))) s) :
  wpAny (model prog w) A (richCompare .Lt (.int a t) (.int c u)) Q E s :=
 (PyProof.Rows.lt_int h:wpAny (model prog w) A (compareOp .Lt (.int a t) (.int c u)) Q E s)
section
open PySem.SeqAt
open PySem.AutoSeq1 (wpAny_loadPart')
open PySem.MeetsSeq PySem.MeetsSeq2 PySem.MeetsSeq3
theorem LY (l b:Addr) (items aV:Array Value) (n n2:Nat) (dd jS:Option Addr) (sl jT:Array (Option Value)) (ns ms:List Int) (hi:IntsAre items.toList ns) (hj:IntsAre aV.toList ms) :
  Meets (Builtin.«tuple.__lt__» ⟨[.ref l,.ref b],[]⟩)
   (fun _ R s=>s.heap.get? l=some { cls := .type "tuple",dict:=dd,data := .seq items n,slots:=sl }/\s.heap.get? b=some { cls := .type "tuple",dict:=jS,data := .seq aV n2,slots:=jT } ∧
    R (.ok (.ret (.bool (lexLt ns ms)))) s) :=
 .of_wp fun prog w A R s h=>by
  obtain⟨hp,g,d,tk,os⟩:=s;obtain⟨hl,hb,h⟩:=h
  have f2:=AutoSeq1.sub_tuple_tuple
  have z1:items.size=ns.length:=by rw[<-hi.length];simp
  have z2:aV.size=ms.length:=by rw[<-hj.length];simp
  wp_walk using WX hl,WX hb,ZP _ (fun rest b s'=>b.1=none/\s'=⟨hp,g,d,tk,os⟩/\∃ (vs ws:List Value) (eA rC:List Int),rest=vs.zip ws ∧
   IntsAre vs eA/\IntsAre ws rC/\eA.length + aV.size=rC.length + items.size/\R (.ok (.ret (.bool (lexLt eA rC)))) ⟨hp,g,d,tk,os⟩) _
  case turn =>
   rintro ⟨y,x⟩ rest b s' ⟨d8,rfl,vs,ws,eA,rC,hz,zv,v_,hlen,hR⟩
   cases zv with
   | nil=>rw[q0o] at hz;cases hz
   | cons a t zw =>
    cases v_ with
    | nil=>rw[List.zip_nil_right] at hz;cases hz
    | cons c u zx =>
     rw[q0f] at hz
     injection hz with LZ tI
     injection LZ with hy hx
     subst hy hx
     rw[mH] at hR
     simp only[Mx] at hlen
     obtain⟨e,he,tJ⟩:=LX A.in1 ⟨hp,g,d,tk,os⟩ a t c u
     refine pT (he prog w _ _ ?_)
     cases e with
     | true =>
      rw[VY (tJ.mp rfl)] at hR
      wp_walk
      exact⟨rfl,rfl,_,_,_,_,tI,zw,zx,by omega,hR⟩
     | false =>
      rw[MC (fun q=>absurd (tJ.mpr q) Ws)] at hR
      have zy:=ED A.in1 ⟨hp,g,d,tk,os⟩ a t c u prog w
      wp_walk using zy
      exact⟨_,rfl,by simpa using hR⟩
  case fin =>
   rintro ⟨b1,b2⟩ s' ⟨d8,rfl,vs,ws,eA,rC,hz,zv,v_,hlen,hR⟩
   simp only at d8
   subst d8
   have hv:lexLt eA rC=decide (items.size < aV.size):=by
    cases zv with
    | nil =>
     cases v_ with
     | nil =>
      simp only[Ym] at hlen
      rw[EA]
      exact (Wz (by omega)).symm
     | cons c u hw =>
      simp only[Ym,Mx] at hlen
      rw[EB]
      exact (WC (by omega)).symm
    | cons a t hv =>
     cases v_ with
     | nil =>
      simp only[Ym,Mx] at hlen
      rw[EC]
      exact (Wz (by omega)).symm
     | cons c u hw =>
      rw[q0f] at hz
      cases hz
   rw[hv] at hR
   wp_walk
   exact⟨_,rfl,by simpa [Builtin.Tuple.tupleCompareSizes] using hR⟩
  case h =>
   exact⟨rfl,rfl,items.toList,aV.toList,ns,ms,rfl,hi,hj,by omega,h⟩
end
section
variable {prog:Program} {w:World} {A:Around} {E:Value->Shared->Prop} {s:Shared}
theorem L1 {l b:Addr} {items aV:Array Value} {ns ms:List Int} {Q:Value->Shared->Prop} (hl:IsTup s.heap l items) (hb:IsTup s.heap b aV) (hi:IntsAre items.toList ns) (hj:IntsAre aV.toList ms)
  (hu:A.units < cLine) (h:Q (.bool (lexLt ns ms)) s):wpAny (model prog w) A (compareOp .Lt (.ref l) (.ref b)) Q E s:=by
 obtain⟨⟨cls,dd,data,sl⟩,ho,hc,n,hd⟩:=id hl
 obtain⟨⟨tK,jS,data2,jT⟩,fI,jG,n2,hd2⟩:=id hb
 simp only at hc hd jG hd2
 subst hc hd jG hd2
 exact richCompare_meets_room (op := .Lt) ⟨_,ho,rfl⟩ ⟨_,fI,rfl⟩ PySem.F.slot_tuple_lt PySem.F.entry_tuple_lt (PySem.F.args_tuple_lt_2 _ _) (LY l b items aV n n2 dd jS sl jT ns ms hi hj)
  ⟨ho,fI,show Value.bool (lexLt ns ms)≠Value.notImplemented/\Q (.bool (lexLt ns ms)) s from ⟨(fun x=>nomatch x),h⟩⟩ hu
theorem L3 {t b:Addr} {vs ws:List Value} {Q:Value->Shared->Prop} (ht:IsTup s.heap t vs.toArray) (hb:IsTup s.heap b ws.toArray) (hv:vs≠[])
  (h1:ws=[]->Q (.ref t) s) (h2:ws≠[]->Q (.ref s.heap.objs.size) { s with heap:=s.heap.push { cls := .type "tuple",data := .seq (vs ++ ws).toArray } })
  (hsz:vs.length + ws.length <= sizeLine):wpAny (model prog w) A (binaryOp .Add (.ref t) (.ref b)) Q E s:=by
 obtain⟨⟨cls,dd,data,sl⟩,ho,hc,n,hd⟩:=id ht
 obtain⟨⟨tK,jS,data2,jT⟩,fI,jG,n2,hd2⟩:=id hb
 simp only at hc hd jG hd2
 subst hc hd jG hd2
 have e:vs.toArray ++ ws.toArray=(vs ++ ws).toArray:=by simp
 by_cases hw:ws=[]
 ·exact concat_meets ⟨_,ho,rfl⟩ ⟨_,fI,rfl⟩ noFill_tuple_add seq_tuple_add ZE Zr (Zg _ _)
   (tuple_addW1 t b vs.toArray ws.toArray n n2 dd jS sl jT (by simpa using hv) (by simp[hw])) ⟨ho,fI,h1 hw⟩
 ·refine concat_meets ⟨_,ho,rfl⟩ ⟨_,fI,rfl⟩ noFill_tuple_add seq_tuple_add ZE Zr (Zg _ _)
   (tuple_addW2 t b vs.toArray ws.toArray n n2 dd jS sl jT (by simpa using hv) (by simpa using hw) (by rw[zR,zR];exact hsz)) ⟨ho,fI,?_⟩
  rw[e]
  exact h2 hw
noncomputable def ba (n d:Nat):Option Int->Nat
 | none=>d
 | some v=>if v < 0 then (v + (n:Int)).toNat else min v.toNat n
theorem EE (n d:Nat):ba n d none=d:=rfl
theorem wa (n d k:Nat):ba n d (some (k:Int))=min k n:=by
 show (if (k:Int) < 0 then ((k:Int) + (n:Int)).toNat else min (k:Int).toNat n)=min k n
 rw[MC (by omega),MB]
theorem L5 (n d:Nat) (hd:d <= n) (o:Option Int):ba n d o <= n:=by
 cases o with
 | none=>exact hd
 | some v =>
  show (if v < 0 then (v + (n:Int)).toNat else min v.toNat n) <= n
  by_cases hv:v < 0
  ·rw[VY hv];omega
  ·rw[MC hv];exact Nat.min_le_right _ _
theorem EF (v:Int) (n d:Nat):(if v < 0 then max (v + (n:Int)) 0 else min v (n:Int))=((ba n d (some v):Nat):Int):=by
 show (if v < 0 then max (v + (n:Int)) 0 else min v (n:Int))=(((if v < 0 then (v + (n:Int)).toNat else min v.toNat n):Nat):Int)
 by_cases hv:v < 0
 ·simp only[VY hv];omega
 ·simp only[MC hv];omega
theorem L7 (lo hi:Option Int) (n:Nat):Builtin.Slice.sliceAdjust lo hi 1 (n:Int)=(((ba n 0 lo:Nat):Int),((ba n n hi:Nat):Int)):=by
 have h1:¬ ((1:Int) < 0):=by omega
 unfold Builtin.Slice.sliceAdjust
 simp only[h1,XE]
 refine Prod.ext ?_ ?_
 ·cases lo with
  | none=>rfl
  | some v=>exact EF v n 0
 ·cases hi with
  | none=>rfl
  | some v=>exact EF v n n
theorem L8 (i j:Nat):Builtin.Slice.slicePlaces (i:Int) (j:Int) 1=j - i:=by
 unfold Builtin.Slice.slicePlaces
 have h1:(1:Int) > 0:=by omega
 simp only[h1,YM,Int.ediv_one]
 split<;>omega
theorem EG {v:Value} {o:Option Int} {Q:Option Int->Shared->Prop} (p:IsPart v o) (h:Q o s):wpAny (model prog w) A (Builtin.Slice.slicePartIndex v) Q E s:=by
 cases p with
 | none=>exact slicePart_none h
 | int i t=>exact slicePart_int h
theorem EH {sl:Addr} {vl vu:Value} {lo hi:Option Int} {n:Nat} {Q:Int × Int × Nat->Shared->Prop} (hs:s.heap.IsSliceOf sl vl vu .none) (pl:IsPart vl lo) (pu:IsPart vu hi)
  (h:Q (((ba n 0 lo:Nat):Int),1,ba n n hi - ba n 0 lo) s):wpAny (model prog w) A (Builtin.Slice.sliceApplied (.ref sl) (pure (n:Int))) Q E s:=by
 obtain⟨os,pM,rD,tL⟩:=id hs
 unfold Builtin.Slice.sliceApplied Builtin.Slice.sliceFields
 refine pT (pT (Zs pM tL (x:=vl) rfl (pT (Zs pM tL (x:=vu) rfl (pT (Zs pM tL (x := .none) rfl (wg ?_)))))))
 refine pT (slicePart_none ?_)
 show wpAny _ _ (if ((1:Int) == 0)=true then _ else _) _ _ s
 rw[MC (by decide)]
 refine pT (EG pl (pT (EG pu (pT (wg ?_)))))
 show wpAny _ _ (match Builtin.Slice.sliceAdjust lo hi 1 (n:Int) with | (lo,hi)=>pure (lo,(1:Int),Builtin.Slice.slicePlaces lo hi 1)) _ _ s
 rw[L7 lo hi n]
 show wpAny _ _ (pure (((ba n 0 lo:Nat):Int),(1:Int),Builtin.Slice.slicePlaces ((ba n 0 lo:Nat):Int) ((ba n n hi:Nat):Int) 1)) _ _ s
 rw[L8]
 exact wg h
theorem L9 (xs:Array Value) (i k:Nat):((List.range k).filterMap fun (m:Nat)=>xs[((i:Int) + (m:Int) * 1).toNat]?).toArray=((xs.toList.drop i).take k).toArray:=by
 have e:(fun (m:Nat)=>xs[((i:Int) + (m:Int) * 1).toNat]?)=fun m=>xs[i + m]? := by
  funext m
  have:((i:Int) + (m:Int) * 1).toNat=i + m:=by omega
  rw[this]
 rw[e]
 have:=pick_run xs i k
 rw[List.filterMap_map] at this
 have e2:((fun x=>xs[x]?) ∘ fun x=>i + x)=fun m=>xs[i + m]? := rfl
 rw[e2] at this
 rw[this]
theorem L_ {t sl:Addr} {items:Array Value} {vl vu:Value} {lo hi:Option Int} {Q:Value->Shared->Prop} (ht:IsTup s.heap t items) (hs:s.heap.IsSliceOf sl vl vu .none) (pl:IsPart vl lo) (pu:IsPart vu hi)
  (hw:¬ (ba items.size 0 lo=0/\ba items.size items.size hi=items.size))
  (h:Q (.ref s.heap.objs.size) { s with heap:=s.heap.push { cls := .type "tuple",data := .seq ((items.toList.drop (ba items.size 0 lo)).take (ba items.size items.size hi - ba items.size 0 lo)).toArray } })
  (hsz:items.size <= sizeLine):wpAny (model prog w) A (getItem (.ref t) (.ref sl)) Q E s:=by
 have jH:sizeOk (.seq ((items.toList.drop (ba items.size 0 lo)).take (ba items.size items.size hi - ba items.size 0 lo)).toArray):=by
  show ((items.toList.drop (ba items.size 0 lo)).take (ba items.size items.size hi - ba items.size 0 lo)).toArray.size <= sizeLine
  rw[zR,WQ,Yp,E8]
  omega
 have hj:ba items.size items.size hi <= items.size:=L5 _ _ (we _) hi
 obtain⟨os,pM,rD,tL⟩:=id hs
 have zz:s.TypeIs (.ref sl) "slice" := ⟨os,pM,rD⟩
 unfold getItem
 try with_reducible refine W9 ?_
 first | refine pT (wg ?_) | skip
 refine pT (wpAny_sequenceKey ht.typeIs (by decide) ?_)
 refine pT (Yh (name:=Str.ofString "__getitem__") ht.typeIs XA
  (X1 XA ht.typeIs entry_tuple_getitem ?_ (args_tuple_getitem _ _)))
 show wpAny _ _ (Builtin.Tuple.tupleItemsOf (.ref t) >>= _) _ _ s
 refine pT (tupleItemsOf_ ht ?_)
 refine pT (ZA zz ?_)
 rw[VY (by decide)]
 refine pT (EH hs pl pu ?_)
 have Ma:¬ ((((ba items.size 0 lo:Nat):Int) == 0 && (1:Int) == 1 && (ba items.size items.size hi - ba items.size 0 lo) == items.size)=true):=by
  intro q
  rw[Xq,Xq] at q
  have q1:((ba items.size 0 lo:Nat):Int)=0:=XU q.1.1
  have q2:ba items.size items.size hi - ba items.size 0 lo=items.size:=XU q.2
  exact hw ⟨by omega,by omega⟩
 show wpAny _ _ (if (((ba items.size 0 lo:Nat):Int) == 0 && (1:Int) == 1 && (ba items.size items.size hi - ba items.size 0 lo) == items.size)=true then _ else _) _ _ s
 rw[MC Ma,L9]
 first
  | exact pT (m:=Builtin.Tuple.tupleExact _) (Xy (wg ⟨_,rfl,wg h⟩) jH)
  | exact pT (m:=Builtin.Tuple.tupleExact _) (Xy (pT (wg (wg ⟨_,rfl,wg h⟩))) jH)
  | exact pT (pT (m:=Builtin.Tuple.tupleExact _) (Xy (wg (wg ⟨_,rfl,wg h⟩)) jH))
  | exact pT (pT (m:=Builtin.Tuple.tupleExact _) (Xy (wg ⟨_,rfl,wg h⟩) jH))
end
end HT
namespace L2
open PySem PySem.Spec PyProof.Rows
noncomputable abbrev TO:=St->Hp->(Option Int->Hp->Prop)->Prop
noncomputable def PO (X:Cx) (e:Option Expr) (t:TO):Prop :=
 ∀ (pins:List (Addr × Obj)) (s:Shared) (σ : St) (H:Hp) (Q:Option Int->Hp->Prop),Inv X pins σ H s->t σ H Q →
  wpAny (model X.prog X.w) X.A (evalPart e X.env) (fun u s'=>∃ o H',Inv X pins σ H' s'/\IsPart u o/\Q o H') X.xe s
noncomputable def Mb:TO:=fun _ H Q=>Q none H
noncomputable def Mc (t:TE):TO:=fun σ H Q=>t σ H fun x H1=>∃ i,x = .int i/\Q (some i) H1
theorem intsAre_of {ns:List Int}:∀ {us:List Value},Vals (ns.map V.int) us->IntsAre us ns:=by
 induction ns with
 | nil=>intro us r;rw[Ye] at r;cases r;exact .nil
 | cons n ns ih =>
  intro us r
  rw[WH] at r
  cases r with
  | cons r1 r2 =>
   obtain⟨t,e⟩:=r1
   subst e
   exact .cons n t (ih r2)
section
variable {X:Cx} {e:Expr} {te:TE} {lo hi:Option Expr} {tl th:TO} {pos p2:Pos}
theorem EI:PO X none Mb:=by
 intro pins s σ H Q I h
 rw[evalPart_none]
 exact wg ⟨none,H,I,.none,h⟩
theorem wc (h:PE X e te):PO X (some e) (Mc te):=by
 intro pins s σ H Q I hw
 rw[evalPart_some]
 refine bg (h pins s σ H _ I hw) fun u s1 h0_ => el5 h0_ fun x H1 I1 r1 q1 => ?_
 obtain⟨i,rfl,q⟩:=q1
 obtain⟨t,rfl⟩:=r1
 exact⟨some i,H1,I1,.int i t,q⟩
noncomputable def mI (X:Cx) (r:V->Option Int->Option Int->Hp->VK->Prop):Prop :=
 ∀ (pins:List (Addr × Obj)) (s:Shared) (σ : St) (H:Hp) (x:V) (v vl vu:Value) (lo hi:Option Int) (sl:Addr) (Q:VK),Inv X pins σ H s->RelV x v->s.heap.IsSliceOf sl vl vu .none->IsPart vl lo->IsPart vu hi->r x lo hi H Q →
  ∃ T id,typeLookup (.type T) "__getitem__" = pure (some (.builtin id))/\s.TypeIs v T/\wpAny (model X.prog X.w) X.A (getItem v (.ref sl)) (EP X pins σ Q) X.xe s
theorem mI.or {r r':V->Option Int->Option Int->Hp->VK->Prop} (h:mI X r) (h':mI X r'):mI X (fun x lo hi H Q=>r x lo hi H Q\/r' x lo hi H Q):=by
 intro pins s σ H x v vl vu lo hi sl Q I rx hs pl pu q
 rcases q with q | q
 ·exact h pins s σ H x v vl vu lo hi sl Q I rx hs pl pu q
 ·exact h' pins s σ H x v vl vu lo hi sl Q I rx hs pl pu q
noncomputable def EJ (r:V->Option Int->Option Int->Hp->VK->Prop) (te:TE) (tl th:TO):TE:=fun σ H Q=>te σ H fun x H1=>tl σ H1 fun l H2=>th σ H2 fun u H3=>r x l u H3 Q
theorem Md {r:V->Option Int->Option Int->Hp->VK->Prop} (hr:mI X r) (he:PE X e te) (hl:PO X lo tl) (hu:PO X hi th):PE X (.Subscript e (.Slice lo hi none p2) pos) (EJ r te tl th):=by
 intro pins s σ H Q I h
 refine Subscript_ (bg (he pins s σ H _ I h) fun v s1 h0_ => el5 h0_ fun x H1 I1 r1 q1 => ?_)
 refine wpAny_Slice (bg (hl pins s1 σ H1 _ I1 q1) fun vl s2 h0_ => el5 h0_ fun l H2 I2 pl q2 =>bg (hu pins s2 σ H2 _ I2 q2) fun vu s3 h0_ => el5 h0_ fun u H3 I3 pu q3 => ?_)
 rw[evalPart_none]
 refine wg ?_
 have I4:Inv X pins σ H3 { s3 with heap:=s3.heap.push { cls := .type "slice",data := .fields #[vl,vu,.none] } }:=I3.kept (t':=s3.toks) fun b ob q=>tP _ q
 obtain⟨T,id,hT,ht,hg⟩:=hr pins { s3 with heap:=s3.heap.push { cls := .type "slice",data := .fields #[vl,vu,.none] } } σ H3 x v vl vu l u s3.heap.objs.size Q I4 r1 (Heap.IsSliceOf.new ..) pl pu q3
 show wpAny (model X.prog X.w) X.A (subscriptTail e (.Slice lo hi none p2) v (.ref s3.heap.objs.size)) (EP X pins σ Q) X.xe { s3 with heap:=s3.heap.push { cls := .type "slice",data := .fields #[vl,vu,.none] } }
 exact tail_any (ops:=[.ref s3.heap.objs.size,v]) ht hT hg (by with_unfolding_all rfl)
noncomputable def dA (xs:List V) (lo hi:Option Int):List V:=(xs.drop (HT.ba xs.length 0 lo)).take (HT.ba xs.length xs.length hi - HT.ba xs.length 0 lo)
theorem EK (xs:List V) (lo hi:Option Int):(dA xs lo hi).length <= xs.length:=by
 unfold dA
 rw[WQ,Yp]
 omega
noncomputable def zA (K:PySem.W.Frag):V->Option Int->Option Int->Hp->VK->Prop:=fun x lo hi H Q=>∃ a xs,x = .ref a/\bV K H a xs ∧
 ¬ (HT.ba xs.length 0 lo=0/\HT.ba xs.length xs.length hi=xs.length)/\∀ p,H p=none->Q (.ref p) (upd H p (.tup (dA xs lo hi)))
theorem Me:mI X (zA X.K):=by
 intro pins s σ H x v vl vu lo hi sl Q I rx hs pl pu h
 obtain⟨a,xs,rfl,hx,hw,q⟩:=h
 cases rx
 obtain⟨ak,r,ht,hz⟩:=I.tuple hx
 have hlen:ak.toArray.size=xs.length:=by rw[zR];exact r.length.symm
 refine⟨"tuple",_,XA.lookup,ht.typeIs,?_⟩
 refine HT.L_ ht hs pl pu (by rw[hlen];exact hw) ?_ (by rw[hlen];exact hz)
 rw[hlen]
 refine⟨.ref s.heap.objs.size,_,I.laid (t':=s.toks) (o := .tup (dA xs lo hi)) (fun b ob q=>tP _ q) (we _) ?_,rfl,q _ (I.aM.fresh (we _))⟩
 exact⟨XJ (EK xs lo hi) hz,_,(r.drop (HT.ba xs.length 0 lo)).take (HT.ba xs.length xs.length hi - HT.ba xs.length 0 lo),IsTup.new _ _⟩
noncomputable def zB (K:PySem.W.Frag):R2:=fun x y H Q=>∃ a b ns ms,x = .ref a/\y = .ref b/\bV K H a (ns.map V.int)/\bV K H b (ms.map V.int)/\Q (.bl (HT.lexLt ns ms)) H
theorem Mf (hu:X.A.units < cLine):dW X (compareOp .Lt) (zB X.K):=by
 intro pins s σ H x y v u Q I rx ry h
 obtain⟨a,b,ns,ms,rfl,rfl,ha,hb,q⟩:=h
 cases rx
 cases ry
 obtain⟨ak,r1,p1,_⟩:=I.tuple ha
 obtain⟨bq,r2,p2,_⟩:=I.tuple hb
 have i1:IntsAre ak.toArray.toList ns:=intsAre_of r1
 have i2:IntsAre bq.toArray.toList ms:=intsAre_of r2
 exact HT.L1 p1 p2 i1 i2 hu ⟨.bl (HT.lexLt ns ms),H,I,rfl,q⟩
noncomputable def Mg (K:PySem.W.Frag):R2:=fun x y H Q=>∃ a b xs ys,x = .ref a/\y = .ref b/\bV K H a xs/\bV K H b ys/\xs≠[]/\xs.length + ys.length <= sizeLine ∧
 (ys=[]->Q (.ref a) H)/\(ys≠[]->∀ p,H p=none->Q (.ref p) (upd H p (.tup (xs ++ ys))))
theorem Vals.fW {xs:List V} {us:List Value} (r:Vals xs us):us=[]↔xs=[]:=by
 cases r with
 | nil=>simp
 | cons _ _=>simp
theorem Mh:dW X (binaryOp .Add) (Mg X.K):=by
 intro pins s σ H x y v u Q I rx ry h
 obtain⟨a,b,xs,ys,rfl,rfl,ha,hb,hx,hz,q1,q2⟩:=h
 cases rx
 cases ry
 obtain⟨ak,r1,p1,_⟩:=I.tuple ha
 obtain⟨bq,r2,p2,_⟩:=I.tuple hb
 refine HT.L3 p1 p2 (fun z=>hx (r1.fW.mp z)) (fun z=>⟨.ref a,H,I,rfl,q1 (r2.fW.mp z)⟩) (fun z => ?_) (by rw[<-r1.length,<-r2.length];exact hz)
 refine⟨.ref s.heap.objs.size,_,I.laid (t':=s.toks) (o := .tup (xs ++ ys)) (fun b ob q=>tP _ q) (we _) ?_,rfl,q2 (fun w=>z (r2.fW.mpr w)) _ (I.aM.fresh (we _))⟩
 exact⟨by rw[My];exact hz,_,r1.append r2,IsTup.new _ _⟩
end
noncomputable def jU (n:Nat) (i:Int):Option Nat:=if 0 <= i then (if i < n then some i.toNat else none) else if -(n:Int) <= i then some (i + n).toNat else none
noncomputable def eB {α : Type} (xs:List α) (i:Int):Option α := (jU xs.length i).bind fun j=>xs[j]?
theorem EL {n:Nat} {i:Int} {j:Nat} (h:jU n i=some j):seqIndex? i n=some j/\j < n /\ -(n:Int) <= i/\i < n:=by
 unfold jU at h
 by_cases h0:0 <= i
 ·rw[VY h0] at h
  by_cases h1:i < n
  ·rw[VY h1] at h
   have e:i.toNat=j:=WW h
   exact⟨by rw[seqIndex_of h0 h1,e],by omega,by omega,h1⟩
  ·rw[MC h1] at h;cases h
 ·rw[MC h0] at h
  by_cases h1 : -(n:Int) <= i
  ·rw[VY h1] at h
   have e:(i + n).toNat=j:=WW h
   exact⟨by rw[seqIndex_neg (by omega) h1,e],by omega,h1,by omega⟩
  ·rw[MC h1] at h;cases h
theorem zC {α : Type} {xs:List α} {i:Int} {v : α} (h:eB xs i=some v):∃ j,seqIndex? i xs.length=some j/\xs[j]? = some v/\j < xs.length /\ -(xs.length:Int) <= i/\i < xs.length:=by
 unfold eB at h
 cases e:jU xs.length i with
 | none=>rw[e] at h;cases h
 | some j =>
  rw[e] at h
  obtain⟨h1,h2,h3,h4⟩:=EL e
  exact⟨j,h1,h,h2,h3,h4⟩
theorem n5 {α : Type} {xs:List α} {j:Nat} {v : α} (h:xs[j]? = some v):eB xs (j:Int)=some v:=by
 have hj:j < xs.length:=(pV.mp h).1
 have e:jU xs.length (j:Int)=some j:=by
  unfold jU
  rw[VY (by omega),VY (by omega)];simp
 unfold eB;rw[e];exact h
noncomputable def zD (b:Expr):Prop:=∀ o i,subscripted b false o i=operate [o,i] (getItem o i)
noncomputable def rE (X:Cx) (r:R2):Prop :=
 ∀ (value slice:Expr) (pins:List (Addr × Obj)) (s:Shared) (σ : St) (H:Hp) (x y:V) (v u:Value) (Q:VK),Inv X pins σ H s->RelV x v->RelV y u->r x y H Q →
  subscripted slice false v u=operate [v,u] (getItem v u)->wpAny (model X.prog X.w) X.A (subscriptTail value slice v u) (EP X pins σ Q) X.xe s
noncomputable def tM (X:Cx) (id:String) (r:V->List V->Hp->VK->Prop):Prop :=
 ∀ (pins:List (Addr × Obj)) (s:Shared) (σ : St) (H:Hp) (x:V) (xs:List V) (v:Value) (us:List Value) (Q:VK),Inv X pins σ H s->RelV x v->Vals xs us->r x xs H Q →
  wpAny (model X.prog X.w) X.A (call (.builtin id) (v :: us)) (EP X pins σ Q) X.xe s
section
variable {X:Cx} {a b:Expr} {ta tb:TE} {pos:Pos}
theorem Mi {r:R2} (hr:rE X r) (ha:PE X a ta) (hb:PE X b tb) (hs:zD b):PE X (.Subscript a b pos) (mz r ta tb):=by
 intro pins s σ H Q I h
 exact Subscript_ (pG ha hb I h fun v u s2 x y H2 I2 rx ry q=>hr a b pins s2 σ H2 x y v u Q I2 rx ry q (hs _ _))
noncomputable def zE (K:PySem.W.Frag):R2:=fun x y H Q=>∃ p xs i v,x = .ref p/\y = .int i/\bj K H p xs/\eB xs i=some v/\Q v H
noncomputable def zF (K:PySem.W.Frag):R2:=fun x y H Q=>∃ p xs i v,x = .ref p/\y = .int i/\bV K H p xs/\eB xs i=some v/\Q v H
noncomputable def zG:R2:=fun x y H Q=>∃ z i c,x = .str z/\y = .int i/\z.length <= sizeLine/\eB z.cps.toList i=some c/\Q (.str ⟨#[c]⟩) H
theorem EM:rE X (zE X.K):=by
 intro value slice pins s σ H x y v u Q I rx ry h hs
 obtain⟨p,xs,i,z,rfl,rfl,hq,he,q⟩:=h
 cases rx
 obtain⟨t,rfl⟩:=ry
 obtain⟨ak,r,pl,hz⟩:=I.list hq
 obtain⟨j,h1,h2,h3,h4,h5⟩:=zC he
 obtain⟨w,ew,tN⟩:=r.get h2
 have hl:=r.length
 have hn:=rB
 have fin:EP X pins σ Q w s:=⟨z,H,I,tN,q⟩
 by_cases h0:0 <= i
 ·have hj:i.toNat=j:=by
   rw[seqIndex_of h0 h5] at h1
   exact WW h1
  exact item_listR pl.isList h0 (by omega) (by rw[hj];simpa using ew) fin hs
 ·have hj:(i + (ak.toArray.size:Int)).toNat=j:=by
   rw[seqIndex_neg (by omega) h4] at h1
   rw[zR,<-hl]
   exact WW h1
  exact subscriptTail_builtinR (x:=w) pl.isList.typeIs slot_list_getitem.lookup
   (wpAny_getItem_list_neg (Q:=fun r s'=>r=w/\EP X pins σ Q r s') pl.isList (by omega) (by rw[zR]<;>omega) (by omega) (by rw[hj];simpa using ew) ⟨rfl,fin⟩) hs
theorem Mj:rE X (zF X.K):=by
 intro value slice pins s σ H x y v u Q I rx ry h hs
 obtain⟨p,xs,i,z,rfl,rfl,hq,he,q⟩:=h
 cases rx
 obtain⟨t,rfl⟩:=ry
 obtain⟨ak,r,pl,hz⟩:=I.tuple hq
 obtain⟨j,h1,h2,h3,h4,h5⟩:=zC he
 obtain⟨w,ew,tN⟩:=r.get h2
 have hl:=r.length
 have hn:=rB
 have fin:EP X pins σ Q w s:=⟨z,H,I,tN,q⟩
 exact subscriptTail_builtinR (x:=w) pl.typeIs slot_tuple_getitem.lookup
  (getItem_tuple (j:=j) (Q:=fun r s'=>r=w/\EP X pins σ Q r s') pl (by omega) (by omega) (by rw[zR,<-hl];exact h1) (by simpa using ew) ⟨rfl,fin⟩) hs
theorem Ml:rE X zG:=by
 intro value slice pins s σ H x y v u Q I rx ry h hs
 obtain⟨z,i,c,rfl,rfl,hz,he,q⟩:=h
 obtain⟨t,rfl⟩:=rx
 obtain⟨t',rfl⟩:=ry
 obtain⟨j,h1,h2,h3,h4,h5⟩:=zC he
 have hl:z.cps.toList.length=z.length:=by simp[Str.length]
 rw[hl] at h1 h4 h5
 have hn:=rB
 exact tail_any (typeIs_str s z t) slot_str_getitem.lookup (getItem_str (c:=c) (by
  have e1:decide (i < -(2 ^ 63:Int))=false:=Wz (by omega)
  have e2:decide (i ≥ 2 ^ 63)=false:=Wz (by omega)
  rw[e1,e2,Bool.or_false]) (by rw[h1];simpa using h2) ⟨.str ⟨#[c]⟩,H,I.tok _,⟨_,rfl⟩,q⟩) hs
theorem Mm (ak:List Value) (n j:Nat) (u:Value):Obj.mapSeq (·.setIfInBounds j u) { cls := .type "list",data := .seq ak.toArray n }={ cls := .type "list",data := .seq (ak.set j u).toArray n }:=by
 simp[Obj.mapSeq]
theorem Inv.lst {pins:List (Addr × Obj)} {σ : St} {H:Hp} {s:Shared} {p:Addr} {xs:List V} (I:Inv X pins σ H s) (h:H p=some (.lst xs)) :
  ∃ (ak:List Value) (n:Nat),Vals xs ak/\s.heap.get? p=some { cls := .type "list",data := .seq ak.toArray n }/\xs.length <= sizeLine:=by
 obtain⟨z,ak,n,r,e⟩:=I.aM p _ h
 exact⟨ak,n,r,e,z⟩
theorem Inv.pN {pins:List (Addr × Obj)} {σ : St} {H:Hp} {s:Shared} {p:Addr} {xs ys:List V} {ak its':List Value} {n n':Nat} {f:Obj->Obj} (I:Inv X pins σ H s) (h:H p=some (.lst xs))
  (ho:s.heap.get? p=some { cls := .type "list",data := .seq ak.toArray n }) (hf:f { cls := .type "list",data := .seq ak.toArray n }={ cls := .type "list",data := .seq its'.toArray n' }) (r:Vals ys its') (hz:ys.length <= sizeLine) (t:Nat) :
  Inv X pins σ (upd H p (.lst ys)) { s with heap:=s.heap.update p f,toks:=t }:=by
 have e:(s.heap.update p f).get? p=some { cls := .type "list",data := .seq its'.toArray n' }:=by
  rw[Xu f ho (by rw[hf]<;>rfl),hf]
 refine I.write (x:=p) (e:=p) (by rw[h];trivial) (.inl rfl) (fun b u hb q=>(XI _ _ (Yd hb)).trans q) ⟨_,e⟩ ?_
 exact⟨hz,its',n',r,e⟩
noncomputable def EN:V->V->V->Hp->(Hp->Prop)->Prop:=fun o i v H Q=>∃ p xs k j,o = .ref p/\i = .int k/\H p=some (.lst xs)/\jU xs.length k=some j/\Q (upd H p (.lst (xs.set j v)))
theorem set_list:pA X EN:=by
 intro pins s σ H o i v ov iv u Q I ro ri rv h
 obtain⟨p,xs,k,j,rfl,rfl,hp,hj,q⟩:=h
 cases ro
 obtain⟨t,rfl⟩:=ri
 obtain⟨ak,n,r,ho,hz⟩:=I.lst hp
 obtain⟨h1,h2,h3,h4⟩:=EL hj
 have hl:=r.length
 have hn:=rB
 have I':Inv X pins σ (upd H p (.lst (xs.set j v))) { s with heap:=s.heap.update p (Obj.mapSeq (·.setIfInBounds j u)) } :=
  I.pN hp ho (Mm ak n j u) (r.set rv j) (by rw[Yn];exact hz) s.toks
 by_cases h0:0 <= k
 ·have hk:k.toNat=j:=by
   rw[seqIndex_of h0 h4] at h1
   exact WW h1
  exact PySem.W.ki_setAt ho h0 (by omega) (by rw[zR,<-hl];exact h4) (by rw[hk];exact⟨_,I',q⟩)
 ·have hk:(k + (ak.toArray.size:Int)).toNat=j:=by
   rw[seqIndex_neg (by omega) h3] at h1
   rw[zR,<-hl]
   exact WW h1
  exact PySem.W.ki_setBack ho (by omega) (by rw[zR,<-hl];exact h3) (by omega) (by rw[hk];exact⟨_,I',q⟩)
theorem Mn (lo hi:Option Int) (n:Nat):(sliceBounds lo hi none n).1=((HT.ba n 0 lo:Nat):Int)/\(sliceBounds lo hi none n).2.1=((HT.ba n n hi:Nat):Int)/\(sliceBounds lo hi none n).2.2=1:=by
 refine⟨?_,?_,rfl⟩
 ·cases lo with
  | none=>simp[sliceBounds,HT.ba]
  | some i =>
   simp only[sliceBounds,HT.ba,ZR,show (1:Int) > 0 by decide,YM]
   by_cases h:i < 0
   ·simp only[h,YM]<;>omega
   ·simp only[h,XE]<;>omega
 ·cases hi with
  | none=>simp[sliceBounds,HT.ba]
  | some i =>
   simp only[sliceBounds,HT.ba,ZR,show (1:Int) > 0 by decide,YM]
   by_cases h:i < 0
   ·simp only[h,YM]<;>omega
   ·simp only[h,XE]<;>omega
theorem Mo (ak:List Value) (lo hi:Option Int):slicePick ak.toArray lo hi none=((ak.drop (HT.ba ak.length 0 lo)).take (HT.ba ak.length ak.length hi - HT.ba ak.length 0 lo)).toArray:=by
 obtain⟨h1,h2,h3⟩:=Mn lo hi ak.toArray.size
 unfold slicePick
 rw[h1,h2,h3]
 simp only[sliceRange_one,pick_run,zR]<;>rfl
noncomputable def zH (K:PySem.W.Frag):V->Option Int->Option Int->Hp->VK->Prop:=fun x lo hi H Q=>∃ a xs,x = .ref a/\bj K H a xs/\∀ p,H p=none->Q (.ref p) (upd H p (.lst (dA xs lo hi)))
theorem h_:mI X (zH X.K):=by
 intro pins s σ H x v vl vu lo hi sl Q I rx hs pl pu h
 obtain⟨a,xs,rfl,hx,q⟩:=h
 cases rx
 obtain⟨ak,r,ht,hz⟩:=I.list hx
 have hlen:=r.length
 refine⟨"list",_,slot_list_getitem.lookup,ht.isList.typeIs,?_⟩
 refine wpAny_getItem_list_slice ht.isList hs pl pu .none (by simp) ?_ (by rw[zR]<;>omega)
 rw[Mo,<-hlen]
 refine⟨.ref s.heap.objs.size,_,I.laid (t':=s.toks) (o := .lst (dA xs lo hi)) (fun b ob q=>tP _ q) (we _) ?_,rfl,q _ (I.aM.fresh (we _))⟩
 exact⟨XJ (EK xs lo hi) hz,_,0,(r.drop (HT.ba xs.length 0 lo)).take (HT.ba xs.length xs.length hi - HT.ba xs.length 0 lo),VW _ rfl⟩
noncomputable def lW:V->Bool
 | .non=>true
 | .bl _=>true
 | .int _=>true
 | .str _=>true
 | _=>false
noncomputable def ku:V->V->Bool
 | .non,.non=>true
 | .bl a,.bl b=>a == b
 | .bl a,.int b=>(if a then 1 else 0) == b
 | .int a,.bl b=>a == (if b then 1 else 0)
 | .int a,.int b=>a == b
 | .str a,.str b=>a == b
 | _,_=>false
theorem Mp {A:Around} {s:Shared} {y x:V} {u v:Value} (ry:RelV y u) (rx:RelV x v) (fy:lW y=true) (fx:lW x=true):SeqAt.EqAt A s u v (ku y x):=by
 cases y with
 | non =>
  cases ry
  cases x with
  | non=>cases rx;exact Z1 _
  | bl b=>cases rx;exact SeqAt.EqAt.none_bool b
  | int b=>obtain⟨t,rfl⟩:=rx;exact SeqAt.EqAt.none_int b t
  | str b=>obtain⟨t,rfl⟩:=rx;exact SeqAt.EqAt.none_str b t
  | _=>exact absurd (show false=true from fx) Ws
 | bl a =>
  cases ry
  cases x with
  | non=>cases rx;exact SeqAt.EqAt.bool_none a
  | bl b=>cases rx;exact SeqAt.EqAt.bool_bool a b
  | int b=>obtain⟨t,rfl⟩:=rx;exact SeqAt.EqAt.bool_int a b t
  | str b=>obtain⟨t,rfl⟩:=rx;exact SeqAt.EqAt.bool_str a b t
  | _=>exact absurd (show false=true from fx) Ws
 | int a =>
  obtain⟨t',rfl⟩:=ry
  cases x with
  | non=>cases rx;exact SeqAt.EqAt.int_none a t'
  | bl b=>cases rx;exact SeqAt.EqAt.int_bool a t' b
  | int b=>obtain⟨t,rfl⟩:=rx;exact q0e a t' b t
  | str b=>obtain⟨t,rfl⟩:=rx;exact q0b a t' b t
  | _=>exact absurd (show false=true from fx) Ws
 | str a =>
  obtain⟨t',rfl⟩:=ry
  cases x with
  | non=>cases rx;exact SeqAt.EqAt.str_none a t'
  | bl b=>cases rx;exact SeqAt.EqAt.str_bool a t' b
  | int b=>obtain⟨t,rfl⟩:=rx;exact q0c a t' b t
  | str b=>obtain⟨t,rfl⟩:=rx;exact SeqAt.EqAt.str_str a t' b t
  | _=>exact absurd (show false=true from fx) Ws
 | _=>exact absurd (show false=true from fy) Ws
noncomputable def tO (x:V) (u:Value):Bool:=match u with
 | .none=>ku .non x
 | .bool b=>ku (.bl b) x
 | .int i _=>ku (.int i) x
 | .str z _=>ku (.str z) x
 | _=>false
theorem EO {x y:V} {u:Value} (r:RelV y u) (f:lW y=true):tO x u=ku y x:=by
 cases y with
 | non=>cases r;rfl
 | bl b=>cases r;rfl
 | int i=>obtain⟨t,rfl⟩:=r;rfl
 | str z=>obtain⟨t,rfl⟩:=r;rfl
 | _=>exact absurd (show false=true from f) Ws
theorem ER {A:Around} {s:Shared} {x:V} {v:Value} (rx:RelV x v) (fx:lW x=true):∀ {xs:List V} {us:List Value},Vals xs us->xs.all lW=true->∀ u∈us,SeqAt.EqAt A s u v (tO x u)
 | _,_,.nil,_=>fun u hu=>by cases hu
 | y :: xs,u :: us,.cons r t,f=>fun u' hu=>by
  rw[Zh,Xq] at f
  rcases MA.mp hu with rfl | hu
  ·rw[EO r f.1];exact Mp r rx f.1 fx
  ·exact ER rx fx t f.2 u' hu
theorem ES:fV X (.builtin "len") (fun xs H Q=>∃ p ys,xs=[.ref p]/\(bj X.K H p ys\/bV X.K H p ys)/\Q (.int ys.length) H):=by
 intro pins s σ H xs us Q I r h
 obtain⟨p,ys,rfl,hq,q⟩:=h
 obtain⟨u,rfl,rx⟩:=vals1 r
 cases rx
 have hn:=rB
 rcases hq with hq | hq
 ·obtain⟨ak,r',pl,hz⟩:=I.list hq
  have hlen:=r'.length
  exact Calls.call_len_list pl.isList (by simp only[zR]<;>omega) ⟨.int ys.length,H,I.tok _,⟨s.toks + 1,by rw[zR,hlen]⟩,q⟩
 ·obtain⟨ak,r',pl,hz⟩:=I.tuple hq
  have hlen:=r'.length
  exact len_tuple pl (by simp only[zR]<;>omega) ⟨.int ys.length,H,I.tok _,⟨s.toks + 1,by rw[zR,hlen]⟩,q⟩
theorem Mq:fV X (.builtin "len") (fun xs H Q=>∃ z,xs=[.str z]/\z.length <= sizeLine/\Q (.int z.length) H):=by
 intro pins s σ H xs us Q I r h
 obtain⟨z,rfl,hz,q⟩:=h
 obtain⟨u,rfl,t,rfl⟩:=vals1 r
 have hn:=rB
 exact len_str (by omega) ⟨.int z.length,H,I.tok _,⟨_,rfl⟩,q⟩
theorem zI:fV X (.type "list") (fun xs H Q=>∃ p ys,xs=[.ref p]/\(bj X.K H p ys\/bV X.K H p ys)/\∀ l,H l=none->Q (.ref l) (upd H l (.lst ys))):=by
 intro pins s σ H xs us Q I r h
 obtain⟨p,ys,rfl,hq,q⟩:=h
 obtain⟨u,rfl,rx⟩:=vals1 r
 cases rx
 have fin:∀ (ak:List Value),Vals ys ak->ys.length <= sizeLine->∀ (h':Heap) (c':Nat),(∀ b o',s.heap.get? b=some o'->h'.get? b=some o') →
   h'.get? s.heap.objs.size=some { cls := .type "list",dict:=none,data := .seq ak.toArray c',slots := #[] }->EP X pins σ Q (.ref s.heap.objs.size) { s with heap:=h' }:=fun ak r' hz h' c' kp e =>
  ⟨.ref s.heap.objs.size,_,I.laid (t':=s.toks) kp (we _) (show aI X.prog X.w _ h' _ (.lst ys) from ⟨hz,ak,c',r',e⟩),rfl,q _ (I.aM.fresh (we _))⟩
 rcases hq with hq | hq
 ·obtain⟨ak,r',pl,hz⟩:=I.list hq
  have hlen:=r'.length
  obtain⟨o,ho,hc,n,hd⟩:=pl.isList
  exact call_list_seq p (.inl rfl) ho hc hd (fun h' c' kp e=>fin ak r' hz h' c' kp e) (by simp only[zR]<;>omega)
 ·obtain⟨ak,r',pl,hz⟩:=I.tuple hq
  have hlen:=r'.length
  obtain⟨o,ho,hc,n,hd⟩:=pl
  exact call_list_seq p (.inr rfl) ho hc hd (fun h' c' kp e=>fin ak r' hz h' c' kp e) (by simp only[zR]<;>omega)
theorem ET:fV X (.type "tuple") (fun xs H Q=>∃ p ys,xs=[.ref p]/\((bj X.K H p ys/\∀ l,H l=none->Q (.ref l) (upd H l (.tup ys)))\/(bV X.K H p ys/\Q (.ref p) H))):=by
 intro pins s σ H xs us Q I r h
 obtain⟨p,ys,rfl,h⟩:=h
 obtain⟨u,rfl,rx⟩:=vals1 r
 cases rx
 rcases h with⟨hq,q⟩ | ⟨hq,q⟩
 ·obtain⟨ak,r',pl,hz⟩:=I.list hq
  have hlen:=r'.length
  refine call_tuple_list pl.isList (fun h' kp => ?_) (by simp only[zR]<;>omega)
  have I1:Inv X pins σ H { s with heap:=h' }:=I.kept (t':=s.toks) kp
  have I2:Inv X pins σ (upd H h'.objs.size (.tup ys)) { s with heap:=h'.push { cls := .type "tuple",data := .seq ak.toArray } } :=
   I1.laid (t':=s.toks) (fun b o e=>tP _ e) (we _) (show aI X.prog X.w _ _ _ (.tup ys) from ⟨hz,ak,r',IsTup.new _ _⟩)
  exact⟨.ref h'.objs.size,_,I2,rfl,q _ (I1.aM.fresh (we _))⟩
 ·obtain⟨ak,r',pl,hz⟩:=I.tuple hq
  exact call_tuple_same pl ⟨.ref p,H,I,rfl,q⟩
noncomputable def wd (K:PySem.W.Frag) (T:String) (x:V) (H:Hp):Prop:=match x with
 | .str _=>T = "str"
 | .int _=>T = "int"
 | .ref p=>(T = "list" /\ ∃ xs,bj K H p xs)\/(T = "tuple" /\ ∃ o,K.lookup p=some o/\o.cls = .type "tuple" /\ o.dict=none) ∨
   (T = "dict" /\ ((∃ kvs,H p=some (.dK kvs))\/∃ kvs,H p=some (.dT kvs)))\/(T = "set" /\ ∃ S n,H p=some (.set S n))
 | _=>False
theorem EU {pins:List (Addr × Obj)} {σ : St} {H:Hp} {s:Shared} {T:String} {x:V} {v:Value} (I:Inv X pins σ H s) (r:RelV x v) (ty:wd X.K T x H) :
  s.TypeIs v T/\∀ a,v = .ref a->∃ ob,s.heap.get? a=some ob/\ob.dict=none:=by
 cases x with
 | str z =>
  obtain⟨t,rfl⟩:=r
  cases (show T = "str" from ty)
  exact⟨typeIs_str s z t,fun _ e=>nomatch e⟩
 | int i =>
  obtain⟨t,rfl⟩:=r
  cases (show T = "int" from ty)
  exact⟨typeIs_int s i t,fun _ e=>nomatch e⟩
 | ref p =>
  cases r
  rcases ty with⟨rfl,xs,hq⟩ | ⟨rfl,o,hk,hc,hd⟩ | ⟨rfl,hk⟩ | ⟨rfl,S,n,hk⟩
  ·obtain⟨ak,_,pl,_⟩:=I.list hq
   refine⟨pl.isList.typeIs,fun a e => ?_⟩
   cases e
   obtain⟨o,n,e,c,hd,_⟩:=pl
   exact⟨o,e,hd⟩
  ·refine⟨⟨o,I.iH p o hk,hc⟩,fun a e => ?_⟩
   cases e
   exact⟨o,I.iH _ o hk,hd⟩
  ·have z:∃ o,s.heap.get? p=some o/\o.ExactDict:=by
    rcases hk with⟨kvs,hk⟩ | ⟨kvs,hk⟩
    ·obtain⟨_,_,_,_,o,_,_,e,ex,_⟩:=I.aM p _ hk
     exact⟨o,e,ex⟩
    ·obtain⟨_,_,_,_,o,_,_,e,ex,_⟩:=I.aM p _ hk
     exact⟨o,e,ex⟩
   obtain⟨o,e,ex⟩:=z
   refine⟨⟨o,e,ex.1⟩,fun a e2 => ?_⟩
   cases e2
   exact⟨o,e,ex.2.1⟩
  ·obtain⟨o,_,_,_,e,ex,_⟩:=I.aM p _ hk
   refine⟨⟨o,e,ex.1⟩,fun a e2 => ?_⟩
   cases e2
   exact⟨o,e,ex.2.1⟩
 | _=>exact False.elim ty
noncomputable def pO (K:PySem.W.Frag) (T:String) (r:V->List V->Hp->VK->Prop) (to:TE):TE:=fun σ H Q=>to σ H fun x H1=>wd K T x H1/\r x [] H1 Q
noncomputable def mJ (K:PySem.W.Frag) (T:String) (r:V->List V->Hp->VK->Prop) (to:TE) (t:TA):TE:=fun σ H Q=>to σ H fun x H1=>wd K T x H1/\t σ H1 fun xs H2=>r x xs H2 Q
variable {o e:Expr} {es:List Expr} {to:TE} {t:TA} {name:Str} {apos cP:Pos} {T id:String} {r:V->List V->Hp->VK->Prop}
theorem Mr (pa:PlainAttrs T) (slot:Slot T name id) (pP:typeOf (.builtin id)=pure (.type "method_descriptor")) (hm:tM X id r) (ho:PE X o to)
  (gf:attributeBase o name X.env (eval o X.env)=eval o X.env:=by rfl) (gg:(apos.endLine == cP.line)=true:=by rfl):PE X (.Call (.Attribute o name apos) [] [] cP) (pO X.K T r to):=by
 intro pins s σ H Q I h
 refine wpAny_Call_method0_late gf gg (bg (ho pins s σ H _ I h) fun v s1 ⟨x,H1,I1,r1,ty,q1⟩ => ?_)
 obtain⟨h1,h2⟩:=EU I1 r1 ty
 exact⟨T,id,pa,slot,pP,h1,h2,Calls.callWith_builtin rfl (PySem.evalArgs_none (hm pins s1 σ H1 x [] v [] Q I1 r1 .nil q1))⟩
theorem Ms (pa:PlainAttrs T) (slot:Slot T name id) (pP:typeOf (.builtin id)=pure (.type "method_descriptor")) (hm:tM X id r) (ho:PE X o to) (ha:PA X (e :: es) t)
  (gf:attributeBase o name X.env (eval o X.env)=eval o X.env:=by rfl)
  (pQ:((backTo cP (starEach (e :: es) X.env)).all (fun x => !x.1) && (backToKw cP (keywordEach [] X.env)).all (fun x=>x.1.isSome)
   && decide ((e :: es).length + ([]:List Keyword).length + (if ([]:List Keyword).isEmpty then 0 else 1) < 30))=true:=by rfl)
  (gg:(apos.endLine == cP.line)=true:=by rfl) (hs:starEach (e :: es) X.env=(false,eval e X.env) :: starEach es X.env:=by rfl) (hplain:(backTo cP (starEach es X.env)).any (·.1)=false:=by rfl) :
  PE X (.Call (.Attribute o name apos) (e :: es) [] cP) (mJ X.K T r to t):=by
 intro pins s σ H Q I h
 refine wpAny_Call_method_late gf pQ gg rfl (bg (ho pins s σ H _ I h) fun v s1 ⟨x,H1,I1,r1,ty,q1⟩ => ?_)
 obtain⟨h1,h2⟩:=EU I1 r1 ty
 refine⟨T,id,pa,slot,pP,h1,h2,?_⟩
 have hA:=ha cP pins s1 σ H1 _ I1 q1
 rw[hs] at hA ⊢
 refine Calls.callWith_builtin (by show (false || (backTo cP (starEach es X.env)).any (·.1))=false;rw[hplain]<;>rfl) (Calls.evalArgs_plain ?_)
 exact bg hA fun us s2 h0_ => el5 h0_ fun vs H2 I2 r2 q2 =>hm pins s2 σ H2 x vs v us Q I2 r1 r2 q2
end
noncomputable def rF (X:Cx) (id:String) (r:V->List V->Hp->VK->Prop):Prop :=
 ∀ (pins:List (Addr × Obj)) (s:Shared) (σ : St) (H:Hp) (x:V) (xs:List V) (v:Value) (us:List Value) (Q:VK),Inv X pins σ H s->RelV x v->Vals xs us->r x xs H Q →
  wpAny (model X.prog X.w) X.A (call (.builtin id) (v :: us)) (EP X pins σ Q) X.xe s
theorem Vals.one:∀ {x:V} {us:List Value},Vals [x] us->∃ u,us=[u]/\RelV x u:=by
 intro x us h
 cases h with
 | cons r h=>cases h;exact⟨_,rfl,r⟩
theorem Vals.two:∀ {x y:V} {us:List Value},Vals [x,y] us->∃ u v,us=[u,v]/\RelV x u/\RelV y v:=by
 intro x y us h
 cases h with
 | cons r h =>
  obtain⟨v,rfl,q⟩:=Vals.one h
  exact⟨_,_,rfl,r,q⟩
theorem Vals.eraseIdx:∀ {xs:List V} {us:List Value} (i:Nat),Vals xs us->Vals (xs.eraseIdx i) (us.eraseIdx i)
 | _,_,_,.nil => .nil
 | _,_,0,.cons _ t=>t
 | _,_,i + 1,.cons r t => .cons r (Vals.eraseIdx i t)
theorem Vals.rep {xs:List V} {us:List Value} (h:Vals xs us):∀ k:Nat,Vals (List.replicate k xs).flatten (List.replicate k us).flatten
 | 0 => .nil
 | k + 1=>by
  rw[Xv,Xv,X9,X9]
  exact Vals.append h (Vals.rep h k)
theorem EV {α : Type}:∀ (l:List α) (i:Nat),(l.eraseIdx i).length <= l.length
 | [],_=>we _
 | _ :: _,0=>q0p _
 | _ :: r,i + 1=>Nat.succ_le_succ (EV r i)
theorem foldl_rep (ak:List Value):∀ (k:Nat) (acc:List Value),
  List.foldl (fun x1 x2=>x1 ++ x2) acc.toArray (List.replicate k ak.toArray)=(acc ++ (List.replicate k ak).flatten).toArray
 | 0,acc=>by simp
 | k + 1,acc=>by
  have e:acc.toArray ++ ak.toArray=(acc ++ ak).toArray:=by simp
  have e2:(acc ++ ak) ++ (List.replicate k ak).flatten=acc ++ (List.replicate (k + 1) ak).flatten:=by
   rw[Xv,X9,X8]
  rw[<-e2,<-foldl_rep ak k (acc ++ ak),<-e,Xv,Z0]
section
variable {X:Cx} {pins:List (Addr × Obj)} {σ : St} {H:Hp} {s:Shared} {l b:Addr} {xs ys zs:List V}
theorem Inv.pR {ak its':List Value} {n:Nat} {f:Array Value->Array Value} {t':Nat} (I:Inv X pins σ H s) (hH:H l=some (.lst xs))
  (e:s.heap.get? l=some { cls := .type "list",data := .seq ak.toArray n }) (hf:f ak.toArray=its'.toArray) (hv:Vals ys its') (hz:ys.length <= sizeLine) :
  Inv X pins σ (upd H l (.lst ys)) { s with heap:=s.heap.update l (Obj.mapSeq f),toks:=t' }:=by
 have q:=PySem.IsL.update e f
 rw[hf] at q
 refine I.write (x:=l) (e:=l) (by rw[hH];exact trivial) (.inl rfl) (fun b' u hb hu=>(XI s.heap (Obj.mapSeq f) (Yd hb)).trans hu) ⟨_,q⟩ ?_
 exact⟨hz,its',_,hv,q⟩
theorem Inv.cH {ak:List Value} {t':Nat} (I:Inv X pins σ H s) (hv:Vals ys ak) (hz:ys.length <= sizeLine) :
  Inv X pins σ (upd H s.heap.objs.size (.lst ys)) { s with heap:=s.heap.push { cls := .type "list",data := .seq ak.toArray },toks:=t' } :=
 I.laid (fun _ _ q=>tP _ q) (we _) ⟨hz,ak,0,hv,VW _ rfl⟩
theorem Inv.fresh (I:Inv X pins σ H s):H s.heap.objs.size=none:=I.aM.fresh (we _)
theorem Inv.jn (I:Inv X pins σ H s) (hH:H l=some (.lst xs)):xs.length <= sizeLine/\∃ (ak:List Value) (n:Nat),Vals xs ak/\xs.length=ak.length/\s.heap.get? l=some { cls := .type "list",data := .seq ak.toArray n }:=by
 obtain⟨z,ak,n,r,e⟩:=I.aM l _ hH
 exact⟨z,ak,n,r,r.length,e⟩
theorem EW {n:Nat} (h:n <= sizeLine):Builtin.List.listTooLong n=false:=by
 unfold Builtin.List.listTooLong
 exact Wz (by omega)
end
section
variable {X:Cx}
noncomputable def zJ:V->List V->Hp->VK->Prop:=fun x vs H Q=>∃ l xs y,x = .ref l/\vs=[y]/\H l=some (.lst xs)/\xs.length < sizeLine/\Q .non (upd H l (.lst (xs ++ [y])))
theorem n6:rF X "list.append" zJ:=by
 intro pins s σ H x vs v us Q I rx rv h
 obtain⟨l,xs,y,rfl,rfl,hH,hz,q⟩:=h
 cases rx
 obtain⟨u,rfl,ru⟩:=rv.one
 obtain⟨z,ak,n,r,hl,e⟩:=I.jn hH
 refine ZS F.slot_list_append ⟨_,e,rfl⟩ F.entry_list_append (F.args_list_append_2 _ _) (PySem.list_append l ak.toArray n u (by rw[zR];omega)) ⟨e,?_⟩
 refine⟨.non,_,I.pR (its':=ak ++ [u]) hH e (by simp) (r.append (.cons ru .nil)) ?_,rfl,q⟩
 rw[My,W6]
 omega
noncomputable def EX:V->List V->Hp->VK->Prop:=fun x vs H Q=>∃ l b xs zs,x = .ref l/\vs=[.ref b]/\H l=some (.lst xs)/\H b=some (.lst zs)/\xs.length + zs.length <= sizeLine/\Q .non (upd H l (.lst (xs ++ zs)))
theorem Mt:rF X "list.extend" EX:=by
 intro pins s σ H x vs v us Q I rx rv h
 obtain⟨l,b,xs,zs,rfl,rfl,hH,hB,hz,q⟩:=h
 cases rx
 obtain⟨u,rfl,ru⟩:=rv.one
 cases ru
 obtain⟨z,ak,n,r,hl,e⟩:=I.jn hH
 obtain⟨z2,bq,n2,r2,tQ,e2⟩:=I.jn hB
 have hsz:ak.toArray.size + bq.toArray.size <= sizeLine:=by rw[zR,zR];omega
 have k6:¬ (!ak.toArray.isEmpty && Builtin.List.listTooLong (ak.toArray.size + bq.toArray.size))=true:=by
  rw[EW hsz,Bool.and_false]
  exact Ws
 refine ZS F.slot_list_extend ⟨_,e,rfl⟩ F.entry_list_extend (F.args_list_extend_2 _ _)
  (AutoSeq1.list_extend_list_list_0 l ak.toArray n b bq.toArray n2 k6 (by rw[zR];omega) (by omega)) ⟨e,e2,?_⟩
 refine⟨.non,_,I.pR (its':=ak ++ bq) hH e (by simp) (r.append r2) ?_,rfl,q⟩
 rw[My]
 omega
noncomputable def EY:V->List V->Hp->VK->Prop:=fun x vs H Q=>∃ l xs i k y,x = .ref l/\vs=[.int i]/\H l=some (.lst xs) /\ -(2 ^ 63) <= i/\i < 2 ^ 63/\seqIndex? i xs.length=some k/\xs[k]? = some y/\Q y (upd H l (.lst (xs.eraseIdx k)))
theorem zK:rF X "list.pop" EY:=by
 intro pins s σ H x vs v us Q I rx rv h
 obtain⟨l,xs,i,k,y,rfl,rfl,hH,h1,h2,hk,hy,q⟩:=h
 cases rx
 obtain⟨u,rfl,ru⟩:=rv.one
 obtain⟨t,rfl⟩:=ru
 obtain⟨z,ak,n,r,hl,e⟩:=I.jn hH
 obtain⟨w,hw,tN⟩:=r.get hy
 refine ZS F.slot_list_pop ⟨_,e,rfl⟩ F.entry_list_pop (F.args_list_pop_2 _ _)
  (MeetsSeq.list_pop_at l ak.toArray n i t k w (fitsIndex_both h1 h2) (by rw[zR,<-hl];exact hk) (by rw[<-Wx];exact hw) (by rw[zR];omega)) ⟨e,?_⟩
 refine⟨y,_,I.pR (its':=ak.eraseIdx k) hH e ?_ (r.eraseIdx k) ?_,tN,q⟩
 ·show ak.toArray.eraseIdxIfInBounds k=(ak.eraseIdx k).toArray
  rw[List.eraseIdxIfInBounds_toArray]
 ·have:=EV xs k
  omega
noncomputable def zL:R2:=fun x y H Q=>∃ l b xs zs,x = .ref l/\y = .ref b/\H l=some (.lst xs)/\H b=some (.lst zs)/\xs.length + zs.length <= sizeLine/\∀ p,H p=none->Q (.ref p) (upd H p (.lst (xs ++ zs)))
theorem EZ:dW X (binaryOp .Add) zL:=by
 intro pins s σ H x y v u Q I rx ry h
 obtain⟨l,b,xs,zs,rfl,rfl,hH,hB,hz,q⟩:=h
 cases rx
 cases ry
 obtain⟨z,ak,n,r,hl,e⟩:=I.jn hH
 obtain⟨z2,bq,n2,r2,tQ,e2⟩:=I.jn hB
 refine PySem.P.add_list e e2 ?_ (by rw[zR,zR];omega)
 have ea:ak.toArray ++ bq.toArray=(ak ++ bq).toArray:=by simp
 rw[ea]
 exact⟨.ref _,_,I.cH (t':=s.toks) (r.append r2) (by rw[My];omega),rfl,q _ I.fresh⟩
noncomputable def zM:R2:=fun x y H Q=>∃ l k xs,x = .ref l/\y = .int k/\H l=some (.lst xs) /\ -(2 ^ 63) <= k/\k < 2 ^ 63/\xs.length * k.toNat <= sizeLine ∧
 ∀ p,H p=none->Q (.ref p) (upd H p (.lst (List.replicate k.toNat xs).flatten))
theorem len_rep {α : Type} (xs:List α) (k:Nat):(List.replicate k xs).flatten.length=k * xs.length:=by
 induction k with
 | zero=>simp
 | succ k ih=>rw[Xv,X9,My,ih,Nat.succ_mul,Nat.add_comm]
theorem Mu:dW X (binaryOp .Mult) zM:=by
 intro pins s σ H x y v u Q I rx ry h
 obtain⟨l,k,xs,rfl,rfl,hH,h1,h2,hz,q⟩:=h
 cases rx
 obtain⟨t,rfl⟩:=ry
 obtain⟨z,ak,n,r,hl,e⟩:=I.jn hH
 have hlen:ak.toArray.size * k.toNat <= sizeLine:=by rw[zR,<-hl];exact hz
 have zN:¬ ak.toArray.size * k.toNat > (2 ^ 63 - 1) / 8:=by
  have:(sizeLine:Nat) <= (2 ^ 63 - 1) / 8:=by decide
  omega
 have zO:¬ (!Builtin.List.listFitsIndex k)=true:=by
  rw[fitsIndex_both h1 h2]
  exact Ws
 have k6:¬ Builtin.List.listTooLong (ak.toArray.size * k.toNat)=true:=by
  rw[EW hlen]
  exact Ws
 have zP:List.foldl (fun x1 x2=>x1 ++ x2) #[] (List.replicate (if ak.toArray.isEmpty=true then 0 else k.toNat) ak.toArray)=(List.replicate k.toNat ak).flatten.toArray:=by
  have f0:∀ m:Nat,List.foldl (fun x1 x2=>x1 ++ x2) #[] (List.replicate m ak.toArray)=(List.replicate m ak).flatten.toArray:=fun m=>by
   have:=foldl_rep ak m []
   rw[List.nil_append] at this
   exact this
  rw[f0]
  cases ak with
  | nil=>simp
  | cons a r'=>rw[MC (by simp)]
 refine wpAny_binaryOp_repeat_ref (T := "list") (U := "int") (by decide) ⟨_,e,rfl⟩ (fun s'=>typeIs_int s' k t) noFill_list_mul F.fills_int_mul F.slot_int_rmul repeat_list F.slot_int_index.lookup
  (ZS F.slot_int_rmul (typeIs_int s k t) F.entry_int_rmul (F.args_int_rmul_2 _ _) (int___rmul___int_list k t l ak.toArray n)
   ⟨e,rfl,⟨_,e,rfl⟩,ZS F.slot_list_mul ⟨_,e,rfl⟩ F.entry_list_mul (F.args_list_mul_2 _ _) (AutoListH.list___mul___list_int_3 l ak.toArray n k t zO zN k6) ⟨e,?_⟩⟩)
 rw[zP]
 exact⟨.ref _,_,I.cH (t':=s.toks) (r.rep k.toNat) (by rw[len_rep,Nat.mul_comm];exact hz),rfl,q _ I.fresh⟩
end
section
variable {prog:Program} {w:World} {A:Around} {E:Value->Shared->Prop} {s:Shared}
end
section
variable {X:Cx}
end
end L2
namespace Att
open PySem PySem.W PySem.Calls PyProof.Rows
theorem fL {P:Params} {h:Heap}:∀ (ns:List Int) (vs:List Value),WellAll P h vs (ns.map WData.int)->IntsAre vs ns:=by
 intro ns
 induction ns with
 | nil =>
  intro vs w
  rw[Ye] at w
  cases w
  exact .nil
 | cons n ns ih =>
  intro vs w
  rw[WH] at w
  cases w with
  | cons a b =>
   cases a
   exact .cons _ _ (ih _ b)
theorem jV {l:OpenLaw} {n:Nat} (hn:l.most=some n) {P:Params} {h:Heap} {args:List WData} {vals:List Value}
  (mK:l.row.toRowW.claim.pre args=true) (zQ:WellAll P h vals args) :
  ∃ a vs ns,vals=[Value.ref a]/\args=[WData.list (ns.map WData.int)]/\h.get? a=some { cls := .type "list",data := .seq vs.toArray }/\IntsAre vs ns/\ns.length <= n:=by
 have Mv:WShape.hasAll [] args [.list .int]=true:=(pre_splitW mK).1
 have hc:l.pre.holds [] { args:=args }=true:=(pre_splitW mK).2
 obtain⟨d,r,rfl,h1,h2⟩:=hasAllW_cons Mv
 obtain rfl:=hasAllW_nil h2
 obtain⟨xs,rfl,h3⟩:=hasW_list h1
 obtain⟨ns,rfl⟩:=items_int h3
 have hlen:ns.length <= n:=by
  unfold OpenLaw.pre at hc
  have h4:(WTm.not (.lt (.lit (.int (n:Int))) (.len (.arg 0)))).holds [] { args:=[.list (ns.map .int)] }=true:=by
   have h4:=(holds_andW hc).1
   rw[hn] at h4
   exact h4
  have h5:=condW_of h4 (w_not (w_lt w_lit (w_len_list (w_arg rfl))))
  rw[pU] at h5
  refine ZN fun q => ?_
  have q':(n:Int) < ((ns.length:Nat):Int):=by omega
  first
   | (rw[WC q'] at h5;exact absurd h5 (by decide))
   | (simp at h5;omega)
 cases zQ with
 | cons w1 w2 =>
  cases w2
  cases w1 with
  | list ho gB=>exact⟨_,_,ns,rfl,rfl,ho,fL ns _ gB,hlen⟩
theorem jW (l:OpenLaw) (args:List WData):l.row.toRowW.claim.post args (.bool true) args=true :=
 postW_of (r:=l.row.toRowW) (X:=(true == true))
  (show WShape.has [] (.bool true) .bool=true by first | rfl | decide | simp[WShape.has,WShape.arms,WShape.armsAll])
  (show (WTm.eq .res (.lit (.bool true))).value [] { args:=args,res:=some (.bool true),after:=args }=some (.bool (true == true)) from w_eq_bool (w_res rfl) w_lit) rfl
theorem iM {l:OpenLaw} {n:Nat} {q:Program} {loose:List Str} {XP:(Str->Option Value)->Heap->Prop} {YP:World->Heap->Prop} {d:DefRec}
  (hn:l.most=some n) (tR:d.params.defaults=[])
  (call:∀ (w:World) (s₀ s₁ : Shared) (mg mb:Str->Option Value) (fa:Addr) (o:Obj) (pm cd doc:Value) (a:Addr) (vs:List Value) (ns:List Int),
   Ground q loose [] XP w s₀ mg mb s₁.heap->YP w s₁.heap →
   s₁.heap.get? fa=some o->o.data = .func (docDef d.name d.params d.body d.scope pm cd doc)->s₁.heap.CodeRec cd d.name->mg d.name=some (.ref fa) →
   s₁.heap.get? a=some { cls := .type "list",data := .seq vs.toArray }->IntsAre vs ns->ns.length <= n->s₁.gens = #[] →
   codeAny (model l.prog w) callerA (.call (.ref fa) ⟨[.ref a],[]⟩) (fun r s'=>r = .ok (.ret (.bool true))/\OldK s₁.heap s'.heap/\s'.os=s₁.os/\AllBare s'.gens) s₁) :
  WalkO q loose XP YP l.row.toRowW d [] (fun f vs=>PySem.call f vs):=by
 intro w s₀ s₁ mg mb G Y fa o pm cd doc dV kV ho hd gc hD mL hg args vals as mK Mw VT zQ VU
 obtain rfl:dV = .none:=Dflts.none hD tR
 obtain rfl:kV = .none:=Dflts.noKw hD
 obtain⟨a,vs,ns,rfl,rfl,pS,hints,hlen⟩:=jV hn mK zQ
 refine enter_call (Y9 (call w s₀ s₁ mg mb fa o pm cd doc a vs ns G Y ho (fd_plain hd) gc mL pS hints hlen hg) fun r s' hq => ?_)
 obtain⟨rfl,h2,h3,h4⟩:=hq
 exact⟨.inl ⟨.bool true,.bool true,[],rfl,fun _=>rfl,.bool true,jW l _,fun _=>⟨List.Pairwise.nil,fun _ hm=>(nomatch hm)⟩⟩,h2,h3,h4⟩
section
variable {prog:Program} {w:World} {A:Around} {E:Value->Shared->Prop} {s:Shared} {K:Frag}
end
end Att
namespace L2
open PySem PySem.Spec PyProof.Rows
theorem E5:∀ {vs:List Value} {ns:List Int},IntsAre vs ns->Vals (ns.map V.int) vs
 | _,_,.nil => .nil
 | _,_,.cons n t h => .cons ⟨t,rfl⟩ (E5 h)
noncomputable def n8 (s:Stmt):Arguments:=match s with
 | .FunctionDef _ a _ _ _ _ _ _ _ _=>a
 | _=>{ posonlyargs:=[],args:=[],vararg:=none,kwonlyargs:=[],kw_defaults:=[],kwarg:=none,defaults:=[] }
noncomputable def jX (s:Stmt):List Stmt:=match s with
 | .FunctionDef _ _ b _ _ _ _ _ _ _=>b
 | _=>[]
noncomputable def bW (s:Stmt):Scope:=match s with
 | .FunctionDef _ _ _ _ _ _ sc _ _ _=>sc
 | _=>{ kind := .function,names:=[],isGenerator:=false,isCoroutine:=false }
noncomputable abbrev cm:jR:=fun _ _ _ _ _ _=>False
noncomputable abbrev E0:XK:=fun _ _ _=>False
theorem wj {X:Cx}:v9 cm X E0:=fun _ _ _ _ _ _ _ h=>h.elim
structure cI (K:PySem.W.Frag) (x qual:Str) (st:Stmt) (f:Addr) (fd:FuncData):Prop where
 ex:∃ (oc:Value) (od:Option Addr) (kV doc pm:Value) (an:Option Addr) (bo ct:Value) (mG:Array (Option Value)),
  fd=PySem.W.fnOf x qual (n8 st) (jX st) (bW st) .none kV doc pm an bo ct/\K.lookup f=some ⟨oc,od,.func fd,mG⟩/\PySem.W.codeIn K bo qual=true
 kp:PySem.W.keepIn K (.ref f)=true
section
variable {P:Program} {w:World} {K:PySem.W.Frag} {mg:Str->Option Value} {base:Heap}
theorem cI.ok {x qual:Str} {st:Stmt} {f:Addr} {fd:FuncData} {N ps:List Str} {k:Nat} {sp:Sp} (F:cI K x qual st f fd) (S:dz N ps (bW st)) (len:∀ vs H Q E,sp vs H Q E->vs.length=ps.length)
  (eu:∀ (bo:Value) (A:Around) (outer:List Env) (s:Shared) (H:Hp) (vs:List V) (Q:VK) (E:XK),bz k (A.deeper (envOfC qual (bW st) s.heap.objs.size f bo))->sp vs H Q E →
   ∃ t,iI (gJ cm P w K mg base N qual (bW st) f bo A outer s H E).mx (jX st) t/\t { nx:=fun _ H'=>Q .non H',rt:=Q } (start N vs) H):aY P w K mg base cm (k + 1) f fd ps sp:=by
 obtain⟨oc,od,kV,doc,pm,an,bo,ct,mG,rfl,lk,gc⟩:=F.ex
 refine Ez lk gc S len fun A outer s H vs Q E hr nZ => ?_
 obtain⟨t,h,q⟩:=eu bo A outer s H vs Q E hr nZ
 exact⟨t,h.mx,q⟩
theorem cI.binds {x qual:Str} {st:Stmt} {f:Addr} {fd:FuncData} {ps:List Str} (F:cI K x qual st f fd)
  (h:∀ (kV doc pm:Value) (an:Option Addr) (bo ct:Value) (us:List Value),us.length=ps.length->bindArgs (PySem.W.fnOf x qual (n8 st) (jX st) (bW st) .none kV doc pm an bo ct) ⟨us,[]⟩=pure (ps.zip us)):Binds K fd ps []:=by
 obtain⟨oc,od,kV,doc,pm,an,bo,ct,mG,rfl,lk,gc⟩:=F.ex
 exact .all (h kV doc pm an bo ct)
theorem MD {x qual:Str} {st:Stmt} {f:Addr} {oc:Value} {od an:Option Addr} {mG:Array (Option Value)} {kV doc pm bo ct:Value} (l:K.lookup f=some ⟨oc,od,.func (PySem.W.fnOf x qual (n8 st) (jX st) (bW st) .none kV doc pm an bo ct),mG⟩)
  (c:PySem.W.codeIn K bo qual=true) (k:PySem.W.keepIn K (.ref f)=true):cI K x qual st f (PySem.W.fnOf x qual (n8 st) (jX st) (bW st) .none kV doc pm an bo ct):=⟨⟨oc,od,kV,doc,pm,an,bo,ct,mG,rfl,l,c⟩,k⟩
end
theorem lX {n:Nat} (h:n <= 1000):n < sizeLine:=Zo h (by decide)
section
variable {X:Cx}
theorem pv (i:Nat) {x:Str} {pos:Pos} (hN:X.N[i]? = some x:=by rfl) (hv:pd X.env.scope x:=by first | exact Or.inl rfl | exact Or.inr (Or.inl rfl) | exact Or.inr (Or.inr rfl)) (hd:(x == ("__debug__" : Str))=false:=by decide)
  (gc:(x == ("__classdict__" : Str))=false:=by decide):PE X (.Name x pos) (gG i):=Ea hN hv hd gc
end
noncomputable def aA (H H':Hp):Prop:=∀ b o,H b=some o->H' b=some o
theorem aA.trans {H H1 H2:Hp} (a:aA H H1) (b:aA H1 H2):aA H H2:=fun c o h=>b c o (a c o h)
theorem aA.free {H H':Hp} (e:aA H H') {l:Addr} (h:H' l=Option.none):H l=Option.none:=by
 cases q:H l with
 | none=>rfl
 | some o =>
  rw[e l o q] at h
  cases h
theorem aA.seq {K:PySem.W.Frag} {H H':Hp} {a:Addr} {xs:List V} (e:aA H H') (h:bj K H a xs):bj K H' a xs:=by
 rcases h with (h | ⟨o,h⟩) | h
 ·exact .inl (.inl (e _ _ h))
 ·exact .inl (.inr ⟨o,e _ _ h⟩)
 ·exact .inr h
theorem ME {prog:Program} {w:World} {A:Around} {R:Result->Shared->Prop} {s:Shared} {elt target iter:Expr} {ifs:List Expr} {scope:Scope} {pos:Pos} {it acc:Value} {env:Env} (I:Nat->Shared->Prop)
  (turn:∀ n s,I n s->wpAny (model prog w) A (pyNext it) (fun r s₁ => match r with
   | none=>R (.ok .next) s₁
   | some v=>wpAny (model prog w) A (letOwnedTupleGo target it v) (fun _ s₂ => wpAny (model prog w) A (assign target env v) (fun _ s₃ =>
     wpAny (model prog w) A (forIn ifs true fun c r=>if r=true then do let ok <- isTrue c env (eval c env);pure (ForInStep.yield ok) else pure (ForInStep.yield r)) (fun ok s₄ =>
      if ok=true then wpAny (model prog w) A (eval elt env) (fun x s₅ =>
       wpAny (model prog w) A (call (.builtin "list.append") [acc,x]) (fun _ s₆ => ∃ m,m < n/\I m s₆) (fun _ _=>False) s₅) (fun _ _=>False) s₄
      else ∃ m,m < n/\I m s₄) (fun _ _=>False) s₃) (fun _ _=>False) s₂) (fun _ _=>False) s₁) (fun _ _=>False) s)
  (n:Nat) (h:I n s) :
  codeAny (model prog w) A (.compLoop (.ListComp elt [⟨target,iter,ifs,0⟩] scope pos) 0 it acc env) R s:=by
 refine codeAny_loop rfl I (fun n s hI => ?_) n h
 show wpAny _ A ((compTurn (.ListComp elt [⟨target,iter,ifs,0⟩] scope pos) 0 it acc env).onRaise (fun x=>do noteFrame x env;theTreesLotGoes x)) _ _ s
 refine wpAny_noted ?_
 rw[compTurn_list]
 refine pT (ZT (pT (Yr (turn n s hI) (fun r s₁ h₁ => ?_) fun _ _ h'=>False.elim h')))
 cases r with
 | none=>exact wg h₁
 | some v =>
  refine pT (Yr h₁ (fun _ s₂ h₂ => ?_) fun _ _ h'=>False.elim h')
  refine pT (Yr h₂ (fun _ s₃ h₃ => pT (Yr h₃ (fun ok s₄ h₄ => ?_) fun _ _ h'=>False.elim h')) fun _ _ h'=>False.elim h')
  cases ok with
  | false=>exact wg ⟨rfl,h₄⟩
  | true =>
   exact pT (pT (Yr h₄ (fun x s₄ h₄ => pT (Yr h₄ (fun _ s₅ h₅ => wg (wg ⟨rfl,h₅⟩)) fun _ _ h'=>False.elim h')) fun _ _ h'=>False.elim h'))
theorem zS {env:Env}:∀ (names:List (Str × NameKind)) (acc:List (Str × Addr)),(∀ y∈names,y.2 = .free->∃ c,env.cells.lookup y.1=some c)->(∀ x c,acc.lookup x=some c->env.cells.lookup x=some c) →
  ∃ cl,(forIn names acc (fun (x:Str × NameKind) (cs:List (Str × Addr))=>if x.2 == NameKind.free then cellOf env x.1 >>= fun a=>pure (ForInStep.yield ((x.1,a) :: cs)) else pure (ForInStep.yield cs)):Sem (List (Str × Addr)))=pure cl ∧
   (∀ x c,cl.lookup x=some c->env.cells.lookup x=some c)/\(∀ y∈names,y.2 = .free->∃ c,cl.lookup y.1=some c)/\(∀ x c,acc.lookup x=some c->∃ c,cl.lookup x=some c)
 | [],acc,_,h2=>⟨acc,rfl,h2,fun _ hy=>absurd hy (by simp),fun x c e=>⟨c,e⟩⟩
 | (n,k) :: r,acc,h1,h2=>by
  rw[List.forIn_cons]
  by_cases hk:k = .free
  ·subst hk
   obtain⟨c,hc⟩:=h1 (n,.free) E6 rfl
   have kr:env.cells.lookup n=some c:=hc
   have ec:cellOf env n=pure c:=by unfold cellOf;rw[kr]
   have fJ:∀ x d,((n,c) :: acc).lookup x=some d->env.cells.lookup x=some d:=fun x d e=>by
    rw[WU] at e
    cases q:x == n with
    | true =>
     rw[q] at e
     cases e
     rw[XU q];exact kr
    | false =>
     rw[q] at e
     exact h2 x d e
   obtain⟨cl,e,p1,p2,p3⟩:=zS r ((n,c) :: acc) (fun y hy=>h1 y (E9 _ hy)) fJ
   refine⟨cl,?_,p1,fun y hy hf => ?_,fun x d e => ?_⟩
   ·dsimp only
    rw[VY (by decide),ec]
    exact e
   ·rcases MA.mp hy with rfl | hy
    ·exact p3 n c (by simp)
    ·exact p2 y hy hf
   ·cases q:x == n with
    | true=>exact p3 x c (by rw[WU,q])
    | false=>exact p3 x d (by rw[WU,q];exact e)
  ·obtain⟨cl,e,p1,p2,p3⟩:=zS r acc (fun y hy=>h1 y (E9 _ hy)) h2
   refine⟨cl,?_,p1,fun y hy hf => ?_,p3⟩
   ·dsimp only
    rw[MC (by simpa using hk)]
    exact e
   ·rcases MA.mp hy with rfl | hy
    ·exact absurd hf hk
    ·exact p2 y hy hf
theorem E_ {scope:Scope} {env:Env} (h:∀ y∈scope.names,y.2 = .free->∃ c,env.cells.lookup y.1=some c) :
  ∃ cl,closureFor scope env=pure cl/\(∀ x c,cl.lookup x=some c->env.cells.lookup x=some c)/\∀ y∈scope.names,y.2 = .free->∃ c,cl.lookup y.1=some c:=by
 obtain⟨cl,e,p1,p2,_⟩:=zS scope.names [] h (fun x c e=>by simp at e)
 refine⟨cl,?_,p1,p2⟩
 have e':closureFor scope env=(forIn scope.names ([]:List (Str × Addr)) (fun (x:Str × NameKind) (cs:List (Str × Addr))=>if x.2 == NameKind.free then cellOf env x.1 >>= fun a=>pure (ForInStep.yield ((x.1,a) :: cs)) else pure (ForInStep.yield cs)):Sem (List (Str × Addr))) >>= pure:=rfl
 rw[e',e]
 rfl
structure BD where
 cl:List (Str × Addr)
 C:Addr
 s:Shared
 H:Hp
 fp:List Addr
@[reducible] noncomputable def cQ (X:Cx) (scope:Scope) (Nb:List Str) (d:BD):Cx where
 prog:=X.prog
 w:=X.w
 K:=X.K
 mg:=X.mg
 base:=X.base
 A:=X.A
 N:=Nb
 s₀ := d.s
 H₀ := d.H
 env:=compEnvC scope d.cl d.C X.env
 outer:=X.stack
 stack:=X.stack
 ex:=d.fp
 fn:=fun x=>decide (scope.names.lookup x=some .cell)
 calm:=X.calm
 pn:=[]
 xe:=fun _ _=>False
noncomputable def i8 (cp:List (Option Nat)) (σ : St):St:=cp.map fun o=>match o with
 | some i=>(σ[i]?).join
 | none=>none
noncomputable def lY (N:List Str) (wk scope:Scope) (Nb:List Str) (cp:List (Option Nat)):Bool :=
 (scope.names.all fun y=>(decide (y.2 ≠ .cell) || decide (scope.names.lookup y.1=some .cell)) && (decide (y.2 ≠ .local) || decide (scope.names.lookup y.1=some .local)) && (decide (y.2 ≠ .free) || decide (wk.names.lookup y.1=some .cell) || decide (wk.names.lookup y.1=some .free))) &&
 decide (cp.length=Nb.length) && (cp.zip Nb).all fun z=>match z.1 with
  | none=>true
  | some i=>decide (N[i]? = some z.2) && decide (scope.names.lookup z.2=some .free)
structure wm (X:Cx) (scope:Scope) (Nb:List Str) (cp:List (Option Nat)):Prop where
 kind:scope.kind = .function
 cell:∀ y∈scope.names,y.2 = .cell->scope.names.lookup y.1=some .cell
 names:∀ y∈scope.names,y.2 = .local->scope.names.lookup y.1=some .local
 free:∀ y∈scope.names,y.2 = .free->(X.env.kindOf y.1=some .cell\/X.env.kindOf y.1=some .free)
 len:cp.length=Nb.length
 tT:∀ (j i:Nat) (x:Str),cp[j]? = some (some i)->Nb[j]? = some x->X.N[i]? = some x/\scope.names.lookup x=some .free
theorem x1H {X:Cx} {scope:Scope} {Nb:List Str} {cp:List (Option Nat)} (hk:scope.kind = .function) (h:lY X.N X.env.scope scope Nb cp=true):wm X scope Nb cp:=by
 unfold lY at h
 simp only[Xq,Yf,Bool.or_eq_true,W5] at h
 obtain⟨⟨h1,h2⟩,h3⟩:=h
 refine⟨hk,fun y hy e=>(h1 y hy).1.1.resolve_left (fun z=>z e),fun y hy e => ?_,fun y hy e => ?_,h2,fun j i x e1 e2 => ?_⟩
 ·rcases (h1 y hy).1.2 with z | z
  ·exact absurd e z
  ·exact z
 ·rcases (h1 y hy).2 with (z | z) | z
  ·exact absurd e z
  ·exact .inl z
  ·exact .inr z
 ·have hm:(some i,x)∈cp.zip Nb:=by
   have:(cp.zip Nb)[j]? = some (some i,x):=by
    rw[List.getElem?_zip_eq_some];exact⟨e1,e2⟩
   exact WN this
  have:=h3 _ hm
  simpa using this
theorem zT {env:Env} {x:Str}:∀ {names:List (Str × NameKind)} {k:NameKind},names.lookup x=some k →
  (names.map fun (n,k)=>if (k == NameKind.free && env.scope.kind == .function && env.kindOf n == some .cell) then (n,NameKind.cell) else (n,k)).lookup x =
   some (if (k == NameKind.free && env.scope.kind == .function && env.kindOf x == some .cell) then NameKind.cell else k)
 | [],k,h=>by simp at h
 | (n,k') :: r,k,h=>by
  have ih:=@zT env x r k
  show List.lookup x ((if (k' == NameKind.free && env.scope.kind == .function && env.kindOf n == some .cell)=true then (n,NameKind.cell) else (n,k')) :: _)=_
  cases hx:x == n with
  | true =>
   simp only[WU,hx] at h
   cases h
   have e:x=n:=XU hx
   subst e
   by_cases hc:(k' == NameKind.free && env.scope.kind == .function && env.kindOf x == some .cell)=true
   ·rw[VY hc,VY hc];simp[WU]
   ·rw[MC hc,MC hc];simp[WU]
  | false =>
   simp only[WU,hx] at h
   by_cases hc:(k' == NameKind.free && env.scope.kind == .function && env.kindOf n == some .cell)=true
   ·rw[VY hc];simp only[WU,hx];exact ih h
   ·rw[MC hc];simp only[WU,hx];exact ih h
theorem Fb {env:Env} {x:Str}:∀ {names:List (Str × NameKind)},names.lookup x=none →
  (names.map fun (n,k)=>if (k == NameKind.free && env.scope.kind == .function && env.kindOf n == some .cell) then (n,NameKind.cell) else (n,k)).lookup x=none
 | [],h=>by simp
 | (n,k') :: r,h=>by
  have ih:=@Fb env x r
  show List.lookup x ((if (k' == NameKind.free && env.scope.kind == .function && env.kindOf n == some .cell)=true then (n,NameKind.cell) else (n,k')) :: _)=_
  cases hx:x == n with
  | true=>simp only[WU,hx] at h;cases h
  | false =>
   simp only[WU,hx] at h
   by_cases hc:(k' == NameKind.free && env.scope.kind == .function && env.kindOf n == some .cell)=true
   ·rw[VY hc];simp only[WU,hx];exact ih h
   ·rw[MC hc];simp only[WU,hx];exact ih h
noncomputable def PF (X:Cx) (ifs:List Expr) (t:TT):Prop :=
 ∀ (pins:List (Addr × Obj)) (s:Shared) (σ : St) (H:Hp) (Q:Bool->Hp->Prop),Inv X pins σ H s->t σ H Q →
  wpAny (model X.prog X.w) X.A (forIn ifs true fun c r=>if r=true then do let ok <- isTrue c X.env (eval c X.env);pure (ForInStep.yield ok) else pure (ForInStep.yield r)) (TP X pins σ Q) X.xe s
noncomputable def tU:TT:=fun _ H Q=>Q true H
theorem MF {X:Cx}:PF X [] tU:=fun _ _ _ H _ I h=>wpAny_tests_nil ⟨H,I,h⟩
theorem MG {X:Cx} {c:Expr} {t:TT} (h:PT X c t):PF X [c] t:=fun pins s σ H Q I hw=>wpAny_tests_one (h pins s σ H Q I hw)
noncomputable def MH (g:TG) (tf:TT) (te:TE) (l:Addr) (x:V) (τ : St) (H:Hp) (N:St->Hp->Prop):Prop :=
 g x τ H fun τ2 H2=>tf τ2 H2 fun b H3=>if b=true then te τ2 H3 fun y H4=>∃ ys,H4 l=some (.lst ys)/\ys.length < sizeLine/\N τ2 (upd H4 l (.lst (ys ++ [y]))) else N τ2 H3
noncomputable def Fc (J:It) (g:TG) (tf:TT) (te:TE) (l:Addr) (τ0:St) (H0:Hp) (Q:VK):Prop :=
 ∃ W:Nat->Nat->St->Hp->Prop,(∃ m,W 0 m τ0 H0)/\∀ i m τ H,W i m τ H →
  (J.stop i H/\Q (.ref l) H)\/(J.go i H/\∃ N:St->Hp->Prop,(∀ τ' H',N τ' H'->∃ m',m' < m/\W (i + 1) m' τ' H')/\∀ x H',J.rz i H x H'->MH g tf te l x τ H' N)
noncomputable def pW (wi:TI) (cp:List (Option Nat)) (g:BD->TG) (tf:BD->TT) (te:BD->TE):TE:=fun σ H Q=>wi σ H fun J H1=>∀ (d:BD) (l:Addr),H1 l=none->Fc J (g d) (tf d) (te d) l (i8 cp σ) (upd H1 l (.lst [])) Q
theorem rH:∀ {names:List (Str × NameKind)} {n:Nat} {acc:List (Str × Addr)} {x:Str} {c:Addr},(cellsFrom n names acc).lookup x=some c->acc.lookup x=some c\/(n <= c/\(x,NameKind.cell)∈names)
 | [],n,acc,x,c,h => .inl h
 | (y,k) :: r,n,acc,x,c,h=>by
  unfold cellsFrom at h
  split at h
  ·rename_i hk
   have ek:k = .cell:=XU hk
   subst ek
   rcases rH h with h | ⟨h,m⟩
   ·rw[WU] at h
    cases q:x == y with
    | true=>rw[q] at h;cases h;rw[XU q];exact .inr ⟨we _,E6 ..⟩
    | false=>rw[q] at h;exact .inl h
   ·exact .inr ⟨by omega,E9 _ m⟩
  ·rcases rH h with h | ⟨h,m⟩
   ·exact .inl h
   ·exact .inr ⟨h,E9 _ m⟩
theorem zU:∀ {names:List (Str × NameKind)} {n:Nat} {acc:List (Str × Addr)} {x:Str} {c:Addr},(x,NameKind.cell)∈names->(cellsFrom n names acc).lookup x=some c->n <= c
 | [],n,acc,x,c,m,h=>by cases m
 | (y,k) :: r,n,acc,x,c,m,h=>by
  unfold cellsFrom at h
  by_cases mr:(x,NameKind.cell)∈r
  ·split at h
   ·have:=zU mr h;omega
   ·exact zU mr h
  ·have e:(x,NameKind.cell)=(y,k):=by
    rcases MA.mp m with e | e
    ·exact e
    ·exact absurd e mr
   cases e
   rw[VY (by decide)] at h
   rcases rH h with h | ⟨h,_⟩
   ·rw[WU,q0y] at h
    cases h;exact we _
   ·omega
theorem zV:∀ {names:List (Str × NameKind)} {n:Nat} {acc:List (Str × Addr)} {x y:Str} {c:Addr},(∀ u v c,acc.lookup u=some c->acc.lookup v=some c->u=v)->(∀ u c,acc.lookup u=some c->c < n)->(cellsFrom n names acc).lookup x=some c->(cellsFrom n names acc).lookup y=some c->x=y
 | [],n,acc,x,y,c,hi,_,h1,h2=>hi x y c h1 h2
 | (z,k) :: r,n,acc,x,y,c,hi,hb,h1,h2=>by
  unfold cellsFrom at h1 h2
  split at h1
  ·rename_i hk
   rw[VY hk] at h2
   refine zV (fun u v c q1 q2 => ?_) (fun u c q => ?_) h1 h2
   ·rw[WU] at q1 q2
    cases e1:u == z with
    | true =>
     rw[e1] at q1;cases q1
     cases e2:v == z with
     | true=>rw[XU e1,XU e2]
     | false=>rw[e2] at q2;exact absurd (hb v _ q2) (Ya _)
    | false =>
     rw[e1] at q1
     cases e2:v == z with
     | true=>rw[e2] at q2;cases q2;exact absurd (hb u _ q1) (Ya _)
     | false=>rw[e2] at q2;exact hi u v c q1 q2
   ·rw[WU] at q
    cases e1:u == z with
    | true=>rw[e1] at q;cases q;exact XY _
    | false=>rw[e1] at q;exact Xe (hb u c q)
  ·rename_i hk
   rw[MC hk] at h2
   exact zV hi hb h1 h2
theorem zW:∀ {names:List (Str × NameKind)} {n:Nat} {acc:List (Str × Addr)} {x:Str},(x,NameKind.cell)∉names->(cellsFrom n names acc).lookup x=acc.lookup x
 | [],n,acc,x,_=>rfl
 | (y,k) :: r,n,acc,x,m=>by
  unfold cellsFrom
  split
  ·rename_i hk
   have ek:k = .cell:=XU hk
   subst ek
   rw[zW fun z=>m (E9 _ z),WU]
   cases q:x == y with
   | true=>exact absurd (by rw[XU q];exact E6 ..) m
   | false=>rfl
  ·exact zW fun z=>m (E9 _ z)
theorem zX:∀ {names:List (Str × NameKind)} {h:Heap} {acc:List (Str × Addr)} {x:Str} {c:Addr},(∀ u c,acc.lookup u=some c->∃ v,h.IsCell c v)->(cellsFrom h.objs.size names acc).lookup x=some c->∃ v,(pushCells h names).IsCell c v
 | [],h,acc,x,c,hc,e=>hc x c e
 | (y,k) :: r,h,acc,x,c,hc,e=>by
  unfold cellsFrom at e
  unfold pushCells
  split at e
  ·rename_i hk
   rw[VY hk]
   have hz:(h.push { cls := .type "cell",data := .cell none }).objs.size=h.objs.size + 1:=X_ ..
   rw[<-hz] at e
   refine zX (fun u c q => ?_) e
   rw[WU] at q
   cases e1:u == y with
   | true=>rw[e1] at q;cases q;exact⟨none,_,VW _ rfl,rfl⟩
   | false =>
    rw[e1] at q
    obtain⟨v,o,g1,g2⟩:=hc u c q
    exact⟨v,o,tP _ g1,g2⟩
  ·rename_i hk
   rw[MC hk]
   exact zX hc e
theorem MI {M:Model} {A:Around} {E:Value->Shared->Prop} {s:Shared} {scope:Scope} {g:Addr} {cl:List (Str × Addr)} {qual:Str} {env:Env} {Q:Env->Shared->Prop}
  (h:Q (newEnv scope s.heap.objs.size g (cellsFrom (s.heap.objs.size + 1) scope.names cl) qual none .none (some env) builtinsNs) { s with heap:=pushCells (s.heap.push { cls := .type "dict",data := .dict #[] }) scope.names }) :
  wpAny M A (newFunctionEnv scope g cl [] qual none .none (some env)) Q E s:=by
 simp only[newFunctionEnv,Option.isSome_some,YM]
 refine pT (wpAny_alloc ?_)
 refine pT (wpAny_layCells _ (fun name kind cells=>by cases MJ:kind == NameKind.cell<;>simp[MJ]) _ _ _ _ ?_)
 rw[show ({ s with heap:=s.heap.push { cls := .type "dict",data := .dict #[] } }:Shared).heap.objs.size=s.heap.objs.size + 1 from X_ ..]
 refine pT ?_
 rw[List.forIn_nil]
 exact wg (wg h)
section
variable {X:Cx} {elt tg iter:Expr} {ifs:List Expr} {scope:Scope} {pos:Pos} {Nb:List Str} {cp:List (Option Nat)} {wi:TI} {g:BD->TG} {tf:BD->TT} {te:BD->TE}
variable {pins:List (Addr × Obj)} {σ : St} {H:Hp} {s:Shared}
noncomputable abbrev tV (scope:Scope) (s:Shared) (cl:List (Str × Addr)):List (Str × Addr):=cellsFrom (s.heap.objs.size + 1) scope.names cl
theorem MK {fp:List Addr} {cl:List (Str × Addr)} (S:wm X scope Nb cp) (I:Inv X pins σ H s) (hf:∀ b∈fp,bx X pins H b) (ho:∀ b∈fp,∃ o,s.heap.get? b=some o)
  (c1:∀ x c,cl.lookup x=some c->X.env.cells.lookup x=some c) (c2:∀ y∈scope.names,y.2 = .free->∃ c,cl.lookup y.1=some c):(cQ X scope Nb ⟨tV scope s cl,s.heap.objs.size,s,H,fp⟩).Ok:=by
 have ML:∀ b∈fp,b∉kq X.stack:=fun b hb z=>by
  obtain⟨_,f1,f2,_⟩:=hf b hb
  rcases MA.mp (I.hZ b z) with e | e
  ·exact f1 e
  ·exact f2 e
 have lt:∀ u c,cl.lookup u=some c->c < s.heap.objs.size:=fun u c e=>by
  obtain⟨v,q⟩:=I.cell u c (c1 _ _ e)
  exact q.lt
 refine⟨I.ok.mod,?_,I.ok.glob,I.ok.blt,we _,fun x y c h1 h2 => ?_,fun x hx => ?_,fun x c h hc => ?_,I.ok.hd,I.ok.frames,.inl rfl,fun b hb=>⟨?_,fun x c e => ?_⟩,I.bs,XJ I.ok.nV I.sz,fun b o e hb => ?_,ML,I.stack,I.jD⟩
 ·exact S.kind
 ·exact zV (fun u v c q1 q2=>I.ok.inj u v c (c1 _ _ q1) (c1 _ _ q2)) (fun u c e=>Xe (lt u c e)) h1 h2
 ·cases q:scope.names.lookup x with
  | none =>
   have z:(relabel scope X.env).names.lookup x=none:=Fb q
   have ib:(relabel scope X.env).names.lookup x=some .cell\/(relabel scope X.env).names.lookup x=some .free:=hx
   rw[z] at ib
   rcases ib with h | h<;>cases h
  | some k =>
   have hm:=XQ q
   have z:(relabel scope X.env).names.lookup x=_:=zT (env:=X.env) q
   have ib:(relabel scope X.env).names.lookup x=some .cell\/(relabel scope X.env).names.lookup x=some .free:=hx
   rw[z] at ib
   have kf:k = .free\/k = .cell:=by
    by_cases hk:k = .free
    ·exact .inl hk
    ·have:(k == NameKind.free)=false:=by simpa using hk
     simp only[this,q1a,WD,XE] at ib
     rcases ib with h | h
     ·exact .inr (WW h)
     ·exact absurd (WW h) hk
   refine Zf.mp (ZD scope.names _ cl ?_)
   rcases kf with rfl | rfl
   ·obtain⟨c,e⟩:=c2 (x,.free) hm rfl
    exact .inr (by rw[show cl.lookup x=some c from e];rfl)
   ·exact .inl q
 ·have hl:scope.names.lookup x=some .cell:=XD h
  have:=zU (XQ hl) hc
  exact Nat.le_of_succ_le this
 ·obtain⟨o,e⟩:=ho b hb
  exact VZ (Mz e)
 ·rcases rH e with e | ⟨e,_⟩
  ·exact (hf b hb).2.2.2.2.1 x c (c1 _ _ e)
  ·obtain⟨o,eo⟩:=ho b hb
   have zY:=Mz eo
   intro z
   subst z
   exact absurd (Nat.lt_of_succ_le e) (Nat.not_lt.mpr (XR zY))
 ·rcases (hf b hb).2.2.2.1 with z | z
  ·exact I.ok.kR b o e z
  ·exact absurd (WB (Mz (I.ok.bs b o e).1) z) (Ya _)
theorem MM {cp:List (Option Nat)} {σ : St} {j:Nat} {v:V} (h:(i8 cp σ)[j]? = some (some v)):∃ i,cp[j]? = some (some i) /\ σ[i]? = some (some v):=by
 unfold i8 at h
 rw[E7] at h
 cases e:cp[j]? with
 | none=>rw[e] at h;cases h
 | some o =>
  rw[e] at h
  cases o with
  | none=>cases h
  | some i =>
   refine⟨i,rfl,?_⟩
   have h':(σ[i]?).join=some v:=WW h
   cases q : σ[i]? with
   | none=>rw[q] at h';cases h'
   | some z =>
    rw[q] at h'
    have:z=some v:=h'
    rw[this]
theorem MN {fp:List Addr} {cl:List (Str × Addr)} {h1:Heap} {tk:Nat} (S:wm X scope Nb cp) (I:Inv X pins σ H s) (hf:∀ b∈fp,bx X pins H b) (ho:∀ b∈fp,∃ o,s.heap.get? b=some o)
  (c1:∀ x c,cl.lookup x=some c->X.env.cells.lookup x=some c) (c2:∀ y∈scope.names,y.2 = .free->∃ c,cl.lookup y.1=some c)
  (hn:h1.Ns s.heap.objs.size (fun x=>([]:List (Str × Value)).reverse.lookup x)) (hk:∀ b o,s.heap.get? b=some o->h1.get? b=some o) (rD:∀ x c,(tV scope s cl).lookup x=some c->∃ v,h1.IsCell c v) :
  Inv (cQ X scope Nb ⟨tV scope s cl,s.heap.objs.size,s,H,fp⟩) [] (i8 cp σ) H { s with heap:=h1,toks:=tk }:=by
 refine⟨MK S I hf ho c1 c2,rfl,I.bare,Un.kept hk,⟨_,hn,fun j x v e1 e2 e3 => ?_⟩,rD,I.aM.fresh (we _),fun x c e => ?_,fun p hp=>absurd (show p∈([]:List (Addr × Obj)) from hp) (by simp),I.aM.kept hk,?_⟩
 ·obtain⟨i,q1,q2⟩:=MM e2
  obtain⟨q3,q4⟩:=S.tT j i x q1 e1
  have hm:=XQ q4
  have n9:=S.free _ hm rfl
  obtain⟨m,_,hl⟩:=I.loc
  have MP:pd X.env.scope x:=by
   rcases n9 with h | h
   ·exact .inr (.inl h)
   ·exact .inr (.inr h)
  obtain⟨u,ru,lk⟩:=hl i x v q3 q2 MP
  refine⟨u,ru,?_⟩
  have nl:X.env.kindOf x≠some .local:=by
   rcases n9 with h | h
   ·intro z;rw[h] at z;cases z
   ·intro z;rw[h] at z;cases z
  rcases lk with⟨k,_⟩ | ⟨_,c,ec,hc⟩
  ·exact absurd k nl
  ·obtain⟨c',Fd⟩:=c2 (x,.free) hm rfl
   have Fe:=c1 _ _ Fd
   rw[ec] at Fe;cases Fe
   have nc:(x,NameKind.cell)∉scope.names:=fun z=>by have:=S.cell _ z rfl;rw[show scope.names.lookup x=some .free from q4] at this;cases this
   refine .inr ⟨?_,c,(zW nc).trans Fd,?_⟩
   ·have z:(relabel scope X.env).names.lookup x=_:=zT (env:=X.env) q4
    show (relabel scope X.env).names.lookup x=some .cell\/(relabel scope X.env).names.lookup x=some .free
    rw[z]
    split
    ·exact .inl rfl
    ·exact .inr rfl
   ·obtain⟨o,e,d⟩:=hc
    exact⟨o,hk _ _ e,d⟩
 ·rcases rH e with e | ⟨e,_⟩
  ·exact I.c7 x c (c1 _ _ e)
  ·exact I.aM.fresh (Nat.le_of_succ_le e)
 ·unfold i8
  rw[pU]
  exact S.len
theorem MQ {fp:List Addr} {d:BD} {it l:Addr} {tn:Nat->Heap->Prop} {J:It} {R:Result->Shared->Prop} {Q:VK} {H1:Hp} {s1:Shared} {τ : St} (hc:X.calm=true)
  (hg:PG (cQ X scope Nb d) tg (g d)) (hf:PF (cQ X scope Nb d) ifs (tf d)) (he:PE (cQ X scope Nb d) elt (te d)) (T:Turn X.prog X.w X.K tg J fp it tn)
  (V6:d.fp=fp) (I1:Inv (cQ X scope Nb d) [] τ H1 s1) (kX:tn 0 s1.heap) (Ff:∀ b∈fp,bx (cQ X scope Nb d) [] H1 b)
  (W:Nat->Nat->St->Hp->Prop) (w0:∃ m,W 0 m τ H1)
  (turn:∀ i m τ H,W i m τ H->(J.stop i H/\Q (.ref l) H)\/(J.go i H/\∃ N:St->Hp->Prop,(∀ τ' H',N τ' H'->∃ m',m' < m/\W (i + 1) m' τ' H')/\∀ x H',J.rz i H x H'->g d x τ H' fun τ2 H2=>tf d τ2 H2 fun b H3 =>
   if b=true then te d τ2 H3 fun y H4=>∃ ys,H4 l=some (.lst ys)/\ys.length < sizeLine/\N τ2 (upd H4 l (.lst (ys ++ [y]))) else N τ2 H3))
  (fin:∀ τ' H' s',Inv (cQ X scope Nb d) [] τ' H' s'->Q (.ref l) H'->R (.ok .next) s') :
  codeAny (model X.prog X.w) X.A (.compStart (.ListComp elt [⟨tg,iter,ifs,0⟩] scope pos) 0 (.ref it) (.ref l) (compEnvC scope d.cl d.C X.env)) R s1:=by
 have jj:∀ {H':Hp},(∀ b∈fp,H' b=none)->∀ b∈fp,bx (cQ X scope Nb d) [] H' b:=fun hn b hb=>⟨hn b hb,(Ff b hb).2⟩
 have loop:codeAny (model X.prog X.w) X.A (.compLoop (.ListComp elt [⟨tg,iter,ifs,0⟩] scope pos) 0 (.ref it) (.ref l) (compEnvC scope d.cl d.C X.env)) R s1:=by
  obtain⟨m0,w0⟩:=w0
  refine ME (fun n s'=>∃ i τ' H',Inv (cQ X scope Nb d) [] τ' H' s'/\tn i s'.heap/\(∀ b∈fp,H' b=none)/\W i n τ' H') ?_ m0 ⟨0,τ,H1,I1,kX,fun b hb=>(Ff b hb).1,w0⟩
  rintro n s3 ⟨i,σ3,H3,I3,rA,sZ,w3⟩
  rcases turn i n σ3 H3 w3 with⟨stop,qn⟩ | ⟨go,N,hN,step⟩
  ·refine bg (T.done (cQ X scope Nb d) rfl rfl rfl hc i [] s3 σ3 H3 (fun _ _=>False) I3 (jj sZ) rA stop) fun r s4 ⟨hr,I4⟩ => ?_
   subst hr
   exact fin σ3 H3 s4 I4 qn
  ·refine bg (T.item (cQ X scope Nb d) rfl rfl rfl hc i [] s3 σ3 H3 (fun _ _=>False) I3 (jj sZ) rA go) fun r s4 ⟨u,hr,h4⟩ => ?_
   subst hr
   refine bg h4 fun _ s5 ⟨x,H5,I5,r5,y5,pF,zk⟩ => ?_
   have zo:=I5.pinned (jj zk) (T.obj _ _ pF)
   refine bg (hg _ s5 σ3 H5 x u _ zo r5 (step x H5 y5)) fun _ s6 ⟨σ6,H6,I6,q6⟩ => ?_
   have again:∀ {σ7:St} {H7:Hp} {s7:Shared} {m':Nat},Inv (cQ X scope Nb d) ([] ++ sY fp s5.heap) σ7 H7 s7->m' < n->W (i + 1) m' σ7 H7->∃ m,m < n/\∃ i σ' H',Inv (cQ X scope Nb d) [] σ' H' s7/\tn i s7.heap/\(∀ b∈fp,H' b=none)/\W i m σ' H':=fun {σ7 H7 s7 m'} I7 hm w7=>by
    refine⟨m',hm,i + 1,σ7,H7,I7.d_,T.keep _ _ _ pF fun b hb o e=>(I7.pin (b,o) (Wv _ (Wv _ (v5 hb e)))).1,fun b hb => ?_,w7⟩
    obtain⟨o,e,d⟩:=T.obj _ _ pF b hb
    exact (I7.pin (b,o) (Wv _ (Wv _ (v5 hb e)))).2.1
   refine bg (hf _ s6 σ6 H6 _ I6 q6) fun ok s7 h0_ => el3 h0_ fun H7 I7 q7 => ?_
   cases ok with
   | false =>
    rw[MC Ws] at q7 ⊢
    obtain⟨m',hm,w7⟩:=hN _ _ q7
    exact again I7 hm w7
   | true =>
    rw[VY rfl] at q7 ⊢
    refine bg (he _ s7 σ6 H7 _ I7 q7) fun y s8 ⟨yv,H8,I8,r8,ys,hy,hz,q8⟩ => ?_
    obtain⟨m',hm,w8⟩:=hN _ _ q8
    refine bg (n6 _ s8 σ6 H8 (.ref l) [yv] (.ref l) [y] (fun _ H9=>H9=upd H8 l (.lst (ys ++ [yv]))) I8 rfl (.cons r8 .nil) ⟨l,ys,yv,rfl,rfl,hy,hz,rfl⟩) fun _ s9 h0_ => el5 h0_ fun _ H9 I9 _ e9 => ?_
    subst e9
    exact again I9 hm w8
 exact codeAny_compStart_list loop (T.self _ 0 s1 _ _ kX loop)
theorem MR {fp:List Addr} {d:BD} {τ : St} {H1 H':Hp} {s1 s':Shared} (I1:Inv X pins σ H1 s1) (hs:d.s=s1) (hH:d.H=H1) (hd:d.fp=fp) (hf:∀ b∈fp,bx X pins H1 b) (J:Inv (cQ X scope Nb d) [] τ H' s'):Inv X pins σ H' s':=by
 subst hs hH hd
 exact I1.sT (ch:=d.fp) J.os J.base J.aM J.bare fun b hb=>⟨(hf b hb).2.2.2.1,(hf b hb).2.1,(hf b hb).2.2.2.2.1,(hf b hb).2.2.2.2.2⟩
theorem Fg {use:Option (Value->Sem Unit)} {P:Value->Shared->Prop} {Q:VK} (hc:X.calm=true) (S:wm X scope Nb cp) (hi:PI X tg iter wi) (hg:∀ d,PG (cQ X scope Nb d) tg (g d)) (hf:∀ d,PF (cQ X scope Nb d) ifs (tf d)) (he:∀ d,PE (cQ X scope Nb d) elt (te d))
  (hs:∀ x,foldedSetIterable iter X.env x=pure x) (I:Inv X pins σ H s) (h:pW wi cp g tf te σ H Q)
  (fin:∀ (l C:Addr) (H':Hp) (s':Shared) (m:Str->Option Value),Inv X pins σ H' s'->bx X pins H' C->(∀ p c,X.env.cells.lookup p=some c->c≠C)->s'.heap.Ns C m->Q (.ref l) H'->compPost (model X.prog X.w) X.A X.xe use P (.ref l) C (.ok .next) s') :
  wpAny (model X.prog X.w) X.A (comprehension (.ListComp elt [⟨tg,iter,ifs,0⟩] scope pos) scope X.env (firstIterPos [⟨tg,iter,ifs,0⟩] pos) (newList []) false (eval iter X.env) use) P X.xe s:=by
 obtain⟨cl,MS,c1,c2⟩:=E_ (scope:=scope) (env:=X.env) fun y hy MT=>by
  rcases S.free y hy MT with z | z
  ·exact I.ok.has _ (.inl z)
  ·exact I.ok.has _ (.inr z)
 refine wpAny_comprehension_free (cl:=cl) rfl hs MS S.kind S.names (bg (hi pins s σ H _ I h) fun v s1 h1=>bg h1 fun zi s2 h2 => ?_)
 obtain⟨it,fp,tn,J,H2,e,I2,T,km,f2,q2⟩:=h2
 subst e
 refine Xy ?_
 have hl:H2 s2.heap.objs.size=none:=I2.fresh
 have I3:Inv X pins σ (upd H2 s2.heap.objs.size (.lst [])) { s2 with heap:=s2.heap.push { cls := .type "list",data := .seq ([]:List Value).toArray } }:=I2.cH (t':=s2.toks) (ys:=[]) .nil (Xn _)
 have k3:∀ b o,s2.heap.get? b=some o->(s2.heap.push { cls := .type "list",data := .seq ([]:List Value).toArray }).get? b=some o:=fun b o e=>tP _ e
 have f3:∀ b∈fp,bx X pins (upd H2 s2.heap.objs.size (.lst [])) b:=fun b hb=>by
  obtain⟨o,e,_⟩:=T.obj _ _ km b hb
  refine⟨?_,(f2 b hb).2⟩
  rw[aQ (VZ (Mz e))]
  exact (f2 b hb).1
 generalize MU:upd H2 s2.heap.objs.size (.lst [])=H3 at I3 f3
 generalize MV:({ s2 with heap:=s2.heap.push { cls := .type "list",data := .seq ([]:List Value).toArray } }:Shared)=s3 at I3
 have Fh:∀ b o,s2.heap.get? b=some o->s3.heap.get? b=some o:=by rw[<-MV];exact k3
 have o3:∀ b∈fp,∃ o,s3.heap.get? b=some o:=fun b hb=>let ⟨o,e,_⟩:=T.obj _ _ km b hb; ⟨o,Fh b o e⟩
 refine MI ?_
 have k4:∀ b o,s3.heap.get? b=some o->(pushCells (s3.heap.push { cls := .type "dict",data := .dict #[] }) scope.names).get? b=some o:=fun b o e=>pushCells_keeps _ _ _ _ (tP _ e)
 have tW:(pushCells (s3.heap.push { cls := .type "dict",data := .dict #[] }) scope.names).Ns s3.heap.objs.size (fun x=>([]:List (Str × Value)).reverse.lookup x):=(Heap.Ns.new s3.heap (.type "dict")).keeps (pushCells_keeps _ _)
 have I4:=MN (Nb:=Nb) (tk:=s3.toks) S I3 f3 o3 c1 c2 tW k4 fun x c e=>by
  have hz:(s3.heap.push { cls := .type "dict",data := .dict #[] }).objs.size=s3.heap.objs.size + 1:=X_ ..
  have e':(cellsFrom (s3.heap.push { cls := .type "dict",data := .dict #[] }).objs.size scope.names cl).lookup x=some c:=by rw[hz];exact e
  refine zX (fun u c q => ?_) e'
  obtain⟨v,o,g1,g2⟩:=I3.cell u c (c1 _ _ q)
  exact⟨v,o,tP _ g1,g2⟩
 generalize V7:pushCells (s3.heap.push { cls := .type "dict",data := .dict #[] }) scope.names=h₁ at k4 tW I4 ⊢
 obtain⟨W,w0,turn⟩:=q2 ⟨tV scope s3 cl,s3.heap.objs.size,s3,H3,fp⟩ s2.heap.objs.size hl
 rw[MU] at w0
 refine MQ (d:=⟨tV scope s3 cl,s3.heap.objs.size,s3,H3,fp⟩) (fp:=fp) (tn:=tn) (J:=J) (Q:=Q) hc (hg _) (hf _) (he _) T rfl I4 (T.keep _ _ _ km fun b hb o e=>k4 b o (Fh b o e)) (fun b hb => ?_) W w0 turn fun τ' H' s' I5 q5 => ?_
 ·obtain⟨o,e⟩:=o3 b hb
  refine⟨(f3 b hb).1,VZ (Mz e),fun z => ?_,.inl hb,fun x c ec => ?_,fun p hp=>absurd (show p∈([]:List (Addr × Obj)) from hp) (by simp)⟩
  ·rcases MA.mp (I3.hZ b z) with r | r
   ·exact (f3 b hb).2.1 r
   ·exact (f3 b hb).2.2.1 r
  ·rcases rH ec with q | ⟨q,_⟩
   ·exact (f3 b hb).2.2.2.2.1 x c (c1 _ _ q)
   ·have zY:=Mz e
    intro z
    subst z
    exact absurd (Nat.lt_of_succ_le q) (Nat.not_lt.mpr (XR zY))
 ·have I6:Inv X pins σ H' s':=MR I3 rfl rfl rfl f3 I5
  obtain⟨m,hn,_⟩:=I5.loc
  have fC:bx X pins H' s3.heap.objs.size:=I3.iK (we _) I5.free
  exact fin _ _ _ _ m I6 fC (fun p c e=>fC.2.2.2.2.1 p c e) hn q5
theorem MW (cp:List (Option Nat)) (Nb:List Str) (hc:X.calm=true) (hi:PI X tg iter wi) (hg:∀ d,PG (cQ X scope Nb d) tg (g d)) (hf:∀ d,PF (cQ X scope Nb d) ifs (tf d)) (he:∀ d,PE (cQ X scope Nb d) elt (te d))
  (hk:scope.kind = .function:=by rfl) (ho:lY X.N X.env.scope scope Nb cp=true:=by first | rfl | kernel_rfl) (hs:∀ x,foldedSetIterable iter X.env x=pure x:=by intro _;rfl) :
  PE X (.ListComp elt [⟨tg,iter,ifs,0⟩] scope pos) (pW wi cp g tf te):=by
 intro pins s σ H Q I h
 rw[eval_ListComp]
 refine Fg (use:=none) hc (x1H hk ho) hi hg hf he hs I h fun l C H' s' m I' fC hcc hn q=>⟨m,hn,fun h' tX=>⟨.ref l,H',?_,rfl,q⟩⟩
 exact I'.turned (t':=s'.toks) (fun b o hb e=>(tX.2 b hb).trans e) fC.1 fC.2.1 fC.2.2.2.1 fC.2.2.2.2.1 fC.2.2.2.2.2
theorem MX (cp:List (Option Nat)) (Nb:List Str) {i:Nat} {x:Str} {pos' iN:Pos} (hN:X.N.Nodup) (hi:X.N[i]? = some x) (hx:Loc X.env.scope x) (hc:X.calm=true) (hit:PI X tg iter wi) (hg:∀ d,PG (cQ X scope Nb d) tg (g d)) (hf:∀ d,PF (cQ X scope Nb d) ifs (tf d)) (he:∀ d,PE (cQ X scope Nb d) elt (te d))
  (hk:scope.kind = .function:=by rfl) (ho:lY X.N X.env.scope scope Nb cp=true:=by first | rfl | kernel_rfl) (hs:∀ x,foldedSetIterable iter X.env x=pure x:=by intro _;rfl)
  (tY:swapsWith (.ListComp elt [⟨tg,iter,ifs,0⟩] scope pos) (some (.Name x pos')) iN.line X.env=pure true:=by rfl)
  (mn:X.fn x=true\/X.env.scope.names.lookup x=some .local:=by first | exact .inl rfl | exact .inr rfl | assumption) :
  PS X (.Assign [.Name x pos'] (.ListComp elt [⟨tg,iter,ifs,0⟩] scope pos) iN) (h8 (pW wi cp g tf te) (lV i)):=by
 intro pins s σ H D I h
 rw[exec_Assign_Name_used _ _ _ _ tY]
 refine pT (ZT (pT ?_))
 show wpAny _ X.A (do let _ <- comprehension (.ListComp elt [⟨tg,iter,ifs,0⟩] scope pos) scope X.env _ (newList []) false (eval iter X.env) (some (assign (.Name x pos') X.env))) _ _ s
 refine pT (bg (Fg (use:=some (assign (.Name x pos') X.env)) (P:=fun _ s'=>SP X pins D .next s') hc (x1H hk ho) hit hg hf he hs I h fun l C H' s' m I' fC hcc hn q => ?_) fun _ s' hq=>wg (wg hq))
 show wpAny _ X.A (assign (.Name x pos') X.env (.ref l)) _ _ s'
 refine wpAny_assign_Name (D7 I' hN hi hx (v := .ref l) rfl (fun jm MY ⟨a,sb,ha⟩ => ?_) mn)
 have nC:C≠a:=by
  rcases ha with e | e
  ·rw[e];exact fC.2.1
  ·exact Yd (hcc _ _ e)
 refine⟨m,hn.sameBut sb nC,fun h' tX=>⟨_,H',?_,q⟩⟩
 exact MY.turned (t':=jm.toks) (fun b o hb e=>(tX.2 b hb).trans e) fC.1 fC.2.1 fC.2.2.2.1 fC.2.2.2.2.1 fC.2.2.2.2.2
end
section
variable {g:TG} {tf:TT} {te:TE}
end
section
variable {X:Cx} {pins:List (Addr × Obj)} {σ : St} {H:Hp} {s:Shared} {h':Heap} {T:Addr} {o:HO} {ch:List Addr} {t':Nat}
theorem Inv.iO (I:Inv X pins σ H s) (hf:∀ b∈ch,bx X pins H b) (k:∀ b u,b∉ch->s.heap.get? b=some u->h'.get? b=some u) (hT:s.heap.objs.size <= T) (new:aI X.prog X.w (upd H T o) h' T o) :
  Inv X pins σ (upd H T o) { s with heap:=h',toks:=t' }:=by
 have hn:H T=none:=I.aM.fresh hT
 have nW:∀ b u,H b=some u->b∉ch:=fun b u e hb=>by rw[(hf b hb).1] at e;cases e
 refine I.step (g':=s.gens) (d':=s.drawn) (ch:=ch) (fun b hb=>⟨(hf b hb).2.2.2.1,(hf b hb).2.1,(hf b hb).2.2.2.2.1,(hf b hb).2.2.2.2.2⟩) (fun b u _ _ hc e _=>k b u hc e) (fun b u _ _ hc e _=>⟨u.slots,k b u hc e⟩)
  (fun b u _ e n=>by rw[aQ (VZ (WB (Mz e) hT))];exact n) (fun b u hc e=>⟨u,k b u hc e⟩) (fun b xs e=>by rw[aQ (dq e hn)];exact e)
  (fun b u xs e=>by rw[aQ (dq e hn)];exact e) (fun b ps e=>⟨#[],by rw[aQ (dq e hn),e];simp⟩) (fun m hm => ?_) (fun b u e => ?_) I.bare
 ·obtain⟨u,es,ep,ho,r⟩:=hm
  exact⟨u,es,ep,k _ u (fun hb=>(hf _ hb).2.1 rfl) ho,r⟩
 ·by_cases hb:b=T
  ·subst hb;rw[bK] at e;cases e;exact new
  ·rw[aQ hb] at e
   refine (I.aM b u e).gC (fun c v hc q=>k c v ?_ q) (fun c q=>by rw[aQ (dq q hn)];exact q) fun c xs q=>by rw[aQ (dq q hn)];exact q
   rcases hc with z | z
   ·rw[z];exact nW b u e
   ·exact nW c _ z
end
noncomputable def rJ (K:PySem.W.Frag) (a:Addr):It :=
 ⟨fun i H=>∃ xs x,bj K H a xs/\xs[i]? = some x,fun i H x H'=>∃ T v,x = .ref T/\H T=none/\H'=upd H T (.tup [.int (i:Nat),v])/\∀ xs,bj K H a xs->xs[i]? = some v,fun i H=>∃ xs,bj K H a xs/\xs.length <= i⟩
theorem Fi {P:Program} {w:World} {K:PySem.W.Frag} {elts:List Expr} {x1} {tp:Pos} (a e it:Addr) (gR:e≠it) :
  Turn P w K (.Tuple elts x1 tp) (rJ K a) [e,it] e (fun i h=>(∃ old,IsEnum h e it (i:Nat) old)/\h.IsListIter it a i) where
 mem:=by simp
 obj:=fun i h st b hb=>by
  obtain⟨⟨old,he⟩,o,hi,hc,hd⟩:=st
  rcases MA.mp hb with rfl | hb
  ·exact⟨_,he,fun v z=>by cases z⟩
  ·have z:b=it:=by simpa using hb
   subst z
   exact⟨o,hi,fun v z=>by rw[hd] at z;cases z⟩
 keep:=fun i h h' st k=>by
  obtain⟨⟨old,he⟩,hi⟩:=st
  exact⟨⟨old,k e (by simp) _ he⟩,hi.at fun o q=>k it (by simp) o q⟩
 item:=by
  intro X hP hw hK hc i pins s σ H E I hf st hg
  subst hP hw hK
  obtain⟨⟨old,he⟩,hi⟩:=st
  obtain⟨xs,x,hq,hx⟩:=hg
  obtain⟨ak,rv,p,hz⟩:=I.list hq
  obtain⟨u,hu,ru⟩:=rv.get hx
  refine wpAny_pyNext_enum_item he hi p.isList (x:=u) (by simpa using hu) gR fun h1 lR n_ tZ hsz hk=>⟨_,rfl,?_⟩
  refine wpAny_letOwnedTupleGo_enum lR fun h2 t4 jF => ?_
  have hT:s.heap.objs.size≠e:=Ys (Mz he)
  have k7:h2.get? s.heap.objs.size=some { cls := .type "tuple",data := .seq #[.int i s.toks,u] }:=(jF.2 _ hT).trans tZ
  have k2:∀ b o,b∉[e,it]->s.heap.get? b=some o->h2.get? b=some o:=fun b o hb q=>by
   have oa:b≠e:=fun z=>hb (by simp[z])
   have fJ:b≠it:=fun z=>hb (by simp[z])
   exact (jF.2 _ oa).trans (hk b o oa fJ q)
  have hn:H s.heap.objs.size=none:=I.aM.fresh (we _)
  refine⟨.ref s.heap.objs.size,upd H s.heap.objs.size (.tup [.int i,x]),I.iO (ch:=[e,it]) (t':=s.toks + 1) hf k2 (we _) ?_,rfl,⟨_,x,rfl,hn,rfl,fun ys hy=>by rw[I.iJ hy hq];exact hx⟩,⟨⟨u,?_⟩,?_⟩,fun b hb => ?_⟩
  ·exact⟨by show 2 <= sizeLine;decide,[.int i s.toks,u],.cons ⟨_,rfl⟩ (.cons ru .nil),_,k7,rfl,_,rfl⟩
  ·have e3:((i:Int) + 1)=(((i + 1:Nat)):Int):=by omega
   rw[e3] at t4
   exact t4
  ·exact n_.at fun o q=>(jF.2 _ (Yd gR)).trans q
  ·have:b < s.heap.objs.size:=by
    obtain⟨o,q,_⟩:=hi
    rcases MA.mp hb with rfl | hb
    ·exact Mz he
    ·have z:b=it:=by simpa using hb
     subst z;exact Mz q
   rw[aQ (VZ this)]
   exact (hf b hb).1
 done:=by
  intro X hP hw hK hc i pins s σ H E I hf st hg
  subst hP hw hK
  obtain⟨⟨old,he⟩,hi⟩:=st
  obtain⟨xs,hq,hx⟩:=hg
  obtain⟨ak,rv,p,hz⟩:=I.list hq
  have hl:=rv.length
  refine wpAny_pyNext_enum_end (I.ok.hd hc) he hi p.isList (by simp;omega) fun h1 eb=>⟨rfl,?_⟩
  obtain⟨f0,f1,f2,f3,f4,f5⟩:=hf it (by simp)
  exact I.turned (t':=s.toks) (fun b o hb q=>eb b o hb q) f0 f1 f3 f4 f5
 self:=fun A i s Q E st h=>by
  obtain⟨⟨old,he⟩,hi⟩:=st
  have hT:s.TypeIs (.ref e) "enumerate" := ⟨_,he,rfl⟩
  exact Yv he h
section
variable {X:Cx} {elts:List Expr} {x1:Nat} {tp:Pos}
noncomputable def zZ (K:PySem.W.Frag) (ta:TA):TI:=fun σ H R=>ta σ H fun vs H1=>∃ a,vs=[.ref a]/\(∃ xs,bj K H1 a xs)/\R (rJ K a) H1
theorem Fj:bootBuiltins "enumerate" = some (.type "enumerate"):=by decide +kernel
theorem MZ {a:Expr} {ta:TA} {p pos:Pos} (hg:Gl X "enumerate") (hm:X.mg "enumerate" = none) (ha:PA X [a] ta) (hs:starEach [a] X.env=[(false,eval a X.env)]:=by rfl) :
  PI X (.Tuple elts x1 tp) (.Call (.Name "enumerate" p) [a] [] pos) (zZ X.K ta):=by
 intro pins s σ H R I h
 refine Call_ (mq I hg hm Fj (Yi (bg (ha pos pins s σ H _ I h) fun us s1 h0_ => el5 h0_ fun vs H1 I1 r1 q1 => ?_) hs rfl))
 obtain⟨l,e,⟨xs,hq⟩,q⟩:=q1
 subst e
 cases r1 with
 | cons r rr =>
  cases rr
  cases r
  obtain⟨ak,rv,p,hz⟩:=I1.list hq
  refine call_enumerate_list p.isList fun h' he hi hsz hk => ?_
  have I2:Inv X pins σ H1 { s1 with heap:=h' }:=I1.kept (t':=s1.toks) hk
  refine Yv he ?_
  refine⟨_,_,_,_,H1,rfl,I2,Fi l (s1.heap.objs.size + 1) s1.heap.objs.size (q0z _),⟨⟨_,he⟩,hi⟩,fun b hb => ?_,q⟩
  have d8:s1.heap.objs.size <= b:=by
   rcases MA.mp hb with rfl | hb
   ·exact q0p _
   ·have z:b=s1.heap.objs.size:=by simpa using hb
    rw[z];exact we _
  exact I1.iK d8 (I1.aM.fresh d8)
end
section
variable {X:Cx} {nm:Str} {tp:Pos}
end
end L2
namespace L2
open PySem PySem.Spec PyProof.Rows PySem.W
open Builtin Builtin.ObjectAttr
section
variable {prog:Program} {w:World} {A:Around} {E:Value->Shared->Prop} {s:Shared} {K:Frag} {x D:Addr} {ox:Obj} {V8:Option Obj} {name:Str}
variable {h:Heap} {g:Array GenState} {d:Drawn} {t:Nat} {os:OsState} {nm q:Str} {C N:Addr} {bs bm V9:List Value} {M0:Bool} {sn:List Str} {sub:List Value} {ab:Bool} {col:Option Bool} {dd:Option Addr} {k0 k1 k2 k3 k5:Option Value} {B newId z_:String}
end
end L2
namespace L2
open PySem PySem.Spec PyProof.Rows
section
variable {X:Cx} {pins:List (Addr × Obj)} {σ : St} {H:Hp} {s:Shared} {C f:Addr} {CX:jR} {k:Nat} {fd:FuncData} {ps:List Str} {sp:Sp} {E:XK} {x:Str} {p pos pos':Pos} {e o value:Expr} {es:List Expr} {ta tv:TE} {t:TA}
end
section
variable {X:Cx}
noncomputable def t5:V->Option Value
 | .ty n=>some (.type n)
 | .ref a=>some (.ref a)
 | _=>none
theorem M1 {y:V} {u c:Value} (r:RelV y u) (e:t5 y=some c):u=c:=by
 cases y with
 | ty n=>cases e;exact r
 | ref a=>cases e;exact r
 | _=>cases e
theorem M3:fV X (.builtin "isinstance") (fun xs H Q=>∃ x y c t b,xs=[x,y]/\t5 y=some c/\eg X.K H x t/\PySem.W.kitOne X.K t c=some b/\Q (.bl b) H):=by
 intro pins s σ H xs us Q I rv h
 obtain⟨x,y,c,t,b,rfl,hc,ty,e,q⟩:=h
 obtain⟨u,w',rfl,rx,ry⟩:=rv.two
 rw[M1 ry hc]
 exact LN I rx ty e fun tk=>⟨.bl b,H,I.tok tk,rfl,q⟩
theorem Fl {x:V}:∀ {xs:List V} {us:List Value},Vals xs us->xs.all lW=true->us.countP (tO x)=xs.countP fun y=>ku y x
 | _,_,.nil,_=>rfl
 | y :: xs,u :: us,.cons r t,f=>by
  rw[Zh,Xq] at f
  rw[Xf,Xf,Fl t f.2,EO r f.1]
theorem IsList.parts {h:Heap} {l:Addr} {items:Array Value} (x:h.IsList l items):∃ dd n sl,h.get? l=some { cls := .type "list",dict:=dd,data := .seq items n,slots:=sl }:=by
 obtain⟨⟨cls,dd,data,sl⟩,ho,hc,n,hd⟩:=x
 simp only at hc hd
 subst hc hd
 exact⟨dd,n,sl,ho⟩
noncomputable def Fm (K:PySem.W.Frag):V->List V->Hp->VK->Prop:=fun x vs H Q=>∃ l xs y,x = .ref l/\vs=[y]/\bj K H l xs/\lW y=true/\xs.all lW=true/\Q (.int (xs.countP fun z=>ku z y:Nat)) H
theorem M4:rF X "list.count" (Fm X.K):=by
 intro pins s σ H x vs v us Q I rx rv h
 obtain⟨l,xs,y,rfl,rfl,hq,fy,fs,q⟩:=h
 cases rx
 obtain⟨u,rfl,ru⟩:=rv.one
 obtain⟨ak,r,pl,hz⟩:=I.list hq
 obtain⟨dd,n,sl,e⟩:=IsList.parts pl.isList
 refine ZS F.slot_list_count ⟨_,e,rfl⟩ F.entry_list_count (F.args_list_count_2 _ _) (SeqAt.list_countAt l ak.toArray n dd sl u (tO y)) ⟨e,fun w hw=>ER ru fy r fs w (by simpa using hw),?_⟩
 refine⟨.int _,H,I.tok _,⟨_,rfl⟩,?_⟩
 have e2:ak.toArray.toList.countP (tO y)=xs.countP fun z=>ku z y:=by rw[List.toList_toArray];exact Fl r fs
 rw[e2]
 exact q
end
theorem Fo {K:PySem.W.Frag} {a:Addr} {xs:List V} {g:TG} {tb:TS} {D:Ends} {σ : St} {H:Hp} (Pv:Nat->St->Hp->Prop) (h0:Pv 0 σ H) (hl:∀ i σ H,i <= xs.length->Pv i σ H->bj K H a xs)
  (hs:∀ i x T σ H,xs[i]? = some x->Pv i σ H->H T=none->g (.ref T) σ (upd H T (.tup [.int (i:Nat),x])) fun σ2 H2=>tb { D with nx:=Pv (i + 1),ct:=Pv (i + 1),bk:=D.nx } σ2 H2) (hd:∀ σ H,Pv xs.length σ H->D.nx σ H) :
  ∃ W:Nat->Nat->St->Hp->Prop,(∃ m,W 0 m σ H)/\∀ i m σ H,W i m σ H →
   ((rJ K a).stop i H/\D.nx σ H)\/((rJ K a).go i H/\∃ N:St->Hp->Prop,(∀ σ' H',N σ' H'->∃ m',m' < m/\W (i + 1) m' σ' H')/\∀ x H',(rJ K a).rz i H x H'->g x σ H' fun σ2 H2=>tb { D with nx:=N,ct:=N,bk:=D.nx } σ2 H2):=by
 refine⟨fun i m σ H=>m=xs.length - i/\i <= xs.length/\Pv i σ H,⟨xs.length,by simp,Xn _,h0⟩,?_⟩
 rintro i m σ H ⟨rfl,hi,p⟩
 have q:=hl i σ H hi p
 by_cases cu:i < xs.length
 ·refine .inr ⟨⟨xs,xs[i],q,by simp[cu]⟩,Pv (i + 1),fun σ' H' p'=>⟨xs.length - (i + 1),by omega,rfl,cu,p'⟩,fun x H' y => ?_⟩
  obtain⟨T,v,rfl,hT,rfl,y⟩:=y
  exact hs i v T σ H (y xs q) p hT
 ·have e:i=xs.length:=by omega
  subst e
  exact .inl ⟨⟨xs,q,we _⟩,hd σ H p⟩
section
variable {g:TG} {tf:TT} {te:TE} {l:Addr} {τ0:St} {H0:Hp} {Q:VK}
end
section
variable {X:Cx} {es:List Expr} {te:TE} {t:TA}
theorem Aa {c j p} (ha:PE X (.Constant c j p) te) (hr:PA X es t):PA X (.Constant c j p :: es) (gv te t):=pI ha hr rfl
theorem Ab {x p} (ha:PE X (.Name x p) te) (hr:PA X es t):PA X (.Name x p :: es) (gv te t):=pI ha hr rfl
theorem Ac {f a k p} (ha:PE X (.Call f a k p) te) (hr:PA X es t):PA X (.Call f a k p :: es) (gv te t):=pI ha hr rfl
theorem Ad {a p} (ha:PE X (.List a p) te) (hr:PA X es t):PA X (.List a p :: es) (gv te t):=pI ha hr rfl
theorem Ae {a k p} (ha:PE X (.Tuple a k p) te) (hr:PA X es t):PA X (.Tuple a k p :: es) (gv te t):=pI ha hr rfl
theorem Af {a k p} (ha:PE X (.Subscript a k p) te) (hr:PA X es t):PA X (.Subscript a k p :: es) (gv te t):=pI ha hr rfl
end
inductive D where
 | non | bl (b:Bool) | int (i:Int) | str (x:Str) | tup (xs:List D) | lst (xs:List D)
mutual
noncomputable def Is (H:Hp):D->V->Prop
 | .non,v=>v = .non
 | .bl b,v=>v = .bl b
 | .int i,v=>v = .int i
 | .str x,v=>v = .str x
 | .tup ds,v=>∃ a vs,v = .ref a/\H a=some (.tup vs)/\af H ds vs
 | .lst ds,v=>∃ a vs,v = .ref a/\H a=some (.lst vs)/\af H ds vs
noncomputable def af (H:Hp):List D->List V->Prop
 | [],vs=>vs=[]
 | d :: ds,vs=>∃ v r,vs=v :: r/\Is H d v/\af H ds r
end
mutual
theorem Is.same {H H':Hp} (s:aA H H'):∀ {d:D} {v:V},Is H d v->Is H' d v
 | .non,_,h=>h
 | .bl _,_,h=>h
 | .int _,_,h=>h
 | .str _,_,h=>h
 | .tup _,_,h=>by
  simp only[Is] at h ⊢
  obtain⟨a,vs,e,h1,h2⟩:=h
  exact⟨a,vs,e,s _ _ h1,af.same s h2⟩
 | .lst _,_,h=>by
  simp only[Is] at h ⊢
  obtain⟨a,vs,e,h1,h2⟩:=h
  exact⟨a,vs,e,s _ _ h1,af.same s h2⟩
theorem af.same {H H':Hp} (s:aA H H'):∀ {d:List D} {v:List V},af H d v->af H' d v
 | [],_,h=>h
 | _ :: _,_,h=>by
  simp only[af] at h ⊢
  obtain⟨v,r,e,h1,h2⟩:=h
  exact⟨v,r,e,Is.same s h1,af.same s h2⟩
end
theorem af.length {H:Hp}:∀ {ds:List D} {vs:List V},af H ds vs->vs.length=ds.length
 | [],_,h=>by simp only[af] at h;rw[h];rfl
 | _ :: _,_,h=>by
  simp only[af] at h
  obtain⟨v,r,rfl,_,h2⟩:=h
  rw[Mx,Mx,af.length h2]
theorem af.get {H:Hp}:∀ {ds:List D} {vs:List V} {i:Nat} {v:V},af H ds vs->vs[i]? = some v->∃ d,ds[i]? = some d/\Is H d v
 | [],_,i,v,h,e=>by simp only[af] at h;rw[h] at e;simp at e
 | d :: ds,_,i,v,h,e=>by
  simp only[af] at h
  obtain⟨v',r,rfl,h1,h2⟩:=h
  cases i with
  | zero=>simp at e;subst e;exact⟨d,rfl,h1⟩
  | succ i=>simp at e;simpa using af.get h2 e
theorem af.nil {H:Hp}:af H [] []:=by simp only[af]
theorem af.cons {H:Hp} {d:D} {ds:List D} {v:V} {vs:List V} (h:Is H d v) (r:af H ds vs):af H (d :: ds) (v :: vs):=by
 simp only[af]
 exact⟨v,vs,rfl,h,r⟩
theorem af.snoc {H:Hp} {d:D} {v:V}:∀ {ds:List D} {vs:List V},af H ds vs->Is H d v->af H (ds ++ [d]) (vs ++ [v])
 | [],_,h,q=>by simp only[af] at h;subst h;exact .cons q .nil
 | _ :: _,_,h,q=>by
  simp only[af] at h
  obtain⟨v',r,rfl,h1,h2⟩:=h
  exact .cons h1 (af.snoc h2 q)
mutual
noncomputable def dep:D->Nat
 | .tup ds=>cb ds + 1
 | .lst ds=>cb ds + 1
 | _=>0
noncomputable def cb:List D->Nat
 | []=>0
 | d :: ds=>max (dep d) (cb ds)
end
mutual
noncomputable def M5:D->Bool
 | .tup _=>false
 | .lst ds=>decide (ds.length <= 1000) && Fp ds
 | _=>true
noncomputable def Fp:List D->Bool
 | []=>true
 | d :: ds=>M5 d && Fp ds
end
theorem Ag:∀ {ds:List D} {i:Nat} {d:D},ds[i]? = some d->dep d <= cb ds
 | [],i,d,e=>by simp at e
 | d' :: ds,0,d,e=>by simp at e;subst e;simp only[cb];exact Nat.le_max_left _ _
 | d' :: ds,i + 1,d,e=>by simp at e;simp only[cb];exact XJ (Ag e) (Nat.le_max_right _ _)
noncomputable def gW:D->String
 | .non => "NoneType" | .bl _ => "bool" | .int _ => "int" | .str _ => "str" | .tup _ => "tuple" | .lst _ => "list"
theorem Is.ty {K:PySem.W.Frag} {H:Hp}:∀ {d:D} {v:V},Is H d v->eg K H v (.type (gW d))
 | .non,_,h=>by cases (show _=_ from h);exact .non
 | .bl b,_,h=>by cases (show _=_ from h);exact .bl b
 | .int i,_,h=>by cases (show _=_ from h);exact .int i
 | .str x,_,h=>by cases (show _=_ from h);exact .str x
 | .tup _,_,h=>by
  simp only[Is] at h
  obtain⟨a,vs,rfl,h1,_⟩:=h
  exact .tup h1
 | .lst _,_,h=>by
  simp only[Is] at h
  obtain⟨a,vs,rfl,h1,_⟩:=h
  exact .lst h1
noncomputable def eC (T c:String):Bool:=T == c || (T == "bool" && c == "int")
section
variable {K:PySem.W.Frag}
theorem M6:∀ T∈["NoneType", "bool", "int", "str", "tuple", "list"],PySem.W.kitOne K (.type T) (.type "bool")=some (eC T "bool"):=by
 intro T hT
 simp only[MA,WV,YC] at hT
 rcases hT with rfl | rfl | rfl | rfl | rfl | rfl<;>kernel_rfl
theorem M7:∀ T∈["NoneType", "bool", "int", "str", "tuple", "list"],PySem.W.kitOne K (.type T) (.type "int")=some (eC T "int"):=by
 intro T hT
 simp only[MA,WV,YC] at hT
 rcases hT with rfl | rfl | rfl | rfl | rfl | rfl<;>kernel_rfl
theorem kit_tuple:∀ T∈["NoneType", "bool", "int", "str", "tuple", "list"],PySem.W.kitOne K (.type T) (.type "tuple")=some (eC T "tuple"):=by
 intro T hT
 simp only[MA,WV,YC] at hT
 rcases hT with rfl | rfl | rfl | rfl | rfl | rfl<;>kernel_rfl
theorem M8:∀ T∈["NoneType", "bool", "int", "str", "tuple", "list"],PySem.W.kitOne K (.type T) (.type "list")=some (eC T "list"):=by
 intro T hT
 simp only[MA,WV,YC] at hT
 rcases hT with rfl | rfl | rfl | rfl | rfl | rfl<;>kernel_rfl
theorem wo (d:D):gW d∈["NoneType", "bool", "int", "str", "tuple", "list"]:=by cases d<;>simp[gW]
end
section
variable {X:Cx}
theorem PE.weak {e:Expr} {t t':TE} (h:PE X e t) (k:∀ σ H Q,t' σ H Q->t σ H Q):PE X e t':=fun pins s σ H Q I q=>h pins s σ H Q I (k σ H Q q)
theorem PT.weak {e:Expr} {t t':TT} (h:PT X e t) (k:∀ σ H Q,t' σ H Q->t σ H Q):PT X e t':=fun pins s σ H Q I q=>h pins s σ H Q I (k σ H Q q)
theorem PA.weak {es:List Expr} {t t':TA} (h:PA X es t) (k:∀ σ H Q,t' σ H Q->t σ H Q):PA X es t':=fun pos pins s σ H Q I q=>h pos pins s σ H Q I (k σ H Q q)
theorem PS.weak {st:Stmt} {t t':TS} (h:PS X st t) (k:∀ D σ H,t' D σ H->t D σ H):PS X st t':=fun pins s σ H D I q=>h pins s σ H D I (k D σ H q)
theorem iI.weak {st:List Stmt} {t t':TS} (h:iI X st t) (k:∀ D σ H,t' D σ H->t D σ H):iI X st t':=fun pins s σ H D I q=>h pins s σ H D I (k D σ H q)
end
section
variable {κ : Type} [DecidableEq κ]
noncomputable def cq (kvs:List (κ × V)) (k : κ):Option V:=(kvs.find? fun kv=>decide (kv.1=k)).map (·.2)
noncomputable def putK (kvs:List (κ × V)) (k : κ) (v:V):List (κ × V) :=
 if (kvs.any fun kv=>decide (kv.1=k))=true then kvs.map (fun kv=>if kv.1=k then (kv.1,v) else kv) else kvs ++ [(k,v)]
theorem t6 {p : κ × V} {r:List (κ × V)} {k : κ} (e:p.1=k):cq (p :: r) k=some p.2:=by simp[cq,Y1,e]
theorem t7 {p : κ × V} {r:List (κ × V)} {k : κ} (e:¬ p.1=k):cq (p :: r) k=cq r k:=by simp[cq,Y1,e]
theorem Ah (k : κ):∀ kvs:List (κ × V),(kvs.any fun kv=>decide (kv.1=k))=(cq kvs k).isSome
 | []=>rfl
 | p :: r=>by
  rw[YQ]
  by_cases e:p.1=k
  ·simp only[t6 e,WC e,Bool.true_or,Option.isSome_some]
  ·rw[t7 e,Wz e,Bool.false_or];exact Ah k r
theorem Ai (kvs:List (κ × V)) (k : κ) (v:V):(putK kvs k v).length <= kvs.length + 1:=by
 unfold putK
 split
 ·rw[pU];omega
 ·rw[My,Mx,Ym];omega
theorem M9 {kvs:List (κ × V)} {k : κ} (v:V) (h:cq kvs k=none):putK kvs k v=kvs ++ [(k,v)]:=by
 unfold putK
 rw[Ah,h]
 exact MC (by decide)
theorem ji.fc {o:Option V} {u:Option Value} (r:ji o u):o.isSome=u.isSome:=by
 cases o with
 | none=>cases u with
  | none=>rfl
  | some _=>exact (show False from r).elim
 | some _=>cases u with
  | none=>exact (show False from r).elim
  | some _=>rfl
theorem KV.val {kvs:List (κ × V)} {vs:List (κ × Value)} (r:KV kvs vs) (k : κ):ji (cq kvs k) (valueAt vs k):=by
 unfold KV at r
 induction r with
 | nil=>exact True.intro
 | @cons p q ps qs h t ih =>
  obtain⟨h1,h2⟩:=h
  by_cases e:p.1=k
  ·have e':q.1=k:=h1.symm.trans e
   have b:valueAt (q :: qs) k=some q.2:=by simp[valueAt,Y1,e']
   rw[t6 e,b];exact h2
  ·have e':¬ q.1=k:=fun z=>e (h1.trans z)
   have b:valueAt (q :: qs) k=valueAt qs k:=by simp[valueAt,Y1,e']
   rw[t7 e,b];exact ih
theorem KV.any {kvs:List (κ × V)} {vs:List (κ × Value)} (r:KV kvs vs) (k : κ):(kvs.any fun kv=>decide (kv.1=k))=vs.any fun kv=>decide (kv.1=k):=by
 unfold KV at r
 induction r with
 | nil=>rfl
 | cons h t ih=>rw[YQ,YQ,ih,h.1]
theorem KV.jo {kvs:List (κ × V)} {vs:List (κ × Value)} (r:KV kvs vs) (k : κ) {y:V} {u:Value} (ry:RelV y u) :
  KV (kvs.map fun kv=>if kv.1=k then (kv.1,y) else kv) (vs.map fun kv=>if kv.1=k then (kv.1,u) else kv):=by
 unfold KV at r ⊢
 induction r with
 | nil=>exact .nil
 | @cons p q ps qs h t ih =>
  rw[WH,WH]
  refine .cons ?_ ih
  obtain⟨h1,h2⟩:=h
  by_cases e:p.1=k
  ·rw[VY e,VY (h1.symm.trans e)];exact⟨h1,ry⟩
  ·rw[MC e,MC (fun z=>e (h1.trans z))];exact⟨h1,h2⟩
theorem KV.put {kvs:List (κ × V)} {vs:List (κ × Value)} (r:KV kvs vs) (k : κ) {y:V} {u:Value} (ry:RelV y u):KV (putK kvs k y) (stored vs k u):=by
 unfold putK stored
 rw[r.any k]
 by_cases e:(vs.any fun kv=>decide (kv.1=k))=true
 ·rw[VY e,VY e];exact r.jo k ry
 ·rw[MC e,MC e];exact Paired.snoc r ⟨rfl,ry⟩
theorem KV.length {kvs:List (κ × V)} {vs:List (κ × Value)} (r:KV kvs vs):kvs.length=vs.length:=Paired.length r
end
theorem wq {P:Program} {w:World} {k:Key} {u:Value} (r:RelV (kV k) u):(iG P w).is k u=true:=by
 cases k with
 | inl i=>obtain⟨t,e⟩:=(show ∃ t,u=Value.int i t from r);subst e;exact Ks P w i t
 | inr x=>obtain⟨t,e⟩:=(show ∃ t,u=Value.str x t from r);subst e;exact Kt P w x t
theorem Fq {P:Program} {w:World}:∀ {ks:List Key} {us:List Value},Vals (ks.map kV) us->ItemsAre (iG P w) ks us
 | [],_,r=>by rw[Ye] at r;cases r;exact .nil
 | k :: ks,_,r=>by
  rw[WH] at r
  cases r with
  | cons h t=>exact .cons (wq h) (Fq t)
noncomputable abbrev KT (H:Hp):List (List Key × V)->List (List Key × Addr × Value)->Prop:=Paired fun p q=>p.1=q.1/\H q.2.1=some (.tup (p.1.map kV))/\RelV p.2 q.2.2
theorem KT.val {H:Hp} {kvs:List (List Key × V)} {xs:List (List Key × Addr × Value)} (r:KT H kvs xs) (k:List Key):ji (cq kvs k) ((atKey xs k).map (·.2)):=by
 induction r with
 | nil=>exact True.intro
 | @cons p q ps qs h t ih =>
  obtain⟨h1,_,h2⟩:=h
  by_cases e:p.1=k
  ·have e':q.1=k:=h1.symm.trans e
   have b:atKey (q :: qs) k=some q.2:=by simp[atKey,Y1,e']
   rw[t6 e,b];exact h2
  ·have e':¬ q.1=k:=fun z=>e (h1.trans z)
   have b:atKey (q :: qs) k=atKey qs k:=by simp[atKey,Y1,e']
   rw[t7 e,b];exact ih
theorem KT.jo {H:Hp} {kvs:List (List Key × V)} {xs:List (List Key × Addr × Value)} (r:KT H kvs xs) (k:List Key) {y:V} {u:Value} (ry:RelV y u) :
  KT H (kvs.map fun kv=>if kv.1=k then (kv.1,y) else kv) (xs.map (putAt k u)):=by
 induction r with
 | nil=>exact .nil
 | @cons p q ps qs h t ih =>
  rw[WH,WH]
  refine .cons ?_ ih
  obtain⟨h1,h2,h3⟩:=h
  unfold putAt
  by_cases e:p.1=k
  ·rw[VY e,VY (h1.symm.trans e)];exact⟨h1,h2,ry⟩
  ·rw[MC e,MC (fun z=>e (h1.trans z))];exact⟨h1,h2,h3⟩
theorem KT.put {H:Hp} {kvs:List (List Key × V)} {xs:List (List Key × Addr × Value)} (r:KT H kvs xs) (k:List Key) {b:Addr} {y:V} {u:Value} (hb:H b=some (.tup (k.map kV))) (ry:RelV y u) :
  KT H (putK kvs k y) (storedH xs k b u):=by
 have e:(kvs.any fun kv=>decide (kv.1=k))=(atKey xs k).isSome:=by
  rw[Ah,(r.val k).fc,Option.isSome_map]
 unfold putK storedH
 rw[e]
 by_cases q:(atKey xs k).isSome=true
 ·rw[VY q,VY q];exact r.jo k ry
 ·rw[MC q,MC q];exact Paired.snoc r ⟨rfl,hb,ry⟩
theorem KT.keeps {H H':Hp} {kvs:List (List Key × V)} {xs:List (List Key × Addr × Value)} (r:KT H kvs xs) (ht:∀ b ys,H b=some (.tup ys)->H' b=some (.tup ys)):KT H' kvs xs :=
 Paired.o_ r fun _ _ z=>⟨z.1,ht _ _ z.2.1,z.2.2⟩
section
variable {P:Program} {w:World} {H:Hp} {h:Heap} {a:Addr}
theorem Fs {u:HO} (ok:d9 P w H h) (e:Rd H a u):aI P w H h a u:=e.ok ok
theorem Ft {kvs:List (Key × V)} (ok:d9 P w H h) (e:Rd H a (.dK kvs)):kvs.length <= sizeLine/\(a == sysModules)=false/\∃ vs,KV kvs vs/\h.DictOf (iG P w) a vs :=
 show aI P w H h a (.dK kvs) from Fs ok e
theorem wt {kvs:List (Key × V)} (ok:d9 P w H h) (e:H a=some (.dK kvs)):kvs.length <= sizeLine/\(a == sysModules)=false/\∃ vs,KV kvs vs/\h.DictOf (iG P w) a vs:=Ft ok (.inl e)
theorem Aj {ks:List Key} (ok:d9 P w H h) (e:H a=some (.tup (ks.map kV))):(tupleKind (iG P w)).is h ks a:=by
 obtain⟨_,ak,r,o,h1,h2,n,h3⟩:=(show aI P w H h a (.tup (ks.map kV)) from ok a _ e)
 exact⟨o,ak.toArray,n,h1,h2,h3,by simpa using Fq r⟩
theorem Fu {kvs:List (List Key × V)} (ok:d9 P w H h) (e:Rd H a (.dT kvs)):kvs.length <= sizeLine/\(a == sysModules)=false ∧
  ∃ xs,KT H kvs xs/\h.DictOfH (tupleKind (iG P w)) a xs:=by
 obtain⟨z,y,xs,r,o,es,ep,h1,h2,h3,h4,h5⟩:=(show aI P w H h a (.dT kvs) from Fs ok e)
 refine⟨z,y,xs,r,o,es,ep,h1,h2,h3,h4,fun x hx => ?_,h5⟩
 have all:∀ {l:List (List Key × V)} {m:List (List Key × Addr × Value)},KT H l m->∀ x∈m,(tupleKind (iG P w)).is h x.1 x.2.1:=by
  intro l m q
  induction q with
  | nil=>intro x hx;exact nomatch hx
  | @cons p q ps qs hq t ih =>
   intro x hx
   rcases MA.mp hx with e | hx
   ·subst e
    exact Aj ok (by rw[<-hq.1];exact hq.2.1)
   ·exact ih x hx
 exact all r x hx
theorem M_ {kvs:List (List Key × V)} (ok:d9 P w H h) (e:H a=some (.dT kvs)):kvs.length <= sizeLine/\(a == sysModules)=false ∧
  ∃ xs,KT H kvs xs/\h.DictOfH (tupleKind (iG P w)) a xs:=Fu ok (.inl e)
end
noncomputable def jY (H:Hp) (a:Addr) (y:V) (r:Option V):Prop :=
 (∃ kvs k,Rd H a (.dK kvs)/\y=kV k/\r=cq kvs k)\/∃ kvs k b,Rd H a (.dT kvs)/\y = .ref b/\H b=some (.tup (k.map kV))/\r=cq kvs k
noncomputable def k8 (H:Hp) (a:Addr) (y v:V) (H':Hp):Prop :=
 (∃ kvs k,H a=some (.dK kvs)/\y=kV k/\kvs.length < sizeLine/\H'=upd H a (.dK (putK kvs k v))) ∨
 ∃ kvs k b,H a=some (.dT kvs)/\y = .ref b/\H b=some (.tup (k.map kV))/\kvs.length < sizeLine/\H'=upd H a (.dT (putK kvs k v))
theorem jY.k {H:Hp} {a:Addr} {kvs:List (Key × V)} {k:Key} (e:H a=some (.dK kvs)):jY H a (kV k) (cq kvs k) := .inl ⟨kvs,k,.inl e,rfl,rfl⟩
theorem k8.k {H:Hp} {a:Addr} {kvs:List (Key × V)} {k:Key} {v:V} (e:H a=some (.dK kvs)) (hl:kvs.length < sizeLine):k8 H a (kV k) v (upd H a (.dK (putK kvs k v))) := .inl ⟨kvs,k,e,rfl,hl,rfl⟩
section
variable {X:Cx} {pins:List (Addr × Obj)} {σ : St} {H:Hp} {s:Shared} {a:Addr} {y v:V} {u r:Value} {o:Option V} {A:Around} {E:Value->Shared->Prop}
theorem Inv.big (I:Inv X pins σ H s):sysModules < s.heap.objs.size:=by
 have h:mainGlobals < s.heap.objs.size:=(I.mod.glob.keeps I.bk).lt
 exact q0G (by decide) h
theorem Ak {Q:Value->Shared->Prop} (hu:A.units + 1 < cLine) (I:Inv X pins σ H s) (g:jY H a y o) (ry:RelV y u) (h:∀ s',Inv X pins σ H s'->Q (.bool o.isSome) s') :
  wpAny (model X.prog X.w) A (compareOp .In u (.ref a)) Q E s:=by
 rcases g with⟨kvs,k,e,ey,l⟩ | ⟨kvs,k,b,e,ey,eb,l⟩
 ·subst ey
  obtain⟨z,hd,vs,rel,dd⟩:=Ft I.aM e
  refine wpAny_in_of (wq ry) hd dd.mapOf ?_
  rw[<-(rel.val k).fc,<-l]
  exact h _ (I.tok _)
 ·subst ey
  cases (show u=Value.ref b from ry)
  obtain⟨z,hd,xs,rel,dd⟩:=Fu I.aM e
  refine wpAny_in_heap (tupleKind_room_in1 hu) (Aj I.aM eb) hd dd ?_
  have q:=(rel.val k).fc
  rw[Option.isSome_map] at q
  rw[<-q,<-l]
  exact h _ (I.tok _)
theorem Al {h':Heap} {t':Nat} {ob:HO} (I:Inv X pins σ H s) (mu:sP (H a)) (hs:Heap.SameBut a s.heap h') (he:∃ q,h'.get? a=some q) (new:aI X.prog X.w (upd H a ob) h' a ob) :
  Inv X pins σ (upd H a ob) { s with heap:=h',toks:=t' } :=
 I.write (x:=a) (e:=a) mu (.inl rfl) (fun b q hb z=>(hs.2 b hb).trans z) he new
theorem Fv {P:Program} {w:World} {H':Hp} {h':Heap} {kvs:List (Key × V)} {vs:List (Key × Value)} (z:kvs.length <= sizeLine) (hd:(a == sysModules)=false) (rel:KV kvs vs) (dd:h'.DictOf (iG P w) a vs) :
  aI P w H' h' a (.dK kvs):=⟨z,hd,vs,rel,dd⟩
theorem Na {H':Hp} {Q:Unit->Shared->Prop} (hu:A.units + 1 < cLine) (I:Inv X pins σ H s) (g:k8 H a y v H') (ry:RelV y u) (rv:RelV v r) (h:∀ s',Inv X pins σ H' s'->Q () s') :
  wpAny (model X.prog X.w) A (setItem (.ref a) u r) Q E s:=by
 rcases g with⟨kvs,k,e,ey,l,eH⟩ | ⟨kvs,k,b,e,ey,eb,l,eH⟩
 ·subst ey eH
  obtain⟨z,hd,vs,rel,dd⟩:=wt I.aM e
  have hz:vs.length <= sizeLine:=by rw[<-rel.length];exact z
  have hl:(putK kvs k v).length <= sizeLine:=by have:=Ai kvs k v;omega
  refine wpAny_setItem_pairs (hsz:=hz) (wq ry) dd fun h' pX hs=>h _ ?_
  have he:∃ q,h'.get? a=some q:=let ⟨q,_,_,hq,_⟩:=pX; ⟨q,hq⟩
  exact Al I (by rw[e];exact True.intro) hs he (Fv hl hd (rel.put k rv) pX)
 ·subst ey eH
  cases (show u=Value.ref b from ry)
  obtain⟨z,hd,xs,rel,dd⟩:=M_ I.aM e
  have hz:xs.length <= sizeLine:=by rw[<-Paired.length rel];exact z
  have hl:(putK kvs k v).length <= sizeLine:=by have:=Ai kvs k v;omega
  refine wpAny_setItem_heap (hsz:=hz) (tupleKind_room_in1 hu) (Aj I.aM eb) dd fun h' pX hs=>h _ ?_
  obtain⟨q,es,ep,hq,h2,h3,h4,_,h5⟩:=pX
  refine Al I (by rw[e];exact True.intro) hs ⟨q,hq⟩ ⟨hl,hd,_,(rel.put k eb rv).keeps fun c ys ec => ?_,q,es,ep,hq,h2,h3,h4,h5⟩
  rw[aQ (Ku ec e (fun z=>nomatch z))]
  exact ec
end
section
variable {X:Cx} {pins:List (Addr × Obj)} {σ : St} {H:Hp} {s:Shared} {a:Addr} {kvs:List (Key × V)} {k:Key} {u:Value} {A:Around} {E:Value->Shared->Prop}
end
noncomputable def pY (ty td:TE):TE:=fun σ H Q=>ty σ H fun y H1=>td σ H1 fun x H2=>∃ a o,x = .ref a/\jY H2 a y o/\Q (.bl o.isSome) H2
noncomputable def Fw (td ty tv:TE):TS:=fun D σ H=>tv σ H fun v H1=>td σ H1 fun x H2=>ty σ H2 fun y H3=>∃ a H4,x = .ref a/\k8 H3 a y v H4/\D.nx σ H4
section
variable {X:Cx} {o i e value:Expr} {pos pos' zu:Pos} {td ty tv:TE}
theorem Nc (hu:X.A.units + 1 < cLine) (hi:PE X i ty) (ho:PE X o td):PC X .In i o (pY ty td):=by
 intro pins s σ H Q I h
 refine bg (hi pins s σ H _ I h) fun iv s1 h0_ => el5 h0_ fun y H1 I1 ry q1 =>bg (ho pins s1 σ H1 _ I1 q1) fun u s2 ⟨x,H2,I2,rx,a,ov,ex,g,q2⟩ => ?_
 subst ex
 obtain rfl:u=Value.ref a:=rx
 exact Ak hu I2 g ry fun s3 I3=>⟨.bl ov.isSome,H2,I3,rfl,q2⟩
theorem Nd (hu:X.A.units + 1 < cLine) (ho:PE X o td) (hi:PE X i ty) (hv:PE X value tv) (hs:swapsWith value (some (.Subscript o i pos')) pos.line X.env=pure false) :
  PS X (.Assign [.Subscript o i pos'] value pos) (Fw td ty tv):=by
 intro pins s σ H D I h
 refine wpAny_Assign_Subscript (bg (hv pins s σ H _ I h) fun r s1 h0_ => el5 h0_ fun v H1 I1 rv q1 =>bg (ho pins s1 σ H1 _ I1 q1) fun u s2 h0_ => el5 h0_ fun x H2 I2 rx q2 =>bg (hi pins s2 σ H2 _ I2 q2) fun iv s3 ⟨y,H3,I3,ry,a,H4,ex,g,q3⟩ => ?_) hs
 subst ex
 obtain rfl:u=Value.ref a:=rx
 exact Na hu I3 g ry rv fun s4 I4=>⟨σ,H4,I4,q3⟩
end
theorem Nf {P:Program} {w:World} {H:Hp} (h:Heap) (hb:sysModules < h.objs.size):aI P w H (h.push { cls := .type "dict",data := .dict #[] }) h.objs.size (.dK []) :=
 ⟨Xn _,beq_eq_false_iff_ne.mpr (Yd (VZ hb)),[],.nil,Heap.DictOf.new h⟩
noncomputable def Am:TE:=fun _ H Q=>∀ p,H p=none->Q (.ref p) (upd H p (.dK []))
section
variable {X:Cx} {pos:Pos}
theorem Ng:PE X (.Dict [] [] pos) Am:=fun pins s σ H Q I h =>
 wpAny_Dict_empty ⟨.ref s.heap.objs.size,_,I.laid (a:=s.heap.objs.size) (o := .dK []) (t':=s.toks) (fun _ _ q=>tP _ q) (we _) (Nf s.heap I.big),rfl,h _ (I.aM.fresh (we _))⟩
end
section
variable {X:Cx} {pins:List (Addr × Obj)} {σ : St} {H:Hp} {s:Shared} {a:Addr} {y d:V} {u r:Value} {o:Option V} {A:Around} {E:Value->Shared->Prop}
end
section
variable {X:Cx} {o e f:Expr} {apos cP:Pos} {td ty tx:TE}
end
section
variable {X:Cx} {pins:List (Addr × Obj)} {σ : St} {H:Hp} {s:Shared} {a:Addr} {kvs:List (Key × V)} {A:Around} {E:Value->Shared->Prop}
end
section
variable {X:Cx} {pins:List (Addr × Obj)} {σ : St} {H:Hp} {s:Shared} {a:Addr} {y:V} {u:Value} {A:Around} {E:Value->Shared->Prop}
end
end L2
namespace L2
section
variable {κ : Type} [DecidableEq κ]
end
end L2
namespace L2
open PySem PySem.Spec PyProof.Rows
structure JE (X:Cx) (e:Expr) (t:TE):Prop where
 out:PE X e t
structure JT (X:Cx) (e:Expr) (t:TT):Prop where
 out:PT X e t
structure JW (X:Cx) (e:Expr) (t:TT):Prop where
 out:PW X e t
structure JA (X:Cx) (es:List Expr) (t:TA):Prop where
 out:PA X es t
structure JS (X:Cx) (st:Stmt) (t:TS):Prop where
 out:PS X st t
structure gK (X:Cx) (st:List Stmt) (t:TS):Prop where
 out:iI X st t
structure JF (X:Cx) (ifs:List Expr) (t:TT):Prop where
 out:PF X ifs t
structure JG (X:Cx) (tg:Expr) (t:TG):Prop where
 out:PG X tg t
structure kz (X:Cx) (ts:List Expr) (t:jE):Prop where
 out:sW X ts t
structure JI (X:Cx) (tg iter:Expr) (wi:TI):Prop where
 out:PI X tg iter wi
structure JC (X:Cx) (op:CmpOp) (a b:Expr) (t:TE):Prop where
 out:PC X op a b t
theorem JE.weak {X:Cx} {e:Expr} {t t':TE} (h:JE X e t) (k:∀ σ H Q,t' σ H Q->t σ H Q):JE X e t':=⟨PE.weak h.out k⟩
theorem JT.weak {X:Cx} {e:Expr} {t t':TT} (h:JT X e t) (k:∀ σ H Q,t' σ H Q->t σ H Q):JT X e t':=⟨PT.weak h.out k⟩
theorem JA.weak {X:Cx} {es:List Expr} {t t':TA} (h:JA X es t) (k:∀ σ H Q,t' σ H Q->t σ H Q):JA X es t':=⟨PA.weak h.out k⟩
theorem JS.weak {X:Cx} {st:Stmt} {t t':TS} (h:JS X st t) (k:∀ D σ H,t' D σ H->t D σ H):JS X st t':=⟨PS.weak h.out k⟩
theorem gK.weak {X:Cx} {st:List Stmt} {t t':TS} (h:gK X st t) (k:∀ D σ H,t' D σ H->t D σ H):gK X st t':=⟨iI.weak h.out k⟩
theorem JW.jt {X:Cx} {e:Expr} {t:TT} (h:JW X e t):JT X e t:=⟨PW.pt h.out⟩
theorem Nh {X:Cx} {i:Nat} {x:Str} {pos:Pos} (hN:X.N[i]? = some x) (hv:pd X.env.scope x) (hd:(x == ("__debug__" : Str))=false:=by decide) (gc:(x == ("__classdict__" : Str))=false:=by decide):JE X (.Name x pos) (gG i):=⟨L2.Ea hN hv hd gc⟩
theorem dB {X:Cx} {i j pos}:JE X (.Constant (.int i) j pos) (tC (.int i)):=⟨L2.KC⟩
theorem Ni {X:Cx} {b j pos}:JE X (.Constant (.bool b) j pos) (tC (.bl b)):=⟨L2.KD⟩
theorem Nj {X:Cx} {x:Str} {v:V} {u:Value} {pos:Pos} (hg:Gl X x) (hm:X.mg x=some u) (r:RelV v u) (hd:(x == ("__debug__" : Str))=false:=by decide):JE X (.Name x pos) (tC v):=⟨L2.KG hg hm r hd⟩
theorem Nk {X:Cx} {x:Str} {v:V} {u:Value} {pos:Pos} (hg:Gl X x) (hm:X.mg x=none) (hv:bootBuiltins x=some u) (r:RelV v u) (hn:x ≠ "__name__" := by decide) (hd:(x == ("__debug__" : Str))=false:=by decide):JE X (.Name x pos) (tC v):=⟨L2.KH hg hm hv r hn hd⟩
theorem Nl {X:Cx} {a b:Expr} {pos:Pos} {op:CmpOp} {t:TE} (h:JC X op a b t) (h1:behindInMarks op b=false:=by first | exact KJ _ (by decide) (by decide) | rfl):JT X (.Compare a [op] [b] pos) (tB t):=⟨L2.KI h.out h1⟩
theorem Nm {X:Cx} {e:Expr} {t:TE} (h:JE X e t) (he:∀ whole,isTrue e X.env whole=(do let v <- whole;standAt e.pos;holding [v] (truthy v)):=by intro _;rfl):JT X e (tB t):=⟨L2.KN h.out he⟩
theorem Nn {X:Cx} {a:Expr} {pos:Pos} {tA:TT} (ha:JT X a tA):JW X (.BoolOp .And [a] pos) tA:=⟨L2.KO ha.out⟩
theorem Np {X:Cx} {a:Expr} {pos:Pos} {tA:TT} (ha:JT X a tA):JW X (.BoolOp .Or [a] pos) tA:=⟨L2.KP ha.out⟩
theorem Nq {X:Cx} {a b:Expr} {pos:Pos} {tA lU:TT} {rest:List Expr} (ha:JT X a tA) (hb:JW X (.BoolOp .And (b :: rest) pos) lU):JW X (.BoolOp .And (a :: b :: rest) pos) (ph tA lU):=⟨L2.KQ ha.out hb.out⟩
theorem Nr {X:Cx} {a b:Expr} {pos:Pos} {tA lU:TT} {rest:List Expr} (ha:JT X a tA) (hb:JW X (.BoolOp .Or (b :: rest) pos) lU):JW X (.BoolOp .Or (a :: b :: rest) pos) (zf tA lU):=⟨L2.KR ha.out hb.out⟩
theorem Nt {X:Cx} {a:Expr} {pos:Pos} {tA:TT} (ha:JT X a tA):JT X (.UnaryOp .Not a pos) (sU tA):=⟨L2.KU ha.out⟩
theorem Nu {X:Cx} {a:Expr} {pos:Pos} {op} {t:TE} (h:JE X a t):JE X (.BoolOp op [a] pos) t:=⟨L2.KW h.out⟩
theorem Nv {X:Cx} {a b:Expr} {ta tb:TE} {pos:Pos} {rest:List Expr} (ha:JE X a ta) (hb:JE X (.BoolOp .And (b :: rest) pos) tb):JE X (.BoolOp .And (a :: b :: rest) pos) (Ec ta tb):=⟨L2.KY ha.out hb.out⟩
theorem Nx {X:Cx} {a:Expr} {ta:TE} {pos:Pos} (ha:JE X a ta):JE X (.UnaryOp .Not a pos) (Ed ta):=⟨L2.KZ ha.out⟩
theorem Ny {X:Cx} {a b:Expr} {ta tb:TE} {pos:Pos} {tA:TT} {c:Expr} (hc:JT X c tA) (ha:JE X a ta) (hb:JE X b tb):JE X (.IfExp c a b pos) (Ee tA ta tb):=⟨L2.K1 hc.out ha.out hb.out⟩
theorem mN {X:Cx}  : gK X [] Ef:=⟨L2.K4⟩
theorem pZ {X:Cx} {st:Stmt} {rest:List Stmt} {t u:TS} (h1:JS X st t) (h2:gK X rest u):gK X (st :: rest) (kW t u):=⟨L2.K5 h1.out h2.out⟩
theorem t8 {X:Cx} {st:Stmt} {t:TS} (h1:JS X st t):gK X [st] t:=⟨L2.K6 h1.out⟩
theorem Fx {X:Cx} {e:Expr} {te:TE} {pos:Pos} (he:JE X e te) (hs:swapsWith e none pos.line X.env=pure false:=by rfl):JS X (.Expr e pos) (zh te):=⟨L2.K7 he.out hs⟩
theorem An {X:Cx} {e:Expr} {te:TE} {pos:Pos} (he:JE X e te):JS X (.Return (some e) pos) (px te):=⟨L2.K8 he.out⟩
theorem Nz {X:Cx} {t u:TS} {pos:Pos} {c:Expr} {a b:List Stmt} {tc:TT} (hc:JT X c tc) (ha:gK X a t) (hb:gK X b u):JS X (.If c a b pos) (sV tc t u):=⟨L2.K9 hc.out ha.out hb.out⟩
theorem t9 {X:Cx} {pos:Pos} {i:Nat} {x:Str} (hN:X.N.Nodup) (hi:X.N[i]? = some x) (hx:Loc X.env.scope x) (hf:X.fn x=true\/X.env.scope.names.lookup x=some .local:=by first | exact .inl rfl | exact .inr rfl | assumption):JG X (.Name x pos) (lV i):=⟨L2.K_ hN hi hx hf⟩
theorem ic {X:Cx}  : kz X [] pB:=⟨L2.La⟩
theorem t_ {X:Cx} {e:Expr} {es:List Expr} {t:TG} {u:jE} (h1:JG X e t) (h2:kz X es u) (hs:(assignEach (e :: es) X.env).map (·.2)=assign e X.env :: (assignEach es X.env).map (·.2):=by rfl):kz X (e :: es) (v3 t u):=⟨L2.Lb h1.out h2.out hs⟩
theorem Ao {X:Cx} {pos:Pos} {es:List Expr} {k:Nat} {t:jE} {n:Nat} (hc:X.calm=true) (h:kz X es t) (hn:(assignEach es X.env).length=n:=by rfl) (kX:(assignEach es X.env).findIdx? (·.1)=none:=by rfl):JG X (.Tuple es k pos) (pC X.K n t):=⟨L2.Lc hc h.out hn kX⟩
theorem ua {X:Cx} {pos:Pos} {o i:Expr} {to ti:TE} {t:my} (ho:JE X o to) (hi:JE X i ti) (hs:pA X t) (ha:∀ v,assign (.Subscript o i pos) X.env v=(do
   let ov <- holding [v] (eval o X.env)
   let iv <- holding [v,ov] (eval i X.env)
   standAt pos
   holding [v,ov,iv] (setItem ov iv v)
   release [v,ov,iv] []):=by intro _;rfl):JG X (.Subscript o i pos) (pD to ti t):=⟨L2.Ld ho.out hi.out hs ha⟩
theorem rK {X:Cx} {pos:Pos} {tg e:Expr} {te:TE} {g:TG} (he:JE X e te) (hg:JG X tg g) (hs:swapsWithSole [tg] e pos.line X.env=pure false:=by rfl) (hw:swappedStores [tg] e X.env=pure none:=by rfl) (h1:(assignEach [tg] X.env).map (·.2)=[assign tg X.env]:=by rfl):JS X (.Assign [tg] e pos) (h8 te g):=⟨L2.Le he.out hg.out hs hw h1⟩
theorem wu {X:Cx} {pos:Pos} {i:Nat} {x:Str} {e:Expr} {te:TE} {pos':Pos} (hN:X.N.Nodup) (hi:X.N[i]? = some x) (hx:Loc X.env.scope x) (he:JE X e te) (hs:swapsWith e (some (.Name x pos')) pos.line X.env=pure false:=by rfl) (hf:X.fn x=true\/X.env.scope.names.lookup x=some .local:=by first | exact .inl rfl | exact .inr rfl | assumption):JS X (.Assign [.Name x pos'] e pos) (h8 te (lV i)):=⟨L2.Lf hN hi hx he.out hs hf⟩
theorem NA {X:Cx} {tg:Expr} {a:Expr} {ta:TA} {p pos:Pos} (hg:Gl X "range") (hm:X.mg "range" = none) (ha:JA X [a] ta) (hs:starEach [a] X.env=[(false,eval a X.env)]:=by rfl):JI X tg (.Call (.Name "range" p) [a] [] pos) (Ek ta):=⟨L2.Lj hg hm ha.out hs⟩
theorem NB {X:Cx} {tg:Expr} {a b:Expr} {ta:TA} {p pos:Pos} (hg:Gl X "range") (hm:X.mg "range" = none) (ha:JA X [a,b] ta) (hs:starEach [a,b] X.env=[(false,eval a X.env),(false,eval b X.env)]:=by rfl) (jF:starEach [b] X.env=[(false,eval b X.env)]:=by rfl):JI X tg (.Call (.Name "range" p) [a,b] [] pos) (El ta):=⟨L2.Lk hg hm ha.out hs jF⟩
theorem Ap {X:Cx} {tg:Expr} {iter:Expr} {body:List Stmt} {wi:TI} {g:TG} {tb:TS} {pos:Pos} (hp:PassesOwn (model X.prog X.w) X.A X.env X.xe) (hc:X.calm=true) (hi:JI X tg iter wi) (hg:JG X tg g) (hb:gK X body tb) (hs:∀ x,foldedSetIterable iter X.env x=pure x:=by intro _;rfl):JS X (.For tg iter body [] pos) (pE wi g tb):=⟨L2.Lm hp hc hi.out hg.out hb.out hs⟩
theorem ub {X:Cx} {a b:Expr} {ta tb:TE} {pos:Pos} {op:Operator} {r:R2} (ho:dW X (binaryOp op) r) (ha:JE X a ta) (hb:JE X b tb):JE X (.BinOp a op b pos) (mz r ta tb):=⟨L2.Ln ho ha.out hb.out⟩
theorem NC {X:Cx} {a:Expr} {ta:TE} {pos:Pos} {op:UnaryOp} {r:V->Hp->VK->Prop} (ho:v7 X (unaryOp op) r) (ha:JE X a ta):JE X (.UnaryOp op a pos) (Em r ta):=⟨L2.Lo ho ha.out⟩
theorem ND {X:Cx} {a b:Expr} {ta tb:TE} {pos:Pos} {op:CmpOp} {r:R2} (ho:dW X (compareOp op) r) (ha:JE X a ta) (hb:JE X b tb) (hm:behindInMarks op b=false):JE X (.Compare a [op] [b] pos) (mz r ta tb):=⟨L2.LB ho ha.out hb.out hm⟩
theorem NF {X:Cx} {a b:Expr} {ta tb:TE} {pos:Pos} {op:CmpOp} {r:R2} (ho:dW X (compareOp op) r) (ha:JE X a ta) (hb:JE X b tb) (hm:behindInMarks op b=false):JT X (.Compare a [op] [b] pos) (Eo (mz r ta tb)):=⟨L2.LC ho ha.out hb.out hm⟩
theorem NG {X:Cx} {a b c:Expr} {ta tb tc:TE} {pos:Pos} {op kY:CmpOp} {r r':R2} (ho:dW X (compareOp op) r) (jQ:dW X (compareOp kY) r') (ha:JE X a ta) (hb:JE X b tb) (hc:JE X c tc) (hm:lastMarks [op,kY] [b,c]=false:=by with_unfolding_all rfl):JE X (.Compare a [op,kY] [b,c] pos) (Ep r r' ta tb tc):=⟨L2.LF ho jQ ha.out hb.out hc.out hm⟩
theorem bp {X:Cx}  : JA X [] iL:=⟨L2.LO⟩
theorem p8 {X:Cx} {e:Expr} {es:List Expr} {te:TE} {t:TA} (ha:JE X e te) (hr:JA X es t) (hs:starEach (e :: es) X.env=(false,eval e X.env) :: starEach es X.env:=by rfl):JA X (e :: es) (gv te t):=⟨L2.pI ha.out hr.out hs⟩
theorem NH {X:Cx} {es:List Expr} {t:TA} {pos:Pos} {x1} (h:JA X es t):JE X (.Tuple es x1 pos) (tE t):=⟨L2.LP h.out⟩
theorem wx {X:Cx} {es:List Expr} {t:TA} {pos:Pos} (h:JA X es t):JE X (.List es pos) (pJ t):=⟨L2.LQ h.out⟩
theorem wy {X:Cx} {CX:jR} {k:Nat} {f:Addr} {fd:FuncData} {ps:List Str} {sp:Sp} {kZ:List V} {ds:List Value} {E:XK} {x:Str} {p pos:Pos} {e:Expr} {es:List Expr} {t:TA} (F:aY X.prog X.w X.K X.mg X.base CX k f fd ps sp) (hr:bz k X.A) (hg:Gl X x) (hm:X.mg x=some (.ref f)) (hk:PySem.W.keepIn X.K (.ref f)=true) (hb:Binds X.K fd ps ds) (hd:Vals kZ ds) (hx:v9 CX X E) (ha:JA X (e :: es) t) (gI:(x == ("__debug__" : Str))=false:=by decide) (he:starEach (e :: es) X.env=(false,eval e X.env) :: starEach es X.env:=by rfl) (gw:(backTo pos (starEach es X.env)).any (·.1)=false:=by rfl):JE X (.Call (.Name x p) (e :: es) [] pos) (tG sp kZ E t):=⟨L2.LS F hr hg hm hk hb hd hx ha.out gI he gw⟩
theorem uc {X:Cx} {x:Str} {p pos:Pos} {e:Expr} {es:List Expr} {t:TA} {id:String} {r:List V->Hp->VK->Prop} (hc:fV X (.builtin id) r) (hg:Gl X x) (hm:X.mg x=none) (hv:bootBuiltins x=some (.builtin id)) (ha:JA X (e :: es) t) (hn:x ≠ "__name__" := by decide) (gI:(x == ("__debug__" : Str))=false:=by decide) (he:starEach (e :: es) X.env=(false,eval e X.env) :: starEach es X.env:=by rfl) (gw:(backTo pos (starEach es X.env)).any (·.1)=false:=by rfl):JE X (.Call (.Name x p) (e :: es) [] pos) (pL r t):=⟨L2.LV hc hg hm hv ha.out hn gI he gw⟩
theorem lZ {X:Cx} {x:Str} {p pos:Pos} {e:Expr} {es:List Expr} {t:TA} {T:String} {r:List V->Hp->VK->Prop} (hc:fV X (.type T) r) (hg:Gl X x) (hm:X.mg x=none) (hv:bootBuiltins x=some (.type T)) (ha:JA X (e :: es) t) (hn:x ≠ "__name__" := by decide) (gI:(x == ("__debug__" : Str))=false:=by decide) (he:starEach (e :: es) X.env=(false,eval e X.env) :: starEach es X.env:=by rfl) (gw:(backTo pos (starEach es X.env)).any (·.1)=false:=by rfl):JE X (.Call (.Name x p) (e :: es) [] pos) (pL r t):=⟨L2.LW hc hg hm hv ha.out hn gI he gw⟩
theorem Aq {X:Cx} {e:Expr} {te:TE} {lo hi:Option Expr} {tl th:TO} {pos p2:Pos} {r:V->Option Int->Option Int->Hp->VK->Prop} (hr:mI X r) (he:JE X e te) (hl:PO X lo tl) (hu:PO X hi th):JE X (.Subscript e (.Slice lo hi none p2) pos) (EJ r te tl th):=⟨L2.Md hr he.out hl hu⟩
theorem Fy {X:Cx} {a b:Expr} {ta tb:TE} {pos:Pos} {r:R2} (hr:rE X r) (ha:JE X a ta) (hb:JE X b tb) (hs:zD b):JE X (.Subscript a b pos) (mz r ta tb):=⟨L2.Mi hr ha.out hb.out hs⟩
theorem NI {X:Cx} {o:Expr} {to:TE} {name:Str} {apos cP:Pos} {T id:String} {r:V->List V->Hp->VK->Prop} (pa:PlainAttrs T) (slot:Slot T name id) (pP:typeOf (.builtin id)=pure (.type "method_descriptor")) (hm:tM X id r) (ho:JE X o to) (gf:attributeBase o name X.env (eval o X.env)=eval o X.env:=by rfl) (gg:(apos.endLine == cP.line)=true:=by rfl):JE X (.Call (.Attribute o name apos) [] [] cP) (pO X.K T r to):=⟨L2.Mr pa slot pP hm ho.out gf gg⟩
theorem jZ {X:Cx} {o e:Expr} {es:List Expr} {to:TE} {t:TA} {name:Str} {apos cP:Pos} {T id:String} {r:V->List V->Hp->VK->Prop} (pa:PlainAttrs T) (slot:Slot T name id) (pP:typeOf (.builtin id)=pure (.type "method_descriptor")) (hm:tM X id r) (ho:JE X o to) (ha:JA X (e :: es) t) (gf:attributeBase o name X.env (eval o X.env)=eval o X.env:=by rfl) (pQ:((backTo cP (starEach (e :: es) X.env)).all (fun x => !x.1) && (backToKw cP (keywordEach [] X.env)).all (fun x=>x.1.isSome)
   && decide ((e :: es).length + ([]:List Keyword).length + (if ([]:List Keyword).isEmpty then 0 else 1) < 30))=true:=by rfl) (gg:(apos.endLine == cP.line)=true:=by rfl) (hs:starEach (e :: es) X.env=(false,eval e X.env) :: starEach es X.env:=by rfl) (hplain:(backTo cP (starEach es X.env)).any (·.1)=false:=by rfl):JE X (.Call (.Attribute o name apos) (e :: es) [] cP) (mJ X.K T r to t):=⟨L2.Ms pa slot pP hm ho.out ha.out gf pQ gg hs hplain⟩
theorem jv {X:Cx} (i:Nat) {x:Str} {pos:Pos} (hN:X.N[i]? = some x:=by rfl) (hv:pd X.env.scope x:=by first | exact Or.inl rfl | exact Or.inr (Or.inl rfl) | exact Or.inr (Or.inr rfl)) (hd:(x == ("__debug__" : Str))=false:=by decide) (gc:(x == ("__classdict__" : Str))=false:=by decide):JE X (.Name x pos) (gG i):=⟨L2.pv i hN hv hd gc⟩
theorem NJ {X:Cx} {o i:Expr} {td ty:TE} (hu:X.A.units + 1 < cLine) (hi:JE X i ty) (ho:JE X o td):JC X .In i o (pY ty td):=⟨L2.Nc hu hi.out ho.out⟩
theorem NK {X:Cx} {o i value:Expr} {pos pos':Pos} {td ty tv:TE} (hu:X.A.units + 1 < cLine) (ho:JE X o td) (hi:JE X i ty) (hv:JE X value tv) (hs:swapsWith value (some (.Subscript o i pos')) pos.line X.env=pure false):JS X (.Assign [.Subscript o i pos'] value pos) (Fw td ty tv):=⟨L2.Nd hu ho.out hi.out hv.out hs⟩
theorem iP {X:Cx} {pos:Pos}  : JE X (.Dict [] [] pos) Am:=⟨L2.Ng⟩
theorem p9 {X:Cx}:JF X [] tU:=⟨L2.MF⟩
theorem NL {X:Cx} {c:Expr} {t:TT} (h:JT X c t):JF X [c] t:=⟨L2.MG h.out⟩
theorem FA {X:Cx} {elt tg iter:Expr} {ifs:List Expr} {scope:Scope} {pos:Pos} {wi:TI} {g:BD->TG} {tf:BD->TT} {te:BD->TE} (cp:List (Option Nat)) (Nb:List Str) (hc:X.calm=true) (hi:JI X tg iter wi) (hg:∀ d,JG (cQ X scope Nb d) tg (g d)) (hf:∀ d,JF (cQ X scope Nb d) ifs (tf d)) (he:∀ d,JE (cQ X scope Nb d) elt (te d)) (hk:scope.kind = .function:=by rfl) (ho:lY X.N X.env.scope scope Nb cp=true:=by first | rfl | kernel_rfl) (hs:∀ x,foldedSetIterable iter X.env x=pure x:=by intro _;rfl):JE X (.ListComp elt [⟨tg,iter,ifs,0⟩] scope pos) (pW wi cp g tf te):=⟨L2.MW cp Nb hc hi.out (fun dd=>(hg dd).out) (fun dd=>(hf dd).out) (fun dd=>(he dd).out) hk ho hs⟩
theorem NM {X:Cx} {elt tg iter:Expr} {ifs:List Expr} {scope:Scope} {pos:Pos} {wi:TI} {g:BD->TG} {tf:BD->TT} {te:BD->TE} (cp:List (Option Nat)) (Nb:List Str) {i:Nat} {x:Str} {pos' iN:Pos} (hN:X.N.Nodup) (hi:X.N[i]? = some x) (hx:Loc X.env.scope x) (hc:X.calm=true) (hit:JI X tg iter wi) (hg:∀ d,JG (cQ X scope Nb d) tg (g d)) (hf:∀ d,JF (cQ X scope Nb d) ifs (tf d)) (he:∀ d,JE (cQ X scope Nb d) elt (te d)) (hk:scope.kind = .function:=by rfl) (ho:lY X.N X.env.scope scope Nb cp=true:=by first | rfl | kernel_rfl) (hs:∀ x,foldedSetIterable iter X.env x=pure x:=by intro _;rfl) (tY:swapsWith (.ListComp elt [⟨tg,iter,ifs,0⟩] scope pos) (some (.Name x pos')) iN.line X.env=pure true:=by rfl) (mn:X.fn x=true\/X.env.scope.names.lookup x=some .local:=by first | exact .inl rfl | exact .inr rfl | assumption):JS X (.Assign [.Name x pos'] (.ListComp elt [⟨tg,iter,ifs,0⟩] scope pos) iN) (h8 (pW wi cp g tf te) (lV i)):=⟨L2.MX cp Nb hN hi hx hc hit.out (fun dd=>(hg dd).out) (fun dd=>(hf dd).out) (fun dd=>(he dd).out) hk ho hs tY mn⟩
theorem FC {X:Cx} {elts:List Expr} {x1:Nat} {tp:Pos} {a:Expr} {ta:TA} {p pos:Pos} (hg:Gl X "enumerate") (hm:X.mg "enumerate" = none) (ha:JA X [a] ta) (hs:starEach [a] X.env=[(false,eval a X.env)]:=by rfl):JI X (.Tuple elts x1 tp) (.Call (.Name "enumerate" p) [a] [] pos) (zZ X.K ta):=⟨L2.MZ hg hm ha.out hs⟩
theorem Ar {X:Cx} {es:List Expr} {te:TE} {t:TA} {c j p} (ha:JE X (.Constant c j p) te) (hr:JA X es t):JA X (.Constant c j p :: es) (gv te t):=⟨L2.Aa ha.out hr.out⟩
theorem jq {X:Cx} {es:List Expr} {te:TE} {t:TA} {x p} (ha:JE X (.Name x p) te) (hr:JA X es t):JA X (.Name x p :: es) (gv te t):=⟨L2.Ab ha.out hr.out⟩
theorem iQ {X:Cx} {es:List Expr} {te:TE} {t:TA} {f a k p} (ha:JE X (.Call f a k p) te) (hr:JA X es t):JA X (.Call f a k p :: es) (gv te t):=⟨L2.Ac ha.out hr.out⟩
theorem ue {X:Cx} {es:List Expr} {te:TE} {t:TA} {a p} (ha:JE X (.List a p) te) (hr:JA X es t):JA X (.List a p :: es) (gv te t):=⟨L2.Ad ha.out hr.out⟩
theorem As {X:Cx} {es:List Expr} {te:TE} {t:TA} {a k p} (ha:JE X (.Tuple a k p) te) (hr:JA X es t):JA X (.Tuple a k p :: es) (gv te t):=⟨L2.Ae ha.out hr.out⟩
theorem Au {X:Cx} {es:List Expr} {te:TE} {t:TA} {a k p} (ha:JE X (.Subscript a k p) te) (hr:JA X es t):JA X (.Subscript a k p :: es) (gv te t):=⟨L2.Af ha.out hr.out⟩
theorem cI.wz {P:Program} {w:World} {K:PySem.W.Frag} {mg:Str->Option Value} {base:Heap} {x qual:Str} {st:Stmt} {f:Addr} {fd:FuncData} {N ps:List Str} {k:Nat} {sp:Sp} (F:cI K x qual st f fd) (S:dz N ps (bW st)) (len:∀ vs H Q E,sp vs H Q E->vs.length=ps.length)
  (eu:∀ (bo:Value) (A:Around) (outer:List Env) (s:Shared) (H:Hp) (vs:List V) (Q:VK) (E:XK),bz k (A.deeper (envOfC qual (bW st) s.heap.objs.size f bo))->sp vs H Q E →
   ∃ t,gK (gJ cm P w K mg base N qual (bW st) f bo A outer s H E).mx (jX st) t/\t { nx:=fun _ H'=>Q .non H',rt:=Q } (start N vs) H):aY P w K mg base cm (k + 1) f fd ps sp :=
 F.ok S len fun bo A outer s H vs Q E hr h=>let ⟨t,g,q⟩:=eu bo A outer s H vs Q E hr h; ⟨t,g.out,q⟩
end L2
namespace LJS
open PySem
noncomputable def hp (i j:Int):Int:=reduceHash (Builtin.Tuple.tupleHashOf [hashInt i,hashInt j])
theorem FD {prog:Program} {w:World} (i j:Int):hT prog w [i,j]=hp i j:=rfl
noncomputable def wA:List (Int × Int):=(List.range 12).flatMap fun j=>(List.range j).map fun i:Nat=>(Int.ofNat i,Int.ofNat j)
theorem NN:∀ a∈wA,∀ b∈wA,hp a.1 a.2=hp b.1 b.2->a=b:=by decide +kernel
theorem FE {i j:Int} (h0:0 <= i) (h1:i < j) (h2:j < 12):(i,j)∈wA:=by
 obtain⟨a,rfl⟩:∃ a:Nat,i=a:=⟨i.toNat,by omega⟩
 obtain⟨b,rfl⟩:∃ b:Nat,j=b:=⟨j.toNat,by omega⟩
 unfold wA
 exact List.mem_flatMap.mpr ⟨b,WJ.mpr (by omega),Wt.mpr ⟨a,WJ.mpr (by omega),rfl⟩⟩
end LJS
namespace L2
open PySem PySem.Spec PyProof.Rows
noncomputable def k9 (S:Addr) (n:Nat):HO := .ext fun h=>∃ hs:List Int,hs.length=n/\LJS.kM h S hs
theorem NO {P:Program} {w:World} {H:Hp} {h:Heap} {S:Addr} {hs:List Int} {n:Nat} (e:LJS.kM h S hs) (hn:hs.length=n):aI P w H h S (k9 S n) :=
 ⟨⟨hs,hn,e⟩,let ⟨o,_,_,_,ho,_⟩:=e; ⟨o,ho⟩,fun h1 h2 ⟨wB,en,e1⟩ k=>⟨wB,en,LJS.JY e1 fun o eo=>k o eo⟩⟩
section
variable {X:Cx}
theorem FF:∀ {ps:List Addr} {ak:List Value},Vals (ps.map V.ref) ak->ak=ps.map Value.ref
 | [],_,.nil=>rfl
 | _ :: _,_,.cons r rs=>by cases r;rw[FF rs];rfl
theorem NP:fV X (.builtin "len") (fun xs H Q=>∃ (p:Addr) (n:Nat),xs=[.ref p]/\H p=some (k9 p n)/\n < 1000/\Q (.int n) H):=by
 intro pins s σ H xs us Q I r h
 obtain⟨p,n,rfl,hp,hn,q⟩:=h
 obtain⟨u,rfl,rx⟩:=vals1 r
 cases rx
 obtain⟨⟨hs,hl,o,es,ep,t,ho,hex,hd,T⟩,_⟩:=I.aM p _ hp
 have e:es.size=n:=by rw[T.num,hl]
 refine call_len_set ho hex hd T.fits (by omega) ⟨.int n,H,I.tok _,⟨_,by rw[e]⟩,q⟩
theorem FG:∀ {bs:List Bool} {ak:List Value},Vals (bs.map V.bl) ak->ak=bs.map Value.bool
 | [],_,.nil=>rfl
 | _ :: _,_,.cons r rs=>by cases r;rw[FG rs];rfl
theorem all_range (bs:List Bool):(List.range bs.length).all (fun i=>bs.getD i true)=bs.all id:=by
 rw[Bool.eq_iff_iff,Yf,Yf]
 constructor
 ·intro h b hb
  obtain⟨i,hi⟩:=V0.mp hb
  have hl:=(pV.mp hi).1
  have:=h i (WJ.mpr hl)
  rw[rG,hi] at this
  exact this
 ·intro h i hi
  have hl:=WJ.mp hi
  rw[rG,mM hl]
  exact h _ (X0 hl)
theorem NQ (hc:X.calm=true):fV X (.builtin "all") (fun xs H Q=>∃ (l:Addr) (bs:List Bool),xs=[.ref l]/\bj X.K H l (bs.map V.bl)/\Q (.bl (bs.all id)) H):=by
 intro pins s σ H xs us Q I r h
 obtain⟨l,bs,rfl,hq,q⟩:=h
 obtain⟨u,rfl,rx⟩:=vals1 r
 cases rx
 obtain⟨ak,r',pl,_⟩:=I.list hq
 obtain rfl:=FG r'
 have hL:=pl.isList
 have ll:l < s.heap.objs.size:=by obtain⟨o,e,_⟩:=hL;exact Mz e
 have nI:l≠s.heap.objs.size:=VZ ll
 refine call_all_walk (Yu hL ?_)
 refine⟨s.heap.objs.size,_,_,_,_,_,fun i=>bs.getD i true,rfl,q0a (by rw[YE];exact I.ok.hd hc) s.heap.objs.size l nI _,⟨⟨_,VW _ rfl,rfl,rfl⟩,hL.push _⟩,fun i v s' Q' E' hv wC => ?_,fun h' tk kp => ?_⟩
 ·have hv:(bs.map Value.bool).toArray[i]? = some v:=hv
  have wC:Q' (bs.getD i true) s':=wC
  rw[Yo,E7] at hv
  obtain⟨b,eb,rfl⟩:=VV.mp hv
  rw[rG,eb] at wC
  exact Yl wC
 ·refine⟨.bl (bs.all id),H,I.kept (t':=tk) fun b o e=>kp b o (fun z => ?_) (tP _ e),?_,q⟩
  ·have:=Mz e
   rw[Wr.mp z] at this
   exact Ya _ this
  ·show Value.bool _=Value.bool _
   rw[zR,pU,all_range]
end
end L2
namespace LJ
open PySem L2
structure Fn (P:Program) (w:World) (K:PySem.W.Frag) (mg:Str->Option Value) (base:Heap) (k:Nat) (x:Str) (ps:List Str) (sp:Sp) (f:Addr) (fd:FuncData):Prop where
 ok:aY P w K mg base cm k f fd ps sp
 bL:mg x=some (.ref f)
 kp:PySem.W.keepIn K (.ref f)=true
 bd:Binds K fd ps []
theorem NR:bootBuiltins "bool" = some (.type "bool"):=by decide +kernel
theorem NS:bootBuiltins "int" = some (.type "int"):=by decide +kernel
theorem Av:bootBuiltins "tuple" = some (.type "tuple"):=by decide +kernel
theorem mO:bootBuiltins "list" = some (.type "list"):=by decide +kernel
theorem FH:bootBuiltins "set" = some (.type "set"):=by decide +kernel
theorem NT:bootBuiltins "all" = some (.builtin "all"):=by decide +kernel
section
variable {K:PySem.W.Frag}
end
structure dJ (many:Int) (ys:List (Int × Int × Int)):Prop where
 m1:1 <= many
 gX:many <= 12
 kj:ys.length <= 30
 ends:∀ y∈ys,0 <= y.1/\y.1 < y.2.1/\y.2.1 < many/\0 <= y.2.2/\y.2.2 <= 1000000000
 unlike:(ys.map fun y=>(y.1,y.2.1)).Nodup
end LJ
namespace L2
open PySem PySem.Spec PyProof.Rows
section
variable {X:Cx}
end
end L2
namespace LJ
open PySem L2
noncomputable def jI:Nat->List (Int × Int)
 | 0=>[]
 | n + 1=>jI n ++ (List.range n).map fun a:Nat=>(Int.ofNat a,Int.ofNat n)
theorem Aw:∀ {n:Nat} {k:Int × Int},k∈jI n->0 <= k.1/\k.1 < k.2/\k.2 < n
 | 0,_,h=>nomatch h
 | n + 1,k,h=>by
  rcases Xa.mp h with h | h
  ·have:=Aw h;omega
  ·obtain⟨a,ha,rfl⟩:=Wt.mp h
   have:=WJ.mp ha
   refine⟨Int.natCast_nonneg a,?_,?_⟩
   ·show (a:Int) < (n:Int);omega
   ·show (n:Int) < ((n + 1:Nat):Int);omega
theorem FI:∀ n:Nat,(jI n).Nodup
 | 0=>YB
 | n + 1=>by
  refine Xr.mpr ⟨FI n,?_,fun k h1 k' h2 e => ?_⟩
  ·refine XS.mpr (ZM.imp fun {a b} ne e=>ne ?_)
   exact Int.ofNat.inj (congrArg Prod.fst e)
  ·subst e
   obtain⟨a,ha,rfl⟩:=Wt.mp h2
   have:=(Aw h1).2.2
   have:(n:Int) < (n:Int):=this
   omega
theorem FJ:∀ n:Nat,n <= 12->(jI n).length <= 66:=by
 intro n h
 rcases n with _ | _ | _ | _ | _ | _ | _ | _ | _ | _ | _ | _ | _ | n
 all_goals first | decide | omega
end LJ
namespace LJ
open PySem
theorem Ax {j n:Nat} (h:j < n):seqIndex? (j:Int) n=some j:=by
 unfold seqIndex?
 first | (simp;omega) | skip
end LJ
namespace L2
open PySem PySem.Spec PyProof.Rows
section
variable {X:Cx}
theorem Az:fV X (.type "range") (fun xs H Q=>∃ j:Int,xs=[.int j]/\∀ r,H r=none->Q (.ref r) (upd H r (.rng 0 j))):=by
 intro pins s σ H xs us Q I r h
 obtain⟨j,rfl,q⟩:=h
 obtain⟨u,rfl,t,rfl⟩:=vals1 r
 refine call_range_1 ⟨.ref s.heap.objs.size,_,I.laid (t':=s.toks + 1 + 1) (o := .rng 0 j) (fun b o e=>tP _ e) (we _) ?_,rfl,q _ (I.aM.fresh (we _))⟩
 exact⟨_,_,_,VW _ rfl⟩
noncomputable def aN (n:Nat):List Int:=(List.range n).map fun a:Nat=>(a:Int)
theorem AA:∀ {ns:List Int} {us:List Value},us.length=ns.length->(∀ (i:Nat) (u:Value),us[i]? = some u->∃ t,u = .int (ns.getD i 0) t)->Vals (ns.map V.int) us
 | [],[],_,_ => .nil
 | [],_ :: _,h,_=>by simp at h
 | _ :: _,[],h,_=>by simp at h
 | n :: ns,u :: us,h,g=>by
  obtain⟨t,e⟩:=g 0 u rfl
  refine .cons ⟨t,e⟩ (AA (by simpa using h) fun i v e2 => ?_)
  obtain⟨t,e⟩:=g (i + 1) v (by simpa using e2)
  exact⟨t,by simpa using e⟩
theorem FK (hc:X.calm=true):fV X (.type "list") (fun xs H Q=>∃ (r:Addr) (n:Nat),xs=[.ref r]/\H r=some (.rng 0 (n:Int))/\n <= 1000/\∀ l,H l=none->Q (.ref l) (upd H l (.lst ((aN n).map V.int)))):=by
 intro pins s σ H xs us Q I r h
 obtain⟨a,n,rfl,ha,hn,q⟩:=h
 obtain⟨u,rfl,rx⟩:=vals1 r
 cases rx
 obtain⟨t,u,v,e⟩:=(show ∃ t u v,s.heap.get? a=some { cls := .type "range",data := .fields #[.int 0 t,.int (n:Int) u,.int 1 v] } from I.aM a _ ha)
 have hs:Builtin.Range.rangeSize 0 (n:Int) 1=n:=by rw[rangeSize_one];split<;>omega
 refine call_list_range (n:=n) (I.ok.hd hc) e (small_one (by omega) (by omega) (by omega) (by omega)) hs (by omega) fun h' tk acc c' kp e' it => ?_
 refine⟨.ref s.heap.objs.size,_,I.laid (t':=tk) (o := .lst ((aN n).map V.int)) kp (we _) ?_,rfl,q _ (I.aM.fresh (we _))⟩
 refine⟨XR (lX (by rw[pU,aN,pU,Xl];exact hn)),acc.toList,c',?_,by simpa using e'⟩
 refine AA ?_ fun i u e => ?_
 ·rw[E8,it.1,aN,pU,Xl]
 ·rw[Wx] at e
  obtain⟨t',e2⟩:=it.2 i u e
  have hi:i < n:=by rw[<-it.1];exact (XW.mp e).1
  refine⟨t',e2.trans ?_⟩
  rw[aN,rG,E7,Xg hi]
  show Value.int (0 + (i:Int) * 1) t'=Value.int (i:Int) t'
  rw[Int.zero_add,Int.mul_one]
theorem AB:∀ (ns:List Int) (j:Nat),j <= ns.length->PySem.preSum (fun i=>ns.getD i 0) j=(ns.take j).sum
 | ns,0,_=>by rw[ZF];rfl
 | ns,j + 1,h=>by
  show PySem.preSum _ j + ns.getD j 0=_
  have hj:j < ns.length:=by omega
  rw[AB ns j (by omega),List.take_add_one,mM hj,rG,mM hj,q0X]
  simp
theorem FL:∀ {ns:List Int},(∀ x∈ns,0 <= x/\x <= 1000000000)->0 <= ns.sum/\ns.sum <= ns.length * 1000000000
 | [],_=>by simp
 | n :: ns,h=>by
  have ih:=FL fun x hx=>h x (E9 _ hx)
  have:=h n (E6 ..)
  rw[ZU,Mx]
  omega
theorem NU (hc:X.calm=true):fV X (.builtin "sum") (fun xs H Q=>∃ (l:Addr) (ns:List Int),xs=[.ref l]/\bj X.K H l (ns.map V.int)/\(∀ x∈ns,0 <= x/\x <= 1000000000)/\ns.length <= 1000/\Q (.int ns.sum) H):=by
 intro pins s σ H xs us Q I r h
 obtain⟨l,ns,rfl,hq,bd,FN,q⟩:=h
 obtain⟨u,rfl,rx⟩:=vals1 r
 cases rx
 obtain⟨ak,r',pl,_⟩:=I.list hq
 have hl:=r'.length
 rw[pU] at hl
 have hL:=pl.isList
 have ll:l < s.heap.objs.size:=by obtain⟨o,e,_⟩:=hL;exact Mz e
 have nI:l≠s.heap.objs.size:=VZ ll
 have sz:ak.toArray.size=ns.length:=by rw[zR];exact hl.symm
 refine call_sum_walk (Yu hL ?_)
 refine⟨s.heap.objs.size,_,_,_,_,_,fun i=>ns.getD i 0,rfl,q0a (by rw[YE];exact I.ok.hd hc) s.heap.objs.size l nI _,⟨⟨_,VW _ rfl,rfl,rfl⟩,hL.push _⟩,fun b hb => ?_,fun i v hv => ?_,fun j hj => ?_,fun h' tk t' kp => ?_⟩
 ·simp only[MA,WV,YC] at hb
  rw[X_]
  rcases hb with e | e
  ·rw[e];exact XY _
  ·rw[e];exact Xe ll
 ·have hv:ak.toArray[i]? = some v:=hv
  rw[Yo] at hv
  have hi:i < ns.length:=by rw[hl];exact (pV.mp hv).1
  obtain⟨u,e1,t,e2⟩:=r'.get (x:=V.int (ns.getD i 0)) (i:=i) (by rw[E7,mM hi,rG,mM hi];rfl)
  rw[hv] at e1
  cases e1
  exact⟨t,e2⟩
 ·rw[sz] at hj
  have a1:=bd _ (X0 hj)
  have e1:ns.getD j 0=ns[j]:=by rw[rG,mM hj];rfl
  have a2:=FL (ns:=ns.take (j + 1)) fun x hx=>bd x (Y6 hx)
  have a3:(ns.take (j + 1)).length <= 1000:=by rw[WQ];omega
  rw[AB ns (j + 1) (by omega)]
  show InLong (ns.getD j 0)/\_
  rw[e1]
  refine⟨⟨by omega,by omega⟩,⟨by omega,by omega⟩⟩
 ·refine⟨.int ns.sum,H,I.kept (t':=tk) fun b o e=>kp b o (fun z => ?_) (tP _ e),⟨t',?_⟩,q⟩
  ·have:=Mz e
   rw[Wr.mp z] at this
   exact Ya _ this
  ·rw[sz,AB ns ns.length (we _),Xj (we _)]
theorem AD:∀ {us:List Value} {ns:List Int},IntsAre us ns->Vals (ns.map V.int) us
 | _,_,.nil => .nil
 | _,_,.cons n t r => .cons ⟨t,rfl⟩ (AD r)
theorem FO:fV X (.builtin "sorted") (fun xs H Q=>∃ (l:Addr) (ns:List Int),xs=[.ref l]/\bj X.K H l (ns.map V.int)/\ns.length < 64/\∀ (r:Addr) (eA:List Int),eA.Perm ns->eA.Pairwise (· <= ·)->H r=none->Q (.ref r) (upd H r (.lst (eA.map V.int)))):=by
 intro pins s σ H xs us Q I r h
 obtain⟨l,ns,rfl,hq,i9,q⟩:=h
 obtain⟨u,rfl,rx⟩:=vals1 r
 cases rx
 obtain⟨ak,r',pl,_⟩:=I.list hq
 have hl:=r'.length
 rw[pU] at hl
 refine sorted_ints pl.isList (by simpa using intsAre_of r') (by omega) fun out eA hI pm pw => ?_
 have hf:H (s.heap.objs.size + 1)=none:=I.aM.fresh (q0p _)
 obtain⟨e,he⟩:=sortedAll_at s.heap ak out
 refine⟨.ref (s.heap.objs.size + 1),_,I.laid (t':=s.toks) (o := .lst (eA.map V.int)) (fun b o e=>sortedAll_old e) (q0p _) ?_,rfl,q _ eA pm pw hf⟩
 refine⟨XR (lX (by rw[pU,pm.length_eq];omega)),out.toList,e,AD hI,?_⟩
 simpa [seqObj] using he
theorem FP {prog:Program} {w:World} {A:Around} {E:Value->Shared->Prop} {I l:Addr} {items:Array Value} (W:Walks prog w A I [I,l] [I] items.size (fun i v=>items[i]? = some v) (fun i h=>h.IsListIter I l i/\h.IsList l items)) :
  ∀ (k i:Nat) (s:Shared) (Q:List Value->Shared->Prop),i + k <= items.size->(s.heap.IsListIter I l i/\s.heap.IsList l items) →
   (∀ h' tk,(h'.IsListIter I l (i + k)/\h'.IsList l items)->(∀ b o,b∉[I]->s.heap.get? b=some o->h'.get? b=some o)->Q ((items.toList.drop i).take k) { s with heap:=h',toks:=tk })->wpAny (model prog w) A (draw (.ref I) k) Q E s
 | 0,i,s,Q,_,st,g=>by
  show wpAny _ _ (pure []) Q E s
  refine wg ?_
  have:=g s.heap s.toks st fun _ _ _ e=>e
  rw[ZF] at this
  exact this
 | k + 1,i,s,Q,hk,st,g=>by
  have hi:i < items.size:=by omega
  show wpAny _ _ (pyNext (.ref I) >>= _) Q E s
  refine pT (W.item i s _ _ hi st fun v h1 k_ hv me rL => ?_)
  refine pT (W9 (FP W k (i + 1) _ _ (by omega) me fun h2 AE km o9=>wg ?_))
  have e:items.toList.drop i=v :: items.toList.drop (i + 1):=by
   rw[YI (by rw[E8];exact hi)]
   congr 1
   have FQ:items[i]? = some v:=hv
   rw[VX hi] at FQ
   simpa using FQ
  have:=g h2 AE (by rw[show i + (k + 1)=i + 1 + k by omega];exact km) fun b o hb e=>o9 b o hb (rL b o hb e)
  rw[e,List.take_succ_cons] at this
  exact this
theorem NV {prog:Program} {w:World} {A:Around} {E:Value->Shared->Prop} {s:Shared} {l:Addr} {items:Array Value} {Q:List Value->Shared->Prop} (hh:A.handled=none) (hl:s.heap.IsList l items)
  (g:∀ h' tk,(∀ b o,b≠s.heap.objs.size->s.heap.get? b=some o->h'.get? b=some o)->Q items.toList { s with heap:=h',toks:=tk }):wpAny (model prog w) A (unpackItems (.ref l) items.size none) Q E s:=by
 have ll:l < s.heap.objs.size:=by obtain⟨o,e,_⟩:=hl;exact Mz e
 have W:=q0a (prog:=prog) (w:=w) hh s.heap.objs.size l (VZ ll) items
 unfold unpackItems
 refine pT ?_
 unfold notIterableAtAll
 refine pT (wpAny_specialOf hl.typeIs slot_list_iter.lookup (wg ?_))
 simp only[WD,XE]
 refine pT (W9 (Yu hl ?_))
 refine pT (W9 (FP W items.size 0 _ _ (by omega) ⟨⟨_,VW _ rfl,rfl,rfl⟩,hl.push _⟩ fun h1 k_ me rL => ?_))
 rw[Zu,Xj (by rw[E8];exact we _),MC (by rw[E8];exact Ya _)]
 rw[Xi] at me
 refine pT (W9 (W.done _ _ _ me fun h2 AE o9 => ?_))
 simp only[Option.isSome_none,WD,XE]
 refine wg (g h2 AE fun b o hb e=>o9 b o (by simpa using hb) (rL b o (by simpa using hb) (tP _ e)))
noncomputable def NW (K:PySem.W.Frag) (n:Nat) (t:jE):TG:=fun v σ H Q=>∃ a xs,v = .ref a/\bj K H a xs/\xs.length=n/\t xs σ H Q
theorem NX {es:List Expr} {k:Nat} {t:jE} {n:Nat} {pos:Pos} (hc:X.calm=true) (h:kz X es t)
  (hn:(assignEach es X.env).length=n:=by rfl) (kX:(assignEach es X.env).findIdx? (·.1)=none:=by rfl):JG X (.Tuple es k pos) (NW X.K n t):=by
 refine⟨?_⟩
 intro pins s σ H v u Q I r hw
 obtain⟨a,xs,e1,hq,hl,hw⟩:=hw
 subst e1
 cases r
 obtain⟨ak,rv,ht,hz⟩:=I.list hq
 have hlen:=rv.length
 rw[assign_Tuple]
 refine pT (ZT ?_)
 unfold unpack
 rw[kX,show (assignEach es X.env).length=ak.toArray.size by rw[hn,<-hl,hlen];simp]
 refine pT (W9 (NV (I.ok.hd hc) ht.isList fun h' tk kp => ?_))
 have I1:Inv X pins σ H { s with heap:=h',toks:=tk }:=I.kept fun b o e=>kp b o (VZ (Mz e)) e
 exact h.out pins _ σ H xs _ Q I1 (by simpa using rv) hw
theorem NY:rF X "dict.setdefault" (fun x vs H Q=>∃ (d:Addr) (kvs:List (Key × V)) (k:Key) (dv:V),x = .ref d/\vs=[kV k,dv]/\H d=some (.dK kvs)/\kvs.length < sizeLine/\(∀ v,cq kvs k=some v->Q v H)/\(cq kvs k=none->Q dv (upd H d (.dK (putK kvs k dv))))):=by
 intro pins s σ H x xs v us Q I rx rv h
 obtain⟨d,kvs,k,dv,rfl,rfl,hd,hz,q1,q2⟩:=h
 cases rx
 cases rv with
 | cons rk rr =>
  cases rr with
  | cons rd rn =>
   cases rn
   rename_i uk ud
   obtain⟨z,lo,vs,rel,dd⟩:=wt I.aM hd
   have rl:=rel.val k
   refine call_meetsIn Z2 dd.typeIs PySem.F.entry_dict_setdefault (PySem.F.args_dict_setdefault_3 _ _ _) (PySem.kt_meets_setdefault (iG X.prog X.w) d (wq rk) lo ud) ⟨vs,dd,by rw[<-rel.length];exact z,fun v hv => ?_,fun hn h' pX hs => ?_⟩
   ·rw[hv] at rl
    cases e:cq kvs k with
    | none=>rw[e] at rl;exact rl.elim
    | some y =>
     rw[e] at rl
     exact⟨y,H,I.tok _,rl,q1 y e⟩
   ·rw[hn] at rl
    cases e:cq kvs k with
    | some y=>rw[e] at rl;exact rl.elim
    | none =>
     have he:∃ q,h'.get? d=some q:=let ⟨q,_,_,hq,_⟩:=pX; ⟨q,hq⟩
     have hl:=Ai kvs k dv
     exact⟨dv,_,Al (t':=s.toks + 1) I (by rw[hd];exact True.intro) hs he (Fv (by omega) lo (rel.put k rd) pX),rd,q2 e⟩
noncomputable def iR (v d:Addr):HO := .ext fun h=>h.IsValuesView v d
theorem NZ:rF X "dict.values" (fun x vs H Q=>∃ (d:Addr) (kvs:List (Key × V)),x = .ref d/\vs=[]/\H d=some (.dK kvs)/\∀ r,H r=none->Q (.ref r) (upd H r (iR r d))):=by
 intro pins s σ H x xs v us Q I rx rv h
 obtain⟨d,kvs,rfl,rfl,hd,q⟩:=h
 cases rx
 cases rv
 obtain⟨z,lo,vs,rel,dd⟩:=wt I.aM hd
 refine call_meetsIn q0u dd.typeIs PySem.F.entry_dict_values (PySem.F.args_dict_values_1 _) (meets_dict_values (iG X.prog X.w) d lo) ⟨⟨vs,dd⟩,?_⟩
 have e:(s.heap.push { cls := .type "dict_values",data := .fields #[.ref d] }).IsValuesView s.heap.objs.size d:=⟨_,VW _ rfl,rfl,rfl⟩
 refine⟨.ref s.heap.objs.size,_,I.laid (t':=s.toks) (o:=iR s.heap.objs.size d) (fun b o e=>tP _ e) (we _) ⟨e,⟨_,VW _ rfl⟩,fun h1 h2 ⟨o,ho,r⟩ k=>⟨o,k o ho,r⟩⟩,rfl,q _ (I.aM.fresh (we _))⟩
theorem FR:∀ {kvs:List (Key × V)} {vs:List (Key × Value)},KV kvs vs->Vals (kvs.map (·.2)) (vs.map (·.2))
 | [],_,.nil => .nil
 | _ :: _,_,.cons r rs => .cons r.2 (FR rs)
theorem N0 (hc:X.calm=true):fV X (.type "list") (fun xs H Q=>∃ (r d:Addr) (kvs:List (Key × V)),xs=[.ref r]/\H r=some (iR r d)/\H d=some (.dK kvs)/\∀ l,H l=none->Q (.ref l) (upd H l (.lst (kvs.map (·.2))))):=by
 intro pins s σ H xs us Q I r' h
 obtain⟨r,d,kvs,rfl,hr,hd,q⟩:=h
 obtain⟨u,rfl,rx⟩:=vals1 r'
 cases rx
 obtain⟨iv,_⟩:=I.aM r _ hr
 obtain⟨z,lo,vs,rel,dd⟩:=wt I.aM hd
 obtain⟨o,es,ep,ho,rest⟩:=dd
 have da:s.heap.DictAt (iG X.prog X.w) d vs ep:=⟨o,es,ho,rest⟩
 have lv:=rel.length
 refine PySem.W.kdl_call (PySem.W.kdl_values (r:=r) (d:=d) (kvs:=vs) (ep:=ep) (knd:=iG X.prog X.w)) (I.ok.hd hc) ⟨iv,da⟩ (by omega) fun h' tk acc c' kp e' it => ?_
 have ea:acc.toList=vs.map (·.2):=PySem.W.kdl_vals_eq acc.toList (by rw[E8];exact it.1) fun j v e=>it.2 j v (by rw[<-Wx];exact e)
 refine⟨.ref s.heap.objs.size,_,I.laid (t':=tk) (o := .lst (kvs.map (·.2))) kp (we _) ?_,rfl,q _ (I.aM.fresh (we _))⟩
 exact⟨by rw[pU];exact z,acc.toList,c',by rw[ea];exact FR rel,by simpa using e'⟩
end
section
variable {X:Cx} {e:Expr} {te:TE} {pos p2 p3 p4:Pos}
end
inductive DV where
 | p (d:D) | o (k:Nat)
inductive OV where
 | lst (ds:List D) | dct (kvs:List (Key × D))
structure aB where
 sl:List (Option DV)
 mu:List (Option OV)
noncomputable def gh (F:Hp):List (Key × D)->List (Key × V)->Prop
 | [],ws=>ws=[]
 | kd :: r,ws=>∃ v t,ws=(kd.1,v) :: t/\Is F kd.2 v/\gh F r t
noncomputable def fX (F:Hp):OV->HO->Prop
 | .lst ds,o=>∃ vs,o = .lst vs/\af F ds vs
 | .dct kvs,o=>∃ ws,o = .dK ws/\gh F kvs ws
theorem gh.same {F F':Hp} (s:aA F F'):∀ {gM:List (Key × D)} {ws:List (Key × V)},gh F gM ws->gh F' gM ws
 | [],_,h=>h
 | _ :: _,_,⟨v,t,e,h1,h2⟩=>⟨v,t,e,h1.same s,gh.same s h2⟩
theorem fX.same {F F':Hp} (s:aA F F'):∀ {ov:OV} {o:HO},fX F ov o->fX F' ov o
 | .lst _,_,⟨vs,e,h⟩=>⟨vs,e,h.same s⟩
 | .dct _,_,⟨ws,e,h⟩=>⟨ws,e,h.same s⟩
noncomputable def gY (F:Hp) (ad:List Addr):DV->V->Prop
 | .p d,v=>Is F d v
 | .o k,v=>∃ a,ad[k]? = some a/\v = .ref a
noncomputable def Lv (ad:List Addr) (mu:List (Option OV)) (a:Addr):Prop:=∃ (k:Nat) (ov:OV),ad[k]? = some a/\mu[k]? = some (some ov)
class aJ where
 ad:List Addr
 ok:Hp->Prop
 same:∀ {H H':Hp},ok H->aA H H'->ok H'
 put:∀ {H:Hp} {a:Addr} {o o':HO},ok H->H a=some o->((∃ vs,o = .lst vs)\/∃ ws,o = .dK ws)->ok (upd H a o')
 tb:∀ {H:Hp} {a:Addr},ok H->a∈ad->∃ ps,H a=some (.tbl ps)
theorem fX.kind {F:Hp}:∀ {ov:OV} {o:HO},fX F ov o->(∃ vs,o = .lst vs)\/∃ ws,o = .dK ws
 | .lst _,_,⟨vs,e,_⟩ => .inl ⟨vs,e⟩
 | .dct _,_,⟨ws,e,_⟩ => .inr ⟨ws,e⟩
variable [aJ]
structure SR (F:Hp) (ad:List Addr) (δ : aB) (σ : St) (H:Hp):Prop where
 sub:aA F H
 off:∀ a,Lv ad δ.mu a->F a=none
 c8:ad.length = δ.mu.length
 inj:∀ (k l:Nat) (a:Addr) (ov ow:OV),ad[k]? = some a->ad[l]? = some a -> δ.mu[k]? = some (some ov) -> δ.mu[l]? = some (some ow)->k=l
 mu:∀ (k:Nat) (ov:OV),δ.mu[k]? = some (some ov)->∃ a o,ad[k]? = some a/\H a=some o/\fX F ov o
 sl:∀ (i:Nat) (x:DV),δ.sl[i]? = some (some x)->∃ v,σ[i]? = some (some v)/\gY F ad x v
 len : σ.length = δ.sl.length
 tab:aJ.ok H
 nt:∀ a∈aJ.ad,F a=none
structure Ext (F:Hp) (ad:List Addr) (mu:List (Option OV)) (H:Hp) (F':Hp) (aH:List Addr) (d5:List (Option OV)) (H':Hp):Prop where
 same:aA F F'
 new:∀ a o,F' a=some o->F a=some o\/H a=none\/Lv ad mu a
 keep:∀ a o,H a=some o->¬ Lv ad mu a->a∉aJ.ad->H' a=some o
 pre:∀ (k:Nat) (a:Addr),ad[k]? = some a->aH[k]? = some a
 cH:∀ a,Lv aH d5 a->Lv ad mu a\/H a=none
 iS:∀ a o,H a=some o->∃ o',H' a=some o'
section
variable {F F' FT H H' lg:Hp} {ad aH uf:List Addr} {mu d5 ug:List (Option OV)} {δ : aB} {σ : St}
theorem cR {H:Hp} {a:Addr} {o:HO} (h:H a=none):aA H (upd H a o):=fun b u e=>by rw[aQ (dq e h)];exact e
theorem Ext.refl:Ext F ad mu H F ad mu H:=⟨fun _ _ e=>e,fun _ _ e => .inl e,fun _ _ e _ _=>e,fun _ _ e=>e,fun _ e => .inl e,fun _ o e=>⟨o,e⟩⟩
theorem Ext.trans (x:Ext F ad mu H F' aH d5 H') (y:Ext F' aH d5 H' FT uf ug lg):Ext F ad mu H FT uf ug lg where
 same:=x.same.trans y.same
 new:=fun a o e=>by
  rcases y.new a o e with h | h | h
  ·exact x.new a o h
  ·refine .inr (.inl ?_)
   cases q:H a with
   | none=>rfl
   | some u=>obtain⟨u',h'⟩:=x.iS a u q;rw[h] at h';cases h'
  ·rcases x.cH a h with h | h
   ·exact .inr (.inr h)
   ·exact .inr (.inl h)
 keep:=fun a o e n t=>y.keep a o (x.keep a o e n t) (fun l=>by
  rcases x.cH a l with h | h
  ·exact n h
  ·rw[e] at h;cases h) t
 pre:=fun k a e=>y.pre k a (x.pre k a e)
 cH:=fun a l=>by
  rcases y.cH a l with h | h
  ·exact x.cH a h
  ·refine .inr ?_
   cases q:H a with
   | none=>rfl
   | some u=>obtain⟨u',h'⟩:=x.iS a u q;rw[h] at h';cases h'
 iS:=fun a o e=>let ⟨o1,e1⟩:=x.iS a o e;y.iS a o1 e1
theorem gY.ext {x:DV} {v:V} (h:gY F ad x v) (e:Ext F ad mu H F' aH d5 H'):gY F' aH x v:=by
 cases x with
 | p d=>exact Is.same e.same h
 | o k=>obtain⟨a,h1,h2⟩:=h;exact⟨a,e.pre k a h1,h2⟩
noncomputable def Nw (F H H':Hp):Hp:=fun a=>match H a with
 | none=>H' a
 | some _=>F a
theorem Nw.same (s:aA F H):aA F (Nw F H H'):=fun a o e=>by
 unfold Nw;rw[s a o e];exact e
theorem Nw.sub (s:aA F H) (k:aA H H'):aA (Nw F H H') H':=fun a o e=>by
 unfold Nw at e
 cases q:H a with
 | none=>rw[q] at e;exact e
 | some u=>rw[q] at e;exact k a o (s a o e)
theorem Nw.upd {p:Addr} {o:HO} (s:aA F H) (hp:H p=none):Nw F H (upd H p o)=upd F p o:=by
 funext a
 unfold Nw L2.upd
 by_cases c:a=p
 ·subst c;rw[hp,VY rfl];simp
 ·rw[MC c,MC c]
  cases q:H a with
  | none =>
   cases q2:F a with
   | none=>rfl
   | some u=>rw[s a u q2] at q;cases q
  | some u=>rfl
theorem Nw.refl (s:aA F H):Nw F H H=F:=by
 funext a
 unfold Nw
 cases q:H a with
 | none =>
  cases q2:F a with
  | none=>rfl
  | some u=>rw[s a u q2] at q;cases q
 | some u=>rfl
theorem SR.al (S:SR F ad δ σ H) (k:aA H H'):SR (Nw F H H') ad δ σ H':=by
 have sm:=Nw.same (H':=H') S.sub
 refine⟨Nw.sub S.sub k,fun a l => ?_,S.c8,S.inj,fun i ov e => ?_,fun i x e => ?_,S.len,aJ.same S.tab k,fun a ha=>by obtain⟨ps,q⟩:=aJ.tb S.tab ha;unfold Nw;rw[q];exact S.nt a ha⟩
 ·obtain⟨i,ov,e1,e2⟩:=l
  obtain⟨a',o,e3,e4,_⟩:=S.mu i ov e2
  rw[e1] at e3;cases e3
  unfold Nw;rw[e4];exact S.off a ⟨i,ov,e1,e2⟩
 ·obtain⟨a,o,e1,e2,h⟩:=S.mu i ov e
  exact⟨a,o,e1,k a o e2,h.same sm⟩
 ·obtain⟨v,e1,h⟩:=S.sl i x e
  refine⟨v,e1,?_⟩
  cases x with
  | p d=>exact Is.same sm h
  | o k=>exact h
theorem Ext.al (S:SR F ad δ σ H) (k:aA H H'):Ext F ad δ.mu H (Nw F H H') ad δ.mu H' where
 same:=Nw.same S.sub
 new:=fun a o e=>by
  unfold Nw at e
  cases q:H a with
  | none=>exact .inr (.inl rfl)
  | some u=>rw[q] at e;exact .inl e
 keep:=fun a o e _ _=>k a o e
 pre:=fun _ _ e=>e
 cH:=fun _ l => .inl l
 iS:=fun a o e=>⟨o,k a o e⟩
theorem SR.own {p:Addr} {o:HO} {ov:OV} (S:SR F ad δ σ H) (hp:H p=none) (h:fX F ov o):SR F (ad ++ [p]) ⟨δ.sl,δ.mu ++ [some ov]⟩ σ (upd H p o):=by
 have old:∀ {k:Nat} {w:OV},(δ.mu ++ [some ov])[k]? = some (some w)->(k < δ.mu.length /\ δ.mu[k]? = some (some w))\/(k = δ.mu.length/\w=ov):=fun {k w} e=>by
  by_cases c:k < δ.mu.length
  ·rw[Wu c] at e;exact .inl ⟨c,e⟩
  ·have hl:=(pV.mp e).1
   rw[My,W6] at hl
   have ek:k = δ.mu.length:=by omega
   subst ek
   rw[Ww (we _),XB] at e
   exact .inr ⟨rfl,by simpa using e.symm⟩
 have pre:∀ {k:Nat},k < δ.mu.length->(ad ++ [p])[k]? = ad[k]? := fun {k} c=>Wu (by rw[S.c8];exact c)
 have last:(ad ++ [p])[δ.mu.length]? = some p:=by rw[<-S.c8,Ww (we _),XB];rfl
 have np:∀ {k:Nat} {a:Addr} {w:OV},ad[k]? = some a -> δ.mu[k]? = some (some w)->a≠p:=fun {k a w} e1 e2=>by
  obtain⟨a',u,e3,e4,_⟩:=S.mu k w e2
  rw[e1] at e3;cases e3
  exact dq e4 hp
 refine⟨fun a u e => ?_,fun a l => ?_,by rw[My,My,S.c8];rfl,fun k l a w w' e1 e2 e3 e4 => ?_,fun k w e => ?_,fun i x e => ?_,S.len,aJ.same S.tab (cR hp),S.nt⟩
 ·have:=S.sub a u e
  rw[aQ (dq this hp)];exact this
 ·obtain⟨k,w,e1,e2⟩:=l
  rcases old e2 with⟨c,e3⟩ | ⟨c,e3⟩
  ·rw[pre c] at e1;exact S.off a ⟨k,w,e1,e3⟩
  ·subst c;rw[last] at e1;cases e1
   cases q:F p with
   | none=>rfl
   | some u=>rw[S.sub p u q] at hp;cases hp
 ·rcases old e3 with⟨c,q⟩ | ⟨c,q⟩
  ·rw[pre c] at e1
   rcases old e4 with⟨c',q'⟩ | ⟨c',q'⟩
   ·rw[pre c'] at e2;exact S.inj k l a w w' e1 e2 q q'
   ·subst c';rw[last] at e2;cases e2;exact absurd rfl (np e1 q)
  ·subst c;rw[last] at e1;cases e1
   rcases old e4 with⟨c',q'⟩ | ⟨c',q'⟩
   ·rw[pre c'] at e2;exact absurd rfl (np e2 q')
   ·exact c'.symm
 ·rcases old e with⟨c,q⟩ | ⟨c,q⟩
  ·obtain⟨a,u,e1,e2,h'⟩:=S.mu k w q
   exact⟨a,u,by rw[pre c];exact e1,by rw[aQ (np e1 q)];exact e2,h'⟩
  ·subst c;subst q;exact⟨p,o,last,bK,h⟩
 ·obtain⟨v,e1,h'⟩:=S.sl i x e
  refine⟨v,e1,?_⟩
  cases x with
  | p d=>exact h'
  | o k =>
   obtain⟨a,e2,e3⟩:=h'
   exact⟨a,by rw[Wu (pV.mp e2).1];exact e2,e3⟩
theorem Ext.own {p:Addr} {o:HO} {ov:OV} (S:SR F ad δ σ H) (hp:H p=none):Ext F ad δ.mu H F (ad ++ [p]) (δ.mu ++ [some ov]) (upd H p o) where
 same:=fun _ _ e=>e
 new:=fun _ _ e => .inl e
 keep:=fun a u e _ _=>by rw[aQ (dq e hp)];exact e
 pre:=fun k a e=>by rw[Wu (pV.mp e).1];exact e
 cH:=fun a l=>by
  obtain⟨k,w,e1,e2⟩:=l
  by_cases c:k < δ.mu.length
  ·rw[Wu c] at e2
   rw[Wu (by rw[S.c8];exact c)] at e1
   exact .inl ⟨k,w,e1,e2⟩
  ·have hl:=(pV.mp e2).1
   rw[My,W6] at hl
   have ek:k=ad.length:=by rw[S.c8];omega
   subst ek
   rw[Ww (we _),XB] at e1
   have:p=a:=by simpa using e1
   subst this;exact .inr hp
 iS:=fun a u e=>⟨u,by rw[aQ (dq e hp)];exact e⟩
theorem SR.put {k:Nat} {a:Addr} {o:HO} {ov ow:OV} (S:SR F ad δ σ H) (hk : δ.mu[k]? = some (some ow)) (ha:ad[k]? = some a) (h:fX F ov o):SR F ad ⟨δ.sl,δ.mu.set k (some ov)⟩ σ (upd H a o):=by
 have kl:=(pV.mp hk).1
 have old:∀ {l:Nat} {w:OV},(δ.mu.set k (some ov))[l]? = some (some w)->(l≠k /\ δ.mu[l]? = some (some w))\/(l=k/\w=ov):=fun {l w} e=>by
  by_cases c:k=l
  ·subst c;rw[XM kl] at e;exact .inr ⟨rfl,by simpa using e.symm⟩
  ·rw[XF c] at e;exact .inl ⟨fun z=>c z.symm,e⟩
 have lv:∀ {l:Nat} {w:OV} {b:Addr},ad[l]? = some b->(δ.mu.set k (some ov))[l]? = some (some w)->Lv ad δ.mu b:=fun {l w b} e1 e2=>by
  rcases old e2 with⟨_,q⟩ | ⟨c,_⟩
  ·exact⟨l,w,e1,q⟩
  ·subst c;exact⟨l,ow,e1,hk⟩
 have tk:aJ.ok (upd H a o):=by
  obtain⟨a',u,e1,e2,h'⟩:=S.mu k ow hk
  rw[ha] at e1;cases e1
  exact aJ.put S.tab e2 h'.kind
 refine⟨fun b u e => ?_,fun b l => ?_,by rw[Yn];exact S.c8,fun l l' b w w' e1 e2 e3 e4 => ?_,fun l w e => ?_,fun i x e => ?_,S.len,tk,S.nt⟩
 ·have nb:b≠a:=fun z=>by
   subst z
   rw[S.off b ⟨k,ow,ha,hk⟩] at e;cases e
  rw[aQ nb];exact S.sub b u e
 ·obtain⟨l,w,e1,e2⟩:=l
  exact S.off b (lv e1 e2)
 ·have h1:∃ w,δ.mu[l]? = some (some w):=by
   rcases old e3 with⟨_,q⟩ | ⟨c,_⟩
   ·exact⟨_,q⟩
   ·subst c;exact⟨_,hk⟩
  have h2:∃ w,δ.mu[l']? = some (some w):=by
   rcases old e4 with⟨_,q⟩ | ⟨c,_⟩
   ·exact⟨_,q⟩
   ·subst c;exact⟨_,hk⟩
  obtain⟨w1,q1⟩:=h1
  obtain⟨w2,q2⟩:=h2
  exact S.inj l l' b _ _ e1 e2 q1 q2
 ·rcases old e with⟨c,q⟩ | ⟨c,q⟩
  ·obtain⟨b,u,e1,e2,h'⟩:=S.mu l w q
   have nb:b≠a:=fun z=>by subst z;exact c (S.inj l k b _ _ e1 ha q hk)
   exact⟨b,u,e1,by rw[aQ nb];exact e2,h'⟩
  ·subst c;subst q;exact⟨a,o,ha,bK,h⟩
 ·exact S.sl i x e
theorem Ext.put {k:Nat} {a:Addr} {o:HO} {ov ow:OV} (S:SR F ad δ σ H) (hk : δ.mu[k]? = some (some ow)) (ha:ad[k]? = some a):Ext F ad δ.mu H F ad (δ.mu.set k (some ov)) (upd H a o) where
 same:=fun _ _ e=>e
 new:=fun _ _ e => .inl e
 keep:=fun b u e n _=>by rw[aQ fun z=>n (by subst z;exact⟨k,ow,ha,hk⟩)];exact e
 pre:=fun _ _ e=>e
 cH:=fun b l=>by
  obtain⟨l,w,e1,e2⟩:=l
  by_cases c:k=l
  ·subst c;exact .inl ⟨k,ow,e1,hk⟩
  ·rw[XF c] at e2;exact .inl ⟨l,w,e1,e2⟩
 iS:=fun b u e=>by
  by_cases c:b=a
  ·subst c;exact⟨o,bK⟩
  ·exact⟨u,by rw[aQ c];exact e⟩
theorem SR.fix {k:Nat} {a:Addr} {o:HO} {ow:OV} (S:SR F ad δ σ H) (hk : δ.mu[k]? = some (some ow)) (ha:ad[k]? = some a) (ho:H a=some o):SR (upd F a o) ad ⟨δ.sl,δ.mu.set k none⟩ σ H:=by
 have kl:=(pV.mp hk).1
 have fa:=S.off a ⟨k,ow,ha,hk⟩
 have sm:aA F (upd F a o):=fun b u e=>by rw[aQ (dq e fa)];exact e
 have old:∀ {l:Nat} {w:OV},(δ.mu.set k none)[l]? = some (some w)->l≠k /\ δ.mu[l]? = some (some w):=fun {l w} e=>by
  by_cases c:k=l
  ·subst c;rw[XM kl] at e;cases e
  ·rw[XF c] at e;exact⟨fun z=>c z.symm,e⟩
 refine⟨fun b u e => ?_,fun b l => ?_,by rw[Yn];exact S.c8,fun l l' b w w' e1 e2 e3 e4=>S.inj l l' b w w' e1 e2 (old e3).2 (old e4).2,fun l w e => ?_,fun i x e => ?_,S.len,S.tab,fun b hb => ?_⟩
 ·by_cases c:b=a
  ·subst c;rw[bK] at e;cases e;exact ho
  ·rw[aQ c] at e;exact S.sub b u e
 ·obtain⟨l,w,e1,e2⟩:=l
  obtain⟨c,q⟩:=old e2
  have nb:b≠a:=fun z=>by subst z;exact c (S.inj l k b _ _ e1 ha q hk)
  rw[aQ nb];exact S.off b ⟨l,w,e1,q⟩
 ·obtain⟨b,u,e1,e2,h'⟩:=S.mu l w (old e).2
  exact⟨b,u,e1,e2,h'.same sm⟩
 ·obtain⟨v,e1,h'⟩:=S.sl i x e
  refine⟨v,e1,?_⟩
  cases x with
  | p d=>exact Is.same sm h'
  | o k=>exact h'
 ·obtain⟨ps,q⟩:=aJ.tb S.tab hb
  have nb:b≠a:=fun z=>by
   subst z
   obtain⟨a',u,e1,e2,h'⟩:=S.mu k ow hk
   rw[ha] at e1;cases e1
   rw[q] at e2;cases e2
   rcases h'.kind with⟨_,z⟩ | ⟨_,z⟩<;>cases z
  rw[aQ nb];exact S.nt b hb
theorem Ext.fix {k:Nat} {a:Addr} {o:HO} {ow:OV} (S:SR F ad δ σ H) (hk : δ.mu[k]? = some (some ow)) (ha:ad[k]? = some a):Ext F ad δ.mu H (upd F a o) ad (δ.mu.set k none) H where
 same:=fun b u e=>by rw[aQ (dq e (S.off a ⟨k,ow,ha,hk⟩))];exact e
 new:=fun b u e=>by
  by_cases c:b=a
  ·subst c;exact .inr (.inr ⟨k,ow,ha,hk⟩)
  ·rw[aQ c] at e;exact .inl e
 keep:=fun b u e _ _=>e
 pre:=fun _ _ e=>e
 cH:=fun b l=>by
  obtain⟨l,w,e1,e2⟩:=l
  by_cases c:k=l
  ·subst c;rw[XM (pV.mp hk).1] at e2;cases e2
  ·rw[XF c] at e2;exact .inl ⟨l,w,e1,e2⟩
 iS:=fun b u e=>⟨u,e⟩
theorem SR.set {i:Nat} {x:DV} {v:V} (S:SR F ad δ σ H) (h:gY F ad x v):SR F ad ⟨δ.sl.set i (some x),δ.mu⟩ (σ.set i (some v)) H:=by
 refine⟨S.sub,S.off,S.c8,S.inj,S.mu,fun j y e => ?_,by rw[Yn,Yn];exact S.len,S.tab,S.nt⟩
 by_cases c:i=j
 ·subst c
  have hl:=(pV.mp e).1
  rw[Yn] at hl
  rw[XM hl] at e
  cases e
  exact⟨v,XM (by rw[S.len];exact hl),h⟩
 ·rw[XF c] at e
  obtain⟨w,e1,h1⟩:=S.sl j y e
  exact⟨w,by rw[XF c];exact e1,h1⟩
end
noncomputable abbrev WE:=aB->(DV->aB->Prop)->Prop
noncomputable abbrev WA:=aB->(List DV->aB->Prop)->Prop
noncomputable abbrev WT:=aB->(Bool->aB->Prop)->Prop
noncomputable def eE (F:Hp) (ad:List Addr):List DV->List V->Prop
 | [],vs=>vs=[]
 | x :: xs,vs=>∃ v r,vs=v :: r/\gY F ad x v/\eE F ad xs r
theorem eE.ext {F F' H H':Hp} {ad aH:List Addr} {mu d5:List (Option OV)} (e:Ext F ad mu H F' aH d5 H'):∀ {xs:List DV} {vs:List V},eE F ad xs vs->eE F' aH xs vs
 | [],_,h=>h
 | _ :: _,_,⟨v,r,q,h1,h2⟩=>⟨v,r,q,h1.ext e,eE.ext e h2⟩
noncomputable def tD (f:WE):TE:=fun σ H Q=>∃ F ad δ K,SR F ad δ σ H/\f δ K/\∀ x δ',K x δ'->∀ v F' aH H',Ext F ad δ.mu H F' aH δ'.mu H'->SR F' aH δ' σ H'->gY F' aH x v->Q v H'
noncomputable def cx (f:WA):TA:=fun σ H Q=>∃ F ad δ K,SR F ad δ σ H/\f δ K/\∀ xs δ',K xs δ'->∀ vs F' aH H',Ext F ad δ.mu H F' aH δ'.mu H'->SR F' aH δ' σ H'->eE F' aH xs vs->Q vs H'
noncomputable def dQ (f:WT):TT:=fun σ H Q=>∃ F ad δ K,SR F ad δ σ H/\f δ K/\∀ b δ',K b δ'->∀ F' aH H',Ext F ad δ.mu H F' aH δ'.mu H'->SR F' aH δ' σ H'->Q b H'
noncomputable def iT (F H:Hp):D->V->Prop
 | .lst ds,v=>∃ a vs,v = .ref a/\H a=some (.lst vs)/\af F ds vs
 | d,v=>Is F d v
noncomputable def dM (x:DV) (δ : aB) (K:D->Prop):Prop:=match x with
 | .p d=>K d
 | .o k=>match δ.mu[k]? with
  | some (some (.lst ds))=>K (.lst ds)
  | _=>False
theorem iT.of {F H:Hp} (s:aA F H):∀ {d:D} {v:V},Is F d v->iT F H d v
 | .lst _,_,h=>by
  simp only[Is] at h
  obtain⟨a,vs,e,h1,h2⟩:=h
  exact⟨a,vs,e,s _ _ h1,h2⟩
 | .tup _,_,h=>h
 | .non,_,h=>h
 | .bl _,_,h=>h
 | .int _,_,h=>h
 | .str _,_,h=>h
theorem iT.is {F H:Hp} (s:aA F H):∀ {d:D} {v:V},iT F H d v->Is H d v
 | .lst _,_,h=>by
  obtain⟨a,vs,e,h1,h2⟩:=h
  simp only[Is]
  exact⟨a,vs,e,h1,h2.same s⟩
 | .tup _,_,h=>Is.same s h
 | .non,_,h=>Is.same s h
 | .bl _,_,h=>Is.same s h
 | .int _,_,h=>Is.same s h
 | .str _,_,h=>Is.same s h
theorem i_ {F H:Hp} {ad:List Addr} {δ : aB} {σ : St} {x:DV} {v:V} {K:D->Prop} (S:SR F ad δ σ H) (hv:gY F ad x v) (h:dM x δ K):∃ d,K d/\iT F H d v:=by
 cases x with
 | p d=>exact⟨d,h,iT.of S.sub hv⟩
 | o k =>
  unfold dM at h
  dsimp only at h
  split at h
  ·rename_i ds e
   obtain⟨a,e1,rfl⟩:=hv
   obtain⟨a',o,e2,e3,vs,rfl,h4⟩:=S.mu k _ e
   rw[e1] at e2;cases e2
   exact⟨_,h,a,vs,rfl,e3,h4⟩
  ·exact h.elim
noncomputable def fg:List DV->aB->(List D->Prop)->Prop
 | [],_,K=>K []
 | x :: xs,δ,K=>dM x δ fun d=>fg xs δ fun ds=>K (d :: ds)
noncomputable def ie (F H:Hp):List D->List V->Prop
 | [],vs=>vs=[]
 | d :: ds,vs=>∃ v r,vs=v :: r/\iT F H d v/\ie F H ds r
theorem rM {F H:Hp} {ad:List Addr} {δ : aB} {σ : St} (S:SR F ad δ σ H):∀ {xs:List DV} {vs:List V} {K:List D->Prop},eE F ad xs vs->fg xs δ K->∃ ds,K ds/\ie F H ds vs
 | [],_,_,hv,h=>⟨[],h,hv⟩
 | x :: xs,_,_,⟨v,r,rfl,h1,h2⟩,h=>by
  obtain⟨d,h',rd⟩:=i_ S h1 h
  obtain⟨ds,rN,j3⟩:=rM S h2 h'
  exact⟨d :: ds,rN,v,r,rfl,rd,j3⟩
noncomputable abbrev Made (F H:Hp) (K:D->Prop) (Q:VK):Prop:=∀ z v H',K z->aA H H'->Is (Nw F H H') z v->Q v H'
noncomputable def gx (X:Cx) (f:Value->Value->Sem Value) (g:D->D->(D->Prop)->Prop):Prop :=
 dW X f fun x y H Q=>∃ F d e K,aA F H/\iT F H d x/\iT F H e y/\g d e K/\Made F H K Q
noncomputable def FU (X:Cx) (g:D->D->(D->Prop)->Prop):Prop :=
 rE X fun x y H Q=>∃ F d e K,aA F H/\iT F H d x/\iT F H e y/\g d e K/\Made F H K Q
noncomputable def c9 (X:Cx) (f:Value) (g:List D->(D->Prop)->Prop):Prop :=
 fV X f fun xs H Q=>∃ F ds K,aA F H/\ie F H ds xs/\g ds K/\Made F H K Q
noncomputable def d2 (f g:WE) (op:D->D->(D->Prop)->Prop):WE:=fun δ K=>f δ fun x δ1=>g δ1 fun y δ2=>dM x δ2 fun d=>dM y δ2 fun e=>op d e fun z=>K (.p z) δ2
noncomputable def d1 (f:WE) (op:D->(D->Prop)->Prop):WE:=fun δ K=>f δ fun x δ1=>dM x δ1 fun d=>op d fun z=>K (.p z) δ1
noncomputable def dN (f:WA) (op:List D->(D->Prop)->Prop):WE:=fun δ K=>f δ fun xs δ1=>fg xs δ1 fun ds=>op ds fun z=>K (.p z) δ1
noncomputable def dC (d:D):WE:=fun δ K=>K (.p d) δ
noncomputable def aa (i:Nat):WE:=fun δ K=>match δ.sl[i]? with
 | some (some x)=>K x δ
 | _=>False
noncomputable def ag:WA:=fun δ K=>K [] δ
noncomputable def ah (f:WE) (g:WA):WA:=fun δ K=>f δ fun x δ1=>g δ1 fun xs δ2=>K (x :: xs) δ2
section
variable {X:Cx} {a b c:Expr} {f g h:WE} {fa:WA} {pos:Pos}
theorem AF {e:Expr} {d:D} {v:V} (h:JE X e (tC v)) (hi:∀ F,Is F d v):JE X e (tD (dC d)):=h.weak fun σ H Q h0_ => el7 h0_ fun F ad δ K S q k =>k _ _ q _ _ _ _ .refl S (hi F)
theorem ax {i j pos}:JE X (.Constant (.int i) j pos) (tD (dC (.int i))):=AF dB fun _=>rfl
theorem lh {i j pos}:JE X (.Constant (.bool i) j pos) (tD (dC (.bl i))):=AF Ni fun _=>rfl
theorem AG {x:Str} {i:Int} {u:Value} {pos:Pos} (hg:Gl X x) (hm:X.mg x=some u) (r:RelV (.int i) u) (hd:(x == ("__debug__" : Str))=false:=by decide):JE X (.Name x pos) (tD (dC (.int i))):=AF (Nj hg hm r hd) fun _=>rfl
theorem dv (i:Nat) {x:Str} {pos:Pos} (hN:X.N[i]? = some x:=by rfl) (hv:pd X.env.scope x:=by first | exact Or.inl rfl | exact Or.inr (Or.inl rfl) | exact Or.inr (Or.inr rfl))
  (hd:(x == ("__debug__" : Str))=false:=by decide) (gc:(x == ("__classdict__" : Str))=false:=by decide):JE X (.Name x pos) (tD (aa i)) :=
 (Nh hN hv hd gc).weak fun σ H Q h0_ => el7 h0_ fun F ad δ K S q k =>by
  unfold aa at q
  split at q
  ·rename_i x e
   obtain⟨v,e1,h1⟩:=S.sl i x e
   exact⟨v,e1,k _ _ q _ _ _ _ .refl S h1⟩
  ·exact q.elim
theorem wD {r:R2} {ta tb:TE} {op:D->D->(D->Prop)->Prop} (hr:∀ x y H Q,(∃ F d e K,aA F H/\iT F H d x/\iT F H e y/\op d e K/\Made F H K Q)->r x y H Q):∀ σ H Q,tD (d2 f g op) σ H Q->mz r (tD f) (tD g) σ H Q:=by
 rintro σ H Q ⟨F,ad,δ,K,S,q,k⟩
 refine⟨F,ad,δ,_,S,q,fun x δ1 h1 v1 F1 aS H1 E1 S1 V1=>⟨F1,aS,δ1,_,S1,h1,fun y δ2 h2 v2 F2 c_ H2 E2 S2 V2=>hr _ _ _ _ ?_⟩⟩
 obtain⟨d,h3,rd⟩:=i_ S2 (V1.ext E2) h2
 obtain⟨e,h4,re⟩:=i_ S2 V2 h3
 exact⟨F2,d,e,_,S2.sub,rd,re,h4,fun z v H' hz sm is=>k _ _ hz _ _ _ _ ((E1.trans E2).trans (Ext.al S2 sm)) (S2.al sm) is⟩
theorem bF {op:Operator} {o:D->D->(D->Prop)->Prop} (ho:gx X (binaryOp op) o) (ha:JE X a (tD f)) (hb:JE X b (tD g)):JE X (.BinOp a op b pos) (tD (d2 f g o)) :=
 (ub ho ha hb).weak (wD (ta:=tD f) (tb:=tD g) fun _ _ _ _ h=>h)
theorem uh {op:CmpOp} {o:D->D->(D->Prop)->Prop} (ho:gx X (compareOp op) o) (ha:JE X a (tD f)) (hb:JE X b (tD g)) (hm:behindInMarks op b=false):JE X (.Compare a [op] [b] pos) (tD (d2 f g o)) :=
 (ND ho ha hb hm).weak (wD (ta:=tD f) (tb:=tD g) fun _ _ _ _ h=>h)
theorem a5 {o:D->D->(D->Prop)->Prop} (ho:FU X o) (ha:JE X a (tD f)) (hb:JE X b (tD g)) (hs:zD b):JE X (.Subscript a b pos) (tD (d2 f g o)) :=
 (Fy ho ha hb hs).weak (wD (ta:=tD f) (tb:=tD g) fun _ _ _ _ h=>h)
theorem ay:JA X [] (cx ag):=bp.weak fun σ H Q h0_ => el7 h0_ fun F ad δ K S q k =>k _ _ q _ _ _ _ .refl S rfl
theorem p_:∀ σ H Q,cx (ah f fa) σ H Q->gv (tD f) (cx fa) σ H Q:=by
 rintro σ H Q ⟨F,ad,δ,K,S,q,k⟩
 exact⟨F,ad,δ,_,S,q,fun x δ1 h1 v1 F1 aS H1 E1 S1 V1=>⟨F1,aS,δ1,_,S1,h1,fun xs δ2 h2 vs F2 c_ H2 E2 S2 V2=>k _ _ h2 _ _ _ _ (E1.trans E2) S2 ⟨v1,vs,rfl,V1.ext E2,V2⟩⟩⟩
theorem ja {e:Expr} {es:List Expr} (ha:JE X e (tD f)) (hr:JA X es (cx fa)) (hs:starEach (e :: es) X.env=(false,eval e X.env) :: starEach es X.env:=by rfl):JA X (e :: es) (cx (ah f fa)):=(p8 ha hr hs).weak p_
theorem br {es:List Expr} {c j p} (ha:JE X (.Constant c j p) (tD f)) (hr:JA X es (cx fa)):JA X (.Constant c j p :: es) (cx (ah f fa)):=(Ar ha hr).weak p_
theorem ao {es:List Expr} {x p} (ha:JE X (.Name x p) (tD f)) (hr:JA X es (cx fa)):JA X (.Name x p :: es) (cx (ah f fa)):=(jq ha hr).weak p_
theorem bJ {es:List Expr} {x y k p} (ha:JE X (.Call x y k p) (tD f)) (hr:JA X es (cx fa)):JA X (.Call x y k p :: es) (cx (ah f fa)):=(iQ ha hr).weak p_
theorem AH {es:List Expr} {x p} (ha:JE X (.List x p) (tD f)) (hr:JA X es (cx fa)):JA X (.List x p :: es) (cx (ah f fa)):=(ue ha hr).weak p_
theorem AI {es:List Expr} {x k p} (ha:JE X (.Tuple x k p) (tD f)) (hr:JA X es (cx fa)):JA X (.Tuple x k p :: es) (cx (ah f fa)):=(As ha hr).weak p_
theorem bf {es:List Expr} {x k p} (ha:JE X (.Subscript x k p) (tD f)) (hr:JA X es (cx fa)):JA X (.Subscript x k p :: es) (cx (ah f fa)):=(Au ha hr).weak p_
theorem FV {r:List V->Hp->VK->Prop} {op:List D->(D->Prop)->Prop} (hr:∀ xs H Q,(∃ F ds K,aA F H/\ie F H ds xs/\op ds K/\Made F H K Q)->r xs H Q):∀ σ H Q,tD (dN fa op) σ H Q->pL r (cx fa) σ H Q:=by
 rintro σ H Q ⟨F,ad,δ,K,S,q,k⟩
 refine⟨F,ad,δ,_,S,q,fun xs δ1 h1 vs F1 aS H1 E1 S1 V1=>hr _ _ _ ?_⟩
 obtain⟨ds,h2,j3⟩:=rM S1 V1 h1
 exact⟨F1,ds,_,S1.sub,j3,h2,fun z v H' hz sm is=>k _ _ hz _ _ _ _ (E1.trans (Ext.al S1 sm)) (S1.al sm) is⟩
theorem eF {x:Str} {p:Pos} {e:Expr} {es:List Expr} {id:String} {o:List D->(D->Prop)->Prop} (hc:c9 X (.builtin id) o) (hg:Gl X x) (hm:X.mg x=none) (hv:bootBuiltins x=some (.builtin id)) (ha:JA X (e :: es) (cx fa)) (hn:x ≠ "__name__" := by decide) (gI:(x == ("__debug__" : Str))=false:=by decide)
  (he:starEach (e :: es) X.env=(false,eval e X.env) :: starEach es X.env:=by rfl) (gw:(backTo pos (starEach es X.env)).any (·.1)=false:=by rfl):JE X (.Call (.Name x p) (e :: es) [] pos) (tD (dN fa o)) :=
 (uc hc hg hm hv ha hn gI he gw).weak (FV fun _ _ _ h=>h)
theorem AJ {x:Str} {p:Pos} {e:Expr} {es:List Expr} {T:String} {o:List D->(D->Prop)->Prop} (hc:c9 X (.type T) o) (hg:Gl X x) (hm:X.mg x=none) (hv:bootBuiltins x=some (.type T)) (ha:JA X (e :: es) (cx fa)) (hn:x ≠ "__name__" := by decide) (gI:(x == ("__debug__" : Str))=false:=by decide)
  (he:starEach (e :: es) X.env=(false,eval e X.env) :: starEach es X.env:=by rfl) (gw:(backTo pos (starEach es X.env)).any (·.1)=false:=by rfl):JE X (.Call (.Name x p) (e :: es) [] pos) (tD (dN fa o)) :=
 (lZ hc hg hm hv ha hn gI he gw).weak (FV fun _ _ _ h=>h)
end
noncomputable def FW (k:Nat) (ds:List D):Option DV->Option DV
 | some (.o j)=>if j=k then some (.p (.lst ds)) else some (.o j)
 | s=>s
noncomputable def aB.fix (δ : aB) (k:Nat) (ds:List D):aB:=⟨δ.sl.map (FW k ds),δ.mu.set k none⟩
noncomputable def mP (x:DV) (δ : aB) (K:D->aB->Prop):Prop:=match x with
 | .p d=>K d δ
 | .o k=>match δ.mu[k]? with
  | some (some (.lst ds))=>K (.lst ds) (δ.fix k ds)
  | _=>False
noncomputable def j4:List DV->aB->(List D->aB->Prop)->Prop
 | [],δ,K=>K [] δ
 | x :: xs,δ,K=>mP x δ fun d δ1=>j4 xs δ1 fun ds δ2=>K (d :: ds) δ2
section
variable {F F' H H':Hp} {ad aH:List Addr} {δ δ':aB} {σ σ':St}
theorem SR.fixed {k:Nat} {a:Addr} {vs:List V} {ds:List D} (S:SR F ad δ σ H) (hk : δ.mu[k]? = some (some (.lst ds))) (ha:ad[k]? = some a) (ho:H a=some (.lst vs)) (hi:af F ds vs):SR (upd F a (.lst vs)) ad (δ.fix k ds) σ H:=by
 have S1:=S.fix hk ha ho
 have sm:aA F (upd F a (.lst vs)):=(Ext.fix (o := .lst vs) S hk ha).same
 refine⟨S1.sub,S1.off,S1.c8,S1.inj,S1.mu,fun i x e => ?_,by rw[S.len];unfold aB.fix;rw[pU],S1.tab,S1.nt⟩
 unfold aB.fix at e
 rw[E7] at e
 obtain⟨s,e1,e2⟩:=VV.mp e
 match s,e2 with
 | none,e2=>cases e2
 | some (.p d),e2 =>
  cases (show some (DV.p d)=some x from e2)
  exact S1.sl i _ e1
 | some (.o j),e2 =>
  have e3:(if j=k then some (DV.p (.lst ds)) else some (DV.o j))=some x:=e2
  clear e2
  obtain⟨v,h1,a',h2,h3⟩:=S.sl i _ e1
  by_cases c:j=k
  ·rw[VY c] at e3
   subst c
   cases e3
   rw[ha] at h2;cases h2
   refine⟨v,h1,?_⟩
   show Is _ (.lst ds) v
   simp only[Is]
   exact⟨a,vs,h3,bK,hi.same sm⟩
  ·rw[MC c] at e3
   cases e3
   exact⟨v,h1,a',h2,h3⟩
theorem ui {x:DV} {v:V} {K:D->aB->Prop} (S:SR F ad δ σ H) (hv:gY F ad x v) (h:mP x δ K):∃ d δ' F',K d δ'/\Ext F ad δ.mu H F' ad δ'.mu H/\SR F' ad δ' σ H/\Is F' d v:=by
 cases x with
 | p d=>exact⟨d,δ,F,h,.refl,S,hv⟩
 | o k =>
  unfold mP at h
  dsimp only at h
  split at h
  ·rename_i ds e
   obtain⟨a,e1,rfl⟩:=hv
   obtain⟨a',o,e2,e3,vs,rfl,h4⟩:=S.mu k _ e
   rw[e1] at e2;cases e2
   refine⟨_,_,_,h,Ext.fix S e e1,S.fixed e e1 e3 h4,?_⟩
   simp only[Is]
   exact⟨a,vs,rfl,bK,h4.same (Ext.fix (o := .lst vs) S e e1).same⟩
  ·exact h.elim
theorem wF:∀ {xs:List DV} {vs:List V} {δ : aB} {F:Hp} {K:List D->aB->Prop},SR F ad δ σ H->eE F ad xs vs->j4 xs δ K->∃ ds δ' F',K ds δ'/\Ext F ad δ.mu H F' ad δ'.mu H/\SR F' ad δ' σ H/\af F' ds vs
 | [],_,δ,F,_,S,hv,h=>⟨[],δ,F,h,.refl,S,by simp only[af];exact hv⟩
 | x :: xs,_,δ,F,_,S,⟨v,r,e,h1,h2⟩,h=>by
  subst e
  obtain⟨d,δ1,F1,h',E1,S1,i1⟩:=ui S h1 h
  obtain⟨ds,δ2,F2,rN,E2,S2,i2⟩:=wF S1 (h2.ext E1) h'
  exact⟨d :: ds,δ2,F2,rN,E1.trans E2,S2,.cons (i1.same E2.same) i2⟩
end
noncomputable def gi (fa:WA):WE:=fun δ K=>fa δ fun xs δ1=>j4 xs δ1 fun ds δ2=>ds.length <= 1000/\K (.p (.tup ds)) δ2
noncomputable def fM (fa:WA):WE:=fun δ K=>fa δ fun xs δ1=>j4 xs δ1 fun ds δ2=>ds.length <= 1000/\K (.p (.lst ds)) δ2
noncomputable def mQ (fa:WA):WE:=fun δ K=>fa δ fun xs δ1=>j4 xs δ1 fun ds δ2=>ds.length <= 1000/\K (.o δ2.mu.length) ⟨δ2.sl,δ2.mu ++ [some (.lst ds)]⟩
section
variable {X:Cx} {a b c:Expr} {es:List Expr} {f g h:WE} {fa:WA} {t u:WT} {pos:Pos}
theorem lj {n:Nat} (h:n <= 1000):n <= sizeLine:=XR (lX h)
theorem mR {x1} (ha:JA X es (cx fa)):JE X (.Tuple es x1 pos) (tD (gi fa)):=(NH ha).weak fun σ H Q h0_ => el7 h0_ fun F ad δ K S q k =>
 ⟨F,ad,δ,_,S,q,fun xs δ1 h1 vs F1 aS H1 E1 S1 V1=>by
  obtain⟨ds,δ2,F2,⟨hl,h2⟩,E2,S2,i2⟩:=wF S1 V1 h1
  refine⟨lj (by rw[i2.length];exact hl),fun p hp => ?_⟩
  have sm:aA H1 (upd H1 p (.tup vs)):=cR hp
  refine k _ _ h2 _ _ _ _ ((E1.trans E2).trans (Ext.al S2 sm)) (S2.al sm) ?_
  show Is _ (.tup ds) _
  simp only[Is]
  rw[Nw.upd S2.sub hp]
  refine⟨p,vs,rfl,bK,i2.same fun b o e => ?_⟩
  rw[aQ (dq (S2.sub b o e) hp)];exact e⟩
theorem oe (ha:JA X es (cx fa)):JE X (.List es pos) (tD (fM fa)):=(wx ha).weak fun σ H Q h0_ => el7 h0_ fun F ad δ K S q k =>
 ⟨F,ad,δ,_,S,q,fun xs δ1 h1 vs F1 aS H1 E1 S1 V1=>by
  obtain⟨ds,δ2,F2,⟨hl,h2⟩,E2,S2,i2⟩:=wF S1 V1 h1
  refine⟨lj (by rw[i2.length];exact hl),fun p hp => ?_⟩
  have sm:aA H1 (upd H1 p (.lst vs)):=cR hp
  refine k _ _ h2 _ _ _ _ ((E1.trans E2).trans (Ext.al S2 sm)) (S2.al sm) ?_
  show Is _ (.lst ds) _
  simp only[Is]
  rw[Nw.upd S2.sub hp]
  refine⟨p,vs,rfl,bK,i2.same fun b o e => ?_⟩
  rw[aQ (dq (S2.sub b o e) hp)];exact e⟩
theorem qa (ha:JA X es (cx fa)):JE X (.List es pos) (tD (mQ fa)):=(wx ha).weak fun σ H Q h0_ => el7 h0_ fun F ad δ K S q k =>
 ⟨F,ad,δ,_,S,q,fun xs δ1 h1 vs F1 aS H1 E1 S1 V1=>by
  obtain⟨ds,δ2,F2,⟨hl,h2⟩,E2,S2,i2⟩:=wF S1 V1 h1
  refine⟨lj (by rw[i2.length];exact hl),fun p hp => ?_⟩
  have oi:fX F2 (.lst ds) (.lst vs):=⟨vs,rfl,i2⟩
  refine k _ _ h2 _ _ _ _ ((E1.trans E2).trans (Ext.own S2 hp)) (S2.own hp oi) ⟨p,?_,rfl⟩
  rw[<-S2.c8,Ww (we _),XB];rfl⟩
noncomputable def mS (x:DV) (P:Bool->Prop):Prop:=match x with
 | .p (.bl b)=>P b
 | _=>False
noncomputable def dT (f:WE):WT:=fun δ K=>f δ fun x δ1=>mS x fun b=>K b δ1
noncomputable def j5 (t u:WT):WT:=fun δ K=>t δ fun b δ1=>if b=true then u δ1 K else K false δ1
noncomputable def qb (t u:WT):WT:=fun δ K=>t δ fun b δ1=>if b=true then K true δ1 else u δ1 K
noncomputable def gN (t:WT):WT:=fun δ K=>t δ fun b δ1=>K (!b) δ1
noncomputable def qc (t:WT) (f g:WE):WE:=fun δ K=>t δ fun b δ1=>if b=true then f δ1 K else g δ1 K
noncomputable def oh (f g:WE):WE:=fun δ K=>f δ fun x δ1=>mS x fun b=>if b=true then g δ1 K else K (.p (.bl false)) δ1
noncomputable def AK (f:WE):WE:=fun δ K=>f δ fun x δ1=>mS x fun b=>K (.p (.bl (!b))) δ1
theorem um {F:Hp} {ad:List Addr} {x:DV} {v:V} {P:Bool->Prop} (hv:gY F ad x v) (h:mS x P):∃ b,v = .bl b/\P b:=by
 unfold mS at h
 split at h
 ·rename_i b
  exact⟨b,hv,h⟩
 ·exact h.elim
theorem oj (ha:JE X a (tD f)) (he:∀ whole,isTrue a X.env whole=(do let v <- whole;standAt a.pos;holding [v] (truthy v)):=by intro _;rfl):JT X a (dQ (dT f)) :=
 (Nm ha he).weak fun σ H Q h0_ => el7 h0_ fun F ad δ K S q k =>⟨F,ad,δ,_,S,q,fun x δ1 h1 v F1 aS H1 E1 S1 V1=>by
  obtain⟨b,rfl,h2⟩:=um V1 h1
  exact⟨b,rfl,k _ _ h2 _ _ _ E1 S1⟩⟩
theorem dO {op:CmpOp} {o:D->D->(D->Prop)->Prop} (ho:gx X (compareOp op) o) (ha:JE X a (tD f)) (hb:JE X b (tD g)) (hm:behindInMarks op b=false):JT X (.Compare a [op] [b] pos) (dQ (dT (d2 f g o))) :=
 (NF ho ha hb hm).weak fun σ H Q h0_ => el7 h0_ fun F ad δ K S q k =>wD (ta:=tD f) (tb:=tD g) (fun _ _ _ _ h=>h) σ H _ ⟨F,ad,δ,_,S,q,fun x δ1 h1 v F1 aS H1 E1 S1 V1=>by
  obtain⟨b,rfl,h2⟩:=um V1 h1
  exact⟨b,rfl,k _ _ h2 _ _ _ E1 S1⟩⟩
theorem om (ha:JT X a (dQ t)):JT X (.UnaryOp .Not a pos) (dQ (gN t)):=(Nt ha).weak fun σ H Q h0_ => el7 h0_ fun F ad δ K S q k =>⟨F,ad,δ,_,S,q,fun b δ1 h1 F1 aS H1 E1 S1=>k _ _ h1 _ _ _ E1 S1⟩
theorem N3:∀ σ H Q,dQ (j5 t u) σ H Q->ph (dQ t) (dQ u) σ H Q:=fun σ H Q h0_ => el7 h0_ fun F ad δ K S q k =>⟨F,ad,δ,_,S,q,fun b δ1 h1 F1 aS H1 E1 S1=>by
 cases b with
 | true =>
  rw[VY rfl] at h1 ⊢
  exact⟨F1,aS,δ1,_,S1,h1,fun b δ2 h2 F2 c_ H2 E2 S2=>k _ _ h2 _ _ _ (E1.trans E2) S2⟩
 | false =>
  rw[MC Ws] at h1 ⊢
  exact k _ _ h1 _ _ _ E1 S1⟩
theorem N4:∀ σ H Q,dQ (qb t u) σ H Q->zf (dQ t) (dQ u) σ H Q:=fun σ H Q h0_ => el7 h0_ fun F ad δ K S q k =>⟨F,ad,δ,_,S,q,fun b δ1 h1 F1 aS H1 E1 S1=>by
 cases b with
 | false =>
  rw[MC Ws] at h1 ⊢
  exact⟨F1,aS,δ1,_,S1,h1,fun b δ2 h2 F2 c_ H2 E2 S2=>k _ _ h2 _ _ _ (E1.trans E2) S2⟩
 | true =>
  rw[VY rfl] at h1 ⊢
  exact k _ _ h1 _ _ _ E1 S1⟩
theorem JW.weak {e:Expr} {t t':TT} (h:JW X e t) (k:∀ σ H Q,t' σ H Q->t σ H Q):JW X e t':=⟨fun wh pins s σ H Q I q=>h.out wh pins s σ H Q I (k σ H Q q)⟩
theorem AL (ha:JT X a (dQ t)):JW X (.BoolOp .And [a] pos) (dQ t):=Nn ha
theorem wG (ha:JT X a (dQ t)):JW X (.BoolOp .Or [a] pos) (dQ t):=Np ha
theorem AM {rest:List Expr} (ha:JT X a (dQ t)) (hb:JW X (.BoolOp .And (b :: rest) pos) (dQ u)):JW X (.BoolOp .And (a :: b :: rest) pos) (dQ (j5 t u)):=(Nq ha hb).weak N3
theorem wH {rest:List Expr} (ha:JT X a (dQ t)) (hb:JW X (.BoolOp .Or (b :: rest) pos) (dQ u)):JW X (.BoolOp .Or (a :: b :: rest) pos) (dQ (qb t u)):=(Nr ha hb).weak N4
theorem rO {op} (ha:JE X a (tD f)):JE X (.BoolOp op [a] pos) (tD f):=Nu ha
theorem rP {rest:List Expr} (ha:JE X a (tD f)) (hb:JE X (.BoolOp .And (b :: rest) pos) (tD g)):JE X (.BoolOp .And (a :: b :: rest) pos) (tD (oh f g)) :=
 (Nv ha hb).weak fun σ H Q h0_ => el7 h0_ fun F ad δ K S q k =>⟨F,ad,δ,_,S,q,fun x δ1 h1 v F1 aS H1 E1 S1 V1=>by
  obtain⟨b,rfl,h2⟩:=um V1 h1
  refine⟨b,rfl,?_⟩
  cases b with
  | true =>
   rw[VY rfl] at h2 ⊢
   exact⟨F1,aS,δ1,_,S1,h2,fun x δ2 h3 v F2 c_ H2 E2 S2 V2=>k _ _ h3 _ _ _ _ (E1.trans E2) S2 V2⟩
  | false =>
   rw[MC Ws] at h2 ⊢
   exact k _ _ h2 _ _ _ _ E1 S1 rfl⟩
theorem N5 (ha:JE X a (tD f)):JE X (.UnaryOp .Not a pos) (tD (AK f)) :=
 (Nx ha).weak fun σ H Q h0_ => el7 h0_ fun F ad δ K S q k =>⟨F,ad,δ,_,S,q,fun x δ1 h1 v F1 aS H1 E1 S1 V1=>by
  obtain⟨b,rfl,h2⟩:=um V1 h1
  exact⟨b,rfl,k _ _ h2 _ _ _ _ E1 S1 rfl⟩⟩
theorem wI (hc:JT X c (dQ t)) (ha:JE X a (tD f)) (hb:JE X b (tD g)):JE X (.IfExp c a b pos) (tD (qc t f g)) :=
 (Ny hc ha hb).weak fun σ H Q h0_ => el7 h0_ fun F ad δ K S q k =>⟨F,ad,δ,_,S,q,fun b δ1 h1 F1 aS H1 E1 S1=>by
  cases b with
  | true =>
   rw[VY rfl] at h1 ⊢
   exact⟨F1,aS,δ1,_,S1,h1,fun x δ2 h3 v F2 c_ H2 E2 S2 V2=>k _ _ h3 _ _ _ _ (E1.trans E2) S2 V2⟩
  | false =>
   rw[MC Ws] at h1 ⊢
   exact⟨F1,aS,δ1,_,S1,h1,fun x δ2 h3 v F2 c_ H2 E2 S2 V2=>k _ _ h3 _ _ _ _ (E1.trans E2) S2 V2⟩⟩
end
structure KS where
 nx:aB->Prop
 rt:DV->aB->Prop
 bk:aB->Prop:=fun _=>False
 ct:aB->Prop:=fun _=>False
noncomputable abbrev WS:=KS->aB->Prop
noncomputable def Cn (F:Hp) (ad:List Addr) (mu:List (Option OV)) (H:Hp) (P:aB->Prop) (R:St->Hp->Prop):Prop:=∀ δ',P δ'->∀ F' aH σ' H',Ext F ad mu H F' aH δ'.mu H'->SR F' aH δ' σ' H'->R σ' H'
structure wJ (F:Hp) (ad:List Addr) (mu:List (Option OV)) (H:Hp) (K:KS) (D:Ends):Prop where
 nx:Cn F ad mu H K.nx D.nx
 bk:Cn F ad mu H K.bk D.bk
 ct:Cn F ad mu H K.ct D.ct
 rt:∀ x δ',K.rt x δ'->∀ v F' aH σ' H',Ext F ad mu H F' aH δ'.mu H'->SR F' aH δ' σ' H'->gY F' aH x v->D.rt v H'
theorem Cn.ext {F F' H H':Hp} {ad aH:List Addr} {mu d5:List (Option OV)} {P:aB->Prop} {R:St->Hp->Prop} (c:Cn F ad mu H P R) (e:Ext F ad mu H F' aH d5 H'):Cn F' aH d5 H' P R:=fun δ' h _ _ _ _ E S=>c δ' h _ _ _ _ (e.trans E) S
theorem wJ.ext {F F' H H':Hp} {ad aH:List Addr} {mu d5:List (Option OV)} {K:KS} {D:Ends} (c:wJ F ad mu H K D) (e:Ext F ad mu H F' aH d5 H'):wJ F' aH d5 H' K D :=
 ⟨c.nx.ext e,c.bk.ext e,c.ct.ext e,fun x δ' h _ _ _ _ _ E S V=>c.rt x δ' h _ _ _ _ _ (e.trans E) S V⟩
noncomputable def fO (G:WS):TS:=fun D σ H=>∃ F ad δ K,SR F ad δ σ H/\G K δ /\ wJ F ad δ.mu H K D
noncomputable def au (G G':WS):WS:=fun K δ => G { K with nx:=G' K } δ
noncomputable def ft:WS:=fun K δ => K.nx δ
noncomputable def aC (i:Nat) (f:WE):WS:=fun K δ => f δ fun x δ1=>K.nx ⟨δ1.sl.set i (some x),δ1.mu⟩
noncomputable def j6 (f:WE):WS:=fun K δ => f δ fun _ δ1=>K.nx δ1
noncomputable def aW (f:WE):WS:=fun K δ => f δ fun x δ1=>K.rt x δ1
noncomputable def bE (t:WT) (G G':WS):WS:=fun K δ => t δ fun b δ1=>if b=true then G K δ1 else G' K δ1
section
variable {X:Cx} {e c:Expr} {st:Stmt} {rest:List Stmt} {f:WE} {t:WT} {G G':WS} {pos:Pos}
theorem fY:gK X [] (fO ft):=mN.weak fun D σ H h0_ => el7 h0_ fun F ad δ K S q k =>k.nx _ q _ _ _ _ .refl S
theorem bw (h:JS X st (fO G)):gK X [st] (fO G):=t8 h
theorem aZ (h:JS X st (fO G)) (r:gK X rest (fO G')):gK X (st :: rest) (fO (au G G')) :=
 (pZ h r).weak fun D σ H h0_ => el7 h0_ fun F ad δ K S q k =>⟨F,ad,δ,_,S,q,⟨fun δ' h _ _ _ _ E S'=>⟨_,_,δ',K,S',h,k.ext E⟩,k.bk,k.ct,k.rt⟩⟩
theorem N6 {i:Nat}:∀ D σ H,fO (aC i f) D σ H->h8 (tD f) (lV i) D σ H:=fun D σ H h0_ => el7 h0_ fun F ad δ K S q k =>⟨F,ad,δ,_,S,q,fun x δ1 h1 v F1 aS H1 E1 S1 V1=>k.nx _ h1 _ _ _ _ E1 (S1.set V1)⟩
theorem bR {i:Nat} {x:Str} {pos':Pos} (hN:X.N.Nodup) (hi:X.N[i]? = some x) (hx:Loc X.env.scope x) (he:JE X e (tD f)) (hs:swapsWith e (some (.Name x pos')) pos.line X.env=pure false:=by rfl)
  (hf:X.fn x=true\/X.env.scope.names.lookup x=some .local:=by first | exact .inl rfl | exact .inr rfl | assumption):JS X (.Assign [.Name x pos'] e pos) (fO (aC i f)):=(wu hN hi hx he hs hf).weak N6
theorem lq (he:JE X e (tD f)) (hs:swapsWith e none pos.line X.env=pure false:=by rfl):JS X (.Expr e pos) (fO (j6 f)) :=
 (Fx he hs).weak fun D σ H h0_ => el7 h0_ fun F ad δ K S q k =>⟨F,ad,δ,_,S,q,fun x δ1 h1 v F1 aS H1 E1 S1 V1=>k.nx _ h1 _ _ _ _ E1 S1⟩
theorem cM (he:JE X e (tD f)):JS X (.Return (some e) pos) (fO (aW f)) :=
 (An he).weak fun D σ H h0_ => el7 h0_ fun F ad δ K S q k =>⟨F,ad,δ,_,S,q,fun x δ1 h1 v F1 aS H1 E1 S1 V1=>k.rt _ _ h1 _ _ _ _ _ E1 S1 V1⟩
theorem fP {a b:List Stmt} (hc:JT X c (dQ t)) (ha:gK X a (fO G)) (hb:gK X b (fO G')):JS X (.If c a b pos) (fO (bE t G G')) :=
 (Nz hc ha hb).weak fun D σ H h0_ => el7 h0_ fun F ad δ K S q k =>⟨F,ad,δ,_,S,q,fun b δ1 h1 F1 aS H1 E1 S1=>by
  cases b with
  | true =>
   rw[VY rfl] at h1 ⊢
   exact⟨F1,aS,δ1,K,S1,h1,k.ext E1⟩
  | false =>
   rw[MC Ws] at h1 ⊢
   exact⟨F1,aS,δ1,K,S1,h1,k.ext E1⟩⟩
noncomputable def rQ:WS:=fun _ _=>False
noncomputable abbrev WG:=DV->aB->(aB->Prop)->Prop
noncomputable def lr (g:WG):TG:=fun v σ H Q=>∃ F ad δ x K,SR F ad δ σ H/\gY F ad x v/\g x δ K/\Cn F ad δ.mu H K Q
noncomputable abbrev qd:=List D->aB->(aB->Prop)->Prop
noncomputable def mT (g:qd):jE:=fun vs σ H Q=>∃ F ad δ ds K,SR F ad δ σ H/\af F ds vs/\g ds δ K/\Cn F ad δ.mu H K Q
noncomputable def bA (i:Nat):WG:=fun x δ K=>K ⟨δ.sl.set i (some x),δ.mu⟩
noncomputable def kA:qd:=fun ds δ K=>match ds with
 | []=>K δ
 | _=>False
noncomputable def ig (g:WG) (g':qd):qd:=fun ds δ K=>match ds with
 | d :: r=>g (.p d) δ fun δ1=>g' r δ1 K
 | []=>False
theorem JG.weak {tg:Expr} {t t':TG} (h:JG X tg t) (k:∀ v σ H Q,t' v σ H Q->t v σ H Q):JG X tg t':=⟨fun pins s σ H v u Q I r q=>h.out pins s σ H v u Q I r (k v σ H Q q)⟩
theorem kz.weak {ts:List Expr} {t t':jE} (h:kz X ts t) (k:∀ v σ H Q,t' v σ H Q->t v σ H Q):kz X ts t':=⟨fun pins s σ H v u Q I r q=>h.out pins s σ H v u Q I r (k v σ H Q q)⟩
theorem cF {i:Nat} {x:Str} (hN:X.N.Nodup) (hi:X.N[i]? = some x) (hx:Loc X.env.scope x) (hf:X.fn x=true\/X.env.scope.names.lookup x=some .local:=by first | exact .inl rfl | exact .inr rfl | assumption):JG X (.Name x pos) (lr (bA i)) :=
 (t9 hN hi hx hf).weak fun v σ H Q ⟨F,ad,δ,x,K,S,V,q,k⟩=>k _ q _ _ _ _ .refl (S.set V)
theorem rR:kz X [] (mT kA):=ic.weak fun vs σ H Q ⟨F,ad,δ,ds,K,S,V,q,k⟩=>by
 unfold kA at q
 split at q
 ·simp only[af] at V
  exact⟨V,k _ q _ _ _ _ .refl S⟩
 ·exact q.elim
theorem kB {es:List Expr} {g:WG} {g':qd} (h1:JG X e (lr g)) (h2:kz X es (mT g')) (hs:(assignEach (e :: es) X.env).map (·.2)=assign e X.env :: (assignEach es X.env).map (·.2):=by rfl):kz X (e :: es) (mT (ig g g')) :=
 (t_ h1 h2 hs).weak fun vs σ H Q ⟨F,ad,δ,ds,K,S,V,q,k⟩=>by
  unfold ig at q
  split at q
  ·rename_i d r
   simp only[af] at V
   obtain⟨v,r',e,i1,i2⟩:=V
   exact⟨v,r',e,F,ad,δ,.p d,_,S,i1,q,fun δ' h _ _ _ _ E S'=>⟨_,_,δ',r,K,S',i2.same E.same,h,k.ext E⟩⟩
  ·exact q.elim
noncomputable def ly (n:Nat) (g:qd):WG:=fun x δ K=>dM x δ fun d=>match d with
 | .tup ds=>ds.length=n/\g ds δ K
 | .lst ds=>ds.length=n/\g ds δ K
 | _=>False
theorem JG.or {tg:Expr} {t t':TG} (h:JG X tg t) (h':JG X tg t'):JG X tg (fun v σ H Q=>t v σ H Q\/t' v σ H Q):=⟨fun pins s σ H v u Q I r q=>q.elim (fun q=>h.out pins s σ H v u Q I r q) fun q=>h'.out pins s σ H v u Q I r q⟩
theorem rS {es:List Expr} {k:Nat} {g:qd} {n:Nat} (hc:X.calm=true) (h:kz X es (mT g)) (hn:(assignEach es X.env).length=n:=by rfl) (kX:(assignEach es X.env).findIdx? (·.1)=none:=by rfl):JG X (.Tuple es k pos) (lr (ly n g)) :=
 ((Ao hc h hn kX).or (NX hc h hn kX)).weak fun v σ H Q ⟨F,ad,δ,x,K,S,V,q,k⟩=>by
  obtain⟨d,q,rd⟩:=i_ S V q
  split at q
  ·rename_i ds
   have wK:Is F (.tup ds) v:=rd
   simp only[Is] at wK
   obtain⟨a,vs,e,h1,h2⟩:=wK
   exact .inl ⟨a,vs,e,bV.of (S.sub _ _ h1),by rw[h2.length];exact q.1,F,ad,δ,ds,K,S,h2,q.2,k⟩
  ·rename_i ds
   obtain⟨a,vs,e,h1,h2⟩:=rd
   exact .inr ⟨a,vs,e,bj.of h1,by rw[h2.length];exact q.1,F,ad,δ,ds,K,S,h2,q.2,k⟩
  ·exact q.elim
noncomputable def j7 (f:WE) (g:WG):WS:=fun K δ => f δ fun x δ1=>g x δ1 K.nx
theorem AN {tg:Expr} {g:WG} (he:JE X e (tD f)) (hg:JG X tg (lr g)) (hs:swapsWithSole [tg] e pos.line X.env=pure false:=by rfl) (hw:swappedStores [tg] e X.env=pure none:=by rfl)
  (h1:(assignEach [tg] X.env).map (·.2)=[assign tg X.env]:=by rfl):JS X (.Assign [tg] e pos) (fO (j7 f g)) :=
 (rK he hg hs hw h1).weak fun D σ H h0_ => el7 h0_ fun F ad δ K S q k =>⟨F,ad,δ,_,S,q,fun x δ1 h1 v F1 aS H1 E1 S1 V1=>⟨F1,aS,δ1,x,K.nx,S1,V1,h1,k.nx.ext E1⟩⟩
end
structure qe where
 items:List D
 bD:aB->Prop
noncomputable abbrev WI:=aB->(qe->aB->Prop)->Prop
noncomputable def qf (F:Hp) (ad:List Addr) (it:qe) (J:It):Prop:=∀ (F':Hp) (aH:List Addr) (δ : aB) (σ : St) (H:Hp),aA F F'->(∀ (k:Nat) (a:Addr),ad[k]? = some a->aH[k]? = some a)->SR F' aH δ σ H->it.bD δ →
 J.stop it.items.length H/\∀ (i:Nat) (d:D),it.items[i]? = some d->J.go i H/\∀ x H',J.rz i H x H'->aA H H'/\Is (Nw F' H H') d x
noncomputable def l3 (w:WI):TI:=fun σ H R=>∃ F ad δ K,SR F ad δ σ H/\w δ K/\∀ it δ',K it δ'->∀ J F' aH H',Ext F ad δ.mu H F' aH δ'.mu H'->SR F' aH δ' σ H'->qf F' aH it J->R J H'
noncomputable def uo (n:Nat):Option DV->Option DV->Option DV
 | none,_=>none
 | some _,some (.o k)=>if k < n then some (.o k) else none
 | some _,s=>s
noncomputable def gy (n:Nat):List (Option DV)->List (Option DV)->List (Option DV)
 | s0 :: r0,s :: r=>uo n s0 s :: gy n r0 r
 | [],_ :: r=>none :: gy n [] r
 | _,[]=>[]
noncomputable def aB.trim (δ0 δ : aB):aB:=⟨gy δ0.mu.length δ0.sl δ.sl,δ.mu.take δ0.mu.length⟩
theorem AO {n:Nat}:∀ (l0 l:List (Option DV)),(gy n l0 l).length=l.length
 | _ :: r0,_ :: r=>by rw[gy,Mx,Mx,AO r0 r]
 | [],_ :: r=>by rw[gy,Mx,Mx,AO [] r]
 | [],[]=>rfl
 | _ :: _,[]=>rfl
theorem AQ {n:Nat}:∀ {l0 l:List (Option DV)} {i:Nat} {x:DV},(gy n l0 l)[i]? = some (some x)->l[i]? = some (some x)/\∀ k,x = .o k->k < n
 | s0 :: r0,s :: r,0,x,h=>by
  have h:uo n s0 s=some x:=by simpa [gy] using h
  match s0,s,h with
  | none,_,h=>cases h
  | some _,none,h=>cases h
  | some _,some (.p d),h=>cases (show some (DV.p d)=some x from h);exact⟨rfl,fun k e=>nomatch e⟩
  | some _,some (.o k),h =>
   have h:(if k < n then some (DV.o k) else none)=some x:=h
   by_cases c:k < n
   ·rw[VY c] at h;cases h;exact⟨rfl,fun k' e=>by cases e;exact c⟩
   ·rw[MC c] at h;cases h
 | s0 :: r0,s :: r,i + 1,x,h=>by
  have h:(gy n r0 r)[i]? = some (some x):=by simpa [gy] using h
  simpa using AQ h
 | [],s :: r,0,x,h=>by simp[gy] at h
 | [],s :: r,i + 1,x,h=>by
  have h:(gy n [] r)[i]? = some (some x):=by simpa [gy] using h
  simpa using AQ h
 | [],[],i,x,h=>by simp[gy] at h
 | _ :: _,[],i,x,h=>by simp[gy] at h
section
variable {F F' H H':Hp} {ad aH:List Addr} {δ δ' δ0:aB} {σ σ' τ : St} {mu d5:List (Option OV)} {l:Addr} {o:HO}
theorem Lv.take {n:Nat} {a:Addr} (h:Lv (ad.take n) (mu.take n) a):Lv ad mu a:=by
 obtain⟨k,ov,e1,e2⟩:=h
 have hk:k < n:=by
  have:=(pV.mp e1).1
  rw[WQ] at this;omega
 rw[Xp hk] at e1 e2
 exact⟨k,ov,e1,e2⟩
theorem SR.trim (S:SR F ad δ σ H):SR F (ad.take δ0.mu.length) (δ0.trim δ) σ H:=by
 have tk:∀ {k:Nat} {a:Addr},(ad.take δ0.mu.length)[k]? = some a->k < δ0.mu.length/\ad[k]? = some a:=fun {k a} e=>by
  have hk:k < δ0.mu.length:=by
   have:=(pV.mp e).1
   rw[WQ] at this;omega
  rw[Xp hk] at e;exact⟨hk,e⟩
 have tm:∀ {k:Nat} {w:Option OV},(δ.mu.take δ0.mu.length)[k]? = some w->k < δ0.mu.length /\ δ.mu[k]? = some w:=fun {k w} e=>by
  have hk:k < δ0.mu.length:=by
   have:=(pV.mp e).1
   rw[WQ] at this;omega
  rw[Xp hk] at e;exact⟨hk,e⟩
 refine⟨S.sub,fun a x=>S.off a x.take,?_,fun k l a w w' e1 e2 e3 e4=>S.inj k l a w w' (tk e1).2 (tk e2).2 (tm e3).2 (tm e4).2,fun k ov e => ?_,fun i x e => ?_,?_,S.tab,S.nt⟩
 ·show (ad.take _).length=(δ.mu.take _).length
  rw[WQ,WQ,S.c8]
 ·obtain⟨a,o,e1,e2,h⟩:=S.mu k ov (tm e).2
  exact⟨a,o,by rw[Xp (tm e).1];exact e1,e2,h⟩
 ·obtain⟨e1,e2⟩:=AQ e
  obtain⟨v,h1,h2⟩:=S.sl i x e1
  refine⟨v,h1,?_⟩
  cases x with
  | p d=>exact h2
  | o k =>
   obtain⟨a,h3,h4⟩:=h2
   exact⟨a,by rw[Xp (e2 k rfl)];exact h3,h4⟩
 ·show σ.length=(gy _ _ _).length
  rw[AO];exact S.len
theorem Ext.trim {n:Nat} (e:Ext F ad mu H F' aH d5 H') (hn:ad.length=n):Ext F ad mu H F' (aH.take n) (d5.take n) H' :=
 ⟨e.same,e.new,e.keep,fun k a h=>by rw[Xp (by rw[<-hn];exact (pV.mp h).1)];exact e.pre k a h,fun a x=>e.cH a x.take,e.iS⟩
theorem SR.other (S:SR F ad δ σ H) (hf:F l=none) (hl:¬ Lv ad δ.mu l) (tk:aJ.ok (upd H l o)):SR F ad δ σ (upd H l o):=by
 refine⟨fun a u e => ?_,S.off,S.c8,S.inj,fun k ov e => ?_,S.sl,S.len,tk,S.nt⟩
 ·rw[aQ (dq e hf)];exact S.sub a u e
 ·obtain⟨a,u,e1,e2,h⟩:=S.mu k ov e
  exact⟨a,u,e1,by rw[aQ fun z=>hl (by subst z;exact⟨k,ov,e1,e⟩)];exact e2,h⟩
theorem Ext.other (e:Ext F ad mu H F' aH d5 H') (hl:H l=none):Ext F ad mu H F' aH d5 (upd H' l o) :=
 ⟨e.same,e.new,fun a u h n t=>by rw[aQ (dq h hl)];exact e.keep a u h n t,e.pre,e.cH,fun a u h=>by rw[aQ (dq h hl)];exact e.iS a u h⟩
theorem SR.adopt (S:SR F ad δ σ H) (hf:F l=none) (ho:H l=some o) (hl:¬ Lv ad δ.mu l) (no:∀ ps,o ≠ .tbl ps:=by intro _ z;cases z):SR (upd F l o) ad δ σ H:=by
 have sm:aA F (upd F l o):=cR hf
 refine⟨fun a u e => ?_,fun a x => ?_,S.c8,S.inj,fun k ov e => ?_,fun i x e => ?_,S.len,S.tab,fun a ha=>by
  obtain⟨ps,q⟩:=aJ.tb S.tab ha
  rw[aQ fun z=>by subst z;rw[ho] at q;exact no ps (WW q)]
  exact S.nt a ha⟩
 ·by_cases c:a=l
  ·subst c;rw[bK] at e;cases e;exact ho
  ·rw[aQ c] at e;exact S.sub a u e
 ·rw[aQ fun z=>hl (by subst z;exact x)];exact S.off a x
 ·obtain⟨a,u,e1,e2,h⟩:=S.mu k ov e
  exact⟨a,u,e1,e2,h.same sm⟩
 ·obtain⟨v,e1,h⟩:=S.sl i x e
  refine⟨v,e1,?_⟩
  cases x with
  | p d=>exact Is.same sm h
  | o k=>exact h
theorem Ext.adopt (e:Ext F ad mu H F' aH d5 H') (hl:H l=none) (hf:F' l=none):Ext F ad mu H (upd F' l o) aH d5 H' :=
 ⟨e.same.trans (cR hf),fun a u h=>by
  by_cases c:a=l
  ·subst c;exact .inr (.inl hl)
  ·rw[aQ c] at h;exact e.new a u h,e.keep,e.pre,e.cH,e.iS⟩
theorem SR.eG {ov:OV} (S:SR F ad δ σ H) (hf:F l=none) (ho:H l=some o) (hl:¬ Lv ad δ.mu l) (h:fX F ov o):SR F (ad ++ [l]) ⟨δ.sl,δ.mu ++ [some ov]⟩ σ H:=by
 have old:∀ {k:Nat} {w:OV},(δ.mu ++ [some ov])[k]? = some (some w)->(k < δ.mu.length /\ δ.mu[k]? = some (some w))\/(k = δ.mu.length/\w=ov):=fun {k w} e=>by
  by_cases c:k < δ.mu.length
  ·rw[Wu c] at e;exact .inl ⟨c,e⟩
  ·have hl:=(pV.mp e).1
   rw[My,W6] at hl
   have ek:k = δ.mu.length:=by omega
   subst ek
   rw[Ww (we _),XB] at e
   exact .inr ⟨rfl,by simpa using e.symm⟩
 have pre:∀ {k:Nat},k < δ.mu.length->(ad ++ [l])[k]? = ad[k]? := fun {k} c=>Wu (by rw[S.c8];exact c)
 have last:(ad ++ [l])[δ.mu.length]? = some l:=by rw[<-S.c8,Ww (we _),XB];rfl
 refine⟨S.sub,fun a x => ?_,by rw[My,My,S.c8];rfl,fun k k' a w w' e1 e2 e3 e4 => ?_,fun k w e => ?_,fun i x e => ?_,S.len,S.tab,S.nt⟩
 ·obtain⟨k,w,e1,e2⟩:=x
  rcases old e2 with⟨c,e3⟩ | ⟨c,e3⟩
  ·rw[pre c] at e1;exact S.off a ⟨k,w,e1,e3⟩
  ·subst c;rw[last] at e1;cases e1;exact hf
 ·rcases old e3 with⟨c,q⟩ | ⟨c,q⟩
  ·rw[pre c] at e1
   rcases old e4 with⟨c',q'⟩ | ⟨c',q'⟩
   ·rw[pre c'] at e2;exact S.inj k k' a w w' e1 e2 q q'
   ·subst c';rw[last] at e2;cases e2;exact absurd ⟨k,w,e1,q⟩ hl
  ·subst c;rw[last] at e1;cases e1
   rcases old e4 with⟨c',q'⟩ | ⟨c',q'⟩
   ·rw[pre c'] at e2;exact absurd ⟨k',w',e2,q'⟩ hl
   ·exact c'.symm
 ·rcases old e with⟨c,q⟩ | ⟨c,q⟩
  ·obtain⟨a,u,e1,e2,h'⟩:=S.mu k w q
   exact⟨a,u,by rw[pre c];exact e1,e2,h'⟩
  ·subst c;subst q;exact⟨l,o,last,ho,h⟩
 ·obtain⟨v,e1,h'⟩:=S.sl i x e
  refine⟨v,e1,?_⟩
  cases x with
  | p d=>exact h'
  | o k =>
   obtain⟨a,e2,e3⟩:=h'
   exact⟨a,by rw[Wu (pV.mp e2).1];exact e2,e3⟩
theorem Ext.eG {ov:OV} (e:Ext F ad mu H F' aH d5 H') (hl:H l=none) (hm:aH.length=d5.length):Ext F ad mu H F' (aH ++ [l]) (d5 ++ [some ov]) H' :=
 ⟨e.same,e.new,e.keep,fun k a h=>by rw[Wu (pV.mp (e.pre k a h)).1];exact e.pre k a h,fun a x=>by
  obtain⟨k,w,e1,e2⟩:=x
  by_cases c:k < d5.length
  ·rw[Wu c] at e2
   rw[Wu (by rw[hm];exact c)] at e1
   exact e.cH a ⟨k,w,e1,e2⟩
  ·have gZ:=(pV.mp e2).1
   rw[My,W6] at gZ
   have ek:k=aH.length:=by rw[hm];omega
   subst ek
   rw[Ww (we _),XB] at e1
   have:l=a:=by simpa using e1
   subst this;exact .inr hl,e.iS⟩
theorem SR.back {sl:List (Option DV)} (S0:SR F ad δ σ H) (e:Ext F ad δ.mu H F' aH d5 H') (S:SR F' aH ⟨sl,d5⟩ τ H'):SR F' aH ⟨δ.sl,d5⟩ σ H' :=
 ⟨S.sub,S.off,S.c8,S.inj,S.mu,fun i x q=>let ⟨v,h1,h2⟩:=S0.sl i x q; ⟨v,h1,h2.ext e⟩,S0.len,S.tab,S.nt⟩
noncomputable def dD (cp:List (Option Nat)) (sl:List (Option DV)):List (Option DV):=cp.map fun o=>match o with
 | some i=>(sl[i]?).join
 | none=>none
theorem SR.uq {cp:List (Option Nat)} (S:SR F ad δ σ H):SR F ad ⟨dD cp δ.sl,δ.mu⟩ (i8 cp σ) H:=by
 refine⟨S.sub,S.off,S.c8,S.inj,S.mu,fun j x e => ?_,by unfold i8 dD;rw[pU,pU],S.tab,S.nt⟩
 unfold dD at e
 rw[E7] at e
 obtain⟨o,e1,e2⟩:=VV.mp e
 match o,e2 with
 | none,e2=>cases e2
 | some i,e2 =>
  have e2:(δ.sl[i]?).join=some x:=e2
  cases q : δ.sl[i]? with
  | none=>rw[q] at e2;cases e2
  | some z =>
   rw[q] at e2
   have e3:z=some x:=e2
   subst e3
   obtain⟨v,h1,h2⟩:=S.sl i x q
   refine⟨v,?_,h2⟩
   unfold i8
   rw[E7,e1]
   show some ((σ[i]?).join)=some (some v)
   rw[h1];rfl
end
noncomputable def kC (δ0:aB) (bD:aB->Prop) (g:WG) (b:WS) (K:KS):List D->aB->Prop
 | [],δ => bD δ /\ K.nx δ
 | d :: r,δ => bD δ /\ g (.p d) δ fun δ1=>b { nx:=fun δ2=>kC δ0 bD g b K r (δ0.trim δ2),ct:=fun δ2=>kC δ0 bD g b K r (δ0.trim δ2),bk:=K.nx,rt:=K.rt } δ1
noncomputable def bS (w:WI) (g:WG) (b:WS):WS:=fun K δ => w δ fun it δ1=>kC δ1 it.bD g b K it.items δ1
noncomputable def jJ (δ0:aB) (bD:aB->Prop) (g:WG) (t:WT) (f:WE) (K:List D->aB->Prop):List D->List D->aB->Prop
 | [],acc,δ => bD δ /\ K acc δ
 | d :: r,acc,δ => bD δ /\ g (.p d) δ fun δ1=>t δ1 fun b δ2=>if b=true then f δ2 fun x δ3=>mP x δ3 fun e δ4=>acc.length < 1000/\jJ δ0 bD g t f K r (acc ++ [e]) (δ0.trim δ4) else jJ δ0 bD g t f K r acc (δ0.trim δ2)
noncomputable def fZ (w:WI) (cp:List (Option Nat)) (g:WG) (t:WT) (f:WE):WE:=fun δ K=>w δ fun it δ1=>jJ ⟨dD cp δ1.sl,δ1.mu⟩ it.bD g t f (fun acc δ'=>K (.p (.lst acc)) ⟨δ1.sl,δ'.mu⟩) it.items [] ⟨dD cp δ1.sl,δ1.mu⟩
noncomputable def qg (w:WI) (cp:List (Option Nat)) (g:WG) (t:WT) (f:WE):WE:=fun δ K=>w δ fun it δ1=>jJ ⟨dD cp δ1.sl,δ1.mu⟩ it.bD g t f (fun acc δ'=>K (.o δ'.mu.length) ⟨δ1.sl,δ'.mu ++ [some (.lst acc)]⟩) it.items [] ⟨dD cp δ1.sl,δ1.mu⟩
section
variable {X:Cx} {tg iter elt:Expr} {body:List Stmt} {w:WI} {g:WG} {b:WS} {pos:Pos} {ifs:List Expr} {t:WT} {f:WE} {scope:Scope}
theorem jr (hp:PassesOwn (model X.prog X.w) X.A X.env X.xe) (hc:X.calm=true) (hi:JI X tg iter (l3 w)) (hg:JG X tg (lr g)) (hb:gK X body (fO b)) (hs:∀ x,foldedSetIterable iter X.env x=pure x:=by intro _;rfl) :
  JS X (.For tg iter body [] pos) (fO (bS w g b)):=(Ap hp hc hi hg hb hs).weak fun D σ H h0_ => el7 h0_ fun F ad δ K S q k =>by
 refine⟨F,ad,δ,_,S,q,fun it δ1 h1 J F1 aS H1 E1 S1 I1 => ?_⟩
 have k1:=k.ext E1
 refine⟨fun i m σ' H'=>∃ F' aH δ',i + m=it.items.length/\Ext F1 aS δ1.mu H1 F' aH δ'.mu H'/\SR F' aH δ' σ' H'/\kC δ1 it.bD g b K (it.items.drop i) δ',⟨it.items.length,F1,aS,δ1,by omega,.refl,S1,h1⟩,?_⟩
 rintro i m σ' H' ⟨F',aH,δ',hm,E',S',h⟩
 by_cases cu:i < it.items.length
 ·rw[YI cu] at h
  obtain⟨ck,h⟩:=h
  obtain⟨go,yl⟩:=(I1 F' aH δ' σ' H' E'.same E'.pre S' ck).2 i _ (mM cu)
  refine .inr ⟨go,fun σ2 H2=>∃ F2 c_ δ2,Ext F1 aS δ1.mu H1 F2 c_ δ2.mu H2/\SR F2 c_ δ2 σ2 H2/\kC δ1 it.bD g b K (it.items.drop (i + 1)) δ2,fun σ2 H2 ⟨F2,c_,δ2,e1,e2,e3⟩=>⟨m - 1,by omega,F2,c_,δ2,by omega,e1,e2,e3⟩,fun x H2 y => ?_⟩
  obtain⟨sm,is⟩:=yl x H2 y
  have E2:=E'.trans (Ext.al S' sm)
  refine⟨_,aH,δ',.p _,_,S'.al sm,is,h,fun δ3 h3 F3 rT σ3 H3 E3 S3 => ?_⟩
  have wL:=E2.trans E3
  refine⟨F3,rT,δ3,_,S3,h3,⟨fun δ4 h4 F4 wM σ4 H4 E4 S4=>⟨F4,_,_,(wL.trans E4).trim S1.c8,S4.trim,h4⟩,k1.nx.ext wL,fun δ4 h4 F4 wM σ4 H4 E4 S4=>⟨F4,_,_,(wL.trans E4).trim S1.c8,S4.trim,h4⟩,(k1.ext wL).rt⟩⟩
 ·have ei:i=it.items.length:=by omega
  subst ei
  rw[List.drop_of_length_le (we _)] at h
  obtain⟨ck,h⟩:=h
  exact .inl ⟨(I1 F' aH δ' σ' H' E'.same E'.pre S' ck).1,k1.nx _ h _ _ _ _ E' S'⟩
noncomputable def dE:WT:=fun δ K=>K true δ
theorem JF.weak {ifs:List Expr} {t t':TT} (h:JF X ifs t) (k:∀ σ H Q,t' σ H Q->t σ H Q):JF X ifs t':=⟨fun pins s σ H Q I q=>h.out pins s σ H Q I (k σ H Q q)⟩
theorem kD:JF X [] (dQ dE):=p9.weak fun σ H Q h0_ => el7 h0_ fun F ad δ K S q k =>k _ _ q _ _ _ .refl S
theorem qh {c:Expr} (h:JT X c (dQ t)):JF X [c] (dQ t):=NL h
theorem FX {J:It} {l:Addr} {F1:Hp} {aS:List Addr} {δ1:aB} {σ : St} {H1:Hp} {it:qe} {cp:List (Option Nat)} {Q:VK} {K:List D->aB->Prop} (S1:SR F1 aS δ1 σ H1) (I1:qf F1 aS it J) (hl:H1 l=none)
  (h:jJ ⟨dD cp δ1.sl,δ1.mu⟩ it.bD g t f K it.items [] ⟨dD cp δ1.sl,δ1.mu⟩)
  (fin:∀ acc δ' F' aH τ H' ys,K acc δ'->Ext F1 aS δ1.mu H1 F' aH δ'.mu H'->SR F' aH δ' τ H'->H' l=some (.lst ys)->F' l=none->¬ Lv aH δ'.mu l->af F' acc ys->Q (.ref l) H') :
  Fc J (lr g) (dQ t) (tD f) l (i8 cp σ) (upd H1 l (.lst [])) Q:=by
 have f1:F1 l=none:=by
  cases q:F1 l with
  | none=>rfl
  | some u=>rw[S1.sub l u q] at hl;cases hl
 have nl:∀ {ad mu},(∀ a,Lv ad mu a->Lv aS δ1.mu a\/H1 a=none)->True:=fun _=>trivial
 have l1:¬ Lv aS δ1.mu l:=fun ⟨k,ov,e1,e2⟩=>by
  obtain⟨a,o,e3,e4,_⟩:=S1.mu k ov e2
  rw[e1] at e3;cases e3
  rw[hl] at e4;cases e4
 have S0:SR F1 aS ⟨dD cp δ1.sl,δ1.mu⟩ (i8 cp σ) (upd H1 l (.lst [])):=S1.uq.other f1 l1 (aJ.same S1.tab (cR hl))
 refine⟨fun i m τ H'=>∃ F' aH δ' acc ys,i + m=it.items.length/\Ext F1 aS δ1.mu H1 F' aH δ'.mu H'/\SR F' aH δ' τ H'/\H' l=some (.lst ys)/\F' l=none/\¬ Lv aH δ'.mu l/\af F' acc ys/\jJ ⟨dD cp δ1.sl,δ1.mu⟩ it.bD g t f K (it.items.drop i) acc δ',⟨it.items.length,F1,aS,_,[],[],by omega,Ext.refl.other hl,S0,bK,f1,l1,.nil,h⟩,?_⟩
 rintro i m τ H' ⟨F',aH,δ',acc,ys,hm,E',S',gZ,mU,oo,ia,h⟩
 by_cases cu:i < it.items.length
 ·rw[YI cu] at h
  obtain⟨ck,h⟩:=h
  obtain⟨go,yl⟩:=(I1 F' aH δ' τ H' E'.same E'.pre S' ck).2 i _ (mM cu)
  have step:∀ {F2:Hp} {c_:List Addr} {AR:List (Option OV)} {H2:Hp},Ext F' aH δ'.mu H' F2 c_ AR H2->H2 l=some (.lst ys)/\F2 l=none/\¬ Lv c_ AR l/\af F2 acc ys:=fun {F2 c_ AR H2} e=>by
   refine⟨e.keep _ _ gZ oo (fun z=>by obtain⟨ps,q⟩:=aJ.tb S1.tab z;rw[hl] at q;cases q),?_,fun z => ?_,ia.same e.same⟩
   ·cases q:F2 l with
    | none=>rfl
    | some u =>
     rcases e.new l u q with z | z | z
     ·rw[mU] at z;cases z
     ·rw[gZ] at z;cases z
     ·exact absurd z oo
   ·rcases e.cH l z with z | z
    ·exact oo z
    ·rw[gZ] at z;cases z
  refine .inr ⟨go,fun τ2 H2=>∃ F2 c_ δ2 mV wN,Ext F1 aS δ1.mu H1 F2 c_ δ2.mu H2/\SR F2 c_ δ2 τ2 H2/\H2 l=some (.lst wN)/\F2 l=none/\¬ Lv c_ δ2.mu l/\af F2 mV wN/\jJ ⟨dD cp δ1.sl,δ1.mu⟩ it.bD g t f K (it.items.drop (i + 1)) mV δ2,
   fun τ2 H2 ⟨F2,c_,δ2,mV,wN,r⟩=>⟨m - 1,by omega,F2,c_,δ2,mV,wN,by omega,r⟩,fun x H2 y => ?_⟩
  obtain⟨sm,is⟩:=yl x H2 y
  have X2:=Ext.al S' sm
  refine⟨_,aH,δ',.p _,_,S'.al sm,is,h,fun δ3 h3 F3 rT σ3 H3 X3 S3 => ?_⟩
  refine⟨F3,rT,δ3,_,S3,h3,fun bb δ4 h4 F4 wM H4 X4 S4 => ?_⟩
  have AS:=(X2.trans X3).trans X4
  cases bb with
  | false =>
   dsimp only at h4 ⊢
   rw[MC Ws] at h4 ⊢
   obtain⟨a1,a2,a3,a4⟩:=step AS
   exact⟨F4,_,_,acc,ys,(E'.trans AS).trim S1.c8,S4.trim (δ0:=⟨dD cp δ1.sl,δ1.mu⟩),a1,a2,fun z=>a3 z.take,a4,h4⟩
  | true =>
   dsimp only at h4 ⊢
   rw[VY rfl] at h4 ⊢
   refine⟨F4,wM,δ4,_,S4,h4,fun y δ5 h5 v F5 V_ H5 X5 S5 V5 => ?_⟩
   obtain⟨e,δ6,F6,⟨hlen,h6⟩,X6,S6,i6⟩:=ui S5 V5 h5
   have FY:=(AS.trans X5).trans X6
   obtain⟨a1,a2,a3,a4⟩:=step FY
   refine⟨ys,a1,lX (by rw[a4.length];omega),F6,_,_,acc ++ [e],ys ++ [v],?_,(S6.other a2 a3 (aJ.put S6.tab a1 (.inl ⟨_,rfl⟩))).trim (δ0:=⟨dD cp δ1.sl,δ1.mu⟩),bK,a2,fun z=>a3 z.take,a4.snoc i6,h6⟩
   exact ((E'.trans FY).other hl).trim S1.c8
 ·have ei:i=it.items.length:=by omega
  subst ei
  rw[List.drop_of_length_le (we _)] at h
  obtain⟨ck,h⟩:=h
  exact .inl ⟨(I1 F' aH δ' τ H' E'.same E'.pre S' ck).1,fin _ _ _ _ _ _ _ h E' S' gZ mU oo ia⟩
theorem FZ {cp:List (Option Nat)}:∀ σ H Q,tD (fZ w cp g t f) σ H Q->pW (l3 w) cp (fun _=>lr g) (fun _=>dQ t) (fun _=>tD f) σ H Q:=fun σ H Q h0_ => el7 h0_ fun F ad δ K S q k =>by
 refine⟨F,ad,δ,_,S,q,fun it δ1 h1 J F1 aS H1 E1 S1 I1=>fun d l hl => ?_⟩
 refine FX S1 I1 hl h1 fun acc δ' F' aH τ H' ys hk E' S' gZ mU oo ia => ?_
 have sm:aA F' (upd F' l (.lst ys)):=cR mU
 refine k _ _ hk _ _ _ _ (E1.trans (E'.adopt hl mU)) (SR.back (sl := δ'.sl) S1 (E'.adopt hl mU) (S'.adopt mU gZ oo)) ?_
 show Is _ (.lst acc) _
 simp only[Is]
 exact⟨l,ys,rfl,bK,ia.same sm⟩
theorem N7 {cp:List (Option Nat)}:∀ σ H Q,tD (qg w cp g t f) σ H Q->pW (l3 w) cp (fun _=>lr g) (fun _=>dQ t) (fun _=>tD f) σ H Q:=fun σ H Q h0_ => el7 h0_ fun F ad δ K S q k =>by
 refine⟨F,ad,δ,_,S,q,fun it δ1 h1 J F1 aS H1 E1 S1 I1=>fun d l hl => ?_⟩
 refine FX S1 I1 hl h1 fun acc δ' F' aH τ H' ys hk E' S' gZ mU oo ia => ?_
 have S2:=S'.eG (ov := .lst acc) mU gZ oo ⟨ys,rfl,ia⟩
 have E2:=E'.eG (ov := .lst acc) hl S'.c8
 refine k _ _ hk _ _ _ _ (E1.trans E2) (SR.back (sl := δ'.sl) S1 E2 S2) ⟨l,?_,rfl⟩
 rw[<-S'.c8,Ww (we _),XB];rfl
theorem kE (cp:List (Option Nat)) (Nb:List Str) (hc:X.calm=true) (hi:JI X tg iter (l3 w)) (hg:∀ d,JG (cQ X scope Nb d) tg (lr g)) (hf:∀ d,JF (cQ X scope Nb d) ifs (dQ t)) (he:∀ d,JE (cQ X scope Nb d) elt (tD f))
  (hk:scope.kind = .function:=by rfl) (ho:lY X.N X.env.scope scope Nb cp=true:=by first | rfl | kernel_rfl) (hs:∀ x,foldedSetIterable iter X.env x=pure x:=by intro _;rfl) :
  JE X (.ListComp elt [⟨tg,iter,ifs,0⟩] scope pos) (tD (fZ w cp g t f)):=(FA cp Nb hc hi hg hf he hk ho hs).weak FZ
theorem wO (cp:List (Option Nat)) (Nb:List Str) (hc:X.calm=true) (hi:JI X tg iter (l3 w)) (hg:∀ d,JG (cQ X scope Nb d) tg (lr g)) (hf:∀ d,JF (cQ X scope Nb d) ifs (dQ t)) (he:∀ d,JE (cQ X scope Nb d) elt (tD f))
  (hk:scope.kind = .function:=by rfl) (ho:lY X.N X.env.scope scope Nb cp=true:=by first | rfl | kernel_rfl) (hs:∀ x,foldedSetIterable iter X.env x=pure x:=by intro _;rfl) :
  JE X (.ListComp elt [⟨tg,iter,ifs,0⟩] scope pos) (tD (qg w cp g t f)):=(FA cp Nb hc hi hg hf he hk ho hs).weak N7
theorem AU (cp:List (Option Nat)) (Nb:List Str) {i:Nat} {x:Str} {pos' iN:Pos} (hN:X.N.Nodup) (hi:X.N[i]? = some x) (hx:Loc X.env.scope x) (hc:X.calm=true) (hit:JI X tg iter (l3 w)) (hg:∀ d,JG (cQ X scope Nb d) tg (lr g)) (hf:∀ d,JF (cQ X scope Nb d) ifs (dQ t)) (he:∀ d,JE (cQ X scope Nb d) elt (tD f))
  (hk:scope.kind = .function:=by rfl) (ho:lY X.N X.env.scope scope Nb cp=true:=by first | rfl | kernel_rfl) (hs:∀ x,foldedSetIterable iter X.env x=pure x:=by intro _;rfl)
  (tY:swapsWith (.ListComp elt [⟨tg,iter,ifs,0⟩] scope pos) (some (.Name x pos')) iN.line X.env=pure true:=by rfl)
  (mn:X.fn x=true\/X.env.scope.names.lookup x=some .local:=by first | exact .inl rfl | exact .inr rfl | assumption) :
  JS X (.Assign [.Name x pos'] (.ListComp elt [⟨tg,iter,ifs,0⟩] scope pos) iN) (fO (aC i (fZ w cp g t f))) :=
 (NM cp Nb hN hi hx hc hit hg hf he hk ho hs tY mn).weak fun D σ H h0_ => el7 h0_ fun F ad δ K S q k =>FZ σ H _ ⟨F,ad,δ,_,S,q,fun x δ1 h1 v F1 aS H1 E1 S1 V1=>k.nx _ h1 _ _ _ _ E1 (S1.set V1)⟩
end
inductive RV where
 | p (d:D) | n (ds:List D) | a (j:Nat)
noncomputable abbrev GD:=List DV->List OV->(RV->List OV->Prop)->Prop
structure wQ (F:Hp) (ad:List Addr) (H:Hp) (r:RV) (ows:List OV) (v:V) (F' H':Hp):Prop where
 sub:aA F' H'
 same:aA F F'
 new:∀ a o,F' a=some o->F a=some o\/H a=none
 keep:∀ a o,H a=some o->a∉ad->a∉aJ.ad->H' a=some o
 tab:aJ.ok H'
 nt:∀ a∈aJ.ad,F' a=none
 len:ows.length=ad.length
 own:∀ (j:Nat) (ow:OV),ows[j]? = some ow->∃ a o,ad[j]? = some a/\H' a=some o/\fX F' ow o
 off:∀ a∈ad,F' a=none
 res:match r with
  | .p d=>Is F' d v
  | .n ds=>∃ a vs,v = .ref a/\H a=none/\H' a=some (.lst vs)/\F' a=none/\af F' ds vs
  | .a j=>∃ a,ad[j]? = some a/\v = .ref a
noncomputable def aU (G:GD) (n:Nat):Sp:=fun vs H Q _=>vs.length=n/\∃ F ad ys ar K,SR F ad ⟨ys.map some,ar.map some⟩ (vs.map some) H/\G ys ar K/\∀ r ows,K r ows->∀ v F' H',wQ F ad H r ows v F' H'->Q v H'
noncomputable def iU (n:Nat) (K:RV->List OV->Prop) (x:DV) (δ : aB):Prop:=∃ ows,δ.mu.take n=ows.map some/\ows.length=n/\match x with
 | .p d=>K (.p d) ows
 | .o k=>if k < n then K (.a k) ows else match δ.mu[k]? with
  | some (some (.lst ds))=>K (.n ds) ows\/K (.p (.lst ds)) ows
  | _=>False
noncomputable def dX (n:Nat) (K:RV->List OV->Prop):KS where
 nx:=iU n K (.p .non)
 rt:=iU n K
section
variable {F F' H H':Hp} {ad aH:List Addr} {σ σ':St}
theorem F7 {α : Type} {l:List α} {i:Nat} {x : α} (h:(l.map some)[i]? = some (some x)):l[i]? = some x:=by
 rw[E7] at h
 obtain⟨y,e,q⟩:=VV.mp h
 cases q;exact e
theorem N8 {α : Type} {l:List α} {i:Nat} {x : α} (h:l[i]? = some x):(l.map some)[i]? = some (some x):=by
 rw[E7,h];rfl
theorem SR.start {ys:List DV} {mu:List (Option OV)} {vs:List V} {N:List Str} (S:SR F ad ⟨ys.map some,mu⟩ (vs.map some) H):SR F ad ⟨ys.map some ++ List.replicate (N.length - vs.length) none,mu⟩ (start N vs) H:=by
 have hl:vs.length=ys.length:=by
  have:=S.len
  rw[pU] at this
  show vs.length=ys.length
  rw[this];show (ys.map some).length=_;rw[pU]
 refine⟨S.sub,S.off,S.c8,S.inj,S.mu,fun i x e => ?_,?_,S.tab,S.nt⟩
 ·have hi:i < ys.length:=by
   by_cases c:i < ys.length
   ·exact c
   ·rw[Ww (by rw[pU];omega),YT] at e
    split at e
    ·cases e
    ·cases e
  rw[Wu (by rw[pU];exact hi)] at e
  obtain⟨v,h1,h2⟩:=S.sl i x e
  exact⟨v,by unfold L2.start;rw[Wu (by rw[pU,hl];exact hi)];exact h1,h2⟩
 ·unfold L2.start
  show _=(ys.map some ++ _).length
  rw[My,My,ZJ,ZJ,pU,pU,hl]
theorem wR {ar:List OV} {δ : aB} {x:DV} {v:V} {K:RV->List OV->Prop} {Q:VK} {sl:List (Option DV)} {τ : St} (S0:SR F ad ⟨sl,ar.map some⟩ τ H) (E:Ext F ad (ar.map some) H F' aH δ.mu H') (S:SR F' aH δ σ' H') (V:gY F' aH x v)
  (h:iU ar.length K x δ) (k:∀ r ows,K r ows->∀ v F' H',wQ F ad H r ows v F' H'->Q v H'):Q v H':=by
 obtain⟨ows,tk,hl,h⟩:=h
 have al:ad.length=ar.length:=by have:=S0.c8;rwa [pU] at this
 have lv:∀ (j:Nat) (a:Addr),ad[j]? = some a->∃ ow,ows[j]? = some ow /\ δ.mu[j]? = some (some ow)/\Lv aH δ.mu a:=fun j a e=>by
  have hj:j < ar.length:=by rw[<-al];exact (pV.mp e).1
  have h1:(δ.mu.take ar.length)[j]? = some (some (ows[j]'(by rw[hl];exact hj))):=by
   rw[tk,E7,mM (by rw[hl];exact hj)];rfl
  rw[Xp hj] at h1
  exact⟨_,mM (by rw[hl];exact hj),h1,j,_,E.pre j a e,h1⟩
 have lz:∀ a∈ad,F' a=none:=fun a ha=>by
  obtain⟨j,e⟩:=V0.mp ha
  obtain⟨_,_,_,l⟩:=lv j a e
  exact S.off a l
 have base:∀ {F2:Hp},aA F' F2->aA F2 H'->(∀ a o,F2 a=some o->F' a=some o\/(H a=none/\¬ a∈ad))->(∀ a∈ad,F2 a=none)->(∀ a∈aJ.ad,F2 a=none)->∀ {r:RV},(match r with
   | .p d=>Is F2 d v
   | .n ds=>∃ a vs,v = .ref a/\H a=none/\H' a=some (.lst vs)/\F2 a=none/\af F2 ds vs
   | .a j=>∃ a,ad[j]? = some a/\v = .ref a)->wQ F ad H r ows v F2 H':=fun {F2} s1 s2 n2 o2 N9 {r} res=>by
  refine⟨s2,E.same.trans s1,fun a o e => ?_,fun a o e n t => ?_,S.tab,N9,by rw[hl,al],fun j ow e => ?_,o2,res⟩
  ·rcases n2 a o e with e | ⟨e,_⟩
   ·rcases E.new a o e with z | z | ⟨j,ov,z,_⟩
    ·exact .inl z
    ·exact .inr z
    ·rw[lz a (V0.mpr ⟨j,z⟩)] at e;cases e
   ·exact .inr e
  ·exact E.keep a o e (fun ⟨j,ov,z,_⟩=>n (V0.mpr ⟨j,z⟩)) t
  ·have hj:j < ad.length:=by rw[al,<-hl];exact (pV.mp e).1
   obtain⟨AV,e1,e2,_⟩:=lv j _ (mM hj)
   rw[e] at e1;cases e1
   obtain⟨a,o,e3,e4,h5⟩:=S.mu j _ e2
   rw[E.pre j _ (mM hj)] at e3
   cases e3
   exact⟨_,o,mM hj,e4,h5.same s1⟩
 cases x with
 | p d=>exact k _ _ h _ _ _ (base (F2:=F') (fun _ _ e=>e) S.sub (fun _ _ e => .inl e) lz S.nt V)
 | o i =>
  dsimp only at h
  obtain⟨a,e1,rfl⟩:=V
  by_cases c:i < ar.length
  ·rw[VY c] at h
   have ei:ad[i]? = some a:=by
    have:=E.pre i _ (mM (by rw[al];exact c))
    rw[e1] at this
    rw[mM (by rw[al];exact c)]
    exact this.symm
   exact k _ _ h _ _ _ (base (F2:=F') (fun _ _ e=>e) S.sub (fun _ _ e => .inl e) lz S.nt ⟨a,ei,rfl⟩)
  ·rw[MC c] at h
   split at h
   ·rename_i ds em
    obtain⟨a',o,e2,e3,vs,rfl,h4⟩:=S.mu i _ em
    rw[e1] at e2;cases e2
    have na:a∉ad:=fun z=>by
     obtain⟨j,e⟩:=V0.mp z
     obtain⟨ow,_,e5,_⟩:=lv j a e
     have:i=j:=S.inj i j a _ _ e1 (E.pre j a e) em e5
     subst this
     exact c (by rw[<-al];exact (pV.mp e).1)
    have fa:F' a=none:=S.off a ⟨i,_,e1,em⟩
    have ha:H a=none:=by
     rcases E.cH a ⟨i,_,e1,em⟩ with⟨j,ov,z,_⟩ | z
     ·exact absurd (V0.mpr ⟨j,z⟩) na
     ·exact z
    rcases h with h | h
    ·exact k _ _ h _ _ _ (base (F2:=F') (fun _ _ e=>e) S.sub (fun _ _ e => .inl e) lz S.nt ⟨a,vs,rfl,ha,e3,fa,h4⟩)
    ·refine k _ _ h _ _ _ (base (F2:=upd F' a (.lst vs)) (cR fa) (fun b o e => ?_) (fun b o e => ?_) (fun b hb => ?_) (fun b hb => ?_) ?_)
     ·by_cases z:b=a
      ·subst z;rw[bK] at e;cases e;exact e3
      ·rw[aQ z] at e;exact S.sub b o e
     ·by_cases z:b=a
      ·subst z;exact .inr ⟨ha,na⟩
      ·rw[aQ z] at e;exact .inl e
     ·rw[aQ fun z=>na (by subst z;exact hb)];exact lz b hb
     ·obtain⟨ps,q⟩:=aJ.tb S.tab hb
      rw[aQ fun z=>by subst z;rw[e3] at q;cases q];exact S.nt b hb
     ·show Is _ (.lst ds) _
      simp only[Is]
      exact⟨a,vs,rfl,bK,h4.same (cR fa)⟩
   ·exact h.elim
end
theorem cI.f6 {P:Program} {w:World} {K:PySem.W.Frag} {mg:Str->Option Value} {base:Heap} {x qual:Str} {st:Stmt} {f:Addr} {fd:FuncData} {N ps:List Str} {k:Nat} {G:GD} (F:cI K x qual st f fd) (S:dz N ps (bW st))
  (eu:∀ (bo:Value) (A:Around) (outer:List Env) (s:Shared) (H:Hp) (E:XK),bz k (A.deeper (envOfC qual (bW st) s.heap.objs.size f bo)) →
   ∃ B:WS,gK (gJ cm P w K mg base N qual (bW st) f bo A outer s H E).mx (jX st) (fO B)/\∀ ys ar K',ys.length=ps.length->G ys ar K'->B (dX ar.length K') ⟨ys.map some ++ List.replicate (N.length - ps.length) none,ar.map some⟩) :
  aY P w K mg base cm (k + 1) f fd ps (aU G ps.length) :=
 F.wz S (fun vs H Q E h=>h.1) fun bo A outer s H vs Q E hr h=>by
  obtain⟨hl,Fz,ad,ys,ar,K',S0,g,kk⟩:=h
  obtain⟨B,jb,hb⟩:=eu bo A outer s H E hr
  have hy:ys.length=ps.length:=by
   have:=S0.len
   rw[pU] at this
   rw[<-hl,this];show _=(ys.map some).length;rw[pU]
  refine⟨_,jb,Fz,ad,⟨ys.map some ++ List.replicate (N.length - ps.length) none,ar.map some⟩,dX ar.length K',by rw[<-hl];exact S0.start,hb ys ar K' hy g,⟨fun δ' h F' aH σ' H' E' S' => ?_,fun δ' h=>h.elim,fun δ' h=>h.elim,fun y δ' h v F' aH σ' H' E' S' V => ?_⟩⟩
  ·exact wR (σ' := σ') S0 E' S' (x := .p .non) (v := .non) rfl h kk
  ·exact wR (σ' := σ') S0 E' S' V h kk
noncomputable def passes (mu:List (Option OV)):List DV->Nat->Option (List DV × List (Nat × OV))
 | [],_=>some ([],[])
 | .p d :: xs,j=>match passes mu xs j with
  | some r=>some (.p d :: r.1,r.2)
  | none=>none
 | .o k :: xs,j=>match mu[k]? with
  | some (some ov)=>match passes mu xs (j + 1) with
   | some r=>some (.o j :: r.1,(k,ov) :: r.2)
   | none=>none
  | _=>none
noncomputable def fQ (mu:List (Option OV)):List (Nat × OV)->List OV->List (Option OV)
 | (k,_) :: r,ow :: ows=>fQ (mu.set k (some ow)) r ows
 | _,_=>mu
noncomputable def kF:List (Nat × OV)->Bool
 | []=>true
 | (k,_) :: r => !(r.any fun e=>e.1 == k) && kF r
noncomputable def j8 (δ : aB) (g5:List (Nat × OV)) (K:DV->aB->Prop) (r:RV) (ows:List OV):Prop:=match r with
 | .p d=>K (.p d) ⟨δ.sl,fQ δ.mu g5 ows⟩
 | .n ds=>K (.p (.lst ds)) ⟨δ.sl,fQ δ.mu g5 ows⟩
 | .a j=>match g5[j]? with
  | some ko=>K (.o ko.1) ⟨δ.sl,fQ δ.mu g5 ows⟩
  | none=>False
noncomputable def qi (δ : aB) (g5:List (Nat × OV)) (K:DV->aB->Prop) (r:RV) (ows:List OV):Prop:=match r with
 | .n ds=>K (.o (fQ δ.mu g5 ows).length) ⟨δ.sl,fQ δ.mu g5 ows ++ [some (.lst ds)]⟩
 | _=>False
noncomputable def av (n:Nat) (G:GD) (fa:WA):WE:=fun δ K=>fa δ fun xs δ1=>match passes δ1.mu xs 0 with
 | some r=>(kF r.2=true/\r.1.length=n)/\G r.1 (r.2.map (·.2)) (j8 δ1 r.2 K)
 | none=>False
noncomputable def ur (n:Nat) (G:GD) (fa:WA):WE:=fun δ K=>fa δ fun xs δ1=>match passes δ1.mu xs 0 with
 | some r=>(kF r.2=true/\r.1.length=n)/\G r.1 (r.2.map (·.2)) (qi δ1 r.2 K)
 | none=>False
section
variable {F F' H H':Hp} {ad aH:List Addr} {δ : aB} {σ σ':St}
theorem wU {mu:List (Option OV)} (hm:∀ (k:Nat) (ov:OV),mu[k]? = some (some ov)->∃ a o,ad[k]? = some a/\H a=some o/\fX F ov o):∀ {xs:List DV} {vs:List V} {j:Nat} {r:List DV × List (Nat × OV)},passes mu xs j=some r->eE F ad xs vs →
  ∃ as:List Addr,as.length=r.2.length/\(∀ (i:Nat) (ko:Nat × OV),r.2[i]? = some ko->mu[ko.1]? = some (some ko.2)/\∃ a o,as[i]? = some a/\ad[ko.1]? = some a/\H a=some o/\fX F ko.2 o) ∧
   ∀ (pre:List Addr),pre.length=j->∃ _u:Unit,vs.length=r.1.length/\∀ (i:Nat) (y:DV),r.1[i]? = some y->∃ v,vs[i]? = some v/\gY F (pre ++ as) y v
 | [],vs,j,r,h,hv=>by
  cases h
  have:vs=[]:=hv
  subst this
  exact⟨[],rfl,fun i ko e=>by simp at e,fun pre _=>⟨(),rfl,fun i y e=>by simp at e⟩⟩
 | .p d :: xs,_,j,r,h,⟨v,t,e,h1,h2⟩=>by
  subst e
  unfold passes at h
  split at h
  ·rename_i r' hr
   cases h
   obtain⟨as,l,b,c⟩:=wU hm hr h2
   refine⟨as,l,b,fun pre hp=>⟨(),?_,fun i y e => ?_⟩⟩
   ·obtain⟨_,c1,_⟩:=c pre hp
    rw[Mx,Mx,c1]
   ·obtain⟨_,_,c2⟩:=c pre hp
    cases i with
    | zero=>cases (show some (DV.p d)=some y by simpa using e);exact⟨v,rfl,h1⟩
    | succ i=>simpa using c2 i y (by simpa using e)
  ·cases h
 | .o k :: xs,_,j,r,h,⟨v,t,e,h1,h2⟩=>by
  subst e
  unfold passes at h
  split at h
  ·rename_i ov hk
   split at h
   ·rename_i r' hr
    cases h
    obtain⟨as,l,b,c⟩:=wU hm hr h2
    obtain⟨a,e1,rfl⟩:=h1
    obtain⟨a',o,e2,e3,e4⟩:=hm k ov hk
    rw[e1] at e2;cases e2
    refine⟨a :: as,by rw[Mx,Mx,l],fun i ko e => ?_,fun pre hp=>⟨(),?_,fun i y e => ?_⟩⟩
    ·cases i with
     | zero=>cases (show some (k,ov)=some ko by simpa using e);exact⟨hk,a,o,rfl,e1,e3,e4⟩
     | succ i=>simpa using b i ko (by simpa using e)
    ·obtain⟨_,c1,_⟩:=c (pre ++ [a]) (by rw[My,hp];rfl)
     rw[Mx,Mx,c1]
    ·obtain⟨_,_,c2⟩:=c (pre ++ [a]) (by rw[My,hp];rfl)
     cases i with
     | zero =>
      cases (show some (DV.o j)=some y by simpa using e)
      refine⟨_,rfl,a,?_,rfl⟩
      rw[Ww (by omega),hp,XB];rfl
     | succ i =>
      obtain⟨v',c3,c4⟩:=c2 i y (by simpa using e)
      exact⟨v',by simpa using c3,by rw[X8] at c4;exact c4⟩
   ·cases h
  ·cases h
theorem F8:∀ {g5:List (Nat × OV)},kF g5=true->∀ (i j:Nat) (k:Nat) (a b:OV),g5[i]? = some (k,a)->g5[j]? = some (k,b)->i=j
 | [],_,i,j,k,a,b,e,_=>by simp at e
 | (k',ov) :: r,h,i,j,k,a,b,e1,e2=>by
  unfold kF at h
  simp only[Xq,q0q] at h
  have no:∀ (m:Nat) (c:OV),r[m]? = some (k',c)->False:=fun m c e=>by
   have:=YN.mp h.1 _ (V0.mpr ⟨m,e⟩)
   exact this (by simp)
  cases i with
  | zero =>
   cases (show some (k',ov)=some (k,a) by simpa using e1)
   cases j with
   | zero=>rfl
   | succ j=>exact (no j b (by simpa using e2)).elim
  | succ i =>
   cases j with
   | zero=>cases (show some (k',ov)=some (k,b) by simpa using e2);exact (no i a (by simpa using e1)).elim
   | succ j=>rw[F8 h.2 i j k a b (by simpa using e1) (by simpa using e2)]
theorem F9:∀ (g5:List (Nat × OV)) (ows:List OV) (mu:List (Option OV)),(fQ mu g5 ows).length=mu.length
 | (k,_) :: r,ow :: ows,mu=>by rw[fQ,F9 r ows,Yn]
 | [],_,_=>rfl
 | _ :: _,[],_=>rfl
theorem wV:∀ (g5:List (Nat × OV)) (ows:List OV) (mu:List (Option OV)) (l:Nat),(∀ ko∈g5,ko.1≠l)->(fQ mu g5 ows)[l]? = mu[l]?
 | (k,_) :: r,ow :: ows,mu,l,h=>by
  rw[fQ,wV r ows _ l fun ko hk=>h ko (E9 _ hk),XF (h _ E6)]
 | [],_,_,_,_=>rfl
 | _ :: _,[],_,_,_=>rfl
theorem F_:∀ {g5:List (Nat × OV)} {ows:List OV} {mu:List (Option OV)} {i:Nat} {ko:Nat × OV} {ow:OV},kF g5=true->g5[i]? = some ko->ows[i]? = some ow->ko.1 < mu.length->(fQ mu g5 ows)[ko.1]? = some (some ow)
 | (k,ov) :: r,AV :: ows,mu,0,ko,ow,h,e1,e2,hl=>by
  cases (show some (k,ov)=some ko by simpa using e1)
  cases (show some AV=some ow by simpa using e2)
  unfold kF at h
  simp only[Xq,q0q] at h
  rw[fQ,wV r ows _ k fun ko hk z=>absurd (by simpa using z) (YN.mp h.1 ko hk),XM hl]
 | (k,ov) :: r,AV :: ows,mu,i + 1,ko,ow,h,e1,e2,hl=>by
  unfold kF at h
  simp only[Xq,q0q] at h
  rw[fQ]
  exact F_ h.2 (by simpa using e1) (by simpa using e2) (by rw[Yn];exact hl)
 | [],_,_,i,_,_,_,e1,_,_=>by simp at e1
 | _ :: _,[],_,i,_,_,_,_,e2,_=>by simp at e2
theorem AW {xs:List DV} {vs:List V} {r:List DV × List (Nat × OV)} {G:GD} {n:Nat} {Q:VK} {E:XK} {K:RV->List OV->Prop} (S:SR F ad δ σ H) (V:eE F ad xs vs) (hn:vs.length=n) (hp:passes δ.mu xs 0=some r) (nd:kF r.2=true) (g:G r.1 (r.2.map (·.2)) K)
  (fin:∀ res ows v F' H',K res ows->Ext F ad δ.mu H F' ad (fQ δ.mu r.2 ows) H'->SR F' ad ⟨δ.sl,fQ δ.mu r.2 ows⟩ σ H'->(match res with
   | .p d=>Is F' d v
   | .n ds=>∃ a vs,v = .ref a/\H a=none/\H' a=some (.lst vs)/\F' a=none/\af F' ds vs
   | .a j=>∃ ko a,r.2[j]? = some ko/\ad[ko.1]? = some a/\v = .ref a)->Q v H'):aU G n vs H Q E:=by
 obtain⟨as,al,b,c⟩:=wU S.mu hp V
 obtain⟨_,c1,c2⟩:=c [] rfl
 have rV:∀ (i:Nat) (a:Addr),as[i]? = some a->Lv ad δ.mu a/\∃ ko,r.2[i]? = some ko/\ad[ko.1]? = some a /\ δ.mu[ko.1]? = some (some ko.2):=fun i a e=>by
  have hi:i < r.2.length:=by rw[<-al];exact (pV.mp e).1
  obtain⟨m1,a',o,e1,e2,_,_⟩:=b i _ (mM hi)
  rw[e] at e1;cases e1
  exact⟨⟨_,_,e2,m1⟩,_,mM hi,e2,m1⟩
 refine⟨hn,F,as,r.1,r.2.map (·.2),K,⟨S.sub,fun a ⟨i,ov,e1,e2⟩=>S.off a (rV i a e1).1,by rw[al];show _=((r.2.map (·.2)).map some).length;rw[pU,pU],fun i j a ov ow e1 e2 _ _ => ?_,fun i ov e => ?_,fun i y e => ?_,?_,S.tab,S.nt⟩,g,fun res ows hk v F' H' P => ?_⟩
 ·obtain⟨_,ko,k1,k2,k3⟩:=rV i a e1
  obtain⟨_,kp,p1,p2,p3⟩:=rV j a e2
  have:ko.1=kp.1:=S.inj _ _ a _ _ k2 p2 k3 p3
  exact F8 nd i j ko.1 ko.2 kp.2 k1 (by rw[this];exact p1)
 ·have e:=F7 e
  rw[E7] at e
  obtain⟨ko,e1,rfl⟩:=VV.mp e
  obtain⟨_,a,o,e2,_,e4,e5⟩:=b i ko e1
  exact⟨a,o,e2,e4,e5⟩
 ·obtain⟨v,e1,e2⟩:=c2 i y (F7 e)
  exact⟨v,N8 e1,by simpa using e2⟩
 ·show (vs.map some).length=(r.1.map some).length
  rw[pU,pU,c1]
 ·have ol:ows.length=r.2.length:=by rw[P.len,al]
  have nU:∀ (l:Nat) (ow:OV),(fQ δ.mu r.2 ows)[l]? = some (some ow)->(∃ (i:Nat) (ko:Nat × OV),r.2[i]? = some ko/\ko.1=l/\ows[i]? = some ow)\/((∀ ko∈r.2,ko.1≠l) /\ δ.mu[l]? = some (some ow)):=fun l ow e=>by
   by_cases z:∃ ko∈r.2,ko.1=l
   ·obtain⟨ko,hk,rfl⟩:=z
    obtain⟨i,hi⟩:=V0.mp hk
    have qj:i < ows.length:=by rw[ol];exact (pV.mp hi).1
    have:=F_ (mu := δ.mu) nd hi (mM qj) (pV.mp (b i ko hi).1).1
    rw[e] at this
    cases this
    exact .inl ⟨i,ko,hi,rfl,mM qj⟩
   ·have z':∀ ko∈r.2,ko.1≠l:=fun ko hk q=>z ⟨ko,hk,q⟩
    rw[wV _ _ _ _ z'] at e
    exact .inr ⟨z',e⟩
  have Ga:∀ (l:Nat) (ow:OV) (a:Addr),ad[l]? = some a->(fQ δ.mu r.2 ows)[l]? = some (some ow)->Lv ad δ.mu a:=fun l ow a e1 e2=>by
   rcases nU l ow e2 with⟨i,ko,hi,rfl,_⟩ | ⟨_,q⟩
   ·exact⟨_,_,e1,(b i ko hi).1⟩
   ·exact⟨_,_,e1,q⟩
  have N_:∀ a,a∈as->Lv ad δ.mu a:=fun a ha=>by
   obtain⟨i,e⟩:=V0.mp ha
   exact (rV i a e).1
  have ex:Ext F ad δ.mu H F' ad (fQ δ.mu r.2 ows) H':=by
   refine⟨P.same,fun a o e => ?_,fun a o e n t=>P.keep a o e (fun z=>n (N_ a z)) t,fun _ _ e=>e,fun a ⟨l,ow,e1,e2⟩ => .inl (Ga l ow a e1 e2),fun a o e => ?_⟩
   ·rcases P.new a o e with z | z
    ·exact .inl z
    ·exact .inr (.inl z)
   ·by_cases z:a∈as
    ·obtain⟨i,e1⟩:=V0.mp z
     have hi:i < ows.length:=by rw[P.len];exact (pV.mp e1).1
     obtain⟨a',o',e2,e3,_⟩:=P.own i _ (mM hi)
     rw[e1] at e2;cases e2
     exact⟨o',e3⟩
    ·by_cases t:a∈aJ.ad
     ·obtain⟨ps,q⟩:=aJ.tb P.tab t
      exact⟨_,q⟩
     ·exact⟨o,P.keep a o e z t⟩
  have AX:∀ a,Lv ad δ.mu a->F' a=none:=fun a l=>by
   by_cases z:a∈as
   ·exact P.off a z
   ·cases q:F' a with
    | none=>rfl
    | some u =>
     rcases P.new a u q with y | y
     ·rw[S.off a l] at y;cases y
     ·obtain⟨k,ov,e1,e2⟩:=l
      obtain⟨a',o,e3,e4,_⟩:=S.mu k ov e2
      rw[e1] at e3;cases e3
      rw[y] at e4;cases e4
  have sr:SR F' ad ⟨δ.sl,fQ δ.mu r.2 ows⟩ σ H':=by
   refine⟨P.sub,fun a ⟨l,ow,e1,e2⟩=>AX a (Ga l ow a e1 e2),by rw[S.c8];exact (F9 _ _ _).symm,fun k l a ov ow e1 e2 e3 e4 => ?_,fun l ow e => ?_,fun i y e => ?_,S.len,P.tab,P.nt⟩
   ·have h3:∃ w,δ.mu[k]? = some (some w):=by
     rcases nU k ov e3 with⟨i,ko,hi,rfl,_⟩ | ⟨_,q⟩
     ·exact⟨_,(b i ko hi).1⟩
     ·exact⟨_,q⟩
    have h4:∃ w,δ.mu[l]? = some (some w):=by
     rcases nU l ow e4 with⟨i,ko,hi,rfl,_⟩ | ⟨_,q⟩
     ·exact⟨_,(b i ko hi).1⟩
     ·exact⟨_,q⟩
    obtain⟨_,h3⟩:=h3
    obtain⟨_,h4⟩:=h4
    exact S.inj k l a _ _ e1 e2 h3 h4
   ·rcases nU l ow e with⟨i,ko,hi,rfl,ho⟩ | ⟨z,q⟩
    ·obtain⟨_,a,o,e1,e2,_,_⟩:=b i ko hi
     obtain⟨a',o',e3,e4,h5⟩:=P.own i ow ho
     rw[e1] at e3;cases e3
     exact⟨a,o',e2,e4,h5⟩
    ·obtain⟨a,o,e1,e2,h⟩:=S.mu l ow q
     refine⟨a,o,e1,P.keep a o e2 (fun y => ?_) (fun t => ?_),h.same P.same⟩
     ·obtain⟨i,e3⟩:=V0.mp y
      obtain⟨_,ko,k1,k2,k3⟩:=rV i a e3
      exact z ko (V0.mpr ⟨i,k1⟩) (S.inj _ _ a _ _ k2 e1 k3 q)
     ·obtain⟨ps,q2⟩:=aJ.tb S.tab t
      rw[e2] at q2
      cases q2
      rcases h.kind with⟨_,z⟩ | ⟨_,z⟩<;>cases z
   ·obtain⟨v,e1,h⟩:=S.sl i y e
    exact⟨v,e1,h.ext ex⟩
  refine fin res ows v F' H' hk ex sr ?_
  have qk:=P.res
  cases res with
  | p d=>exact qk
  | n ds=>exact qk
  | a j =>
   obtain⟨a,e1,e2⟩:=qk
   obtain⟨_,ko,k1,k2,_⟩:=rV j a e1
   exact⟨ko,a,k1,k2,e2⟩
end
section
variable {X:Cx} {fa:WA} {G:GD} {pos:Pos}
theorem Gb {F1 F2 H1 H2:Hp} {aS:List Addr} {δ1:aB} {σ : St} {xs:List DV} {vs:List V} {r:List DV × List (Nat × OV)} {ows:List OV} {a:Addr} (S1:SR F1 aS δ1 σ H1) (V1:eE F1 aS xs vs) (hp:passes δ1.mu xs 0=some r) (n1:H1 a=none):¬ Lv aS (fQ δ1.mu r.2 ows) a:=fun ⟨k,ov,e1,e2⟩=>by
 have c:∃ ov,δ1.mu[k]? = some (some ov):=by
  by_cases y:∃ ko∈r.2,ko.1=k
  ·obtain⟨ko,mW,rfl⟩:=y
   obtain⟨as,_,b,_⟩:=wU S1.mu hp V1
   obtain⟨i,hi⟩:=V0.mp mW
   exact⟨_,(b i ko hi).1⟩
  ·rw[wV _ _ _ _ fun ko mW q=>y ⟨ko,mW,q⟩] at e2
   exact⟨_,e2⟩
 obtain⟨Oa,c⟩:=c
 obtain⟨a',o,e3,e4,_⟩:=S1.mu k Oa c
 rw[e1] at e3;cases e3
 rw[n1] at e4;cases e4
theorem eE.length {F:Hp} {ad:List Addr}:∀ {xs:List DV} {vs:List V},eE F ad xs vs->vs.length=xs.length
 | [],vs,h=>by have h:vs=[]:=h;rw[h];rfl
 | x :: xs,vs,⟨v,r,e,_,h2⟩=>by rw[e,Mx,Mx,eE.length h2]
theorem wW {mu:List (Option OV)}:∀ {xs:List DV} {j:Nat} {r:List DV × List (Nat × OV)},passes mu xs j=some r->r.1.length=xs.length
 | [],j,r,h=>by cases h;rfl
 | .p d :: xs,j,r,h=>by
  unfold passes at h
  split at h
  ·rename_i r' hr;cases h;show (DV.p d :: r'.1).length=_;rw[Mx,Mx,wW hr]
  ·cases h
 | .o k :: xs,j,r,h=>by
  unfold passes at h
  split at h
  ·split at h
   ·rename_i r' hr;cases h;show (DV.o j :: r'.1).length=_;rw[Mx,Mx,wW hr]
   ·cases h
  ·cases h
section
variable {k:Nat} {f:Addr} {fd:FuncData} {ps:List Str} {x:Str} {p:Pos} {e:Expr} {es:List Expr} {n:Nat}
theorem Ob {E:XK}:∀ σ H Q,tD (av n G fa) σ H Q->tG (aU G n) [] E (cx fa) σ H Q:=fun σ H Q h0_ => el7 h0_ fun F ad δ K S q kk =>by
 refine⟨F,ad,δ,_,S,q,fun xs δ1 h1 vs F1 aS H1 E1 S1 V1 => ?_⟩
 split at h1
 ·rename_i r hp
  obtain⟨⟨nd,hn⟩,h1⟩:=h1
  rw[Yw]
  refine AW S1 V1 (by rw[V1.length,<-wW hp,hn]) hp nd h1 fun res ows v F2 H2 hk E2 S2 gj => ?_
  unfold j8 at hk
  cases res with
  | p d=>exact kk _ _ hk _ _ _ _ (E1.trans E2) S2 gj
  | n ds =>
   obtain⟨a,us,rfl,n1,n2,n3,n4⟩:=gj
   refine kk _ _ hk _ _ _ _ (E1.trans (E2.adopt (o := .lst us) n1 n3)) (S2.adopt n3 n2 (Gb (F2:=F2) (H2:=H2) S1 V1 hp n1)) ?_
   show Is _ (.lst ds) _
   simp only[Is]
   exact⟨a,us,rfl,bK,n4.same (cR n3)⟩
  | a j =>
   obtain⟨ko,a,h1,h2,h3⟩:=gj
   dsimp only at hk
   rw[h1] at hk
   exact kk _ _ hk _ _ _ _ (E1.trans E2) S2 ⟨a,h2,h3⟩
 ·exact h1.elim
theorem Oc {E:XK}:∀ σ H Q,tD (ur n G fa) σ H Q->tG (aU G n) [] E (cx fa) σ H Q:=fun σ H Q h0_ => el7 h0_ fun F ad δ K S q kk =>by
 refine⟨F,ad,δ,_,S,q,fun xs δ1 h1 vs F1 aS H1 E1 S1 V1 => ?_⟩
 split at h1
 ·rename_i r hp
  obtain⟨⟨nd,hn⟩,h1⟩:=h1
  rw[Yw]
  refine AW S1 V1 (by rw[V1.length,<-wW hp,hn]) hp nd h1 fun res ows v F2 H2 hk E2 S2 gj => ?_
  unfold qi at hk
  cases res with
  | p d=>exact hk.elim
  | n ds =>
   obtain⟨a,us,rfl,n1,n2,n3,n4⟩:=gj
   have oi:fX F2 (.lst ds) (.lst us):=⟨us,rfl,n4⟩
   refine kk _ _ hk _ _ _ _ (E1.trans (E2.eG (ov := .lst ds) n1 S2.c8)) (S2.eG n3 n2 (Gb (F2:=F2) (H2:=H2) S1 V1 hp n1) oi) ⟨a,?_,rfl⟩
   have:aS.length=(fQ δ1.mu r.2 ows).length:=S2.c8
   rw[<-this,Ww (we _),XB];rfl
  | a j=>exact hk.elim
 ·exact h1.elim
theorem bT (Fn:aY X.prog X.w X.K X.mg X.base cm k f fd ps (aU G n)) (hr:bz k X.A) (hg:Gl X x) (hm:X.mg x=some (.ref f)) (hk:PySem.W.keepIn X.K (.ref f)=true) (hb:Binds X.K fd ps [])
  (ha:JA X (e :: es) (cx fa)) (gI:(x == ("__debug__" : Str))=false:=by decide) (he:starEach (e :: es) X.env=(false,eval e X.env) :: starEach es X.env:=by rfl) (gw:(backTo pos (starEach es X.env)).any (·.1)=false:=by rfl) :
  JE X (.Call (.Name x p) (e :: es) [] pos) (tD (av n G fa)):=(wy Fn hr hg hm hk hb .nil wj ha gI he gw).weak Ob
theorem Gd (Fn:aY X.prog X.w X.K X.mg X.base cm k f fd ps (aU G n)) (hr:bz k X.A) (hg:Gl X x) (hm:X.mg x=some (.ref f)) (hk:PySem.W.keepIn X.K (.ref f)=true) (hb:Binds X.K fd ps [])
  (ha:JA X (e :: es) (cx fa)) (gI:(x == ("__debug__" : Str))=false:=by decide) (he:starEach (e :: es) X.env=(false,eval e X.env) :: starEach es X.env:=by rfl) (gw:(backTo pos (starEach es X.env)).any (·.1)=false:=by rfl) :
  JE X (.Call (.Name x p) (e :: es) [] pos) (tD (ur n G fa)):=(wy Fn hr hg hm hk hb .nil wj ha gI he gw).weak Oc
end
end
end L2
namespace PySem
open Sem (wp)
open AutoSeq1 (wpAny_loadPart')
theorem Od (l:Addr) (items:Array Value) (n:Nat) (dct:Option Addr) (sl:Array (Option Value)) :
  Meets (Builtin.«enumerate.__new__» ⟨[.type "enumerate",.ref l],[]⟩) (fun _ R s=>s.heap.get? l=some { cls := .type "tuple",dict:=dct,data := .seq items n,slots:=sl } ∧
   R (.ok (.ret (.ref (s.heap.push { cls := .type "tuple_iterator",data := .fields #[.ref l,.int 0 0] }).objs.size)))
    { s with heap:=(s.heap.push { cls := .type "tuple_iterator",data := .fields #[.ref l,.int 0 0] }).push { cls := .type "enumerate",data := .fields #[.none,.bool false,.ref s.heap.objs.size,rawInt 0,.none,.none] } }) :=
 .of_wp fun prog w A R s h=>by
  obtain⟨hp,g,d,tk,os⟩:=s;obtain⟨hl,h⟩:=h
  have Oe:=sub_enumerate
  have hL:Heap.IsTuple (Shared.heap ⟨hp,g,d,tk,os⟩) l items:=⟨_,hl,rfl,n,rfl⟩
  wp_walk using WX hl
  refine wpAny_stack_any fun st=>wg ?_
  split
  ·rename_i c _ _ _ _ _
   cases (c == Value.type "enumerate")
   ·wp_walk using WX hl,Zq hL
    exact⟨_,rfl,h⟩
   ·wp_walk using WX hl,Zq hL
    exact⟨_,rfl,h⟩
  ·wp_walk using WX hl,Zq hL
   exact⟨_,rfl,h⟩
section
variable {prog:Program} {w:World} {A:Around} {E:Value->Shared->Prop} {s:Shared}
theorem Of {l:Addr} {items:Array Value} {Q:Value->Shared->Prop} (hL:s.heap.IsTuple l items)
  (h:∀ h',IsEnum h' (s.heap.objs.size + 1) s.heap.objs.size 0 .none->h'.IsTupleIter s.heap.objs.size l 0->h'.objs.size=s.heap.objs.size + 2 →
   (∀ b o,s.heap.get? b=some o->h'.get? b=some o)->Q (.ref (s.heap.objs.size + 1)) { s with heap:=h' }) :
  wpAny (model prog w) A (call (.type "enumerate") [.ref l]) Q E s:=by
 obtain⟨⟨c,dct,dt,sl⟩,hl,hc,n,hd⟩:=hL
 replace hc:c = .type "tuple" := hc
 replace hd:dt = .seq items n:=hd
 subst hc hd
 refine callType_new F.called_enumerate (by decide) (F.typeCall_enumerate_1 _) (F.newCall_enumerate_1 _) (fun obj=>F.args_object_init_2 obj _) F.entry_enumerate_new
  (Od l items n dct sl) ⟨hl,?_⟩
 have hz:(s.heap.push { cls := .type "tuple_iterator",data := .fields #[.ref l,.int 0 0] }).objs.size=s.heap.objs.size + 1:=X_ ..
 show _/\_
 rw[hz]
 have he:IsEnum ((s.heap.push { cls := .type "tuple_iterator",data := .fields #[.ref l,.int 0 0] }).push
   { cls := .type "enumerate",data := .fields #[.none,.bool false,.ref s.heap.objs.size,rawInt 0,.none,.none] }) (s.heap.objs.size + 1) s.heap.objs.size 0 .none:=by
  have:=VW (s.heap.push { cls := .type "tuple_iterator",data := .fields #[.ref l,.int 0 0] })
   (o:={ cls := .type "enumerate",data := .fields #[.none,.bool false,.ref s.heap.objs.size,rawInt 0,.none,.none] }) rfl
  rw[hz] at this;exact this
 refine⟨⟨_,he,rfl⟩,h _ he ⟨_,tP _ (VW _ rfl),rfl,rfl⟩ (by rw[X_,hz]) fun b o x=>tP _ (tP _ x)⟩
theorem Og {it l:Addr} {i:Nat} {items:Array Value} {x:Value} {Q:Value->Shared->Prop} (hit:s.heap.IsTupleIter it l i) (hl:s.heap.IsTuple l items) (hx:items[i]? = some x)
  (hQ:∀ h',h'.IsTupleIter it l (i + 1)->Heap.SameBut it s.heap h'->Q x { s with heap:=h' }):wpAny (model prog w) A (Builtin.SmallTypes.nextOf (.ref it)) Q E s:=by
 obtain⟨o,ho,hc,hd⟩:=id hit
 obtain⟨ol,AY,_,nl,mX⟩:=hl
 have nn:¬ ((Value.ref l == Value.none)=true):=Ws
 unfold Builtin.SmallTypes.nextOf
 refine pT (Yh (name:=Str.ofString "__next__") hit.typeIs YF (X1 YF hit.typeIs F.entry_tuple_iterator_next ?_ (Z3 _)))
 show wpAny _ _ (field (.ref it) 0 >>= _) _ _ s;refine pT (Zs ho hd (x := .ref l) rfl ?_)
 show wpAny _ _ (if (Value.ref l == Value.none)=true then _ else _) _ _ s;rw[MC nn]
 show wpAny _ _ (field (.ref it) 1 >>= _) _ _ s;refine pT (Zs ho hd (x := .int i 0) rfl ?_)
 show wpAny _ _ (seqItems? (.ref l) >>= _) _ _ s;refine pT (Z9 AY mX ?_)
 simp only[MB,hx]
 refine pT (Zz ho hd (by simp) (wg ⟨x,rfl,wg (hQ _ ⟨_,Xu _ ho (ZI (YD hd _)),(q0n ..).trans hc,?_⟩ (W7 ..))⟩))
 rw[YD hd];simp[rawInt]
theorem Oh {it l:Addr} {i:Nat} {items:Array Value} {Q:Value->Shared->Prop} (hh:A.handled=none) (hit:s.heap.IsTupleIter it l i) (hl:s.heap.IsTuple l items) (hx:items[i]? = none)
  (hE:∀ h' e,Heap.ExtBut it s.heap h'->(∃ o,h'.get? e=some o/\o.cls = .type "StopIteration")->E (.ref e) { s with heap:=h' }):wpAny (model prog w) A (Builtin.SmallTypes.nextOf (.ref it)) Q E s:=by
 obtain⟨o,ho,hc,hd⟩:=id hit
 obtain⟨ol,AY,_,nl,mX⟩:=hl
 have nn:¬ ((Value.ref l == Value.none)=true):=Ws
 unfold Builtin.SmallTypes.nextOf
 refine pT (Yh (name:=Str.ofString "__next__") hit.typeIs YF (X1 YF hit.typeIs F.entry_tuple_iterator_next ?_ (Z3 _)))
 show wpAny _ _ (field (.ref it) 0 >>= _) _ _ s;refine pT (Zs ho hd (x := .ref l) rfl ?_)
 show wpAny _ _ (if (Value.ref l == Value.none)=true then _ else _) _ _ s;rw[MC nn]
 show wpAny _ _ (field (.ref it) 1 >>= _) _ _ s;refine pT (Zs ho hd (x := .int i 0) rfl ?_)
 show wpAny _ _ (seqItems? (.ref l) >>= _) _ _ s;refine pT (Z9 AY mX ?_)
 simp only[MB,hx]
 refine pT (q0I (pT (Zz ho hd (by simp) ?_)))
 show wpAny _ _ (newExc (.type "StopIteration") [] >>= _) _ _ _;refine pT ?_
 simp only[newExc,newTuple];refine pT (Xy ?_ (by size_fits))
 refine pT (m:=firstArgMember _ _) (wpAny_of_eq (a:=Value.none) (by first | rfl | (simp only[firstArgMember];rfl)) (Xy ?_ (by size_fits)))
 simp only[raiseNew];refine pT (wpAny_handled ?_)
 first | rw[show A.in1.handled=none from hh] | rw[hh]
 refine pT (wg (wpAny_throw (hE _ _ (((W7 ..).extBut.push _).push _) ⟨_,VW _ rfl,rfl⟩)))
theorem Ge (hh:A.handled=none) (it l:Addr) (gR:l≠it) (items:Array Value):Draws prog w A it [it,l] items.size (fun i v=>items[i]? = some v) (fun i h=>h.IsTupleIter it l i/\h.IsTuple l items) where
 live:=fun _ _ st=>let ⟨o,ho,_⟩:=st.1; ⟨o,ho⟩
 frame:=fun _ _ _ st hk=>⟨st.1.at fun o e=>hk it (by simp) o e,st.2.at fun o e=>hk l (by simp) o e⟩
 item:=fun i s Q E hi st hQ=>Og st.1 st.2 (x:=items[i]) (by simp[hi]) fun h' AZ wB=>hQ _ h' s.toks (by simp[hi]) ⟨AZ,st.2.extBut wB.extBut gR⟩ wB
 done:=fun s Q E st hE=>Oh hh st.1 st.2 (by simp) hE
end
end PySem
namespace L2
open PySem PySem.Spec PyProof.Rows
noncomputable def uv (K:PySem.W.Frag) (a:Addr):It :=
 ⟨fun i H=>∃ xs x,bV K H a xs/\xs[i]? = some x,fun i H x H'=>∃ T v,x = .ref T/\H T=none/\H'=upd H T (.tup [.int (i:Nat),v])/\∀ xs,bV K H a xs->xs[i]? = some v,fun i H=>∃ xs,bV K H a xs/\xs.length=i⟩
theorem Oi {P:Program} {w:World} {K:PySem.W.Frag} {elts:List Expr} {x1} {tp:Pos} (a e it:Addr) (gR:e≠it) (Oj:a≠e) (Gf:a≠it) :
  Turn P w K (.Tuple elts x1 tp) (uv K a) [e,it] e (fun i h=>(∃ old,IsEnum h e it (i:Nat) old)/\h.IsTupleIter it a i) where
 mem:=by simp
 obj:=fun i h st b hb=>by
  obtain⟨⟨old,he⟩,o,hi,hc,hd⟩:=st
  rcases MA.mp hb with rfl | hb
  ·exact⟨_,he,fun v z=>by cases z⟩
  ·have z:b=it:=by simpa using hb
   subst z
   exact⟨o,hi,fun v z=>by rw[hd] at z;cases z⟩
 keep:=fun i h h' st k=>by
  obtain⟨⟨old,he⟩,hi⟩:=st
  exact⟨⟨old,k e (by simp) _ he⟩,hi.at fun o q=>k it (by simp) o q⟩
 item:=by
  intro X hP hw hK hc i pins s σ H E I hf st hg
  subst hP hw hK
  obtain⟨⟨old,he⟩,hi⟩:=st
  obtain⟨xs,x,hq,hx⟩:=hg
  obtain⟨ak,rv,p,hz⟩:=I.tuple hq
  obtain⟨u,hu,ru⟩:=rv.get hx
  have D:=Ge (prog:=X.prog) (w:=X.w) (A:=X.A.in1) (by rw[YE];exact I.ok.hd hc) it a Gf ak.toArray
  have qj:i < ak.toArray.size:=by rw[zR];exact (pV.mp hu).1
  refine wpAny_pyNext_enum_itemD D he ⟨hi,p⟩ qj gR (by simp[gR,Yd Oj]) fun y h1 tk py lR n_ tZ hsz hk=>⟨_,rfl,?_⟩
  have ey:y=u:=by
   have py:ak.toArray[i]? = some y:=py
   rw[Yo,hu] at py;cases py;rfl
  subst ey
  refine wpAny_letOwnedTupleGo_enum lR fun h2 t4 jF => ?_
  have hT:s.heap.objs.size≠e:=Ys (Mz he)
  have k7:h2.get? s.heap.objs.size=some { cls := .type "tuple",data := .seq #[.int i tk,y] }:=(jF.2 _ hT).trans tZ
  have k2:∀ b o,b∉[e,it]->s.heap.get? b=some o->h2.get? b=some o:=fun b o hb q=>by
   have oa:b≠e:=fun z=>hb (by simp[z])
   have fJ:b≠it:=fun z=>hb (by simp[z])
   exact (jF.2 _ oa).trans (hk b o oa fJ q)
  have hn:H s.heap.objs.size=none:=I.aM.fresh (we _)
  refine⟨.ref s.heap.objs.size,upd H s.heap.objs.size (.tup [.int i,x]),I.iO (ch:=[e,it]) (t':=tk + 1) hf k2 (we _) ?_,rfl,⟨_,x,rfl,hn,rfl,fun ys hy=>by rw[I.gT hy hq];exact hx⟩,⟨⟨y,?_⟩,?_⟩,fun b hb => ?_⟩
  ·exact⟨by show 2 <= sizeLine;decide,[.int i tk,y],.cons ⟨_,rfl⟩ (.cons ru .nil),_,k7,rfl,_,rfl⟩
  ·have e3:((i:Int) + 1)=(((i + 1:Nat)):Int):=by omega
   rw[e3] at t4
   exact t4
  ·exact n_.1.at fun o q=>(jF.2 _ (Yd gR)).trans q
  ·have:b < s.heap.objs.size:=by
    obtain⟨o,q,_⟩:=hi
    rcases MA.mp hb with rfl | hb
    ·exact Mz he
    ·have z:b=it:=by simpa using hb
     subst z;exact Mz q
   rw[aQ (VZ this)]
   exact (hf b hb).1
 done:=by
  intro X hP hw hK hc i pins s σ H E I hf st hg
  subst hP hw hK
  obtain⟨⟨old,he⟩,hi⟩:=st
  obtain⟨xs,hq,hx⟩:=hg
  obtain⟨ak,rv,p,hz⟩:=I.tuple hq
  have D:=Ge (prog:=X.prog) (w:=X.w) (A:=X.A.in1) (by rw[YE];exact I.ok.hd hc) it a Gf ak.toArray
  have qj:ak.toArray.size=i:=by rw[zR,<-rv.length];exact hx
  refine wpAny_pyNext_enum_endD D he (by rw[qj];exact⟨hi,p⟩) fun h1 eb=>⟨rfl,?_⟩
  obtain⟨f0,f1,f2,f3,f4,f5⟩:=hf it (by simp)
  exact I.turned (t':=s.toks) (fun b o hb q=>eb b o hb q) f0 f1 f3 f4 f5
 self:=fun A i s Q E st h=>by
  obtain⟨⟨old,he⟩,hi⟩:=st
  exact Yv he h
section
variable {X:Cx} {elts:List Expr} {x1:Nat} {tp:Pos} {tg:Expr}
noncomputable def Ol (K:PySem.W.Frag) (ta:TA):TI:=fun σ H R=>ta σ H fun vs H1=>∃ a,vs=[.ref a]/\(((∃ xs,bj K H1 a xs)/\R (rJ K a) H1)\/((∃ xs,bV K H1 a xs)/\R (uv K a) H1))
theorem Om {a:Expr} {ta:TA} {p pos:Pos} (hg:Gl X "enumerate") (hm:X.mg "enumerate" = none) (ha:JA X [a] ta) (hs:starEach [a] X.env=[(false,eval a X.env)]:=by rfl) :
  JI X (.Tuple elts x1 tp) (.Call (.Name "enumerate" p) [a] [] pos) (Ol X.K ta):=by
 refine⟨?_⟩
 intro pins s σ H R I h
 refine Call_ (mq I hg hm Fj (Yi (bg (ha.out pos pins s σ H _ I h) fun us s1 h0_ => el5 h0_ fun vs H1 I1 r1 q1 => ?_) hs rfl))
 obtain⟨l,e,q⟩:=q1
 subst e
 obtain⟨u,rfl,rx⟩:=vals1 r1
 cases rx
 have fp:∀ b∈[s1.heap.objs.size + 1,s1.heap.objs.size],bx X pins H1 b:=fun b hb=>by
  have d8:s1.heap.objs.size <= b:=by
   rcases MA.mp hb with rfl | hb
   ·exact q0p _
   ·have z:b=s1.heap.objs.size:=by simpa using hb
    rw[z];exact we _
  exact I1.iK d8 (I1.aM.fresh d8)
 rcases q with⟨⟨xs,hq⟩,q⟩ | ⟨⟨xs,hq⟩,q⟩
 ·obtain⟨ak,rv,p,hz⟩:=I1.list hq
  refine call_enumerate_list p.isList fun h' he hi hsz hk => ?_
  have I2:Inv X pins σ H1 { s1 with heap:=h' }:=I1.kept (t':=s1.toks) hk
  refine Yv he ?_
  exact⟨_,_,_,_,H1,rfl,I2,Fi l (s1.heap.objs.size + 1) s1.heap.objs.size (q0z _),⟨⟨_,he⟩,hi⟩,fp,q⟩
 ·obtain⟨ak,rv,p,hz⟩:=I1.tuple hq
  have Gg:l < s1.heap.objs.size:=by obtain⟨o,e,_⟩:=p;exact Mz e
  refine Of p fun h' he hi hsz hk => ?_
  have I2:Inv X pins σ H1 { s1 with heap:=h' }:=I1.kept (t':=s1.toks) hk
  refine Yv he ?_
  exact⟨_,_,_,_,H1,rfl,I2,Oi l (s1.heap.objs.size + 1) s1.heap.objs.size (q0z _) (VZ (Xe Gg)) (VZ Gg),⟨⟨_,he⟩,hi⟩,fp,q⟩
noncomputable def A0 (K:PySem.W.Frag) (tl:TE):TI:=fun σ H R=>tl σ H fun x H1=>∃ a,x = .ref a/\(((∃ xs,bj K H1 a xs)/\R (Eh K a) H1)\/((∃ xs,bV K H1 a xs)/\R (Ei K a) H1))
theorem Oo {l:Expr} {tl:TE} (hl:JE X l tl):JI X tg l (A0 X.K tl):=by
 refine⟨?_⟩
 intro pins s σ H R I h
 refine bg (hl.out pins s σ H _ I h) fun v s1 h0_ => el5 h0_ fun x H1 I1 r1 q1 => ?_
 obtain⟨a,e,q⟩:=q1
 subst e
 cases r1
 have fp:∀ b∈[s1.heap.objs.size],bx X pins H1 b:=fun b hb=>by
  have e:b=s1.heap.objs.size:=by simpa using hb
  subst e
  exact I1.iK (we _) (I1.aM.fresh (we _))
 rcases q with⟨⟨xs,hq⟩,q⟩ | ⟨⟨xs,hq⟩,q⟩
 ·obtain⟨ak,rv,p,hz⟩:=I1.list hq
  exact Yu p.isList ⟨s1.heap.objs.size,[s1.heap.objs.size],_,_,H1,rfl,I1.kept (t':=s1.toks) fun b o e=>tP _ e,Lg a _,⟨_,VW _ rfl,rfl,rfl⟩,fp,q⟩
 ·obtain⟨ak,rv,p,hz⟩:=I1.tuple hq
  exact Zq (show s1.heap.IsTuple a ak.toArray from p) ⟨s1.heap.objs.size,[s1.heap.objs.size],_,_,H1,rfl,I1.kept (t':=s1.toks) fun b o e=>tP _ e,Lh a _,⟨_,VW _ rfl,rfl,rfl⟩,fp,q⟩
end
variable [aJ]
noncomputable def bY (lo:Int) (n:Nat):List D:=(List.range n).map fun i:Nat=>D.int (lo + i)
noncomputable def j9:Nat->List D->List D
 | _,[]=>[]
 | i,d :: r => .tup [.int i,d] :: j9 (i + 1) r
noncomputable def mY (x:DV) (δ : aB) (K:qe->Prop):Prop:=match x with
 | .p (.lst ds)=>K ⟨ds,fun _=>True⟩
 | .p (.tup ds)=>K ⟨ds,fun _=>True⟩
 | .o k=>match δ.mu[k]? with
  | some (some (.lst ds))=>K ⟨ds,fun δ' => δ'.mu[k]? = some (some (.lst ds))⟩
  | _=>False
 | _=>False
noncomputable def bP (f:WE):WI:=fun δ K=>f δ fun x δ1=>mY x δ1 fun it=>K it δ1
noncomputable def iB (fa:WA):WI:=fun δ K=>fa δ fun xs δ1=>match xs with
 | [.p (.int j)]=>(-(2 ^ 62) <= j/\j < 2 ^ 62)/\K ⟨bY 0 j.toNat,fun _=>True⟩ δ1
 | _=>False
noncomputable def A2 (fa:WA):WI:=fun δ K=>fa δ fun xs δ1=>match xs with
 | [.p (.int i),.p (.int j)]=>(-(2 ^ 62) <= i/\i < 2 ^ 62 /\ -(2 ^ 62) <= j/\j < 2 ^ 62)/\K ⟨bY i (j - i).toNat,fun _=>True⟩ δ1
 | _=>False
noncomputable def ju (fa:WA):WI:=fun δ K=>fa δ fun xs δ1=>match xs with
 | [x]=>mY x δ1 fun it=>K ⟨j9 0 it.items,it.bD⟩ δ1
 | _=>False
noncomputable def A3 (x:DV) (δ : aB) (K:qe->Prop):Prop:=match x with
 | .p (.lst ds)=>K ⟨ds,fun _=>True⟩
 | .o k=>match δ.mu[k]? with
  | some (some (.lst ds))=>K ⟨ds,fun δ' => δ'.mu[k]? = some (some (.lst ds))⟩
  | _=>False
 | _=>False
theorem jw {lo:Int} {n i:Nat} {d:D} (h:(bY lo n)[i]? = some d):i < n/\d = .int (lo + i):=by
 unfold bY at h
 rw[E7] at h
 obtain⟨j,e,rfl⟩:=VV.mp h
 have hj:=(pV.mp e).1
 rw[Xl] at hj
 rw[Xg hj] at e
 cases e
 exact⟨hj,rfl⟩
theorem jc (lo:Int) (n:Nat):(bY lo n).length=n:=by unfold bY;rw[pU,Xl]
theorem oq:∀ (ds:List D) (i:Nat),(j9 i ds).length=ds.length
 | [],_=>rfl
 | d :: r,i=>by rw[j9,Mx,Mx,oq r]
theorem ql:∀ {ds:List D} {k i:Nat} {d:D},(j9 k ds)[i]? = some d->∃ e,ds[i]? = some e/\d = .tup [.int ((k + i:Nat):Int),e]
 | [],k,i,d,h=>by simp[j9] at h
 | e :: r,k,0,d,h=>by
  cases (show some (D.tup [.int (k:Nat),e])=some d by simpa [j9] using h)
  exact⟨e,rfl,rfl⟩
 | e :: r,k,i + 1,d,h=>by
  obtain⟨e',h1,h2⟩:=ql (ds:=r) (k:=k + 1) (i:=i) (d:=d) (by simpa [j9] using h)
  exact⟨e',by simpa using h1,by rw[h2];congr 4;omega⟩
section
variable {X:Cx} {tg l a b:Expr} {f:WE} {fa:WA} {F H:Hp} {ad:List Addr} {δ : aB} {σ : St}
theorem JI.weak {iter:Expr} {w w':TI} (h:JI X tg iter w) (k:∀ σ H R,w' σ H R->w σ H R):JI X tg iter w':=⟨fun pins s σ H R I q=>h.out pins s σ H R I (k σ H R q)⟩
theorem rW {ds:List D} {vs:List V} (h:af F ds vs) {i:Nat} {d:D} (e:ds[i]? = some d):∃ v,vs[i]? = some v/\Is F d v:=by
 have hl:=h.length
 have hi:i < vs.length:=by rw[hl];exact (pV.mp e).1
 obtain⟨d',e1,h1⟩:=h.get (mM hi)
 rw[e] at e1;cases e1
 exact⟨_,mM hi,h1⟩
theorem Gh {x:DV} {v:V} {K:qe->Prop} (S:SR F ad δ σ H) (V1:gY F ad x v) (h:A3 x δ K):∃ a it,v = .ref a/\K it/\(∃ vs,H a=some (.lst vs)) ∧
  ∀ (F':Hp) (aH:List Addr) (δ':aB) (σ':St) (H':Hp),aA F F'->(∀ (k:Nat) (a:Addr),ad[k]? = some a->aH[k]? = some a)->SR F' aH δ' σ' H'->it.bD δ'->∃ vs,H' a=some (.lst vs)/\af F' it.items vs:=by
 unfold A3 at h
 split at h
 ·rename_i ds
  have V2:Is F (.lst ds) v:=V1
  simp only[Is] at V2
  obtain⟨a,vs,rfl,h1,h2⟩:=V2
  exact⟨a,_,rfl,h,⟨vs,S.sub _ _ h1⟩,fun F' aH δ' σ' H' s _ S' _=>⟨vs,S'.sub _ _ (s _ _ h1),h2.same s⟩⟩
 ·rename_i k
  split at h
  ·rename_i ds e
   obtain⟨a,e1,rfl⟩:=V1
   obtain⟨a',o,e2,e3,vs,rfl,h4⟩:=S.mu k _ e
   rw[e1] at e2;cases e2
   refine⟨a,_,rfl,h,⟨vs,e3⟩,fun F' aH δ' σ' H' _ pre S' ck => ?_⟩
   obtain⟨Wa,o,e5,e6,ws,rfl,h7⟩:=S'.mu k _ ck
   rw[pre k a e1] at e5;cases e5
   exact⟨ws,e6,h7⟩
  ·exact h.elim
 ·exact h.elim
theorem Gi {x:DV} {v:V} {K:qe->Prop} (S:SR F ad δ σ H) (V1:gY F ad x v) (h:mY x δ K):∃ a it,v = .ref a/\K it ∧
  (((∃ vs,H a=some (.lst vs))/\∀ (F':Hp) (aH:List Addr) (δ':aB) (σ':St) (H':Hp),aA F F'->(∀ (k:Nat) (a:Addr),ad[k]? = some a->aH[k]? = some a)->SR F' aH δ' σ' H'->it.bD δ'->∃ vs,H' a=some (.lst vs)/\af F' it.items vs) ∨
  ((∃ vs,H a=some (.tup vs))/\∀ (F':Hp) (aH:List Addr) (δ':aB) (σ':St) (H':Hp),aA F F'->(∀ (k:Nat) (a:Addr),ad[k]? = some a->aH[k]? = some a)->SR F' aH δ' σ' H'->it.bD δ'->∃ vs,H' a=some (.tup vs)/\af F' it.items vs)):=by
 unfold mY at h
 split at h
 ·rename_i ds
  obtain⟨a,it,e,k,r⟩:=Gh (x := .p (.lst ds)) S V1 h
  exact⟨a,it,e,k,.inl r⟩
 ·rename_i ds
  have V2:Is F (.tup ds) v:=V1
  simp only[Is] at V2
  obtain⟨a,vs,rfl,h1,h2⟩:=V2
  exact⟨a,_,rfl,h,.inr ⟨⟨vs,S.sub _ _ h1⟩,fun F' aH δ' σ' H' s _ S' _=>⟨vs,S'.sub _ _ (s _ _ h1),h2.same s⟩⟩⟩
 ·rename_i k
  obtain⟨a,it,e,k,r⟩:=Gh (x := .o k) S V1 h
  exact⟨a,it,e,k,.inl r⟩
 ·exact h.elim
theorem iC (hl:JE X l (tD f)):JI X tg l (l3 (bP f)):=(Oo hl).weak fun σ H R h0_ => el7 h0_ fun F ad δ K S q k =>⟨F,ad,δ,_,S,q,fun x δ1 h1 v F1 aS H1 E1 S1 V1=>by
 obtain⟨a,it,rfl,hk,r⟩:=Gi S1 V1 h1
 refine⟨a,rfl,?_⟩
 rcases r with⟨⟨vs,e⟩,r⟩ | ⟨⟨vs,e⟩,r⟩
 ·refine .inl ⟨⟨vs,bj.of e⟩,k _ _ hk _ _ _ _ E1 S1 fun F' aH δ' σ' H' s pre S' ck => ?_⟩
  obtain⟨ws,e1,e2⟩:=r F' aH δ' σ' H' s pre S' ck
  refine⟨⟨ws,bj.of e1,by rw[e2.length];exact we _⟩,fun i d ed => ?_⟩
  obtain⟨w,e3,e4⟩:=rW e2 ed
  refine⟨⟨ws,w,bj.of e1,e3⟩,fun y lg ⟨eh,hy⟩ => ?_⟩
  subst eh
  refine⟨fun _ _ e=>e,?_⟩
  have:=hy ws (bj.of e1)
  rw[e3] at this;cases this
  rw[Nw.refl S'.sub];exact e4
 ·refine .inr ⟨⟨vs,bV.of e⟩,k _ _ hk _ _ _ _ E1 S1 fun F' aH δ' σ' H' s pre S' ck => ?_⟩
  obtain⟨ws,e1,e2⟩:=r F' aH δ' σ' H' s pre S' ck
  refine⟨⟨ws,bV.of e1,by rw[e2.length];exact we _⟩,fun i d ed => ?_⟩
  obtain⟨w,e3,e4⟩:=rW e2 ed
  refine⟨⟨ws,w,bV.of e1,e3⟩,fun y lg ⟨eh,hy⟩ => ?_⟩
  subst eh
  refine⟨fun _ _ e=>e,?_⟩
  have:=hy ws (bV.of e1)
  rw[e3] at this;cases this
  rw[Nw.refl S'.sub];exact e4⟩
theorem Gj {F H:Hp} {T:Addr} {d e:D} {x y:V} (s:aA F H) (hT:H T=none) (h1:Is F d x) (h2:Is F e y):Is (Nw F H (upd H T (.tup [x,y]))) (.tup [d,e]) (.ref T):=by
 rw[Nw.upd s hT]
 have hF:F T=none:=by
  cases q:F T with
  | none=>rfl
  | some u=>rw[s T u q] at hT;cases hT
 have sm:aA F (upd F T (.tup [x,y])):=cR hF
 simp only[Is]
 exact⟨T,_,rfl,bK,.cons (h1.same sm) (.cons (h2.same sm) .nil)⟩
theorem A4 {elts:List Expr} {x1:Nat} {tp p pos:Pos} (hg:Gl X "enumerate") (hm:X.mg "enumerate" = none) (ha:JA X [a] (cx fa)) (hs:starEach [a] X.env=[(false,eval a X.env)]:=by rfl) :
  JI X (.Tuple elts x1 tp) (.Call (.Name "enumerate" p) [a] [] pos) (l3 (ju fa)):=(Om hg hm ha hs).weak fun σ H R h0_ => el7 h0_ fun F ad δ K S q k =>⟨F,ad,δ,_,S,q,fun xs δ1 h1 vs F1 aS H1 E1 S1 V1=>by
 match xs,h1,V1 with
 | [x],g1,⟨v,r,e,W1,W2⟩ =>
  subst e
  have W3:r=[]:=W2
  subst W3
  obtain⟨a,it,rfl,hk,r⟩:=Gi S1 W1 g1
  refine⟨a,rfl,?_⟩
  rcases r with⟨⟨vs,e⟩,r⟩ | ⟨⟨vs,e⟩,r⟩
  ·refine .inl ⟨⟨vs,bj.of e⟩,k _ _ hk _ _ _ _ E1 S1 fun F' aH δ' σ' H' s pre S' ck => ?_⟩
   obtain⟨ws,e1,e2⟩:=r F' aH δ' σ' H' s pre S' ck
   refine⟨⟨ws,bj.of e1,by rw[e2.length,oq];exact we _⟩,fun i d ed => ?_⟩
   obtain⟨d',A5,rfl⟩:=ql ed
   obtain⟨w,e3,e4⟩:=rW e2 A5
   refine⟨⟨ws,w,bj.of e1,e3⟩,fun y lg ⟨T,v,ey,hT,eh,hy⟩ => ?_⟩
   subst eh ey
   have:=hy ws (bj.of e1)
   rw[e3] at this;cases this
   refine⟨cR hT,?_⟩
   rw[Xi]
   exact Gj S'.sub hT rfl e4
  ·refine .inr ⟨⟨vs,bV.of e⟩,k _ _ hk _ _ _ _ E1 S1 fun F' aH δ' σ' H' s pre S' ck => ?_⟩
   obtain⟨ws,e1,e2⟩:=r F' aH δ' σ' H' s pre S' ck
   refine⟨⟨ws,bV.of e1,by rw[e2.length,oq]⟩,fun i d ed => ?_⟩
   obtain⟨d',A5,rfl⟩:=ql ed
   obtain⟨w,e3,e4⟩:=rW e2 A5
   refine⟨⟨ws,w,bV.of e1,e3⟩,fun y lg ⟨T,v,ey,hT,eh,hy⟩ => ?_⟩
   subst eh ey
   have:=hy ws (bV.of e1)
   rw[e3] at this;cases this
   refine⟨cR hT,?_⟩
   rw[Xi]
   exact Gj S'.sub hT rfl e4
 | [],h1,_=>exact h1.elim
 | _ :: _ :: _,h1,_=>exact h1.elim⟩
theorem Gk {F1:Hp} {aS:List Addr} {lo:Int} {n:Nat}:qf F1 aS ⟨bY lo n,fun _=>True⟩ (sX lo n):=fun F' aH δ' σ' H' s pre S' _=>by
 refine⟨by show n <= (bY lo n).length;rw[jc];exact we _,fun i d ed => ?_⟩
 obtain⟨hi,rfl⟩:=jw ed
 refine⟨hi,fun x lg ⟨eh,ex⟩ => ?_⟩
 subst eh ex
 exact⟨fun _ _ e=>e,rfl⟩
theorem kG {p pos:Pos} (hg:Gl X "range") (hm:X.mg "range" = none) (ha:JA X [a] (cx fa)) (hs:starEach [a] X.env=[(false,eval a X.env)]:=by rfl):JI X tg (.Call (.Name "range" p) [a] [] pos) (l3 (iB fa)) :=
 (NA hg hm ha hs).weak fun σ H R h0_ => el7 h0_ fun F ad δ K S q k =>⟨F,ad,δ,_,S,q,fun xs δ1 h1 vs F1 aS H1 E1 S1 V1=>by
  split at h1
  ·rename_i j
   obtain⟨v,r,e,V1,V2⟩:=V1
   have V2:r=[]:=V2
   have V1:v = .int j:=V1
   subst V2 V1 e
   exact⟨j,rfl,h1.1.1,h1.1.2,k _ _ h1.2 _ _ _ _ E1 S1 Gk⟩
  ·exact h1.elim⟩
theorem Oq {p pos:Pos} (hg:Gl X "range") (hm:X.mg "range" = none) (ha:JA X [a,b] (cx fa)) (hs:starEach [a,b] X.env=[(false,eval a X.env),(false,eval b X.env)]:=by rfl) (jF:starEach [b] X.env=[(false,eval b X.env)]:=by rfl) :
  JI X tg (.Call (.Name "range" p) [a,b] [] pos) (l3 (A2 fa)) :=
 (NB hg hm ha hs jF).weak fun σ H R h0_ => el7 h0_ fun F ad δ K S q k =>⟨F,ad,δ,_,S,q,fun xs δ1 h1 vs F1 aS H1 E1 S1 V1=>by
  split at h1
  ·rename_i i j
   obtain⟨v,r,e,V1,w,r2,e2,V2,V3⟩:=V1
   have V3:r2=[]:=V3
   have V1:v = .int i:=V1
   have V2:w = .int j:=V2
   subst V3 V1 V2 e2 e
   exact⟨i,j,rfl,h1.1,k _ _ h1.2 _ _ _ _ E1 S1 Gk⟩
  ·exact h1.elim⟩
end
end L2
namespace L2
open PySem PySem.Spec PyProof.Rows
mutual
noncomputable def az:D->D->Bool
 | .non,.non=>true
 | .bl a,.bl b=>a == b
 | .bl a,.int b=>(if a then 1 else 0) == b
 | .int a,.bl b=>a == (if b then 1 else 0)
 | .int a,.int b=>a == b
 | .str a,.str b=>a == b
 | .tup a,.tup b=>cS a b
 | .lst a,.lst b=>cS a b
 | _,_=>false
noncomputable def cS:List D->List D->Bool
 | [],[]=>true
 | a :: r,b :: s=>az a b && cS r s
 | _,_=>false
end
mutual
theorem jK:∀ d:D,az d d=true
 | .non=>by simp[az]
 | .bl a=>by simp[az]
 | .int a=>by simp[az]
 | .str a=>by simp[az]
 | .tup a=>by simp only[az];exact A6 a
 | .lst a=>by simp only[az];exact A6 a
theorem A6:∀ ds:List D,cS ds ds=true
 | []=>by simp[cS]
 | d :: r=>by simp only[cS,jK d,A6 r,Bool.and_true]
end
mutual
theorem Is.inj {H:Hp}:∀ {d e:D} {v:V},Is H d v->Is H e v->d=e
 | .non,e,v,h,q=>by cases e<;>simp only[Is] at h q<;>first | rfl | (subst h;first | (obtain⟨_,_,z,_⟩:=q;cases z;done) | (cases q;done) | (cases q;rfl))
 | .bl a,e,v,h,q=>by cases e<;>simp only[Is] at h q<;>(subst h;first | (obtain⟨_,_,z,_⟩:=q;cases z;done) | (cases q;done) | (cases q;rfl))
 | .int a,e,v,h,q=>by cases e<;>simp only[Is] at h q<;>(subst h;first | (obtain⟨_,_,z,_⟩:=q;cases z;done) | (cases q;done) | (cases q;rfl))
 | .str a,e,v,h,q=>by cases e<;>simp only[Is] at h q<;>(subst h;first | (obtain⟨_,_,z,_⟩:=q;cases z;done) | (cases q;done) | (cases q;rfl))
 | .tup a,e,v,h,q=>by
  simp only[Is] at h
  obtain⟨p,vs,rfl,h1,h2⟩:=h
  cases e with
  | tup b =>
   simp only[Is] at q
   obtain⟨p',ws,z,q1,q2⟩:=q
   cases z
   rw[h1] at q1;cases q1
   rw[af.inj h2 q2]
  | lst b =>
   simp only[Is] at q
   obtain⟨p',ws,z,q1,q2⟩:=q
   cases z
   rw[h1] at q1;cases q1
  | non=>simp only[Is] at q;cases q
  | bl _=>simp only[Is] at q;cases q
  | int _=>simp only[Is] at q;cases q
  | str _=>simp only[Is] at q;cases q
 | .lst a,e,v,h,q=>by
  simp only[Is] at h
  obtain⟨p,vs,rfl,h1,h2⟩:=h
  cases e with
  | lst b =>
   simp only[Is] at q
   obtain⟨p',ws,z,q1,q2⟩:=q
   cases z
   rw[h1] at q1;cases q1
   rw[af.inj h2 q2]
  | tup b =>
   simp only[Is] at q
   obtain⟨p',ws,z,q1,q2⟩:=q
   cases z
   rw[h1] at q1;cases q1
  | non=>simp only[Is] at q;cases q
  | bl _=>simp only[Is] at q;cases q
  | int _=>simp only[Is] at q;cases q
  | str _=>simp only[Is] at q;cases q
theorem af.inj {H:Hp}:∀ {ds es:List D} {vs:List V},af H ds vs->af H es vs->ds=es
 | [],es,vs,h,q=>by
  simp only[af] at h;subst h
  cases es with
  | nil=>rfl
  | cons _ _=>simp only[af] at q;obtain⟨_,_,z,_⟩:=q;cases z
 | d :: ds,es,vs,h,q=>by
  simp only[af] at h
  obtain⟨v,r,rfl,h1,h2⟩:=h
  cases es with
  | nil=>simp only[af] at q;cases q
  | cons e es =>
   simp only[af] at q
   obtain⟨v',r',z,q1,q2⟩:=q
   cases z
   rw[Is.inj h1 q1,af.inj h2 q2]
end
theorem uw:∀ {ds es:List D},ds.length≠es.length->cS ds es=false
 | [],[],h=>absurd rfl h
 | [],_ :: _,_=>by simp[cS]
 | _ :: _,[],_=>by simp[cS]
 | d :: r,e :: s,h=>by simp only[cS];rw[uw (fun z=>h (by rw[Mx,Mx,z])),Bool.and_false]
noncomputable def qm (ds es:List D) (j:Nat):Bool:=match ds[j]?,es[j]? with
 | some a,some b=>az a b
 | _,_=>true
theorem ux:∀ {ds es:List D},ds.length=es.length->(List.range ds.length).all (qm ds es)=cS ds es
 | [],[],_=>by simp[cS]
 | [],_ :: _,h=>by simp at h
 | _ :: _,[],h=>by simp at h
 | d :: r,e :: s,h=>by
  have ih:=ux (ds:=r) (es:=s) (by simpa using h)
  rw[Mx,List.range_succ_eq_map,Zh,List.all_map]
  simp only[cS]
  rw[<-ih]
  rfl
section
variable {X:Cx} {pins:List (Addr × Obj)} {σ : St} {H:Hp} {s:Shared}
theorem uy {vs:List V} {ak:List Value} (r:Vals vs ak) {j:Nat} (h:j < ak.toArray.size):∃ v,vs[j]? = some v/\RelV v ak.toArray[j]:=by
 have hj:j < ak.length:=by simpa using h
 have hv:j < vs.length:=by rw[r.length];exact hj
 obtain⟨u,e,ru⟩:=r.get (mM hv)
 have:ak.toArray[j]=u:=by
  have:=(pV.mp e).2
  simpa using this
 rw[this]
 exact⟨_,mM hv,ru⟩
theorem dR (I:Inv X pins σ H s) {a:Addr} {vs:List V} (h:H a=some (.lst vs)):∃ ak:List Value,Vals vs ak/\s.heap.IsList a ak.toArray:=by
 obtain⟨ak,r,p,_⟩:=I.list (bj.of h)
 exact⟨ak,r,p.isList⟩
theorem dS (I:Inv X pins σ H s) {a:Addr} {vs:List V} (h:H a=some (.tup vs)):∃ ak:List Value,Vals vs ak/\s.heap.IsTuple a ak.toArray:=by
 obtain⟨ak,r,p,_⟩:=I.tuple (bV.of h)
 exact⟨ak,r,p⟩
theorem in1_units (A:Around):A.in1.units=A.units + 1:=rfl
theorem A7 (I:Inv X pins σ H s):∀ (n:Nat) {A:Around} {d e:D} {v u:V} {x y:Value},dep d <= n->A.units + n < cLine->Is H d v->Is H e u->RelV v x->RelV u y->SeqAt.EqAt A s x y (az d e)/\SeqAt.RcAt A s x y (az d e):=by
 intro n
 induction n with
 | zero =>
  intro A d e v u x y hd hu hv hw rv ru
  have nz:A.units < cLine:=by omega
  cases d with
  | tup ds=>simp[dep] at hd
  | lst ds=>simp[dep] at hd
  | non =>
   cases (show v = .non from hv);cases rv
   cases e with
   | non=>cases (show u = .non from hw);cases ru;simp only[az];exact⟨Z1 _,SeqAt.RcAt.none_none⟩
   | bl b=>cases (show u = .bl b from hw);cases ru;simp only[az];exact⟨SeqAt.EqAt.none_bool _,SeqAt.RcAt.none_bool _⟩
   | int b=>cases (show u = .int b from hw);obtain⟨t,rfl⟩:=ru;simp only[az];exact⟨SeqAt.EqAt.none_int _ _,SeqAt.RcAt.none_int _ _⟩
   | str b=>cases (show u = .str b from hw);obtain⟨t,rfl⟩:=ru;simp only[az];exact⟨SeqAt.EqAt.none_str _ _,SeqAt.RcAt.none_str _ _⟩
   | tup es=>simp only[Is] at hw;obtain⟨a,vs,rfl,h1,_⟩:=hw;cases ru;obtain⟨_,_,p⟩:=dS I h1;simp only[az];exact⟨SeqAt.EqAt.none_tuple p nz,SeqAt.RcAt.none_tuple p nz⟩
   | lst es=>simp only[Is] at hw;obtain⟨a,vs,rfl,h1,_⟩:=hw;cases ru;obtain⟨_,_,p⟩:=dR I h1;simp only[az];exact⟨SeqAt.EqAt.none_list p nz,SeqAt.RcAt.none_list p nz⟩
  | bl b0 =>
   cases (show v = .bl b0 from hv);cases rv
   cases e with
   | non=>cases (show u = .non from hw);cases ru;simp only[az];exact⟨SeqAt.EqAt.bool_none _,SeqAt.RcAt.bool_none _⟩
   | bl b=>cases (show u = .bl b from hw);cases ru;simp only[az];exact⟨SeqAt.EqAt.bool_bool _ _,SeqAt.RcAt.bool_bool _ _⟩
   | int b=>cases (show u = .int b from hw);obtain⟨t,rfl⟩:=ru;simp only[az];exact⟨SeqAt.EqAt.bool_int _ _ _,SeqAt.RcAt.bool_int _ _ _⟩
   | str b=>cases (show u = .str b from hw);obtain⟨t,rfl⟩:=ru;simp only[az];exact⟨SeqAt.EqAt.bool_str _ _ _,SeqAt.RcAt.bool_str _ _ _⟩
   | tup es=>simp only[Is] at hw;obtain⟨a,vs,rfl,h1,_⟩:=hw;cases ru;obtain⟨_,_,p⟩:=dS I h1;simp only[az];exact⟨SeqAt.EqAt.bool_tuple _ p nz,SeqAt.RcAt.bool_tuple _ p nz⟩
   | lst es=>simp only[Is] at hw;obtain⟨a,vs,rfl,h1,_⟩:=hw;cases ru;obtain⟨_,_,p⟩:=dR I h1;simp only[az];exact⟨SeqAt.EqAt.bool_list _ p nz,SeqAt.RcAt.bool_list _ p nz⟩
  | int b0 =>
   cases (show v = .int b0 from hv);obtain⟨t0,rfl⟩:=rv
   cases e with
   | non=>cases (show u = .non from hw);cases ru;simp only[az];exact⟨SeqAt.EqAt.int_none _ _,SeqAt.RcAt.int_none _ _⟩
   | bl b=>cases (show u = .bl b from hw);cases ru;simp only[az];exact⟨SeqAt.EqAt.int_bool _ _ _,SeqAt.RcAt.int_bool _ _ _⟩
   | int b=>cases (show u = .int b from hw);obtain⟨t,rfl⟩:=ru;simp only[az];exact⟨q0e _ _ _ _,SeqAt.RcAt.int_int _ _ _ _⟩
   | str b=>cases (show u = .str b from hw);obtain⟨t,rfl⟩:=ru;simp only[az];exact⟨q0b _ _ _ _,SeqAt.RcAt.int_str _ _ _ _⟩
   | tup es=>simp only[Is] at hw;obtain⟨a,vs,rfl,h1,_⟩:=hw;cases ru;obtain⟨_,_,p⟩:=dS I h1;simp only[az];exact⟨SeqAt.EqAt.int_tuple _ _ p nz,SeqAt.RcAt.int_tuple _ _ p nz⟩
   | lst es=>simp only[Is] at hw;obtain⟨a,vs,rfl,h1,_⟩:=hw;cases ru;obtain⟨_,_,p⟩:=dR I h1;simp only[az];exact⟨SeqAt.EqAt.int_list _ _ p nz,SeqAt.RcAt.int_list _ _ p nz⟩
  | str b0 =>
   cases (show v = .str b0 from hv);obtain⟨t0,rfl⟩:=rv
   cases e with
   | non=>cases (show u = .non from hw);cases ru;simp only[az];exact⟨SeqAt.EqAt.str_none _ _,SeqAt.RcAt.str_none _ _⟩
   | bl b=>cases (show u = .bl b from hw);cases ru;simp only[az];exact⟨SeqAt.EqAt.str_bool _ _ _,SeqAt.RcAt.str_bool _ _ _⟩
   | int b=>cases (show u = .int b from hw);obtain⟨t,rfl⟩:=ru;simp only[az];exact⟨q0c _ _ _ _,SeqAt.RcAt.str_int _ _ _ _⟩
   | str b=>cases (show u = .str b from hw);obtain⟨t,rfl⟩:=ru;simp only[az];exact⟨SeqAt.EqAt.str_str _ _ _ _,SeqAt.RcAt.str_str _ _ _ _⟩
   | tup es=>simp only[Is] at hw;obtain⟨a,vs,rfl,h1,_⟩:=hw;cases ru;obtain⟨_,_,p⟩:=dS I h1;simp only[az];exact⟨SeqAt.EqAt.str_tuple _ _ p nz,SeqAt.RcAt.str_tuple _ _ p nz⟩
   | lst es=>simp only[Is] at hw;obtain⟨a,vs,rfl,h1,_⟩:=hw;cases ru;obtain⟨_,_,p⟩:=dR I h1;simp only[az];exact⟨SeqAt.EqAt.str_list _ _ p nz,SeqAt.RcAt.str_list _ _ p nz⟩
 | succ n ih =>
  intro A d e v u x y hd hu hv hw rv ru
  have nz:A.units < cLine:=by omega
  have step:∀ {ds es:List D} {vs us:List V} {ak bq:List Value} (r1:Vals vs ak) (r2:Vals us bq),cb ds <= n->af H ds vs->af H es us →
    ∀ (j:Nat) (h1:j < ak.toArray.size) (h2:j < bq.toArray.size),SeqAt.EqAt A.in1 s ak.toArray[j] bq.toArray[j] (qm ds es j):=fun {ds es vs us ak bq} r1 r2 hl i1 i2 j h1 h2=>by
   obtain⟨v1,e1,q1⟩:=uy r1 h1
   obtain⟨v2,e2,q2⟩:=uy r2 h2
   obtain⟨d1,f1,g1⟩:=i1.get e1
   obtain⟨d2,f2,g2⟩:=i2.get e2
   unfold qm
   rw[f1,f2]
   exact (ih (XJ (Ag f1) hl) (by rw[in1_units];omega) g1 g2 q1 q2).1
  cases d with
  | tup ds =>
   have hl:cb ds <= n:=by simp only[dep] at hd;omega
   have A8:=hv
   simp only[Is] at hv
   obtain⟨a,vs,rfl,h1,i1⟩:=hv
   cases rv
   obtain⟨ak,r1,p1⟩:=dS I h1
   cases e with
   | tup es =>
    have A9:=hw
    simp only[Is] at hw
    obtain⟨b,us,rfl,h2,i2⟩:=hw
    cases ru
    obtain⟨bq,r2,p2⟩:=dS I h2
    have rc:SeqAt.RcAt A s (.ref a) (.ref b) (az (.tup ds) (.tup es)):=by
     have:=SeqAt.RcAt.tuples p1 p2 nz (step r1 r2 hl i1 i2)
     have l1:ak.toArray.size=ds.length:=by rw[zR,<-r1.length,i1.length]
     have l2:bq.toArray.size=es.length:=by rw[zR,<-r2.length,i2.length]
     rw[l1,l2] at this
     have eb:((List.range (min ds.length es.length)).all (qm ds es) && ds.length == es.length)=az (.tup ds) (.tup es):=by
      simp only[az]
      by_cases c:ds.length=es.length
      ·rw[<-c,Nat.min_self,ux c];simp
      ·rw[uw c];simp[c]
     rw[eb] at this;exact this
    refine⟨?_,rc⟩
    by_cases c:a=b
    ·subst c
     have:=Is.inj A8 A9
     rw[this,jK];exact Z1 _
    ·exact SeqAt.EqAt.of_refs c rc
   | lst es =>
    simp only[Is] at hw
    obtain⟨b,us,rfl,h2,i2⟩:=hw
    cases ru
    obtain⟨bq,r2,p2⟩:=dR I h2
    simp only[az];exact⟨SeqAt.EqAt.tuple_list p1 p2 nz,SeqAt.RcAt.tuple_list p1 p2 nz⟩
   | non=>cases (show u = .non from hw);cases ru;simp only[az];exact⟨SeqAt.EqAt.tuple_none p1 nz,SeqAt.RcAt.tuple_none p1 nz⟩
   | bl b=>cases (show u = .bl b from hw);cases ru;simp only[az];exact⟨SeqAt.EqAt.tuple_bool _ p1 nz,SeqAt.RcAt.tuple_bool _ p1 nz⟩
   | int b=>cases (show u = .int b from hw);obtain⟨t,rfl⟩:=ru;simp only[az];exact⟨SeqAt.EqAt.tuple_int _ _ p1 nz,SeqAt.RcAt.tuple_int _ _ p1 nz⟩
   | str b=>cases (show u = .str b from hw);obtain⟨t,rfl⟩:=ru;simp only[az];exact⟨SeqAt.EqAt.tuple_str _ _ p1 nz,SeqAt.RcAt.tuple_str _ _ p1 nz⟩
  | lst ds =>
   have hl:cb ds <= n:=by simp only[dep] at hd;omega
   have A8:=hv
   simp only[Is] at hv
   obtain⟨a,vs,rfl,h1,i1⟩:=hv
   cases rv
   obtain⟨ak,r1,p1⟩:=dR I h1
   cases e with
   | lst es =>
    have A9:=hw
    simp only[Is] at hw
    obtain⟨b,us,rfl,h2,i2⟩:=hw
    cases ru
    obtain⟨bq,r2,p2⟩:=dR I h2
    have l1:ak.toArray.size=ds.length:=by rw[zR,<-r1.length,i1.length]
    have l2:bq.toArray.size=es.length:=by rw[zR,<-r2.length,i2.length]
    have rc:SeqAt.RcAt A s (.ref a) (.ref b) (az (.lst ds) (.lst es)):=by
     by_cases c:ds.length=es.length
     ·have:=SeqAt.RcAt.lists p1 p2 (by rw[l1,l2];exact c) nz (step r1 r2 hl i1 i2)
      rw[l1,ux c] at this
      simp only[az];exact this
     ·simp only[az];rw[uw c]
      exact SeqAt.RcAt.lists_lengths p1 p2 (by rw[l1,l2];simpa using c) nz
    refine⟨?_,rc⟩
    by_cases c:a=b
    ·subst c
     have:=Is.inj A8 A9
     rw[this,jK];exact Z1 _
    ·exact SeqAt.EqAt.of_refs c rc
   | tup es =>
    simp only[Is] at hw
    obtain⟨b,us,rfl,h2,i2⟩:=hw
    cases ru
    obtain⟨bq,r2,p2⟩:=dS I h2
    simp only[az];exact⟨SeqAt.EqAt.list_tuple p1 p2 nz,SeqAt.RcAt.list_tuple p1 p2 nz⟩
   | non=>cases (show u = .non from hw);cases ru;simp only[az];exact⟨SeqAt.EqAt.list_none p1 nz,SeqAt.RcAt.list_none p1 nz⟩
   | bl b=>cases (show u = .bl b from hw);cases ru;simp only[az];exact⟨SeqAt.EqAt.list_bool _ p1 nz,SeqAt.RcAt.list_bool _ p1 nz⟩
   | int b=>cases (show u = .int b from hw);obtain⟨t,rfl⟩:=ru;simp only[az];exact⟨SeqAt.EqAt.list_int _ _ p1 nz,SeqAt.RcAt.list_int _ _ p1 nz⟩
   | str b=>cases (show u = .str b from hw);obtain⟨t,rfl⟩:=ru;simp only[az];exact⟨SeqAt.EqAt.list_str _ _ p1 nz,SeqAt.RcAt.list_str _ _ p1 nz⟩
  | non=>exact ih (by simp[dep]) (by omega) hv hw rv ru
  | bl b0=>exact ih (by simp[dep]) (by omega) hv hw rv ru
  | int b0=>exact ih (by simp[dep]) (by omega) hv hw rv ru
  | str b0=>exact ih (by simp[dep]) (by omega) hv hw rv ru
theorem Ot (I:Inv X pins σ H s) {A:Around} {d e:D} {v u:V} {x y:Value} (hd:dep d <= 60) (hu:A.units + 61 < cLine) (hv:Is H d v) (hw:Is H e u) (rv:RelV v x) (ru:RelV u y):SeqAt.RcNeAt A s x y (!az d e):=by
 have nz:A.units < cLine:=by omega
 have step:∀ {ds es:List D} {vs us:List V} {ak bq:List Value} (r1:Vals vs ak) (r2:Vals us bq),cb ds <= 59->af H ds vs->af H es us →
   ∀ (j:Nat) (h1:j < ak.toArray.size) (h2:j < bq.toArray.size),SeqAt.EqAt A.in1 s ak.toArray[j] bq.toArray[j] (qm ds es j):=fun {ds es vs us ak bq} r1 r2 hl i1 i2 j h1 h2=>by
  obtain⟨v1,e1,q1⟩:=uy r1 h1
  obtain⟨v2,e2,q2⟩:=uy r2 h2
  obtain⟨d1,f1,g1⟩:=i1.get e1
  obtain⟨d2,f2,g2⟩:=i2.get e2
  unfold qm
  rw[f1,f2]
  exact (A7 I 59 (XJ (Ag f1) hl) (by rw[in1_units];omega) g1 g2 q1 q2).1
 cases d with
 | tup ds =>
  have hl:cb ds <= 59:=by simp only[dep] at hd;omega
  simp only[Is] at hv
  obtain⟨a,vs,rfl,h1,i1⟩:=hv
  cases rv
  obtain⟨ak,r1,p1⟩:=dS I h1
  cases e with
  | tup es =>
   simp only[Is] at hw
   obtain⟨b,us,rfl,h2,i2⟩:=hw
   cases ru
   obtain⟨bq,r2,p2⟩:=dS I h2
   have:=SeqAt.RcNeAt.tuples p1 p2 nz (step r1 r2 hl i1 i2)
   have l1:ak.toArray.size=ds.length:=by rw[zR,<-r1.length,i1.length]
   have l2:bq.toArray.size=es.length:=by rw[zR,<-r2.length,i2.length]
   rw[l1,l2] at this
   have eb:((List.range (min ds.length es.length)).all (qm ds es) && ds.length == es.length)=az (.tup ds) (.tup es):=by
    simp only[az]
    by_cases c:ds.length=es.length
    ·rw[<-c,Nat.min_self,ux c];simp
    ·rw[uw c];simp[c]
   rw[eb] at this;exact this
  | lst es=>simp only[Is] at hw;obtain⟨b,us,rfl,h2,i2⟩:=hw;cases ru;obtain⟨bq,r2,p2⟩:=dR I h2;simp only[az];exact SeqAt.RcNeAt.tuple_list p1 p2 nz
  | non=>cases (show u = .non from hw);cases ru;simp only[az];exact SeqAt.RcNeAt.tuple_none p1 nz
  | bl b=>cases (show u = .bl b from hw);cases ru;simp only[az];exact SeqAt.RcNeAt.tuple_bool _ p1 nz
  | int b=>cases (show u = .int b from hw);obtain⟨t,rfl⟩:=ru;simp only[az];exact SeqAt.RcNeAt.tuple_int _ _ p1 nz
  | str b=>cases (show u = .str b from hw);obtain⟨t,rfl⟩:=ru;simp only[az];exact SeqAt.RcNeAt.tuple_str _ _ p1 nz
 | lst ds =>
  have hl:cb ds <= 59:=by simp only[dep] at hd;omega
  simp only[Is] at hv
  obtain⟨a,vs,rfl,h1,i1⟩:=hv
  cases rv
  obtain⟨ak,r1,p1⟩:=dR I h1
  cases e with
  | lst es =>
   simp only[Is] at hw
   obtain⟨b,us,rfl,h2,i2⟩:=hw
   cases ru
   obtain⟨bq,r2,p2⟩:=dR I h2
   have l1:ak.toArray.size=ds.length:=by rw[zR,<-r1.length,i1.length]
   have l2:bq.toArray.size=es.length:=by rw[zR,<-r2.length,i2.length]
   by_cases c:ds.length=es.length
   ·have:=SeqAt.RcNeAt.lists p1 p2 (by rw[l1,l2];exact c) nz (step r1 r2 hl i1 i2)
    rw[l1,ux c] at this
    simp only[az];exact this
   ·simp only[az];rw[uw c]
    exact SeqAt.RcNeAt.lists_lengths p1 p2 (by rw[l1,l2];simpa using c) nz
  | tup es=>simp only[Is] at hw;obtain⟨b,us,rfl,h2,i2⟩:=hw;cases ru;obtain⟨bq,r2,p2⟩:=dS I h2;simp only[az];exact SeqAt.RcNeAt.list_tuple p1 p2 nz
  | non=>cases (show u = .non from hw);cases ru;simp only[az];exact SeqAt.RcNeAt.list_none p1 nz
  | bl b=>cases (show u = .bl b from hw);cases ru;simp only[az];exact SeqAt.RcNeAt.list_bool _ p1 nz
  | int b=>cases (show u = .int b from hw);obtain⟨t,rfl⟩:=ru;simp only[az];exact SeqAt.RcNeAt.list_int _ _ p1 nz
  | str b=>cases (show u = .str b from hw);obtain⟨t,rfl⟩:=ru;simp only[az];exact SeqAt.RcNeAt.list_str _ _ p1 nz
 | non =>
  cases (show v = .non from hv);cases rv
  cases e with
  | non=>cases (show u = .non from hw);cases ru;simp only[az];exact SeqAt.RcNeAt.none_none
  | bl b=>cases (show u = .bl b from hw);cases ru;simp only[az];exact SeqAt.RcNeAt.none_bool _
  | int b=>cases (show u = .int b from hw);obtain⟨t,rfl⟩:=ru;simp only[az];exact SeqAt.RcNeAt.none_int _ _
  | str b=>cases (show u = .str b from hw);obtain⟨t,rfl⟩:=ru;simp only[az];exact SeqAt.RcNeAt.none_str _ _
  | tup es=>simp only[Is] at hw;obtain⟨a,vs,rfl,h1,_⟩:=hw;cases ru;obtain⟨_,_,p⟩:=dS I h1;simp only[az];exact SeqAt.RcNeAt.none_tuple p nz
  | lst es=>simp only[Is] at hw;obtain⟨a,vs,rfl,h1,_⟩:=hw;cases ru;obtain⟨_,_,p⟩:=dR I h1;simp only[az];exact SeqAt.RcNeAt.none_list p nz
 | bl b0 =>
  cases (show v = .bl b0 from hv);cases rv
  cases e with
  | non=>cases (show u = .non from hw);cases ru;simp only[az];exact SeqAt.RcNeAt.bool_none _
  | bl b=>cases (show u = .bl b from hw);cases ru;simp only[az];exact SeqAt.RcNeAt.bool_bool _ _
  | int b=>cases (show u = .int b from hw);obtain⟨t,rfl⟩:=ru;simp only[az];exact SeqAt.RcNeAt.bool_int _ _ _
  | str b=>cases (show u = .str b from hw);obtain⟨t,rfl⟩:=ru;simp only[az];exact SeqAt.RcNeAt.bool_str _ _ _
  | tup es=>simp only[Is] at hw;obtain⟨a,vs,rfl,h1,_⟩:=hw;cases ru;obtain⟨_,_,p⟩:=dS I h1;simp only[az];exact SeqAt.RcNeAt.bool_tuple _ p nz
  | lst es=>simp only[Is] at hw;obtain⟨a,vs,rfl,h1,_⟩:=hw;cases ru;obtain⟨_,_,p⟩:=dR I h1;simp only[az];exact SeqAt.RcNeAt.bool_list _ p nz
 | int b0 =>
  cases (show v = .int b0 from hv);obtain⟨t0,rfl⟩:=rv
  cases e with
  | non=>cases (show u = .non from hw);cases ru;simp only[az];exact SeqAt.RcNeAt.int_none _ _
  | bl b=>cases (show u = .bl b from hw);cases ru;simp only[az];exact SeqAt.RcNeAt.int_bool _ _ _
  | int b=>cases (show u = .int b from hw);obtain⟨t,rfl⟩:=ru;simp only[az];exact SeqAt.RcNeAt.int_int _ _ _ _
  | str b=>cases (show u = .str b from hw);obtain⟨t,rfl⟩:=ru;simp only[az];exact SeqAt.RcNeAt.int_str _ _ _ _
  | tup es=>simp only[Is] at hw;obtain⟨a,vs,rfl,h1,_⟩:=hw;cases ru;obtain⟨_,_,p⟩:=dS I h1;simp only[az];exact SeqAt.RcNeAt.int_tuple _ _ p nz
  | lst es=>simp only[Is] at hw;obtain⟨a,vs,rfl,h1,_⟩:=hw;cases ru;obtain⟨_,_,p⟩:=dR I h1;simp only[az];exact SeqAt.RcNeAt.int_list _ _ p nz
 | str b0 =>
  cases (show v = .str b0 from hv);obtain⟨t0,rfl⟩:=rv
  cases e with
  | non=>cases (show u = .non from hw);cases ru;simp only[az];exact SeqAt.RcNeAt.str_none _ _
  | bl b=>cases (show u = .bl b from hw);cases ru;simp only[az];exact SeqAt.RcNeAt.str_bool _ _ _
  | int b=>cases (show u = .int b from hw);obtain⟨t,rfl⟩:=ru;simp only[az];exact SeqAt.RcNeAt.str_int _ _ _ _
  | str b=>cases (show u = .str b from hw);obtain⟨t,rfl⟩:=ru;simp only[az];exact SeqAt.RcNeAt.str_str _ _ _ _
  | tup es=>simp only[Is] at hw;obtain⟨a,vs,rfl,h1,_⟩:=hw;cases ru;obtain⟨_,_,p⟩:=dS I h1;simp only[az];exact SeqAt.RcNeAt.str_tuple _ _ p nz
  | lst es=>simp only[Is] at hw;obtain⟨a,vs,rfl,h1,_⟩:=hw;cases ru;obtain⟨_,_,p⟩:=dR I h1;simp only[az];exact SeqAt.RcNeAt.str_list _ _ p nz
end
variable [aJ]
noncomputable def intsOf:List D->Option (List Int)
 | []=>some []
 | .int i :: r=>match intsOf r with
  | some ns=>some (i :: ns)
  | none=>none
 | _=>none
theorem uz:∀ ns:List Int,intsOf (ns.map D.int)=some ns
 | []=>rfl
 | n :: r=>by show (match intsOf (r.map D.int) with | some ns=>some (n :: ns) | none=>none)=_;rw[uz r]
theorem ot:∀ {ds:List D} {ns:List Int},intsOf ds=some ns->ds=ns.map D.int
 | [],ns,h=>by cases h;rfl
 | .int i :: r,ns,h=>by
  unfold intsOf at h
  split at h
  ·rename_i ms e;cases h;rw[WH,ot e]
  ·cases h
 | .non :: r,ns,h=>by cases h
 | .bl _ :: r,ns,h=>by cases h
 | .str _ :: r,ns,h=>by cases h
 | .tup _ :: r,ns,h=>by cases h
 | .lst _ :: r,ns,h=>by cases h
theorem lA {F:Hp}:∀ {ns:List Int} {vs:List V},af F (ns.map D.int) vs->vs=ns.map V.int
 | [],vs,h=>by simp only[Ye,af] at h;exact h
 | n :: r,vs,h=>by
  simp only[WH,af] at h
  obtain⟨v,t,rfl,h1,h2⟩:=h
  have h1:v = .int n:=h1
  rw[lA h2,h1];rfl
theorem mZ {F:Hp}:∀ {ns:List Int},af F (ns.map D.int) (ns.map V.int)
 | [] => .nil
 | n :: r => .cons (show _=_ from rfl) mZ
theorem rX {F:Hp}:∀ {as bs:List D} {us vs:List V},af F as us->af F bs vs->af F (as ++ bs) (us ++ vs)
 | [],bs,us,vs,h,q=>by simp only[af] at h;subst h;exact q
 | a :: r,bs,us,vs,h,q=>by
  simp only[af] at h
  obtain⟨v,t,rfl,h1,h2⟩:=h
  exact .cons h1 (rX h2 q)
theorem Gm {F:Hp}:∀ {as:List D} {us:List V} (n:Nat),af F as us->af F (as.take n) (us.take n)
 | as,us,0,_=>by rw[ZF,ZF];exact .nil
 | [],us,n + 1,h=>by simp only[af] at h;subst h;exact .nil
 | a :: r,us,n + 1,h=>by
  simp only[af] at h
  obtain⟨v,t,rfl,h1,h2⟩:=h
  exact .cons h1 (Gm n h2)
theorem Gn {F:Hp}:∀ {as:List D} {us:List V} (n:Nat),af F as us->af F (as.drop n) (us.drop n)
 | as,us,0,h=>h
 | [],us,n + 1,h=>by simp only[af] at h;subst h;exact .nil
 | a :: r,us,n + 1,h=>by
  simp only[af] at h
  obtain⟨v,t,rfl,h1,h2⟩:=h
  exact Gn n h2
theorem Gp {F:Hp}:∀ {as:List D} {us:List V} (n:Nat) {d:D} {v:V},af F as us->Is F d v->af F (as.set n d) (us.set n v)
 | [],us,n,d,v,h,_=>by simp only[af] at h;subst h;exact .nil
 | a :: r,us,0,d,v,h,q=>by
  simp only[af] at h
  obtain⟨w,t,rfl,h1,h2⟩:=h
  exact .cons q h2
 | a :: r,us,n + 1,d,v,h,q=>by
  simp only[af] at h
  obtain⟨w,t,rfl,h1,h2⟩:=h
  exact .cons h1 (Gp n h2 q)
theorem Gq {F:Hp}:∀ {as:List D} {us:List V} (n:Nat),af F as us->af F (as.eraseIdx n) (us.eraseIdx n)
 | [],us,n,h=>by simp only[af] at h;subst h;exact .nil
 | a :: r,us,0,h=>by
  simp only[af] at h
  obtain⟨w,t,rfl,h1,h2⟩:=h
  exact h2
 | a :: r,us,n + 1,h=>by
  simp only[af] at h
  obtain⟨w,t,rfl,h1,h2⟩:=h
  exact .cons h1 (Gq n h2)
theorem l4 {F H:Hp} {p:Addr} {ds:List D} {vs:List V} (s:aA F H) (hp:H p=none) (h:af F ds vs):Is (Nw F H (upd H p (.lst vs))) (.lst ds) (.ref p):=by
 rw[Nw.upd s hp]
 simp only[Is]
 exact⟨p,vs,rfl,bK,h.same (cR (s.free hp))⟩
theorem A_ {F H:Hp} {p:Addr} {ds:List D} {vs:List V} (s:aA F H) (hp:H p=none) (h:af F ds vs):Is (Nw F H (upd H p (.tup vs))) (.tup ds) (.ref p):=by
 rw[Nw.upd s hp]
 simp only[Is]
 exact⟨p,vs,rfl,bK,h.same (cR (s.free hp))⟩
theorem uA {F H:Hp} {d:D} {v:V} (s:aA F H) (h:Is F d v):Is (Nw F H H) d v:=by rw[Nw.refl s];exact h
noncomputable def qp:D->D->(D->Prop)->Prop
 | .int i,.int j,K=>K (.int (i + j))
 | .lst a,.lst b,K=>a.length + b.length <= 1000/\K (.lst (a ++ b))
 | .tup a,.tup b,K=>(a≠[]/\a.length + b.length <= 1000)/\K (.tup (a ++ b))
 | .str a,.str b,K=>a.length + b.length <= 1000/\K (.str (a ++ b))
 | _,_,_=>False
noncomputable def oI (f:Int->Int->D):D->D->(D->Prop)->Prop
 | .int i,.int j,K=>K (f i j)
 | _,_,_=>False
noncomputable def eZ (C:Int->Int->Prop) (f:Int->Int->D):D->D->(D->Prop)->Prop
 | .int i,.int j,K=>C i j/\K (f i j)
 | _,_,_=>False
noncomputable def fR:D->D->(D->Prop)->Prop
 | .int i,.int j,K=>mD i j/\K (.int (i * j))
 | .lst a,.int j,K=>(-(2 ^ 63) <= j/\j < 2 ^ 63/\a.length * j.toNat <= 1000)/\K (.lst (List.replicate j.toNat a).flatten)
 | _,_,_=>False
section
variable {X:Cx}
theorem wX {f:Value->Value->Sem Value} {g:Int->Int->V} {h:Int->Int->D} (op:dW X f (mB g)) (hg:∀ F i j,Is F (h i j) (g i j)):gx X f (oI h):=by
 rintro pins s σ H x y v u Q I rx ry ⟨F,d,e,K,sub,rd,re,q,md⟩
 unfold oI at q
 split at q
 ·rename_i i j
  exact op pins s σ H x y v u Q I rx ry ⟨i,j,rd,re,md _ _ _ q (fun _ _ e=>e) (hg _ i j)⟩
 ·exact q.elim
theorem Ba {f:Value->Value->Sem Value} {C:Int->Int->Prop} {g:Int->Int->V} {h:Int->Int->D} (op:dW X f (rI C g)) (hg:∀ F i j,Is F (h i j) (g i j)):gx X f (eZ C h):=by
 rintro pins s σ H x y v u Q I rx ry ⟨F,d,e,K,sub,rd,re,q,md⟩
 unfold eZ at q
 split at q
 ·rename_i i j
  exact op pins s σ H x y v u Q I rx ry ⟨i,j,rd,re,q.1,md _ _ _ q.2 (fun _ _ e=>e) (hg _ i j)⟩
 ·exact q.elim
theorem wY:gx X (binaryOp .Add) qp:=by
 rintro pins s σ H x y v u Q I rx ry ⟨F,d,e,K,sub,rd,re,q,md⟩
 unfold qp at q
 split at q
 ·rename_i i j
  exact En pins s σ H x y v u Q I rx ry ⟨i,j,rd,re,md _ _ _ q (fun _ _ e=>e) rfl⟩
 ·rename_i as bs
  obtain⟨a,us,rfl,h1,h2⟩:=rd
  obtain⟨b,ws,rfl,h3,h4⟩:=re
  refine EZ pins s σ H _ _ v u Q I rx ry ⟨a,b,us,ws,rfl,rfl,h1,h3,lj (by rw[h2.length,h4.length];exact q.1),fun p hp=>md _ _ _ q.2 (cR hp) (l4 sub hp (rX h2 h4))⟩
 ·rename_i as bs
  have dg:Is F (.tup as) x:=rd
  have iV:Is F (.tup bs) y:=re
  simp only[Is] at dg iV
  obtain⟨a,us,rfl,h1,h2⟩:=dg
  obtain⟨b,ws,rfl,h3,h4⟩:=iV
  have ne:us≠[]:=fun z=>q.1.1 (YR.mp (by rw[<-h2.length,z];rfl))
  refine Mh pins s σ H _ _ v u Q I rx ry ⟨a,b,us,ws,rfl,rfl,bV.of (sub _ _ h1),bV.of (sub _ _ h3),ne,lj (by rw[h2.length,h4.length];exact q.1.2),fun z => ?_,fun z p hp=>md _ _ _ q.2 (cR hp) (A_ sub hp (rX h2 h4))⟩
  have:bs=[]:=YR.mp (by rw[<-h4.length,z];rfl)
  subst this
  refine md _ _ _ q.2 (fun _ _ e=>e) (uA sub ?_)
  rw[Yw];exact rd
 ·rename_i as bs
  have dg:x = .str as:=rd
  have iV:y = .str bs:=re
  subst dg iV
  exact LG pins s σ H _ _ v u Q I rx ry ⟨as,bs,rfl,rfl,lj q.1,md _ _ _ q.2 (fun _ _ e=>e) rfl⟩
 ·exact q.elim
theorem rY:gx X (binaryOp .Sub) (oI fun i j => .int (i - j)):=wX Lp fun _ _ _=>rfl
theorem m8:gx X (binaryOp .Mult) fR:=by
 rintro pins s σ H x y v u Q I rx ry ⟨F,d,e,K,sub,rd,re,q,md⟩
 unfold fR at q
 split at q
 ·rename_i i j
  exact Lq pins s σ H x y v u Q I rx ry ⟨i,j,rd,re,q.1,md _ _ _ q.2 (fun _ _ e=>e) rfl⟩
 ·rename_i as j
  obtain⟨a,us,rfl,h1,h2⟩:=rd
  refine Mu pins s σ H _ _ v u Q I rx ry ⟨a,j,us,rfl,re,h1,q.1.1,q.1.2.1,lj (by rw[h2.length];exact q.1.2.2),fun p hp=>md _ _ _ q.2 (cR hp) (l4 sub hp ?_)⟩
  have:∀ k:Nat,af F (List.replicate k as).flatten (List.replicate k us).flatten:=fun k=>by
   induction k with
   | zero=>exact .nil
   | succ k ih=>rw[Xv,Xv,X9,X9];exact rX h2 ih
  exact this _
 ·exact q.elim
theorem Ou:gx X (binaryOp .FloorDiv) (eZ tu fun i j => .int (i.fdiv j)):=Ba Lr fun _ _ _=>rfl
theorem kH:gx X (binaryOp .Mod) (eZ (fun _ j=>0 < j) fun i j => .int (i % j)):=Ba zp fun _ _ _=>rfl
theorem qq:gx X (binaryOp .Pow) (eZ h9 fun i j => .int (i ^ j.toNat)):=Ba Ls fun _ _ _=>rfl
noncomputable def oEq:D->D->(D->Prop)->Prop:=fun d e K=>dep d <= 60/\K (.bl (az d e))
noncomputable def l5:D->D->(D->Prop)->Prop:=fun d e K=>dep d <= 60/\K (.bl (!az d e))
theorem g6 (hu:X.A.units + 64 < cLine):gx X (compareOp .Eq) oEq:=by
 rintro pins s σ H x y v u Q I rx ry ⟨F,d,e,K,sub,rd,re,q,md⟩
 exact (A7 I 60 q.1 (by omega) (rd.is sub) (re.is sub) rx ry).2 _ _ _ _ ⟨.bl _,H,I,rfl,md _ _ _ q.2 (fun _ _ e=>e) rfl⟩
theorem uB (hu:X.A.units + 64 < cLine):gx X (compareOp .NotEq) l5:=by
 rintro pins s σ H x y v u Q I rx ry ⟨F,d,e,K,sub,rd,re,q,md⟩
 exact Ot I q.1 (by omega) (rd.is sub) (re.is sub) rx ry _ _ _ _ ⟨.bl _,H,I,rfl,md _ _ _ q.2 (fun _ _ e=>e) rfl⟩
noncomputable def oLt:D->D->(D->Prop)->Prop
 | .int i,.int j,K=>K (.bl (decide (i < j)))
 | .tup a,.tup b,K=>match intsOf a,intsOf b with
  | some ns,some ms=>K (.bl (HT.lexLt ns ms))
  | _,_=>False
 | _,_,_=>False
theorem wZ (hu:X.A.units + 64 < cLine):gx X (compareOp .Lt) oLt:=by
 rintro pins s σ H x y v u Q I rx ry ⟨F,d,e,K,sub,rd,re,q,md⟩
 unfold oLt at q
 split at q
 ·rename_i i j
  exact Lx pins s σ H x y v u Q I rx ry ⟨i,j,rd,re,md _ _ _ q (fun _ _ e=>e) rfl⟩
 ·rename_i as bs
  split at q
  ·rename_i ns ms e1 e2
   rw[ot e1] at rd
   rw[ot e2] at re
   have dg:Is F (.tup (ns.map D.int)) x:=rd
   have iV:Is F (.tup (ms.map D.int)) y:=re
   simp only[Is] at dg iV
   obtain⟨a,us,rfl,h1,h2⟩:=dg
   obtain⟨b,ws,rfl,h3,h4⟩:=iV
   rw[lA h2] at h1
   rw[lA h4] at h3
   exact Mf (by omega) pins s σ H _ _ v u Q I rx ry ⟨a,b,ns,ms,rfl,rfl,bV.of (sub _ _ h1),bV.of (sub _ _ h3),md _ _ _ q (fun _ _ e=>e) rfl⟩
  ·exact q.elim
 ·exact q.elim
theorem Gr:gx X (compareOp .LtE) (oI fun i j => .bl (decide (i <= j))):=wX Ly fun _ _ _=>rfl
theorem rZ:gx X (compareOp .Gt) (oI fun i j => .bl (decide (j < i))):=wX Lz fun _ _ _=>rfl
theorem Ov:gx X (compareOp .GtE) (oI fun i j => .bl (decide (j <= i))):=wX LA fun _ _ _=>rfl
noncomputable def oy (neg:Bool):D->D->(D->Prop)->Prop
 | d,.lst es,K=>cb es <= 55/\K (.bl (if neg then !(es.any fun e=>az e d) else es.any fun e=>az e d))
 | d,.tup es,K=>cb es <= 55/\K (.bl (if neg then !(es.any fun e=>az e d) else es.any fun e=>az e d))
 | _,_,_=>False
noncomputable def jd (H:Hp) (d:D) (u:Value):Bool:=by
 classical exact if ∃ e v,Is H e v/\RelV v u/\az e d=true then true else false
theorem Gs {H:Hp} {d e:D} {v:V} {u:Value} (h:Is H e v) (r:RelV v u):jd H d u=az e d:=by
 unfold jd
 split
 ·rename_i z
  obtain⟨e',v',h',r',q⟩:=z
  have:v'=v:=r'.inj r
  subst this
  rw[Is.inj h h'];exact q.symm
 ·rename_i z
  cases q:az e d with
  | false=>rfl
  | true=>exact absurd ⟨e,v,h,r,q⟩ z
theorem uC {H:Hp} {d:D}:∀ {es:List D} {vs:List V} {us:List Value},af H es vs->Vals vs us->us.any (jd H d)=es.any fun e=>az e d
 | [],vs,us,h,r=>by simp only[af] at h;subst h;cases r;rfl
 | e :: es,vs,us,h,r=>by
  simp only[af] at h
  obtain⟨v,t,rfl,h1,h2⟩:=h
  cases r with
  | cons r1 r2=>rw[YQ,YQ,Gs h1 r1,uC h2 r2]
theorem uD {pins:List (Addr × Obj)} {σ : St} {H:Hp} {s:Shared} (I:Inv X pins σ H s) {A:Around} (hu:A.units + 60 < cLine) {d:D} {x:V} {w:Value} (hd:Is H d x) (rd:RelV x w):∀ {es:List D} {vs:List V} {us:List Value},cb es <= 55->af H es vs->Vals vs us->∀ u∈us,SeqAt.EqAt A s u w (jd H d u)
 | [],vs,us,_,h,r=>by simp only[af] at h;subst h;cases r;intro u hu;cases hu
 | e :: es,vs,us,hp,h,r=>by
  simp only[af] at h
  obtain⟨v,t,rfl,h1,h2⟩:=h
  simp only[cb] at hp
  cases r with
  | cons r1 r2 =>
   intro u hu'
   rcases MA.mp hu' with rfl | hu'
   ·rw[Gs h1 r1];exact (A7 I 55 (by omega) (by omega) h1 hd r1 rd).1
   ·exact uD I hu hd rd (by omega) h2 r2 u hu'
theorem Ox (hu:X.A.units + 64 < cLine):gx X (compareOp .In) (oy false):=by
 rintro pins s σ H x y v u Q I rx ry ⟨F,d,e,K,sub,rd,re,q,md⟩
 unfold oy at q
 split at q
 ·rename_i es
  obtain⟨a,vs,rfl,h1,h2⟩:=re
  cases ry
  obtain⟨ak,r,p⟩:=dR I h1
  have fJ:=h2.same sub
  refine SeqAt.in_listAt (jd H d) p (fun w hw=>uD I (by rw[in1_units];omega) (rd.is sub) rx q.1 fJ r w (by simpa using hw)) ⟨.bl _,H,I,rfl,?_⟩
  rw[show ak.toArray.any (jd H d)=ak.any (jd H d) by simp,uC fJ r]
  exact md _ _ _ q.2 (fun _ _ e=>e) rfl
 ·rename_i es
  have iV:Is F (.tup es) y:=re
  simp only[Is] at iV
  obtain⟨a,vs,rfl,h1,h2⟩:=iV
  cases ry
  obtain⟨ak,r,p⟩:=dS I (sub _ _ h1)
  have fJ:=h2.same sub
  refine SeqAt.in_tupleAt (jd H d) p (fun w hw=>uD I (by rw[in1_units];omega) (rd.is sub) rx q.1 fJ r w (by simpa using hw)) ⟨.bl _,H,I,rfl,?_⟩
  rw[show ak.toArray.any (jd H d)=ak.any (jd H d) by simp,uC fJ r]
  exact md _ _ _ q.2 (fun _ _ e=>e) rfl
 ·exact q.elim
theorem Gu (hu:X.A.units + 64 < cLine):gx X (compareOp .NotIn) (oy true):=by
 rintro pins s σ H x y v u Q I rx ry ⟨F,d,e,K,sub,rd,re,q,md⟩
 unfold oy at q
 split at q
 ·rename_i es
  obtain⟨a,vs,rfl,h1,h2⟩:=re
  cases ry
  obtain⟨ak,r,p⟩:=dR I h1
  have fJ:=h2.same sub
  refine SeqAt.notIn_listAt (jd H d) p (fun w hw=>uD I (by rw[in1_units];omega) (rd.is sub) rx q.1 fJ r w (by simpa using hw)) ⟨.bl _,H,I,rfl,?_⟩
  rw[show ak.toArray.any (jd H d)=ak.any (jd H d) by simp,uC fJ r]
  exact md _ _ _ q.2 (fun _ _ e=>e) rfl
 ·rename_i es
  have iV:Is F (.tup es) y:=re
  simp only[Is] at iV
  obtain⟨a,vs,rfl,h1,h2⟩:=iV
  cases ry
  obtain⟨ak,r,p⟩:=dS I (sub _ _ h1)
  have fJ:=h2.same sub
  refine SeqAt.notIn_tupleAt (jd H d) p (fun w hw=>uD I (by rw[in1_units];omega) (rd.is sub) rx q.1 fJ r w (by simpa using hw)) ⟨.bl _,H,I,rfl,?_⟩
  rw[show ak.toArray.any (jd H d)=ak.any (jd H d) by simp,uC fJ r]
  exact md _ _ _ q.2 (fun _ _ e=>e) rfl
 ·exact q.elim
noncomputable def aP:D->D->(D->Prop)->Prop
 | .lst ds,.int i,K=>match eB ds i with
  | some d=>K d
  | none=>False
 | .tup ds,.int i,K=>match eB ds i with
  | some d=>K d
  | none=>False
 | .str z,.int i,K=>z.length <= 1000/\match eB z.cps.toList i with
  | some c=>K (.str ⟨#[c]⟩)
  | none=>False
 | _,_,_=>False
theorem Gv {F:Hp} {ds:List D} {vs:List V} {i:Int} {d:D} (h:af F ds vs) (e:eB ds i=some d):∃ v,eB vs i=some v/\Is F d v:=by
 unfold eB at e ⊢
 rw[h.length]
 cases q:jU ds.length i with
 | none=>rw[q] at e;cases e
 | some j =>
  rw[q] at e
  exact rW h (show ds[j]? = some d from e)
theorem a6:FU X aP:=by
 rintro value slice pins s σ H x y v u Q I rx ry ⟨F,d,e,K,sub,rd,re,q,md⟩ hs
 unfold aP at q
 split at q
 ·rename_i ds i
  split at q
  ·rename_i d' e1
   obtain⟨a,vs,rfl,h1,h2⟩:=rd
   obtain⟨w,e2,h3⟩:=Gv h2 e1
   exact EM value slice pins s σ H _ _ v u Q I rx ry ⟨a,vs,i,w,rfl,re,bj.of h1,e2,md _ _ _ q (fun _ _ e=>e) (uA sub h3)⟩ hs
  ·exact q.elim
 ·rename_i ds i
  split at q
  ·rename_i d' e1
   have dg:Is F (.tup ds) x:=rd
   simp only[Is] at dg
   obtain⟨a,vs,rfl,h1,h2⟩:=dg
   obtain⟨w,e2,h3⟩:=Gv h2 e1
   exact Mj value slice pins s σ H _ _ v u Q I rx ry ⟨a,vs,i,w,rfl,re,bV.of (sub _ _ h1),e2,md _ _ _ q (fun _ _ e=>e) (uA sub h3)⟩ hs
  ·exact q.elim
 ·rename_i z i
  obtain⟨hz,q⟩:=q
  split at q
  ·rename_i c e1
   have dg:x = .str z:=rd
   subst dg
   exact Ml value slice pins s σ H _ _ v u Q I rx ry ⟨z,i,c,rfl,re,lj hz,e1,md _ _ _ q (fun _ _ e=>e) rfl⟩ hs
  ·exact q.elim
 ·exact q.elim
noncomputable def cutD (ds:List D) (lo hi:Option Int):List D:=(ds.drop (HT.ba ds.length 0 lo)).take (HT.ba ds.length ds.length hi - HT.ba ds.length 0 lo)
theorem Gw {F:Hp} {ds:List D} {vs:List V} (h:af F ds vs) (lo hi:Option Int):af F (cutD ds lo hi) (dA vs lo hi):=by
 unfold cutD dA
 rw[h.length]
 exact Gm _ (Gn _ h)
noncomputable abbrev WO:=aB->(Option Int->aB->Prop)->Prop
noncomputable def w_ (f:WO):TO:=fun σ H Q=>∃ F ad δ K,SR F ad δ σ H/\f δ K/\∀ o δ',K o δ'->∀ F' aH H',Ext F ad δ.mu H F' aH δ'.mu H'->SR F' aH δ' σ H'->Q o H'
noncomputable def iW:WO:=fun δ K=>K none δ
noncomputable def oz (f:WE):WO:=fun δ K=>f δ fun x δ1=>match x with
 | .p (.int i)=>K (some i) δ1
 | _=>False
theorem xa:PO X none (w_ iW):=fun pins s σ H Q I h0_ => el7 h0_ fun F ad δ K S q k =>EI pins s σ H Q I (k _ _ q _ _ _ .refl S)
theorem xb {e:Expr} {f:WE} (h:JE X e (tD f)):PO X (some e) (w_ (oz f)):=fun pins s σ H Q I h0_ => el7 h0_ fun F ad δ K S q k =>wc h.out pins s σ H Q I ⟨F,ad,δ,_,S,q,fun x δ1 h1 v F1 aS H1 E1 S1 V1=>by
 split at h1
 ·rename_i i
  exact⟨i,V1,k _ _ h1 _ _ _ E1 S1⟩
 ·exact h1.elim⟩
noncomputable def m9:D->(D->Prop)->Prop
 | .int i,K=>K (.int (-i))
 | _,_=>False
theorem Oy {e:Expr} {f:WE} {pos:Pos} (he:JE X e (tD f)):JE X (.UnaryOp .USub e pos) (tD (d1 f m9)) :=
 (NC Lw he).weak fun σ H Q h0_ => el7 h0_ fun F ad δ K S q k =>⟨F,ad,δ,_,S,q,fun x δ1 h1 v F1 aS H1 E1 S1 V1=>by
  obtain⟨d,h4,rd⟩:=i_ S1 V1 h1
  unfold m9 at h4
  split at h4
  ·rename_i i
   exact⟨i,rd,k _ _ h4 _ _ _ _ E1 S1 rfl⟩
  ·exact h4.elim⟩
noncomputable def Bb (f g h:WE) (o o':D->D->(D->Prop)->Prop):WE:=fun δ K=>f δ fun x δ1=>g δ1 fun y δ2=>dM x δ2 fun d=>dM y δ2 fun e=>o d e fun z=>match z with
 | .bl true=>h δ2 fun w δ3=>dM y δ3 fun e'=>dM w δ3 fun c=>o' e' c fun z'=>K (.p z') δ3
 | .bl false=>K (.p (.bl false)) δ2
 | _=>False
theorem Oz {a b c:Expr} {f g h:WE} {op kY:CmpOp} {o o':D->D->(D->Prop)->Prop} {pos:Pos} (ho:gx X (compareOp op) o) (jQ:gx X (compareOp kY) o') (ha:JE X a (tD f)) (hb:JE X b (tD g)) (hc:JE X c (tD h))
  (hm:lastMarks [op,kY] [b,c]=false:=by with_unfolding_all rfl):JE X (.Compare a [op,kY] [b,c] pos) (tD (Bb f g h o o')) :=
 (NG ho jQ ha hb hc hm).weak fun σ H Q h0_ => el7 h0_ fun F ad δ K S q k =>by
  refine⟨F,ad,δ,_,S,q,fun x δ1 h1 v1 F1 aS H1 E1 S1 V1=>⟨F1,aS,δ1,_,S1,h1,fun y δ2 h2 v2 F2 c_ H2 E2 S2 V2 => ?_⟩⟩
  obtain⟨d,h3,rd⟩:=i_ S2 (V1.ext E2) h2
  obtain⟨e,h4,re⟩:=i_ S2 V2 h3
  refine⟨F2,d,e,_,S2.sub,rd,re,h4,fun z v H' hz sm is => ?_⟩
  have S3:=S2.al sm
  have E3:=Ext.al S2 sm
  split at hz
  ·refine⟨true,is,?_⟩
   rw[VY rfl]
   refine⟨_,c_,δ2,_,S3,hz,fun w δ4 h5 v4 F4 wM H4 E4 S4 V4 => ?_⟩
   obtain⟨d',h6,wK⟩:=i_ S4 ((V2.ext E3).ext E4) h5
   obtain⟨e',h7,OA⟩:=i_ S4 V4 h6
   exact⟨F4,d',e',_,S4.sub,wK,OA,h7,fun z v H' hz sm is=>k _ _ hz _ _ _ _ ((((E1.trans E2).trans E3).trans E4).trans (Ext.al S4 sm)) (S4.al sm) is⟩
  ·refine⟨false,is,?_⟩
   rw[MC Ws]
   exact k _ _ hz _ _ _ _ ((E1.trans E2).trans E3) S3 rfl
  ·exact hz.elim
end
noncomputable def sortI (ns:List Int):List Int:=ns.mergeSort fun a b=>decide (a <= b)
theorem sortI_perm (ns:List Int):(sortI ns).Perm ns:=List.mergeSort_perm ns _
theorem OB (ns:List Int):(sortI ns).Pairwise (· <= ·):=by
 have:=List.pairwise_mergeSort (le:=fun a b:Int=>decide (a <= b)) (fun a b c h1 h2=>by simp at *;omega) (fun a b=>by simp;omega) ns
 exact this.imp fun h=>by simpa using h
theorem Gx:∀ {as bs:List Int},as.Perm bs->as.Pairwise (· <= ·)->bs.Pairwise (· <= ·)->as=bs
 | [],bs,p,_,_=>p.nil_eq
 | a :: as,[],p,_,_=>absurd p.length_eq (by simp)
 | a :: as,b :: bs,p,s,t=>by
  have e:a=b:=by
   have h1:a <= b:=by
    have hb:b∈a :: as:=p.mem_iff.mpr (E6 ..)
    rcases MA.mp hb with h | h
    ·omega
    ·exact (Xs.mp s).1 b h
   have h2:b <= a:=by
    have ha:a∈b :: bs:=p.mem_iff.mp (E6 ..)
    rcases MA.mp ha with h | h
    ·omega
    ·exact (Xs.mp t).1 a h
   omega
  subst e
  rw[Gx (List.perm_cons a |>.mp p) (Xs.mp s).2 (Xs.mp t).2]
theorem uE {as bs:List Int} (p:as.Perm bs) (s:as.Pairwise (· <= ·)):as=sortI bs:=Gx (p.trans (sortI_perm bs).symm) s (OB bs)
theorem Bc (ns:List Int):(sortI ns).length=ns.length:=(sortI_perm ns).length_eq
noncomputable def cf:List D->(D->Prop)->Prop
 | [.lst ds],K=>K (.int ds.length)
 | [.tup ds],K=>K (.int ds.length)
 | [.str z],K=>z.length <= 1000/\K (.int z.length)
 | _,_=>False
noncomputable def r_:List D->(D->Prop)->Prop
 | [.lst ds],K=>K (.lst ds)
 | [.tup ds],K=>K (.lst ds)
 | _,_=>False
noncomputable def xc:List D->(D->Prop)->Prop
 | [.lst ds],K=>K (.tup ds)
 | [.tup ds],K=>K (.tup ds)
 | _,_=>False
noncomputable def qr:List D->(D->Prop)->Prop
 | [.lst ds],K=>match intsOf ds with
  | some ns=>ns.length < 64/\K (.lst ((sortI ns).map D.int))
  | none=>False
 | _,_=>False
noncomputable def m_:List D->(D->Prop)->Prop
 | [.lst ds],K=>match intsOf ds with
  | some ns=>((∀ x∈ns,0 <= x/\x <= 1000000000)/\ns.length <= 1000)/\K (.int ns.sum)
  | none=>False
 | _,_=>False
noncomputable def qt:List D->Option (List Bool)
 | []=>some []
 | .bl b :: r=>match qt r with
  | some bs=>some (b :: bs)
  | none=>none
 | _=>none
theorem Gy:∀ bs:List Bool,qt (bs.map D.bl)=some bs
 | []=>rfl
 | n :: r=>by show (match qt (r.map D.bl) with | some ns=>some (n :: ns) | none=>none)=_;rw[Gy r]
theorem Gz:∀ {ds:List D} {bs:List Bool},qt ds=some bs->ds=bs.map D.bl
 | [],ns,h=>by cases h;rfl
 | .bl i :: r,ns,h=>by
  unfold qt at h
  split at h
  ·rename_i ms e;cases h;rw[WH,Gz e]
  ·cases h
 | .non :: r,ns,h=>by cases h
 | .int _ :: r,ns,h=>by cases h
 | .str _ :: r,ns,h=>by cases h
 | .tup _ :: r,ns,h=>by cases h
 | .lst _ :: r,ns,h=>by cases h
theorem GA {F:Hp}:∀ {bs:List Bool} {vs:List V},af F (bs.map D.bl) vs->vs=bs.map V.bl
 | [],vs,h=>by simp only[Ye,af] at h;exact h
 | n :: r,vs,h=>by
  simp only[WH,af] at h
  obtain⟨v,t,rfl,h1,h2⟩:=h
  have h1:v = .bl n:=h1
  rw[GA h2,h1];rfl
noncomputable def nh:List D->(D->Prop)->Prop
 | [.lst ds],K=>match qt ds with
  | some bs=>K (.bl (bs.all id))
  | none=>False
 | _,_=>False
noncomputable def sd:List D->(D->Prop)->Prop
 | [.int i,.int j],K=>K (.int (min i j))
 | _,_=>False
noncomputable def xf:List D->(D->Prop)->Prop
 | [.int i,.int j],K=>K (.int (max i j))
 | _,_=>False
section
variable {X:Cx}
theorem dg {F H:Hp} {d:D} {xs:List V} (h:ie F H [d] xs):∃ v,xs=[v]/\iT F H d v:=by
 obtain⟨v,r,rfl,h1,h2⟩:=h
 have h2:r=[]:=h2
 subst h2
 exact⟨v,rfl,h1⟩
theorem GB {F H:Hp} {d e:D} {xs:List V} (h:ie F H [d,e] xs):∃ v w,xs=[v,w]/\iT F H d v/\iT F H e w:=by
 obtain⟨v,r,rfl,h1,h2⟩:=h
 obtain⟨w,rfl,h3⟩:=dg h2
 exact⟨v,w,rfl,h1,h3⟩
theorem ik:c9 X (.builtin "len") cf:=by
 rintro pins s σ H xs us Q I r ⟨F,ds,K,sub,rd,q,md⟩
 unfold cf at q
 split at q
 ·obtain⟨v,rfl,a,vs,rfl,h1,h2⟩:=dg rd
  exact ES pins s σ H _ us Q I r ⟨a,vs,rfl,.inl (bj.of h1),by rw[h2.length];exact md _ _ _ q (fun _ _ e=>e) rfl⟩
 ·rename_i es
  obtain⟨v,rfl,h⟩:=dg rd
  have h:Is F (.tup es) v:=h
  simp only[Is] at h
  obtain⟨a,vs,rfl,h1,h2⟩:=h
  exact ES pins s σ H _ us Q I r ⟨a,vs,rfl,.inr (bV.of (sub _ _ h1)),by rw[h2.length];exact md _ _ _ q (fun _ _ e=>e) rfl⟩
 ·rename_i z
  obtain⟨v,rfl,h⟩:=dg rd
  have h:v = .str z:=h
  subst h
  exact Mq pins s σ H _ us Q I r ⟨z,rfl,lj q.1,md _ _ _ q.2 (fun _ _ e=>e) rfl⟩
 ·exact q.elim
theorem GC:c9 X (.type "list") r_:=by
 rintro pins s σ H xs us Q I r ⟨F,ds,K,sub,rd,q,md⟩
 unfold r_ at q
 split at q
 ·obtain⟨v,rfl,a,vs,rfl,h1,h2⟩:=dg rd
  exact zI pins s σ H _ us Q I r ⟨a,vs,rfl,.inl (bj.of h1),fun l hl=>md _ _ _ q (cR hl) (l4 sub hl h2)⟩
 ·rename_i es
  obtain⟨v,rfl,h⟩:=dg rd
  have h:Is F (.tup es) v:=h
  simp only[Is] at h
  obtain⟨a,vs,rfl,h1,h2⟩:=h
  exact zI pins s σ H _ us Q I r ⟨a,vs,rfl,.inr (bV.of (sub _ _ h1)),fun l hl=>md _ _ _ q (cR hl) (l4 sub hl h2)⟩
 ·exact q.elim
theorem OC:c9 X (.type "tuple") xc:=by
 rintro pins s σ H xs us Q I r ⟨F,ds,K,sub,rd,q,md⟩
 unfold xc at q
 split at q
 ·obtain⟨v,rfl,a,vs,rfl,h1,h2⟩:=dg rd
  exact ET pins s σ H _ us Q I r ⟨a,vs,rfl,.inl ⟨bj.of h1,fun l hl=>md _ _ _ q (cR hl) (A_ sub hl h2)⟩⟩
 ·rename_i es
  obtain⟨v,rfl,h⟩:=dg rd
  have h0:Is F (.tup es) v:=h
  have h:Is F (.tup es) v:=h
  simp only[Is] at h
  obtain⟨a,vs,rfl,h1,h2⟩:=h
  exact ET pins s σ H _ us Q I r ⟨a,vs,rfl,.inr ⟨bV.of (sub _ _ h1),md _ _ _ q (fun _ _ e=>e) (uA sub h0)⟩⟩
 ·exact q.elim
theorem GG:c9 X (.builtin "sorted") qr:=by
 rintro pins s σ H xs us Q I r ⟨F,ds,K,sub,rd,q,md⟩
 unfold qr at q
 split at q
 ·rename_i es
  split at q
  ·rename_i ns e
   obtain⟨v,rfl,a,vs,rfl,h1,h2⟩:=dg rd
   rw[ot e] at h2
   rw[lA h2] at h1
   refine FO pins s σ H _ us Q I r ⟨a,ns,rfl,bj.of h1,q.1,fun l eA pm pw hl => ?_⟩
   rw[uE pm pw]
   exact md _ _ _ q.2 (cR hl) (l4 sub hl mZ)
  ·exact q.elim
 ·exact q.elim
theorem OD (hc:X.calm=true):c9 X (.builtin "sum") m_:=by
 rintro pins s σ H xs us Q I r ⟨F,ds,K,sub,rd,q,md⟩
 unfold m_ at q
 split at q
 ·rename_i es
  split at q
  ·rename_i ns e
   obtain⟨v,rfl,a,vs,rfl,h1,h2⟩:=dg rd
   rw[ot e] at h2
   rw[lA h2] at h1
   exact NU hc pins s σ H _ us Q I r ⟨a,ns,rfl,bj.of h1,q.1.1,q.1.2,md _ _ _ q.2 (fun _ _ e=>e) rfl⟩
  ·exact q.elim
 ·exact q.elim
theorem OE (hc:X.calm=true):c9 X (.builtin "all") nh:=by
 rintro pins s σ H xs us Q I r ⟨F,ds,K,sub,rd,q,md⟩
 unfold nh at q
 split at q
 ·rename_i es
  split at q
  ·rename_i bs e
   obtain⟨v,rfl,a,vs,rfl,h1,h2⟩:=dg rd
   rw[Gz e] at h2
   rw[GA h2] at h1
   exact NQ hc pins s σ H _ us Q I r ⟨a,bs,rfl,bj.of h1,md _ _ _ q (fun _ _ e=>e) rfl⟩
  ·exact q.elim
 ·exact q.elim
theorem Bd (hc:X.calm=true):c9 X (.builtin "min") sd:=by
 rintro pins s σ H xs us Q I r ⟨F,ds,K,sub,rd,q,md⟩
 unfold sd at q
 split at q
 ·rename_i i j
  obtain⟨v,w,rfl,h1,h2⟩:=GB rd
  have h1:v = .int i:=h1
  have h2:w = .int j:=h2
  subst h1 h2
  refine LI hc pins s σ H _ us Q I r ⟨i,j,rfl,?_⟩
  have:(if j < i then j else i)=min i j:=by split<;>omega
  rw[this]
  exact md _ _ _ q (fun _ _ e=>e) rfl
 ·exact q.elim
theorem OF (hc:X.calm=true):c9 X (.builtin "max") xf:=by
 rintro pins s σ H xs us Q I r ⟨F,ds,K,sub,rd,q,md⟩
 unfold xf at q
 split at q
 ·rename_i i j
  obtain⟨v,w,rfl,h1,h2⟩:=GB rd
  have h1:v = .int i:=h1
  have h2:w = .int j:=h2
  subst h1 h2
  refine LH hc pins s σ H _ us Q I r ⟨i,j,rfl,?_⟩
  have:(if j > i then j else i)=max i j:=by split<;>omega
  rw[this]
  exact md _ _ _ q (fun _ _ e=>e) rfl
 ·exact q.elim
noncomputable def sg (fa:WA):WE:=fun δ K=>fa δ fun xs δ1=>match xs with
 | [.p (.int j)]=>(0 <= j/\j <= 1000)/\K (.p (.lst (bY 0 j.toNat))) δ1
 | _=>False
theorem lB (n:Nat):bY 0 n=(aN n).map D.int:=by
 unfold bY aN
 rw[WL]
 refine W8 fun i _ => ?_
 show D.int (0 + (i:Int))=D.int (i:Int)
 rw[Int.zero_add]
theorem xg {a:Expr} {fa:WA} {p1 p2 q1 q2:Pos} (hc:X.calm=true) (qu:Gl X "list") (hl:X.mg "list" = none) (qv:bootBuiltins "list" = some (.type "list")) (lC:Gl X "range") (hr:X.mg "range" = none) (lD:bootBuiltins "range" = some (.type "range")) (ha:JA X [a] (cx fa))
  (he:starEach [a] X.env=[(false,eval a X.env)]:=by rfl) (qw:starEach [.Call (.Name "range" p2) [a] [] q2] X.env=[(false,eval (.Call (.Name "range" p2) [a] [] q2) X.env)]:=by rfl):JE X (.Call (.Name "list" p1) [.Call (.Name "range" p2) [a] [] q2] [] q1) (tD (sg fa)) :=
 (lZ (FK hc) qu hl qv (iQ (lZ Az lC hr lD ha (he:=he)) bp) (he:=qw)).weak fun σ H Q h0_ => el7 h0_ fun F ad δ K S q k =>⟨F,ad,δ,_,S,q,fun xs δ1 h1 vs F1 aS H1 E1 S1 V1=>by
  split at h1
  ·rename_i j
   obtain⟨v,r,e,W1,W2⟩:=V1
   have W2:r=[]:=W2
   have W1:v = .int j:=W1
   subst W2 W1 e
   refine⟨j,rfl,fun rr uF=>⟨rr,j.toNat,rfl,by rw[bK,Int.toNat_of_nonneg h1.1.1],by omega,fun l hl => ?_⟩⟩
   have s1:aA H1 (upd H1 rr (.rng 0 j)):=cR uF
   have S2:=S1.al s1
   have E2:=Ext.al S1 s1
   refine k _ _ h1.2 _ _ _ _ ((E1.trans E2).trans (Ext.al S2 (cR hl))) (S2.al (cR hl)) ?_
   have:Is (Nw (Nw F1 H1 (upd H1 rr (.rng 0 j))) (upd H1 rr (.rng 0 j)) (upd (upd H1 rr (.rng 0 j)) l (.lst ((aN j.toNat).map V.int)))) (.lst ((aN j.toNat).map D.int)) (.ref l):=l4 S2.sub hl mZ
   rw[lB]
   exact this
  ·exact h1.elim⟩
noncomputable def jx (T:String):D->(D->Prop)->Prop:=fun d K=>K (.bl (eC (gW d) T))
theorem uG {T:String} {t:Str} {a:Expr} {f:WE} {p p2 pos:Pos} (hk:∀ d:D,PySem.W.kitOne X.K (.type (gW d)) (.type T)=some (eC (gW d) T)) (hg:Gl X "isinstance") (hm:X.mg "isinstance" = none) (OG:Gl X t) (OH:X.mg t=none) (OI:bootBuiltins t=some (.type T)) (ha:JE X a (tD f))
  (tZ:t ≠ "__name__" := by decide) (k7:(t == ("__debug__" : Str))=false:=by decide) (he:starEach [a,.Name t p2] X.env=(false,eval a X.env) :: starEach [.Name t p2] X.env:=by rfl):JE X (.Call (.Name "isinstance" p) [a,.Name t p2] [] pos) (tD (d1 f (jx T))) :=
 (uc M3 hg hm PyProof.Rows.boot_isinstance (p8 ha (jq (Nk OG OH OI (v := .ty T) rfl tZ k7) bp) he) (he:=he)).weak fun σ H Q h0_ => el7 h0_ fun F ad δ K S q k =>⟨F,ad,δ,_,S,q,fun x δ1 h1 v F1 aS H1 E1 S1 V1=>by
  obtain⟨d,h2,rd⟩:=i_ S1 V1 h1
  refine⟨v,.ty T,.type T,.type (gW d),_,rfl,rfl,Is.ty (rd.is S1.sub),hk d,k _ _ h2 _ _ _ _ E1 S1 rfl⟩⟩
theorem OJ {K:PySem.W.Frag}:∀ d:D,PySem.W.kitOne K (.type (gW d)) (.type "int")=some (eC (gW d) "int"):=fun d=>M7 _ (wo d)
theorem OK {K:PySem.W.Frag}:∀ d:D,PySem.W.kitOne K (.type (gW d)) (.type "bool")=some (eC (gW d) "bool"):=fun d=>M6 _ (wo d)
theorem GH {K:PySem.W.Frag}:∀ d:D,PySem.W.kitOne K (.type (gW d)) (.type "tuple")=some (eC (gW d) "tuple"):=fun d=>kit_tuple _ (wo d)
theorem OL {K:PySem.W.Frag}:∀ d:D,PySem.W.kitOne K (.type (gW d)) (.type "list")=some (eC (gW d) "list"):=fun d=>M8 _ (wo d)
noncomputable def gO (x:DV) (δ : aB) (K:Nat->List D->Prop):Prop:=match x with
 | .o k=>match δ.mu[k]? with
  | some (some (.lst ds))=>K k ds
  | _=>False
 | _=>False
theorem qx {F H:Hp} {ad:List Addr} {δ : aB} {σ : St} {x:DV} {v:V} {K:Nat->List D->Prop} (S:SR F ad δ σ H) (V1:gY F ad x v) (h:gO x δ K):∃ k ds a vs,x = .o k/\K k ds/\v = .ref a/\ad[k]? = some a/\H a=some (.lst vs)/\af F ds vs /\ δ.mu[k]? = some (some (.lst ds)):=by
 unfold gO at h
 split at h
 ·rename_i k
  split at h
  ·rename_i ds e
   obtain⟨a,e1,rfl⟩:=V1
   obtain⟨a',o,e2,e3,vs,rfl,h4⟩:=S.mu k _ e
   rw[e1] at e2;cases e2
   exact⟨k,ds,a,vs,rfl,h,rfl,e1,e3,h4,e⟩
  ·exact h.elim
 ·exact h.elim
noncomputable def iX (f:WE) (fa:WA):WE:=fun δ K=>f δ fun x δ1=>gO x δ1 fun _ _=>fa δ1 fun ys δ2=>match ys with
 | [y]=>mP y δ2 fun d δ3=>gO x δ3 fun k ds=>ds.length < 1000/\K (.p .non) ⟨δ3.sl,δ3.mu.set k (some (.lst (ds ++ [d])))⟩
 | _=>False
theorem si {f:WE} {fa:WA} {K0:PySem.W.Frag}:∀ σ H Q,tD (iX f fa) σ H Q->mJ K0 "list" zJ (tD f) (cx fa) σ H Q:=fun σ H Q h0_ => el7 h0_ fun F ad δ K S q k =>⟨F,ad,δ,_,S,q,fun x δ1 h1 v F1 aS H1 E1 S1 V1=>by
 obtain⟨k0,GI,a,vs,rfl,h2,rfl,e1,e2,i1,m1⟩:=qx S1 V1 h1
 refine⟨.inl ⟨rfl,vs,bj.of e2⟩,F1,aS,δ1,_,S1,h2,fun ys δ2 h3 us F2 c_ H2 E2 S2 V2 => ?_⟩
 match ys,h3,V2 with
 | [y],g3,⟨u,r,e,W1,W2⟩ =>
  have W3:r=[]:=W2
  subst W3 e
  obtain⟨d,δ3,F3,h4,E3,S3,i3⟩:=ui S2 W1 g3
  obtain⟨k1,ds,b,ws,ek,h5,eb,e3,e4,i4,m4⟩:=qx (x := .o k0) S3 ((V1.ext E2).ext E3) h4
  cases ek
  have uH:a=b:=by injection eb
  subst uH
  have oi:fX F3 (.lst (ds ++ [d])) (.lst (ws ++ [u])):=⟨_,rfl,i4.snoc i3⟩
  refine⟨a,ws,u,rfl,rfl,e4,lX (by rw[i4.length];omega),?_⟩
  exact k _ _ h5.2 _ _ _ _ (((E1.trans E2).trans E3).trans (Ext.put S3 m4 e3)) (S3.put m4 e3 oi) rfl
 | [],g3,_=>exact g3.elim
 | _ :: _ :: _,g3,_=>exact g3.elim⟩
noncomputable def qy (f:WE) (fa:WA):WE:=fun δ K=>f δ fun x δ1=>gO x δ1 fun _ _=>fa δ1 fun ys δ2=>match ys with
 | [.p (.lst es)]=>gO x δ2 fun k ds=>ds.length + es.length <= 1000/\K (.p .non) ⟨δ2.sl,δ2.mu.set k (some (.lst (ds ++ es)))⟩
 | _=>False
theorem OM {f:WE} {fa:WA} {K0:PySem.W.Frag}:∀ σ H Q,tD (qy f fa) σ H Q->mJ K0 "list" EX (tD f) (cx fa) σ H Q:=fun σ H Q h0_ => el7 h0_ fun F ad δ K S q k =>⟨F,ad,δ,_,S,q,fun x δ1 h1 v F1 aS H1 E1 S1 V1=>by
 obtain⟨k0,GI,a,vs,rfl,h2,rfl,e1,e2,i1,m1⟩:=qx S1 V1 h1
 refine⟨.inl ⟨rfl,vs,bj.of e2⟩,F1,aS,δ1,_,S1,h2,fun ys δ2 h3 us F2 c_ H2 E2 S2 V2 => ?_⟩
 split at h3
 ·rename_i es
  obtain⟨u,r,e,W1,W2⟩:=V2
  have W3:r=[]:=W2
  have W4:Is F2 (.lst es) u:=W1
  simp only[Is] at W4
  obtain⟨b,zs,rfl,z1,z2⟩:=W4
  subst W3 e
  obtain⟨k1,ds,b',ws,ek,h5,eb,e3,e4,i4,m4⟩:=qx (x := .o k0) S2 (V1.ext E2) h3
  cases ek
  have uH:a=b':=by injection eb
  subst uH
  have oi:fX F2 (.lst (ds ++ es)) (.lst (ws ++ zs)):=⟨_,rfl,rX i4 z2⟩
  refine⟨a,b,ws,zs,rfl,rfl,e4,S2.sub _ _ z1,lj (by rw[i4.length,z2.length];exact h5.1),?_⟩
  exact k _ _ h5.2 _ _ _ _ ((E1.trans E2).trans (Ext.put S2 m4 e3)) (S2.put m4 e3 oi) rfl
 ·exact h3.elim⟩
noncomputable def uI (f:WE) (fa:WA):WE:=fun δ K=>f δ fun x δ1=>gO x δ1 fun _ _=>fa δ1 fun ys δ2=>match ys with
 | [.p (.int i)]=>gO x δ2 fun k ds=>(-(2 ^ 63) <= i/\i < 2 ^ 63)/\match seqIndex? i ds.length with
  | some j=>match ds[j]? with
   | some d=>K (.p d) ⟨δ2.sl,δ2.mu.set k (some (.lst (ds.eraseIdx j)))⟩
   | none=>False
  | none=>False
 | _=>False
theorem Be {f:WE} {fa:WA} {K0:PySem.W.Frag}:∀ σ H Q,tD (uI f fa) σ H Q->mJ K0 "list" EY (tD f) (cx fa) σ H Q:=fun σ H Q h0_ => el7 h0_ fun F ad δ K S q k =>⟨F,ad,δ,_,S,q,fun x δ1 h1 v F1 aS H1 E1 S1 V1=>by
 obtain⟨k0,GI,a,vs,rfl,h2,rfl,e1,e2,i1,m1⟩:=qx S1 V1 h1
 refine⟨.inl ⟨rfl,vs,bj.of e2⟩,F1,aS,δ1,_,S1,h2,fun ys δ2 h3 us F2 c_ H2 E2 S2 V2 => ?_⟩
 split at h3
 ·rename_i i
  obtain⟨u,r,e,W1,W2⟩:=V2
  have W3:r=[]:=W2
  have W4:u = .int i:=W1
  subst W3 W4 e
  obtain⟨k1,ds,b',ws,ek,⟨h5,h6⟩,eb,e3,e4,i4,m4⟩:=qx (x := .o k0) S2 (V1.ext E2) h3
  cases ek
  have uH:a=b':=by injection eb
  subst uH
  split at h6
  ·rename_i j hj
   split at h6
   ·rename_i d hd
    obtain⟨w,g1,g2⟩:=rW i4 hd
    have oi:fX F2 (.lst (ds.eraseIdx j)) (.lst (ws.eraseIdx j)):=⟨_,rfl,Gq j i4⟩
    refine⟨a,ws,i,j,w,rfl,rfl,e4,h5.1,h5.2,by rw[i4.length];exact hj,g1,?_⟩
    exact k _ _ h6 _ _ _ _ ((E1.trans E2).trans (Ext.put S2 m4 e3)) (S2.put m4 e3 oi) g2
   ·exact h6.elim
  ·exact h6.elim
 ·exact h3.elim⟩
noncomputable def qz (f fo fi:WE):WS:=fun K δ => f δ fun x δ1=>fo δ1 fun o δ2=>fi δ2 fun i δ3=>mP x δ3 fun d δ4=>gO o δ4 fun k ds=>match i with
 | .p (.int j)=>match jU ds.length j with
  | some m=>K.nx ⟨δ4.sl,δ4.mu.set k (some (.lst (ds.set m d)))⟩
  | none=>False
 | _=>False
theorem xh {f fo fi:WE}:∀ D σ H,fO (qz f fo fi) D σ H->h8 (tD f) (pD (tD fo) (tD fi) EN) D σ H:=fun D σ H h0_ => el7 h0_ fun F ad δ K S q k =>⟨F,ad,δ,_,S,q,fun x δ1 h1 v F1 aS H1 E1 S1 V1=>⟨F1,aS,δ1,_,S1,h1,fun o δ2 h2 ov F2 c_ H2 E2 S2 V2=>⟨F2,c_,δ2,_,S2,h2,fun i δ3 h3 iv F3 rT H3 E3 S3 V3=>by
 obtain⟨d,δ4,F4,h4,E4,S4,i4⟩:=ui S3 ((V1.ext E2).ext E3) h3
 obtain⟨k0,ds,a,vs,rfl,h5,rfl,e1,e2,i1,m1⟩:=qx S4 ((V2.ext E3).ext E4) h4
 split at h5
 ·rename_i j
  split at h5
  ·rename_i m hm
   have V3:iv = .int j:=V3
   subst V3
   have oi:fX F4 (.lst (ds.set m d)) (.lst (vs.set m v)):=⟨_,rfl,Gp m i1 i4⟩
   refine⟨a,vs,j,m,rfl,rfl,e2,by rw[i1.length];exact hm,?_⟩
   exact k.nx _ h5 _ _ _ _ ((((E1.trans E2).trans E3).trans E4).trans (Ext.put S4 m1 e1)) (S4.put m1 e1 oi)
  ·exact h5.elim
 ·exact h5.elim⟩⟩⟩
noncomputable def cg:D->List D->(D->Prop)->Prop
 | .lst ds,[d],K=>(eI d=true/\ds.all eI=true)/\K (.int (ds.countP fun e=>az e d:Nat))
 | _,_,_=>False
where eI:D->Bool
 | .tup _=>false
 | .lst _=>false
 | _=>true
noncomputable def toV:D->V
 | .non => .non
 | .bl b => .bl b
 | .int i => .int i
 | .str x => .str x
 | _ => .non
theorem GJ {F:Hp} {d:D} {v:V} (hf:cg.eI d=true) (h:Is F d v):v=toV d/\lW v=true:=by
 cases d with
 | non=>cases (show v=_ from h);exact⟨rfl,rfl⟩
 | bl _=>cases (show v=_ from h);exact⟨rfl,rfl⟩
 | int _=>cases (show v=_ from h);exact⟨rfl,rfl⟩
 | str _=>cases (show v=_ from h);exact⟨rfl,rfl⟩
 | tup _=>cases hf
 | lst _=>cases hf
theorem ON {d e:D} (hd:cg.eI d=true) (he:cg.eI e=true):ku (toV e) (toV d)=az e d:=by
 cases d<;>cases e<;>first | (cases hd;done) | (cases he;done) | (simp[toV,ku,az])
theorem count_is {F:Hp} {d:D} (hd:cg.eI d=true):∀ {ds:List D} {vs:List V},ds.all cg.eI=true->af F ds vs->vs.all lW=true/\vs.countP (fun z=>ku z (toV d))=ds.countP fun e=>az e d
 | [],vs,_,h=>by simp only[af] at h;subst h;exact⟨rfl,rfl⟩
 | e :: r,vs,ha,h=>by
  simp only[af] at h
  obtain⟨v,t,rfl,h1,h2⟩:=h
  simp only[Zh,Xq] at ha
  obtain⟨g1,g2⟩:=GJ ha.1 h1
  obtain⟨g3,g4⟩:=count_is hd ha.2 h2
  refine⟨by rw[Zh,g2,g3];rfl,?_⟩
  rw[Xf,Xf,g4,g1,ON hd ha.1]
noncomputable def sN:D->Bool
 | .lst _=>true
 | _=>false
noncomputable def ni (f:WE) (fa:WA) (op:D->List D->(D->Prop)->Prop):WE:=fun δ K=>f δ fun x δ1=>dM x δ1 fun d0=>sN d0=true/\fa δ1 fun xs δ2=>dM x δ2 fun d=>fg xs δ2 fun ds=>op d ds fun z=>K (.p z) δ2
theorem OO {f:WE} {fa:WA} {K0:PySem.W.Frag} {op:D->List D->(D->Prop)->Prop} {r:V->List V->Hp->VK->Prop} (hr:∀ x xs H Q,(∃ F d ds K,aA F H/\iT F H d x/\ie F H ds xs/\op d ds K/\Made F H K Q)->r x xs H Q):∀ σ H Q,tD (ni f fa op) σ H Q->mJ K0 "list" r (tD f) (cx fa) σ H Q:=fun σ H Q h0_ => el7 h0_ fun F ad δ K S q k =>
 ⟨F,ad,δ,_,S,q,fun x δ1 h1 v F1 aS H1 E1 S1 V1=>by
  obtain⟨d0,⟨hl,h2⟩,Bf⟩:=i_ S1 V1 h1
  have ty:wd K0 "list" v H1:=by
   cases d0 with
   | lst es=>obtain⟨a,vs,rfl,h3,_⟩:=Bf;exact .inl ⟨rfl,vs,bj.of h3⟩
   | non=>cases hl
   | bl _=>cases hl
   | int _=>cases hl
   | str _=>cases hl
   | tup _=>cases hl
  refine⟨ty,F1,aS,δ1,_,S1,h2,fun xs δ2 h3 vs F2 c_ H2 E2 S2 V2=>hr _ _ _ _ ?_⟩
  obtain⟨d,h4,rd⟩:=i_ S2 (V1.ext E2) h3
  obtain⟨ds,h5,j3⟩:=rM S2 V2 h4
  exact⟨F2,d,ds,_,S2.sub,rd,j3,h5,fun z v H' hz sm is=>k _ _ hz _ _ _ _ ((E1.trans E2).trans (Ext.al S2 sm)) (S2.al sm) is⟩⟩
theorem OQ {f:WE} {fa:WA} {K0:PySem.W.Frag}:∀ σ H Q,tD (ni f fa cg) σ H Q->mJ K0 "list" (Fm K0) (tD f) (cx fa) σ H Q:=OO fun x xs H Q ⟨F,d,ds,K,sub,rd,j3,q,md⟩=>by
 unfold cg at q
 split at q
 ·rename_i es e
  obtain⟨a,vs,rfl,h1,h2⟩:=rd
  obtain⟨w,rfl,h3⟩:=dg j3
  have h4:Is F e w:=by
   cases e with
   | lst _=>cases q.1.1
   | tup _=>exact h3
   | non=>exact h3
   | bl _=>exact h3
   | int _=>exact h3
   | str _=>exact h3
  obtain⟨g1,g2⟩:=GJ q.1.1 h4
  obtain⟨g3,g4⟩:=count_is q.1.1 q.1.2 h2
  refine⟨a,vs,w,rfl,rfl,bj.of h1,g2,g3,?_⟩
  rw[g1,g4]
  exact md _ _ _ q.2 (fun _ _ e=>e) rfl
 ·exact q.elim
end
end L2
namespace L2
open PySem PySem.Spec PyProof.Rows PySem.W
noncomputable abbrev LK:=List Int
noncomputable def kle (a b:LK):Prop:=HT.lexLt b a=false
theorem uJ:∀ a:LK,HT.lexLt a a=false
 | []=>rfl
 | x :: r=>by rw[HT.mH,VY rfl];exact uJ r
theorem uK:∀ {a b:LK},HT.lexLt a b=false->HT.lexLt b a=false->a=b
 | [],[],_,_=>rfl
 | [],_ :: _,h,_=>by cases h
 | _ :: _,[],_,h=>by cases h
 | x :: r,y :: s,h,q=>by
  rw[HT.mH] at h q
  by_cases c:x=y
  ·subst c
   rw[VY rfl] at h q
   rw[uK h q]
  ·rw[MC c] at h
   rw[MC (fun z=>c z.symm)] at q
   simp at h q;omega
theorem uL:∀ {a b c:LK},HT.lexLt a b=true->HT.lexLt b c=true->HT.lexLt a c=true
 | [],[],_,h,_=>by cases h
 | [],_ :: _,[],_,q=>by cases q
 | [],_ :: _,_ :: _,_,_=>rfl
 | _ :: _,[],_,h,_=>by cases h
 | _ :: _,_ :: _,[],_,q=>by cases q
 | x :: r,y :: s,z :: t,h,q=>by
  rw[HT.mH] at h q ⊢
  by_cases c1:x=y
  ·subst c1
   rw[VY rfl] at h
   by_cases c2:x=z
   ·subst c2
    rw[VY rfl] at q ⊢
    exact uL h q
   ·rw[MC c2] at q ⊢;exact q
  ·rw[MC c1] at h
   by_cases c2:y=z
   ·subst c2
    rw[MC c1];exact h
   ·rw[MC c2] at q
    have h1:x < y:=by simpa using h
    have h2:y < z:=by simpa using q
    rw[MC (by omega)]
    simp;omega
theorem kle_refl (a:LK):kle a a:=uJ a
theorem xi {a b:LK} (h:HT.lexLt a b=true):kle a b:=by
 unfold kle
 cases q:HT.lexLt b a with
 | false=>rfl
 | true=>have:=uL h q;rw[uJ] at this;cases this
theorem kle_trans {a b c:LK} (h1:kle a b) (h2:kle b c):kle a c:=by
 unfold kle at *
 cases q:HT.lexLt c a with
 | false=>rfl
 | true =>
  cases q2:HT.lexLt a b with
  | true=>have:=uL q q2;rw[h2] at this;cases this
  | false =>
   have e:=uK q2 h1
   subst e;rw[h2] at q;cases q
theorem GK {a b:LK} (h1:kle a b) (h2:kle b a):a=b:=uK h2 h1
section
variable {n:Nat} {k:Nat->LK} {I:Shared->Prop} {cmp:Nat->Nat->(Bool->Shared->Prop)->Shared->Prop}
noncomputable def oA (n:Nat) (k:Nat->LK) (I:Shared->Prop) (cmp:Nat->Nat->(Bool->Shared->Prop)->Shared->Prop):Prop :=
 ∀ (i j:Nat) (C:Bool->Shared->Prop) (s:Shared),i < n->j < n->I s->(∀ s',I s'->C (HT.lexLt (k i) (k j)) s')->cmp i j C s
noncomputable def KA (k:Nat->LK) (p:Array Nat) (i:Nat):LK:=k (p.getD i 0)
structure di (n:Nat) (p:Array Nat):Prop where
 perm:p.Perm (List.range n).toArray
theorem di.size {p:Array Nat} (h:di n p):p.size=n:=by have:=h.perm.size_eq;simpa using this
theorem di.lt {p:Array Nat} (h:di n p) {i:Nat} (hi:i < n):p.getD i 0 < n:=by
 have hs:=h.size
 have e:p.getD i 0=p[i]:=by simp[Array.getD,hs,hi]
 rw[e]
 have:p[i]∈(List.range n).toArray:=(h.perm.mem_iff).mp (Array.getElem_mem _)
 simpa using this
theorem uM {p q:Array Nat} {i j:Nat} (h:p[i]? = q[j]?):p.getD i 0=q.getD j 0:=by
 rw[Xz,Xz,h]
theorem xj {p:Array Nat} {i j:Nat} (hj:j <= p.size) (t:Nat):KA k (kas_rev p i j) t=if i <= t/\t < j then KA k p (i + j - 1 - t) else KA k p t:=by
 have e:=getElem?_mirror_all (xs:=p) (i:=i) hj t
 unfold KA kas_rev
 by_cases c:i <= t/\t < j
 ·rw[VY c] at e ⊢;rw[uM e]
 ·rw[MC c] at e ⊢;rw[uM e]
theorem OR {p:Array Nat} {src d:Nat} (hs:src < p.size) (hd:d <= src) (t:Nat) :
  KA k (bubble p src d) t=if t=src - d then KA k p src else if src - d < t/\t <= src then KA k p (t - 1) else KA k p t:=by
 have e:=getElem?_bubble hs d hd t
 unfold KA
 by_cases c:t=src - d
 ·rw[VY c] at e ⊢;rw[uM e]
 ·rw[MC c] at e ⊢
  by_cases c2:src - d < t/\t <= src
  ·rw[VY c2] at e ⊢;rw[uM e]
  ·rw[MC c2] at e ⊢;rw[uM e]
noncomputable def Up (k:Nat->LK) (p:Array Nat) (m:Nat):Prop:=∀ i j,i <= j->j < m->kle (KA k p i) (KA k p j)
noncomputable def Dn (k:Nat->LK) (p:Array Nat) (m:Nat):Prop:=∀ i j,i <= j->j < m->kle (KA k p j) (KA k p i)
theorem Up.snoc {p:Array Nat} {m:Nat} (h:Up k p m) (hm:1 <= m) (q:kle (KA k p (m - 1)) (KA k p m)):Up k p (m + 1):=fun i j je hj=>by
 by_cases c:j < m
 ·exact h i j je c
 ·have e:j=m:=by omega
  subst e
  by_cases c2:i=j
  ·subst c2;exact kle_refl _
  ·exact kle_trans (h i (j - 1) (by omega) (by omega)) q
theorem Dn.snoc {p:Array Nat} {m:Nat} (h:Dn k p m) (hm:1 <= m) (q:kle (KA k p m) (KA k p (m - 1))):Dn k p (m + 1):=fun i j je hj=>by
 by_cases c:j < m
 ·exact h i j je c
 ·have e:j=m:=by omega
  subst e
  by_cases c2:i=j
  ·subst c2;exact kle_refl _
  ·exact kle_trans q (h i (j - 1) (by omega) (by omega))
theorem Up.one {p:Array Nat}:Up k p 1:=fun i j je hj=>by
 have:i=j:=by omega
 subst this;exact kle_refl _
theorem Dn.one {p:Array Nat}:Dn k p 1:=fun i j je hj=>by
 have:i=j:=by omega
 subst this;exact kle_refl _
theorem di.rev {p:Array Nat} (h:di n p) (i j:Nat):di n (kas_rev p i j):=⟨(mirror_perm _ _ _ _).trans h.perm⟩
theorem di.OS {p:Array Nat} (h:di n p) (i j:Nat):di n (bubble p i j):=⟨(bubble_perm _ _ _).trans h.perm⟩
theorem GL (hc:oA n k I cmp) {p:Array Nat} (hp:di n p):∀ (f m:Nat) (s:Shared) (Q:Nat->Shared->Prop),1 <= m->m + f=n->Up k p m->I s →
  (∀ m' s',m <= m'->m' <= n->Up k p m'->I s'->Q m' s')->(kas_asc p f m).kasWp cmp Q s
 | 0,m,s,Q,h1,h2,up,hi,fin=>fin m s (we _) (by omega) up hi
 | f + 1,m,s,Q,h1,h2,up,hi,fin=>by
  show cmp _ _ _ s
  refine hc _ _ _ s (hp.lt (by omega)) (hp.lt (by omega)) hi fun s' bX => ?_
  cases q:HT.lexLt (k (p.getD m 0)) (k (p.getD (m - 1) 0)) with
  | true=>dsimp only;rw[VY rfl];exact fin m s' (we _) (by omega) up bX
  | false =>
   dsimp only;rw[MC Ws]
   exact GL hc hp f (m + 1) s' Q (by omega) (by omega) (up.snoc h1 q) bX fun m' jm a b c d=>fin m' jm (by omega) b c d
noncomputable def Bg (k:Nat->LK) (p:Array Nat) (m q:Nat):Prop:=∀ t,m - (q + 1) <= t->t < m->KA k p t=KA k p (m - 1)
theorem GP {p:Array Nat} {m q:Nat} (hs:m <= p.size) (hq:q + 1 <= m) (e:Bg k p m q) (t:Nat):KA k (kas_rev p (m - (q + 1)) m) t=KA k p t:=by
 rw[xj hs]
 split
 ·rename_i c
  rw[e _ (by omega) (by omega),e t c.1 c.2]
 ·rfl
theorem Dn.congr {p p':Array Nat} {m:Nat} (h:Dn k p m) (e:∀ t,KA k p' t=KA k p t):Dn k p' m:=fun i j a b=>by rw[e,e];exact h i j a b
theorem xk (hc:oA n k I cmp):∀ (f:Nat) (p:Array Nat) (m q:Nat) (s:Shared) (Q:Array Nat × Nat × Nat->Shared->Prop),di n p->1 <= m->m + f=n->q + 1 <= m->Dn k p m->Bg k p m q->I s →
  (∀ p' m' q' s',di n p'->m <= m'->m' <= n->q' + 1 <= m'->Dn k p' m'->Bg k p' m' q'->I s'->Q (p',m',q') s')->(kas_desc f p m q).kasWp cmp Q s
 | 0,p,m,q,s,Q,hp,h1,h2,hq,dn,es,hi,fin=>fin p m q s hp (we _) (by omega) hq dn es hi
 | f + 1,p,m,q,s,Q,hp,h1,h2,hq,dn,es,hi,fin=>by
  show cmp _ _ _ s
  refine hc _ _ _ s (hp.lt (by omega)) (hp.lt (by omega)) hi fun s' bX => ?_
  have sz:=hp.size
  cases c1:HT.lexLt (k (p.getD m 0)) (k (p.getD (m - 1) 0)) with
  | true =>
   dsimp only;rw[VY rfl]
   have st:kle (KA k p m) (KA k p (m - 1)):=xi c1
   by_cases GQ:q > 0
   ·rw[VY GQ]
    have e:=GP (k:=k) (p:=p) (m:=m) (q:=q) (by omega) hq es
    refine xk hc f _ (m + 1) 0 s' Q (hp.rev _ _) (by omega) (by omega) (by omega) ((dn.snoc h1 st).congr e) (fun t a b => ?_) bX fun p' m' q' jm a b c d e g i=>fin p' m' q' jm a (by omega) c d e g i
    have:t=m + 1 - 1:=by omega
    rw[this]
   ·rw[MC GQ]
    refine xk hc f p (m + 1) 0 s' Q hp (by omega) (by omega) (by omega) (dn.snoc h1 st) (fun t a b => ?_) bX fun p' m' q' jm a b c d e g i=>fin p' m' q' jm a (by omega) c d e g i
    have:t=m + 1 - 1:=by omega
    rw[this]
  | false =>
   dsimp only;rw[MC Ws]
   show cmp _ _ _ s'
   refine hc _ _ _ s' (hp.lt (by omega)) (hp.lt (by omega)) bX fun s2 kI => ?_
   cases c2:HT.lexLt (k (p.getD (m - 1) 0)) (k (p.getD m 0)) with
   | true=>dsimp only;rw[VY rfl];exact fin p m q s2 hp (we _) (by omega) hq dn es kI
   | false =>
    dsimp only;rw[MC Ws]
    have eq:KA k p m=KA k p (m - 1):=uK c1 c2
    refine xk hc f p (m + 1) (q + 1) s2 Q hp (by omega) (by omega) (by omega) (dn.snoc h1 (by rw[eq];exact kle_refl _)) (fun t a b => ?_) kI fun p' m' q' jm a b c d e g i=>fin p' m' q' jm a (by omega) c d e g i
    show KA k p t=KA k p m
    by_cases z:t=m
    ·rw[z]
    ·rw[es t (by omega) (by omega),eq]
theorem Dn.rev {p:Array Nat} {m:Nat} (h:Dn k p m) (hs:m <= p.size):Up k (kas_rev p 0 m) m:=fun i j je hj=>by
 rw[xj hs,xj hs,VY ⟨Xn _,by omega⟩,VY ⟨Xn _,hj⟩]
 exact h _ _ (by omega) (by omega)
theorem GR (hc:oA n k I cmp) {p:Array Nat} (hp:di n p) {m:Nat} {s:Shared} {Q:Nat × Array Nat->Shared->Prop} (h1:1 <= m) (hm:m <= n) (dn:Dn k p m) (hi:I s)
  (fin:∀ p' m' s',di n p'->1 <= m'->m' <= n->Up k p' m'->I s'->Q (m',p') s'):(kas_tail3 m n p).kasWp cmp Q s:=by
 unfold kas_tail3
 rw[KasT.kasWp_bind]
 have sz:=hp.size
 refine GL hc (hp.rev 0 m) (n - m) m s _ h1 (by omega) (dn.rev (by omega)) hi fun m' s' a b c d => ?_
 exact fin _ m' s' (hp.rev 0 m) (by omega) b c d
theorem GS (hc:oA n k I cmp) {p:Array Nat} (hp:di n p) {m:Nat} {s:Shared} {Q:Nat × Array Nat->Shared->Prop} (h1:1 <= m) (hm:m + 1 <= n) (dn:Dn k p (m + 1)) (hi:I s)
  (fin:∀ p' m' s',di n p'->1 <= m'->m' <= n->Up k p' m'->I s'->Q (m',p') s'):(kas_descPart m n p).kasWp cmp Q s:=by
 unfold kas_descPart
 rw[KasT.kasWp_bind]
 refine xk hc (n - (m + 1)) p (m + 1) 0 s _ hp (by omega) (by omega) (by omega) dn (fun t a b => ?_) hi fun p' m' q' s' a b c d e g i => ?_
 ·have:t=m + 1 - 1:=by omega
  rw[this]
 ·have sz:=a.size
  dsimp only
  by_cases hq:q' > 0
  ·rw[VY hq]
   exact GR hc (a.rev _ _) (by omega) c (e.congr (GP (by omega) d g)) i fin
  ·rw[MC hq]
   exact GR hc a (by omega) c e i fin
theorem OT (hc:oA n k I cmp) {p:Array Nat} (hp:di n p) {s:Shared} {Q:Nat × Array Nat->Shared->Prop} (h1:1 <= n) (hi:I s)
  (fin:∀ p' m' s',di n p'->1 <= m'->m' <= n->Up k p' m'->I s'->Q (m',p') s'):(kas_count n p).kasWp cmp Q s:=by
 unfold kas_count
 rw[KasT.kasWp_bind]
 have sz:=hp.size
 have key:∀ (f m:Nat) (s:Shared) (Q':Nat->Shared->Prop),1 <= m->m + f=n->Up k p m->I s →
   (∀ m' s',m <= m'->m' <= n->Up k p m'->(m' < n->HT.lexLt (KA k p m') (KA k p (m' - 1))=true)->I s'->Q' m' s')->(kas_asc p f m).kasWp cmp Q' s:=by
  intro f
  induction f with
  | zero=>intro m s Q' a b up hi fin;exact fin m s (we _) (by omega) up (fun z=>absurd z (by omega)) hi
  | succ f ih =>
   intro m s Q' a b up hi fin
   show cmp _ _ _ s
   refine hc _ _ _ s (hp.lt (by omega)) (hp.lt (by omega)) hi fun s' bX => ?_
   cases q:HT.lexLt (k (p.getD m 0)) (k (p.getD (m - 1) 0)) with
   | true=>dsimp only;rw[VY rfl];exact fin m s' (we _) (by omega) up (fun _=>q) bX
   | false =>
    dsimp only;rw[MC Ws]
    exact ih (m + 1) s' Q' (by omega) (by omega) (up.snoc a q) bX fun m' jm a b c d e=>fin m' jm (by omega) b c d e
 refine key (n - 1) 1 s _ (we _) (by omega) Up.one hi fun m s' a b up nx bX => ?_
 by_cases c1:m=n
 ·subst c1
  rw[VY (by simp)]
  exact fin p m s' hp a (we _) up bX
 ·rw[MC (by simpa using c1)]
  have cu:m < n:=by omega
  have nx:=nx cu
  by_cases c2:m > 1
  ·rw[VY c2]
   show cmp _ _ _ s'
   refine hc _ _ _ s' (hp.lt (by omega)) (hp.lt (by omega)) bX fun s2 kI => ?_
   cases q:HT.lexLt (k (p.getD 0 0)) (k (p.getD (m - 1) 0)) with
   | true=>dsimp only;rw[VY rfl];exact fin p m s2 hp a b up kI
   | false =>
    dsimp only;rw[MC Ws]
    have al:∀ t,t < m->KA k p t=KA k p (m - 1):=fun t ht=>by
     refine GK (up t (m - 1) (by omega) (by omega)) (kle_trans q (up 0 t (Xn _) ht))
    have e:∀ t,KA k (kas_rev p 0 m) t=KA k p t:=fun t=>by
     rw[xj (by omega)]
     split
     ·rename_i c;rw[al _ (by omega),al t c.2]
     ·rfl
    refine GS hc (hp.rev 0 m) (by omega) (by omega) (Dn.congr (p:=p) ?_ e) kI fin
    refine Dn.snoc (fun i j je hj => ?_) (by omega) (xi nx)
    rw[al i (by omega),al j hj];exact kle_refl _
  ·rw[MC c2]
   have:m=1:=by omega
   subst this
   exact GS hc hp (by omega) (by omega) (Dn.one.snoc (we _) (xi nx)) bX fin
theorem Bh (hc:oA n k I cmp) {p:Array Nat} (hp:di n p) {t:Nat} (ht:t < n) (up:Up k p t):∀ (f l r:Nat) (s:Shared) (Q:Nat->Shared->Prop),l <= r->r <= t->r - l <= f →
  (∀ i,i < l->kle (KA k p i) (KA k p t))->(∀ i,r <= i->i < t->kle (KA k p t) (KA k p i))->I s →
  (∀ l' s',l' <= t->(∀ i,i < l'->kle (KA k p i) (KA k p t))->(∀ i,l' <= i->i < t->kle (KA k p t) (KA k p i))->I s'->Q l' s')->(kas_place p t f l r).kasWp cmp Q s
 | 0,l,r,s,Q,h1,h2,h3,lo,sk,hi,fin=>by
  have:l=r:=by omega
  subst this
  exact fin l s h2 lo sk hi
 | f + 1,l,r,s,Q,h1,h2,h3,lo,sk,hi,fin=>by
  unfold kas_place
  by_cases c:l ≥ r
  ·rw[VY c]
   have:l=r:=by omega
   subst this
   exact fin l s h2 lo sk hi
  ·rw[MC c]
   show cmp _ _ _ s
   refine hc _ _ _ s (hp.lt ht) (hp.lt (by omega)) hi fun s' bX => ?_
   cases q:HT.lexLt (k (p.getD t 0)) (k (p.getD ((l + r) / 2) 0)) with
   | true =>
    dsimp only;rw[VY rfl]
    refine Bh hc hp ht up f l ((l + r) / 2) s' Q (by omega) (by omega) (by omega) lo (fun i a b => ?_) bX fin
    exact kle_trans (xi q) (up _ _ a b)
   | false =>
    dsimp only;rw[MC Ws]
    refine Bh hc hp ht up f ((l + r) / 2 + 1) r s' Q (by omega) h2 (by omega) (fun i a => ?_) sk bX fin
    exact kle_trans (up i ((l + r) / 2) (by omega) (by omega)) q
theorem GU (hc:oA n k I cmp):∀ (f:Nat) (p:Array Nat) (t:Nat) (s:Shared) (Q:Array Nat->Shared->Prop),di n p->t + f=n->Up k p t->I s →
  (∀ p' s',di n p'->Up k p' n->I s'->Q p' s')->(kas_bin f p t).kasWp cmp Q s
 | 0,p,t,s,Q,hp,h2,up,hi,fin=>by
  have:t=n:=by omega
  subst this
  exact fin p s hp up hi
 | f + 1,p,t,s,Q,hp,h2,up,hi,fin=>by
  unfold kas_bin
  rw[KasT.kasWp_bind]
  have sz:=hp.size
  refine Bh hc hp (by omega) up t 0 t s _ (Xn _) (we _) (by omega) (fun i a=>absurd a (by omega)) (fun i a b=>absurd b (by omega)) hi fun l s' hl lo sk bX => ?_
  refine GU hc f _ (t + 1) s' Q (hp.OS _ _) (by omega) (fun i j je hj => ?_) bX fin
  have kb:=fun x=>OR (k:=k) (p:=p) (src:=t) (d:=t - l) (by omega) (by omega) x
  have el:t - (t - l)=l:=by omega
  rw[kb i,kb j,el]
  by_cases c1:i=l
  ·subst c1
   rw[VY rfl]
   by_cases c2:j=i
   ·rw[VY c2];exact kle_refl _
   ·rw[MC c2,VY ⟨by omega,by omega⟩]
    exact sk (j - 1) (by omega) (by omega)
  ·rw[MC c1]
   by_cases c2:j=l
   ·subst c2
    rw[VY rfl,MC (by omega)]
    exact lo i (by omega)
   ·rw[MC c2]
    by_cases c3:l < i/\i <= t
    ·rw[VY c3,VY ⟨by omega,by omega⟩]
     exact up _ _ (by omega) (by omega)
    ·rw[MC c3]
     by_cases c4:l < j/\j <= t
     ·rw[VY c4];exact up _ _ (by omega) (by omega)
     ·rw[MC c4];exact up _ _ je (by omega)
theorem GV (hc:oA n k I cmp) {s:Shared} {Q:Array Nat->Shared->Prop} (h1:1 <= n) (hi:I s) (fin:∀ p s',di n p->Up k p n->I s'->Q p s'):(kas_sort n).kasWp cmp Q s:=by
 unfold kas_sort
 rw[KasT.kasWp_bind]
 refine OT hc ⟨q0Y _⟩ h1 hi fun p m s' a b c d e => ?_
 dsimp only
 by_cases q:m < n
 ·rw[VY q]
  have:max m 1=m:=by omega
  rw[this]
  exact GU hc (n - m) p m s' Q a (by omega) d e fin
 ·rw[MC q]
  have:m=n:=by omega
  subst this
  exact fin p s' a d e
end
end L2
namespace L2
open PySem PySem.Spec PyProof.Rows
theorem GW {δ0:aB} {bD:aB->Prop} {g:WG} {b:WS} {K:KS} (I:Nat->aB->Prop):∀ (items:List D) (i:Nat) (δ : aB),I i δ →
  (∀ j d δ (L:aB->Prop),items[j]? = some d->I (i + j) δ -> (∀ δ',I (i + j + 1) δ'->L δ')->bD δ /\ g (.p d) δ fun δ1=>b { nx:=fun δ2=>L (δ0.trim δ2),ct:=fun δ2=>L (δ0.trim δ2),bk:=K.nx,rt:=K.rt } δ1) →
  (∀ δ,I (i + items.length) δ -> bD δ /\ K.nx δ)->kC δ0 bD g b K items δ
 | [],i,δ,h,_,fin=>fin δ h
 | d :: r,i,δ,h,st,fin=>by
  unfold kC
  refine st 0 d δ (fun δ'=>kC δ0 bD g b K r δ') rfl h fun δ' hi => ?_
  refine GW I r (i + 1) _ hi (fun j e δ L hj hI hL => ?_) fun δ hI => ?_
  ·have e:i + 1 + j=i + (j + 1):=by omega
   rw[e] at hI hL
   exact st (j + 1) _ δ L (by simpa using hj) hI hL
  ·exact fin δ (by rw[Mx];have e:i + 1 + r.length=i + (r.length + 1):=by omega
                   rw[e] at hI;exact hI)
theorem jy {δ0:aB} {bD:aB->Prop} {g:WG} {b:WS} {K:KS} {items:List D} {δ : aB} (I:Nat->aB->Prop) (h0:I 0 δ)
  (st:∀ j d δ (L:aB->Prop),items[j]? = some d->I j δ -> (∀ δ',I (j + 1) δ'->L δ')->bD δ /\ g (.p d) δ fun δ1=>b { nx:=fun δ2=>L (δ0.trim δ2),ct:=fun δ2=>L (δ0.trim δ2),bk:=K.nx,rt:=K.rt } δ1)
  (fin:∀ δ,I items.length δ -> bD δ /\ K.nx δ):kC δ0 bD g b K items δ :=
 GW I items 0 δ h0 (fun j d δ L hj hI hL=>by rw[Xi] at hI hL;exact st j d δ L hj hI hL) fun δ hI=>by rw[Xi] at hI;exact fin δ hI
noncomputable def uN (δ0:aB) (bD:aB->Prop) (g:WG) (t:WT) (f:WE) (d:D) (acc:List D) (δ : aB) (L:List D->aB->Prop):Prop :=
 bD δ /\ g (.p d) δ fun δ1=>t δ1 fun b δ2=>if b=true then f δ2 fun x δ3=>mP x δ3 fun e δ4=>acc.length < 1000/\L (acc ++ [e]) (δ0.trim δ4) else L acc (δ0.trim δ2)
theorem GX {δ0:aB} {bD:aB->Prop} {g:WG} {t:WT} {f:WE} {K:List D->aB->Prop} (I:Nat->List D->aB->Prop):∀ (items:List D) (i:Nat) (acc:List D) (δ : aB),I i acc δ →
  (∀ j d acc δ (L:List D->aB->Prop),items[j]? = some d->I (i + j) acc δ -> (∀ b_ δ',I (i + j + 1) b_ δ'->L b_ δ')->uN δ0 bD g t f d acc δ L) →
  (∀ acc δ,I (i + items.length) acc δ -> bD δ /\ K acc δ)->jJ δ0 bD g t f K items acc δ
 | [],i,acc,δ,h,_,fin=>fin acc δ h
 | d :: r,i,acc,δ,h,st,fin=>by
  unfold jJ
  refine st 0 d acc δ (fun b_ δ'=>jJ δ0 bD g t f K r b_ δ') rfl h fun b_ δ' hi => ?_
  refine GX I r (i + 1) b_ _ hi (fun j e acc δ L hj hI hL => ?_) fun acc δ hI => ?_
  ·have e:i + 1 + j=i + (j + 1):=by omega
   rw[e] at hI hL
   exact st (j + 1) _ acc δ L (by simpa using hj) hI hL
  ·exact fin acc δ (by rw[Mx];have e:i + 1 + r.length=i + (r.length + 1):=by omega
                       rw[e] at hI;exact hI)
theorem xm {δ0:aB} {bD:aB->Prop} {g:WG} {t:WT} {f:WE} {K:List D->aB->Prop} {items:List D} {δ : aB} (I:Nat->List D->aB->Prop) (h0:I 0 [] δ)
  (st:∀ j d acc δ (L:List D->aB->Prop),items[j]? = some d->I j acc δ -> (∀ b_ δ',I (j + 1) b_ δ'->L b_ δ')->uN δ0 bD g t f d acc δ L)
  (fin:∀ acc δ,I items.length acc δ -> bD δ /\ K acc δ):jJ δ0 bD g t f K items [] δ :=
 GX I items 0 [] δ h0 (fun j d acc δ L hj hI hL=>by rw[Xi] at hI hL;exact st j d acc δ L hj hI hL) fun acc δ hI=>by rw[Xi] at hI;exact fin acc δ hI
theorem uO {δ0:aB} {bD:aB->Prop} {g:WG} {t:WT} {f:WE} {K:List D->aB->Prop} {items:List D} (p:D->Bool) (fn:D->D) (hl:items.length <= 1000) (hc:bD δ0)
  (st:∀ d∈items,∀ acc (L:List D->aB->Prop),acc.length < 1000->(p d=true->L (acc ++ [fn d]) δ0)->(p d=false->L acc δ0)->uN δ0 bD g t f d acc δ0 L)
  (fin:K ((items.filter p).map fn) δ0):jJ δ0 bD g t f K items [] δ0:=by
 refine xm (fun i acc δ => δ = δ0/\acc=((items.take i).filter p).map fn) ⟨rfl,rfl⟩ ?_ ?_
 ·rintro j d acc δ L hj ⟨rfl,rfl⟩ hL
  have cu:=(pV.mp hj).1
  have hm:d∈items:=WN hj
  have hn:(((items.take j).filter p).map fn).length < 1000:=by
   rw[pU]
   have:=List.length_filter_le p (items.take j)
   rw[WQ] at this;omega
  have e:items.take (j + 1)=items.take j ++ [d]:=by rw[Yb,hj];rfl
  refine st d hm _ L hn (fun q=>hL _ _ ⟨rfl,?_⟩) (fun q=>hL _ _ ⟨rfl,?_⟩)
  ·rw[e,YY,WK];simp[List.filter,q]
  ·rw[e,YY,WK];simp[List.filter,q]
 ·rintro acc δ ⟨rfl,rfl⟩
  rw[Xj (we _)]
  exact⟨hc,fin⟩
theorem l6 {δ0:aB} {bD:aB->Prop} {g:WG} {t:WT} {f:WE} {K:List D->aB->Prop} {items:List D} (fn:D->D) (hl:items.length <= 1000) (hc:bD δ0)
  (st:∀ d∈items,∀ acc (L:List D->aB->Prop),acc.length < 1000->L (acc ++ [fn d]) δ0->uN δ0 bD g t f d acc δ0 L)
  (fin:K (items.map fn) δ0):jJ δ0 bD g t f K items [] δ0 :=
 uO (fun _=>true) fn hl hc (fun d hd acc L ha h _=>st d hd acc L ha (h rfl)) (by rw[List.filter_eq_self.mpr fun _ _=>rfl];exact fin)
end L2
namespace LJ
open PySem L2
theorem so:bootBuiltins "range" = some (.type "range"):=by decide +kernel
theorem OU:bootBuiltins "sum" = some (.builtin "sum"):=by decide +kernel
theorem OW:bootBuiltins "max" = some (.builtin "max"):=by decide +kernel
theorem xn:bootBuiltins "min" = some (.builtin "min"):=by decide +kernel
theorem qA:bootBuiltins "sorted" = some (.builtin "sorted"):=by decide +kernel
structure BT (mg:Str->Option Value):Prop where
 len:mg "len" = none
 range:mg "range" = none
 list:mg "list" = none
 tuple:mg "tuple" = none
 set:mg "set" = none
 sorted:mg "sorted" = none
 min:mg "min" = none
 max:mg "max" = none
 sum:mg "sum" = none
 all:mg "all" = none
 any:mg "any" = none
 enumerate:mg "enumerate" = none
 zip:mg "zip" = none
 isinstance:mg "isinstance" = none
 int:mg "int" = none
 bool:mg "bool" = none
 str:mg "str" = none
end LJ
namespace L2
open PySem PySem.Spec PyProof.Rows
variable [aJ]
noncomputable def GY (X:Cx) (f:Value) (g:List D->(List D->Prop)->Prop):Prop :=
 fV X f fun xs H Q=>∃ F ds K,aA F H/\ie F H ds xs/\g ds K/\∀ zs vs a,K zs->H a=none->af F zs vs->Q (.ref a) (upd H a (.lst vs))
noncomputable def xo (fa:WA) (op:List D->(List D->Prop)->Prop):WE:=fun δ K=>fa δ fun xs δ1=>fg xs δ1 fun ds=>op ds fun zs=>K (.o δ1.mu.length) ⟨δ1.sl,δ1.mu ++ [some (.lst zs)]⟩
noncomputable def xp:List D->(List D->Prop)->Prop
 | [.lst ds],K=>match intsOf ds with
  | some ns=>ns.length < 64/\K ((sortI ns).map D.int)
  | none=>False
 | _,_=>False
section
variable {X:Cx} {fa:WA} {pos:Pos}
theorem xq {F H:Hp} {ad:List Addr} {δ : aB} {σ : St} {p:Addr} (S:SR F ad δ σ H):gY F (ad ++ [p]) (.o δ.mu.length) (.ref p) :=
 ⟨p,by rw[<-S.c8,Ww (we _),XB];rfl,rfl⟩
theorem OX {r:List V->Hp->VK->Prop} {op:List D->(List D->Prop)->Prop} (hr:∀ xs H Q,(∃ F ds K,aA F H/\ie F H ds xs/\op ds K/\∀ zs vs a,K zs->H a=none->af F zs vs->Q (.ref a) (upd H a (.lst vs)))->r xs H Q):∀ σ H Q,tD (xo fa op) σ H Q->pL r (cx fa) σ H Q:=by
 rintro σ H Q ⟨F,ad,δ,K,S,q,k⟩
 refine⟨F,ad,δ,_,S,q,fun xs δ1 h1 vs F1 aS H1 E1 S1 V1=>hr _ _ _ ?_⟩
 obtain⟨ds,h2,j3⟩:=rM S1 V1 h1
 refine⟨F1,ds,_,S1.sub,j3,h2,fun zs us a hz hp is => ?_⟩
 have oi:fX F1 (.lst zs) (.lst us):=⟨us,rfl,is⟩
 exact k _ _ hz _ _ _ _ (E1.trans (Ext.own S1 hp)) (S1.own hp oi) (xq S1)
theorem OY {x:Str} {p:Pos} {e:Expr} {es:List Expr} {id:String} {o:List D->(List D->Prop)->Prop} (hc:GY X (.builtin id) o) (hg:Gl X x) (hm:X.mg x=none) (hv:bootBuiltins x=some (.builtin id)) (ha:JA X (e :: es) (cx fa)) (hn:x ≠ "__name__" := by decide) (gI:(x == ("__debug__" : Str))=false:=by decide)
  (he:starEach (e :: es) X.env=(false,eval e X.env) :: starEach es X.env:=by rfl) (gw:(backTo pos (starEach es X.env)).any (·.1)=false:=by rfl):JE X (.Call (.Name x p) (e :: es) [] pos) (tD (xo fa o)) :=
 (uc hc hg hm hv ha hn gI he gw).weak (OX fun _ _ _ h=>h)
theorem OZ:GY X (.builtin "sorted") xp:=by
 rintro pins s σ H xs us Q I r ⟨F,ds,K,sub,rd,q,md⟩
 unfold xp at q
 split at q
 ·rename_i es
  split at q
  ·rename_i ns e
   obtain⟨v,rfl,a,vs,rfl,h1,h2⟩:=dg rd
   rw[ot e] at h2
   rw[lA h2] at h1
   refine FO pins s σ H _ us Q I r ⟨a,ns,rfl,bj.of h1,q.1,fun l eA pm pw hl => ?_⟩
   rw[uE pm pw]
   exact md _ _ _ q.2 hl mZ
  ·exact q.elim
 ·exact q.elim
noncomputable def Bi (fa:WA):WE:=fun δ K=>fa δ fun xs δ1=>match xs with
 | [.p (.int j)]=>(0 <= j/\j <= 1000)/\K (.o δ1.mu.length) ⟨δ1.sl,δ1.mu ++ [some (.lst (bY 0 j.toNat))]⟩
 | _=>False
theorem O0 {a:Expr} {p1 p2 q1 q2:Pos} (hc:X.calm=true) (qu:Gl X "list") (hl:X.mg "list" = none) (qv:bootBuiltins "list" = some (.type "list")) (lC:Gl X "range") (hr:X.mg "range" = none) (lD:bootBuiltins "range" = some (.type "range")) (ha:JA X [a] (cx fa))
  (he:starEach [a] X.env=[(false,eval a X.env)]:=by rfl) (qw:starEach [.Call (.Name "range" p2) [a] [] q2] X.env=[(false,eval (.Call (.Name "range" p2) [a] [] q2) X.env)]:=by rfl):JE X (.Call (.Name "list" p1) [.Call (.Name "range" p2) [a] [] q2] [] q1) (tD (Bi fa)) :=
 (lZ (FK hc) qu hl qv (iQ (lZ Az lC hr lD ha (he:=he)) bp) (he:=qw)).weak fun σ H Q h0_ => el7 h0_ fun F ad δ K S q k =>⟨F,ad,δ,_,S,q,fun xs δ1 h1 vs F1 aS H1 E1 S1 V1=>by
  split at h1
  ·rename_i j
   obtain⟨v,r,e,W1,W2⟩:=V1
   have W2:r=[]:=W2
   have W1:v = .int j:=W1
   subst W2 W1 e
   refine⟨j,rfl,fun rr uF=>⟨rr,j.toNat,rfl,by rw[bK,Int.toNat_of_nonneg h1.1.1],by omega,fun l hl => ?_⟩⟩
   have s1:aA H1 (upd H1 rr (.rng 0 j)):=cR uF
   have S2:=S1.al s1
   have E2:=Ext.al S1 s1
   have oi:fX (Nw F1 H1 (upd H1 rr (.rng 0 j))) (.lst (bY 0 j.toNat)) (.lst ((aN j.toNat).map V.int)):=⟨_,rfl,by rw[lB];exact mZ⟩
   exact k _ _ h1.2 _ _ _ _ ((E1.trans E2).trans (Ext.own S2 hl)) (S2.own hl oi) (xq S2)
  ·exact h1.elim⟩
noncomputable def Bj (f g:WE):WE:=fun δ K=>f δ fun x δ1=>g δ1 fun y δ2=>dM x δ2 fun d=>dM y δ2 fun e=>match d,e with
 | .lst a,.lst b=>a.length + b.length <= 1000/\K (.o δ2.mu.length) ⟨δ2.sl,δ2.mu ++ [some (.lst (a ++ b))]⟩
 | _,_=>False
theorem O1 {a b:Expr} {f g:WE} (ha:JE X a (tD f)) (hb:JE X b (tD g)):JE X (.BinOp a .Add b pos) (tD (Bj f g)) :=
 (ub EZ ha hb).weak fun σ H Q h0_ => el7 h0_ fun F ad δ K S q k =>⟨F,ad,δ,_,S,q,fun x δ1 h1 v1 F1 aS H1 E1 S1 V1=>⟨F1,aS,δ1,_,S1,h1,fun y δ2 h2 v2 F2 c_ H2 E2 S2 V2=>by
  obtain⟨d,h3,rd⟩:=i_ S2 (V1.ext E2) h2
  obtain⟨e,h4,re⟩:=i_ S2 V2 h3
  split at h4
  ·rename_i as bs
   obtain⟨a,us,rfl,g1,g2⟩:=rd
   obtain⟨b,ws,rfl,g3,g4⟩:=re
   have oi:fX F2 (.lst (as ++ bs)) (.lst (us ++ ws)):=⟨_,rfl,rX g2 g4⟩
   exact⟨a,b,us,ws,rfl,rfl,g1,g3,lj (by rw[g2.length,g4.length];exact h4.1),fun p hp=>k _ _ h4.2 _ _ _ _ ((E1.trans E2).trans (Ext.own S2 hp)) (S2.own hp oi) (xq S2)⟩
  ·exact h4.elim⟩⟩
theorem xr {st:Stmt}:JS X st (fO rQ):=⟨fun pins s D σ H I q=>by obtain⟨F,ad,δ,K,S,q,k⟩:=q;exact q.elim⟩
end
end L2
namespace LJS
open PySem PySem.SetTable PyProof.Rows
section
variable {prog:Program} {w:World} {A:Around} {S:Addr} {ks:List Int}
theorem jL:∀ {l:List (Int × Value)},(∀ e∈l,∃ k tk,e=(hashInt k,Value.int k tk))->IntsAre (l.map (·.2)) (l.map keyOf)
 | [],_ => .nil
 | e :: r,h=>by
  obtain⟨k,tk,rfl⟩:=h e E6
  exact .cons k tk (jL fun e he=>h e (E9 _ he))
theorem O3 {E:Value->Shared->Prop} {s:Shared} {Q:Value->Shared->Prop} (hh:A.handled=none) (hS:e_ s.heap S (iF w) ks) (hn:ks.length < 64)
  (h:∀ (h':Heap) (tk:Nat) (r:Addr) (out:Array Value) (eA:List Int) (e:Nat),(∀ b ob,s.heap.get? b=some ob->h'.get? b=some ob)->s.heap.objs.size <= r->h'.get? r=some (seqObj "list" out e)->IntsAre out.toList eA->eA.Perm ks->eA.Pairwise (· <= ·)->Q (.ref r) { s with heap:=h',toks:=tk }) :
  wpAny (model prog w) A (call (.builtin "sorted") [.ref S]) Q E s:=by
 obtain⟨o,es,ep,t,ho,hex,hd,T⟩:=hS
 have hsz:=T.num
 have lS:S < s.heap.objs.size:=Mz ho
 refine Calls.call_function_entry kind_sorted plain_sorted entry_sorted (args_sorted1 _) ?_
 unfold Builtin.«sorted»
 refine pT (m:=checkCount "sorted" 1 1 _) (wg ?_)
 refine pT (Ki (by simp[hh]) ho hex hd T (by omega) fun h1 k_ rL le => ?_)
 have allI:∀ e∈(iA w S ep es).toList,∃ k tk,e=(hashInt k,Value.int k tk):=fun e he=>T.o5 e ((yT w S ep es).mem_iff.mp he)
 have hI:IntsAre ((iA w S ep es).toList.map (·.2)) ((iA w S ep es).toList.map keyOf):=jL allI
 have hP:((iA w S ep es).toList.map keyOf).Perm ks:=((yT w S ep es).map keyOf).trans T.keys
 have hL:((iA w S ep es).toList.map (·.2)).length=ks.length:=by rw[pU,E8,vV,hsz]
 generalize (iA w S ep es).toList.map (·.2)=vs at hI hL ⊢
 generalize (iA w S ep es).toList.map keyOf=ns at hI hP
 refine pT (ZV ?_)
 have kU:(h1.push (seqObj "list" vs.toArray 0)).get? h1.objs.size=some (seqObj "list" vs.toArray 0):=VW _ rfl
 refine pT (W9 (X1 (s:={ s with heap:=h1.push (seqObj "list" vs.toArray 0),toks:=k_ }) slot_list_sort ⟨_,kU,rfl⟩ entry_list_sort (list_sort_tree kU hI (by omega) fun out eA a1 a2 a3=>⟨_,rfl,?_⟩) (args_list_sort _)))
 obtain⟨e,he⟩:=sortedHeap_at (out:=out) kU
 refine wg ⟨_,rfl,h _ _ _ out eA e (fun b ob eb => ?_) le he a1 (a2.trans hP) a3⟩
 have hb:b < h1.objs.size:=Mz (rL b ob eb)
 show (sortedHeap (h1.push (seqObj "list" vs.toArray 0)) h1.objs.size vs out).get? b=some ob
 rw[sortedHeap_old (VZ hb) (by rw[size_push'];exact Xe hb)]
 exact tP _ (rL b ob eb)
end
end LJS
namespace L2
open PySem PySem.Spec PyProof.Rows
noncomputable def uP (led:Bool) (S:Addr) (ks:List Int):HO := .ext fun h=>LJS.e_ h S led ks
theorem O4 {P:Program} {w:World} {H:Hp} {h:Heap} {S:Addr} {led:Bool} {ks:List Int} (e:LJS.e_ h S led ks):aI P w H h S (uP led S ks) :=
 ⟨e,let ⟨o,_,_,_,ho,_⟩:=e; ⟨o,ho⟩,fun h1 h2 e1 k=>LJS.yJ e1 fun o eo=>k o eo⟩
noncomputable def nk (ns:List Int):List Int:=LJS.nQ ns ns.length
section
variable {X:Cx}
theorem O5 (hc:X.calm=true):fV X (.type "set") (fun xs H Q=>∃ (l:Addr) (ns:List Int),xs=[.ref l]/\bj X.K H l (ns.map V.int)/\ns.length <= 40/\∀ p,H p=none->Q (.ref p) (upd H p (uP (LJS.iF X.w) p (nk ns)))):=by
 intro pins s σ H xs us Q I r h
 obtain⟨l,ns,rfl,hq,DT,q⟩:=h
 obtain⟨u,rfl,rx⟩:=vals1 r
 cases rx
 obtain⟨ak,r',pl,_⟩:=I.list hq
 have hl:=r'.length
 rw[pU] at hl
 refine LJS.J6 ns (I.ok.hd hc) pl.isList (fun i v hv => ?_) (by rw[zR];omega) fun h' tk se kp => ?_
 ·rw[Yo] at hv
  have hi:=(pV.mp hv).1
  obtain⟨x,hx,rv⟩:=uy r' (j:=i) (by rw[zR];exact hi)
  rw[show ak.toArray[i]'(by rw[zR];exact hi)=v by simpa using (pV.mp hv).2] at rv
  rw[E7] at hx
  obtain⟨n,hn,rfl⟩:=VV.mp hx
  obtain⟨t,rfl⟩:=rv
  rw[rG,hn]
  exact⟨t,rfl⟩
 ·have Bk:LJS.e_ h' s.heap.objs.size (LJS.iF X.w) (nk ns):=by
   have e:ak.toArray.size=ns.length:=by rw[zR];omega
   rw[e] at se;exact se
  exact⟨.ref s.heap.objs.size,upd H s.heap.objs.size (uP (LJS.iF X.w) s.heap.objs.size (nk ns)),I.laid (t':=tk) (fun b o e=>kp b o (Mz e) e) (we _) (O4 Bk),rfl,q _ (I.aM.fresh (we _))⟩
theorem O6 (hc:X.calm=true):fV X (.builtin "sorted") (fun xs H Q=>∃ (p:Addr) (ks:List Int),xs=[.ref p]/\H p=some (uP (LJS.iF X.w) p ks)/\ks.length < 64/\∀ (r:Addr) (eA:List Int),eA.Perm ks->eA.Pairwise (· <= ·)->H r=none->Q (.ref r) (upd H r (.lst (eA.map V.int)))):=by
 intro pins s σ H xs us Q I r h
 obtain⟨p,ks,rfl,hp,hn,q⟩:=h
 obtain⟨u,rfl,rx⟩:=vals1 r
 cases rx
 obtain⟨se,_⟩:=I.aM p _ hp
 refine LJS.O3 (I.ok.hd hc) se hn fun h' tk r out eA e kp le he hI pm pw => ?_
 refine⟨.ref r,_,I.laid (t':=tk) (o := .lst (eA.map V.int)) kp le ?_,rfl,q _ eA pm pw (I.aM.fresh le)⟩
 refine⟨XR (lX (by rw[pU,pm.length_eq];omega)),out.toList,e,AD hI,?_⟩
 simpa [seqObj] using he
end
end L2
namespace LJS
open PySem PySem.SetTable PyProof.Rows
noncomputable def gP (m:Nat) (p:Probe):Probe :=
 if p.more > 0 then { p with j:=p.j + 1,more:=p.more - 1 } else
 { p with j:=(leap m p.i p.perturb).1,more:=runEnd m (leap m p.i p.perturb).1 - (leap m p.i p.perturb).1,i:=(leap m p.i p.perturb).1,perturb:=(leap m p.i p.perturb).2 }
theorem GZ (t:SetTable) (p:Probe):t.advance p=gP t.mask p:=rfl
noncomputable def cj (m:Nat):Nat->Probe->Probe
 | 0,p=>p
 | k + 1,p=>cj m k (gP m p)
theorem xt (m:Nat):∀ (a b:Nat) (p:Probe),cj m (a + b) p=cj m b (cj m a p)
 | 0,b,p=>by rw[Xi];rfl
 | a + 1,b,p=>by rw[show a + 1 + b=a + b + 1 by omega];exact xt m a b (gP m p)
noncomputable def stM (m i q:Nat):Probe:=⟨i,runEnd m i - i,i,q,none⟩
noncomputable def startM (m:Nat) (h:Int):Probe:=stM m (bits h % (m + 1)) (bits h)
theorem Bl (m:Nat):∀ (l:Nat) (p:Probe),l <= p.more->cj m l p={ p with j:=p.j + l,more:=p.more - l }
 | 0,p,_=>rfl
 | l + 1,p,h=>by
  show cj m l (gP m p)=_
  have e:gP m p={ p with j:=p.j + 1,more:=p.more - 1 }:=by unfold gP;rw[VY (by omega)]
  rw[e,Bl m l _ (by show l <= p.more - 1;omega)]
  congr 1<;>(dsimp only;omega)
theorem G0 (m i q:Nat):cj m (runEnd m i - i + 1) (stM m i q)=stM m (leap m i q).1 (leap m i q).2:=by
 rw[xt m (runEnd m i - i) 1,Bl m (runEnd m i - i) (stM m i q) (we _)]
 show gP m _=_
 unfold gP
 rw[MC (by show ¬ (runEnd m i - i - (runEnd m i - i) > 0);omega)]
 rfl
theorem G1 {m i:Nat} (h:i <= m):runEnd m i <= m/\i <= runEnd m i:=by unfold runEnd;split<;>omega
noncomputable def oB (m:Nat) (p:Probe):Prop:=p.j + p.more <= m
theorem O7 {m:Nat} {p:Probe} (h:oB m p):oB m (gP m p):=by
 unfold gP oB
 split
 ·rename_i c;have:p.j + p.more <= m:=h;dsimp only;omega
 ·have:=G1 (Dv m p.i p.perturb)
  dsimp only;omega
theorem G2 {m:Nat}:∀ (k:Nat) {p:Probe},oB m p->oB m (cj m k p)
 | 0,_,h=>h
 | k + 1,_,h=>G2 k (O7 h)
theorem O8 (m:Nat) (h:Int):oB m (startM m h):=by
 have h0:bits h % (m + 1) <= m:=Y4 (Nat.mod_lt _ (Z6 _))
 have:=G1 h0
 unfold startM stM oB
 dsimp only;omega
theorem G3 (m:Nat) (h:Int) (k:Nat):(cj m k (startM m h)).j <= m:=by
 have:=G2 k (O8 m h)
 unfold oB at this;omega
noncomputable def oC (m:Nat) (xu:Nat->Prop) (h:Int) (j:Nat):Prop:=∃ k,k < 10 * turns m/\(cj m k (startM m h)).j=j/\∀ l,l < k->xu (cj m l (startM m h)).j
theorem oC.mono {m:Nat} {xu uQ:Nat->Prop} {h:Int} {j:Nat} (r:oC m xu h j) (k:∀ x,x <= m->xu x->uQ x):oC m uQ h j:=by
 obtain⟨n,h1,h2,h3⟩:=r
 exact⟨n,h1,h2,fun l hl=>k _ (G3 m h l) (h3 l hl)⟩
theorem G4 {m:Nat} {owner:Array (Option Nat)}:∀ (F i q j:Nat),layClean.free m owner F i q=some j->∃ k,k < 10 * F/\(cj m k (stM m i q)).j=j/\∀ l,l < k->(owner.getD (cj m l (stM m i q)).j (some 0)).isSome=true
 | 0,i,q,j,h=>by unfold layClean.free at h;cases h
 | F + 1,i,q,j,h=>by
  rw[yx] at h
  have r9:=Dz m i
  have ri:i <= runEnd m i:=by unfold runEnd;split<;>omega
  have lE:∀ l,l <= runEnd m i - i->(cj m l (stM m i q)).j=i + l:=fun l hl=>by rw[Bl m l _ hl];rfl
  split at h
  ·rename_i k0 hk
   cases h
   have h1:=Zj hk
   have h2:=WJ.mp (Za hk)
   refine⟨k0,by omega,lE k0 (by omega),fun l hl => ?_⟩
   rw[lE l (by omega)]
   have h3:∀ l,l < k0->¬ (owner.getD (i + l) (some 0)).isNone=true:=by
    intro l hl hn
    obtain⟨as,bs,e,hb⟩:=List.find?_eq_some_iff_append.mp hk |>.2
    have hlen:as.length=k0:=by
     have:=congrArg (fun x=>x[as.length]?) e
     simp at this
     have h5:as.length < runEnd m i + 1 - i:=by
      have:=congrArg List.length e
      simp at this;omega
     rw[Xg h5] at this
     exact WW this
    have:l∈as:=by
     have h6:=congrArg (fun x=>x[l]?) e
     simp only[Wu (show l < as.length by omega)] at h6
     rw[Xg (by omega)] at h6
     exact WN h6.symm
    have:=hb l this
    rw[hn] at this
    exact absurd this (by decide)
   have:=h3 l hl
   cases q:owner.getD (i + l) (some 0) with
   | none=>rw[q] at this;exact absurd rfl this
   | some _=>rfl
  ·rename_i hk
   have h1:=Zn.mp hk
   obtain⟨k,Wb,O9,O_⟩:=G4 F _ _ j h
   refine⟨runEnd m i - i + 1 + k,by omega,by rw[xt,G0];exact O9,fun l hl => ?_⟩
   by_cases c:l <= runEnd m i - i
   ·rw[lE l c]
    have:=h1 l (WJ.mpr (by omega))
    cases q:owner.getD (i + l) (some 0) with
    | none=>rw[q] at this;exact absurd rfl this
    | some _=>rfl
   ·have:=O_ (l - (runEnd m i - i + 1)) (by omega)
    rw[show l=runEnd m i - i + 1 + (l - (runEnd m i - i + 1)) by omega,xt,G0]
    exact this
section
variable {t:SetTable} {f:Nat->Int} {h:Int}
theorem G5 (u:Up t.place) {i:Nat} (hi:i < t.place.size):t.slot t.place[i] = .live i:=by
 obtain⟨h0,h1,h2⟩:=q_ u t.place[i]
 have a:¬ i < below t.place t.place[i]:=fun z=>by have:=h1 i hi z;omega
 have b:¬ below t.place t.place[i] < i:=fun z=>by
  have:=h2 (below t.place t.place[i]) (by omega) (we _)
  have:=u.lt z hi
  omega
 have eb:below t.place t.place[i]=i:=by omega
 unfold slot
 rw[eb]
 have:(t.place[i]? == some t.place[i])=true:=by rw[VX hi];simp
 simp only[this,YM]
theorem G6 (hd:t.dummies = #[]):∀ (F:Nat) (p:Probe) (j:Nat) (d:Option Nat),probe.go t f h F p=some (.empty j d)->∃ k,k < F/\(cj t.mask k p).j=j/\∀ l,l < k->(cj t.mask l p).j∈t.place.toList
 | 0,p,j,d,e=>by unfold probe.go at e;cases e
 | F + 1,p,j,d,e=>by
  rw[oZ] at e
  rcases sG hd p.j with q | ⟨i,q,hi,hm⟩
  ·rw[q] at e
   cases e
   exact⟨0,Z6 _,rfl,fun l hl=>absurd hl (Nat.not_lt_zero _)⟩
  ·rw[q] at e
   dsimp only at e
   split at e
   ·cases e
   ·obtain⟨k,h1,h2,h3⟩:=G6 hd F _ j d e
    rw[GZ] at h2 h3
    refine⟨k + 1,by omega,h2,fun l hl => ?_⟩
    cases l with
    | zero=>exact hm
    | succ l=>exact h3 l (by omega)
theorem G7 (hd:t.dummies = #[]) (u:Up t.place):∀ (k F:Nat) (p:Probe) (i0:Nat),k < F->t.slot (cj t.mask k p).j = .live i0->f i0=h->(∀ l,l < k->(cj t.mask l p).j∈t.place.toList)->∃ j i nx,probe.go t f h F p=some (.candidate j i nx)/\f i=h/\i < t.place.size
 | k,0,p,i0,hk,_,_,_=>absurd hk (Nat.not_lt_zero _)
 | 0,F + 1,p,i0,_,hs,hf,_=>by
  rw[oZ,show t.slot p.j = .live i0 from hs]
  dsimp only
  rw[VY (by rw[hf];simp)]
  refine⟨_,_,_,rfl,hf,?_⟩
  rcases sG hd p.j with q | ⟨i,q,hi,_⟩
  ·rw[show t.slot p.j = .live i0 from hs] at q;cases q
  ·rw[show t.slot p.j = .live i0 from hs] at q;cases q;exact hi
 | k + 1,F + 1,p,i0,hk,hs,hf,ho=>by
  have hm:=ho 0 (Z6 _)
  obtain⟨i,hi,ei⟩:=W0.mp hm
  have bX:i < t.place.size:=by rw[<-E8];exact hi
  have yE:t.place[i]=p.j:=by simpa [cj] using ei
  have sl:=G5 u bX
  rw[yE] at sl
  rw[oZ,sl]
  dsimp only
  by_cases c:f i=h
  ·rw[VY (by rw[c];simp)]
   exact⟨_,_,_,rfl,c,bX⟩
  ·rw[MC (by simpa using c),GZ]
   exact G7 hd u k F _ i0 (by omega) hs hf fun l hl=>ho (l + 1) (by omega)
end
noncomputable def qB (owner:Array (Option Nat)) (j:Nat):Prop:=∃ k,owner[j]? = some (some k)
structure sq (m:Nat) (hs:List Int) (owner:Array (Option Nat)) (k:Nat):Prop where
 ow:Ow m owner k
 su:∀ (j i:Nat),owner[j]? = some (some i)->∃ h,hs[i]? = some h/\oC m (qB owner) h j
theorem G8 {owner:Array (Option Nat)} {j k x:Nat} (h:qB owner x):qB (owner.setIfInBounds j (some k)) x:=by
 obtain⟨i,e⟩:=h
 have hx:=(XW.mp e).1
 by_cases c:j=x
 ·subst c
  exact⟨k,by rw[Y2];simp[hx]⟩
 ·exact⟨i,by rw[Y2];simp[c];exact e⟩
theorem Pa {m:Nat} {hs:List Int} {owner:Array (Option Nat)} {k:Nat} (hm:Mk m) (O:sq m hs owner k) (hk:k <= m) {h:Int} (hh:hs[k]? = some h) :
  ∃ j,layClean.free m owner (turns m) (bits h % (m + 1)) (bits h)=some j/\sq m hs (owner.setIfInBounds j (some k)) (k + 1):=by
 obtain⟨j,ej,O'⟩:=JB hm O.ow hk h
 refine⟨j,ej,O',fun x i e => ?_⟩
 rw[Y2] at e
 by_cases c:j=x
 ·subst c
  have Pb:j < owner.size:=by
   by_cases z:j < owner.size
   ·exact z
   ·simp[z] at e
  simp[Pb] at e
  subst e
  refine⟨h,hh,?_⟩
  obtain⟨n,n1,n2,n3⟩:=G4 _ _ _ _ ej
  refine⟨n,n1,n2,fun l hl=>G8 ?_⟩
  have gZ:=n3 l hl
  have le:=G3 m h l
  have cu:(cj m l (startM m h)).j < owner.size:=by rw[O.ow.size];omega
  have uR:(owner.getD (cj m l (startM m h)).j (some 0)).isSome=true:=gZ
  rw[show owner.getD (cj m l (startM m h)).j (some 0)=owner[(cj m l (startM m h)).j] by simp[Array.getD,cu]] at uR
  obtain⟨v,hv⟩:=Zf.mp uR
  exact⟨v,by rw[VX cu,hv]⟩
 ·simp[c] at e
  obtain⟨h',e1,e2⟩:=O.su x i e
  exact⟨h',e1,e2.mono fun y _ hy=>G8 hy⟩
theorem G9 {m:Nat} (hm:Mk m) {all:List Int}:∀ (hs:List Int) (owner:Array (Option Nat)) (k:Nat),sq m all owner k->all.drop k=hs->k + hs.length <= m + 1 →
  ∃ aX,(hs.foldl (init:=some (owner,k)) fun acc h=>do
   let (owner,k) <- acc
   let j <- layClean.free m owner (turns m) (bits h % (m + 1)) (bits h)
   pure (owner.setIfInBounds j (some k),k + 1))=some (aX,k + hs.length)/\sq m all aX (k + hs.length)
 | [],owner,k,O,_,_=>⟨owner,rfl,O⟩
 | h :: hs,owner,k,O,hd,hl=>by
  rw[Mx] at hl ⊢
  have hk:k < all.length:=by
   have:=congrArg List.length hd
   rw[Yp,Mx] at this;omega
  rw[YI hk] at hd
  have hh:all[k]? = some h:=by rw[mM hk];exact congrArg some (List.cons.inj hd).1
  obtain⟨j,ej,O'⟩:=Pa hm O (by omega) hh
  obtain⟨o2,e2,O2⟩:=G9 hm hs _ (k + 1) O' (List.cons.inj hd).2 (by omega)
  refine⟨o2,?_,by rw[show k + (hs.length + 1)=k + 1 + hs.length by omega];exact O2⟩
  rw[Z0,show k + (hs.length + 1)=k + 1 + hs.length by omega,<-e2]
  congr 1
  show (do let j <- layClean.free m owner (turns m) (bits h % (m + 1)) (bits h);pure (owner.setIfInBounds j (some k),k + 1))=_
  rw[ej];rfl
theorem Pc (m:Nat) (hs:List Int):sq m hs (Array.replicate (m + 1) none) 0:=by
 refine⟨DE m,fun j i e => ?_⟩
 rw[Array.getElem?_replicate] at e
 split at e<;>cases e
theorem Pd {m:Nat} (hm:Mk m) (hs:Array Int) (hz:hs.size <= m + 1):∃ owner,layClean m hs=some owner/\sq m hs.toList owner hs.size:=by
 obtain⟨o,e,O⟩:=G9 hm hs.toList _ 0 (Pc m hs.toList) rfl (by rw[E8];omega)
 rw[Xi,E8] at O
 refine⟨o,?_,O⟩
 unfold layClean
 rw[<-Array.foldl_toList,e];rfl
theorem Pe {m:Nat} (hm:Mk m) (t:SetTable) (hs:Array Int) (wanted:Nat) (hw:sizeAbove wanted - 1=m) (hz:hs.size <= m + 1) :
  ∃ t' order,t.relaid hs wanted=some (t',order)/\t'.mask=m/\t'.dummies = #[]/\t'.place.size=hs.size/\Up t'.place/\order.size=hs.size/\order.toList.Perm (List.range hs.size) ∧
   ∀ (i j k:Nat),t'.place[i]? = some j->order[i]? = some k->∃ h,hs[k]? = some h/\oC m (· ∈ t'.place.toList) h j:=by
 obtain⟨owner,e,O⟩:=Pd hm hs hz
 obtain⟨aX,e',_,OP⟩:=DN hm hs hz
 have:aX=owner:=WW (e'.symm.trans e)
 subst this
 refine⟨{ mask:=m,place:=((iE m aX).map (·.1)).toArray,dummies := #[],finger:=t.finger,led:=t.led,moves:=t.movedTo m,plain:=t.plain },((iE m aX).map (·.2)).toArray,?_,rfl,rfl,?_,DJ m aX,?_,?_,fun i j k h1 h2 => ?_⟩
 ·unfold relaid laid
  rw[hw,e];rfl
 ·rw[zR,pU,yA O.ow]
 ·rw[zR,pU,yA O.ow]
 ·show ((iE m aX).map (·.2)).Perm _
  rw[DO O.ow.size]
  exact OP
 ·have h1:((iE m aX).map (·.1))[i]? = some j:=by simpa using h1
  have h2:((iE m aX).map (·.2))[i]? = some k:=by simpa using h2
  rw[E7] at h1 h2
  obtain⟨z,G_,rfl⟩:=VV.mp h1
  obtain⟨z',Ha,rfl⟩:=VV.mp h2
  rw[G_] at Ha;cases Ha
  have zm:=WN G_
  have own:∀ z∈iE m aX,aX[z.1]? = some (some z.2):=fun z hz=>by
   unfold iE at hz
   obtain⟨j',Bm,Pf⟩:=Yy.mp hz
   obtain⟨k',xv,rfl⟩:=VV.mp Pf
   have:j' < aX.size:=by rw[O.ow.size];exact WJ.mp Bm
   rw[show aX.getD j' none=aX[j'] by simp[Array.getD,this]] at xv
   rw[VX this,xv]
  obtain⟨h,e1,e2⟩:=O.su _ _ (own z zm)
  refine⟨h,by rw[<-Wx];exact e1,e2.mono fun x hx Pg => ?_⟩
  obtain⟨kx,Hb⟩:=Pg
  show x∈(iE m aX).map (·.1)
  refine Wt.mpr ⟨(x,kx),?_,rfl⟩
  unfold iE
  refine Yy.mpr ⟨x,WJ.mpr (by omega),?_⟩
  have Ph:=(XW.mp Hb).1
  rw[show aX.getD x none=aX[x] by simp[Array.getD,Ph],(XW.mp Hb).2];rfl
structure nq (hk:Nat->Int) (ad:Nat->Addr) (t:SetTable) (es:Array (Int × Value)) (js:List Nat):Prop where
 P:gA t es (js.map hk)
 up:Up t.place
 ma:(js.map hk).Nodup
 el:∀ e∈es.toList,∃ j∈js,e=(hk j,Value.ref (ad j))
 all:∀ j∈js,∃ e∈es.toList,e.1=hk j
 su:∀ (i:Nat) (e:Int × Value) (j:Nat),es[i]? = some e->t.place[i]? = some j->oC t.mask (· ∈ t.place.toList) e.1 j
noncomputable def ip (hk:Nat->Int) (ad:Nat->Addr) (h:Heap) (S:Addr) (js:List Nat):Prop:=∃ o es ep t,h.get? S=some o/\o.ExactSet/\o.data = .set es ep t/\nq hk ad t es js
theorem Hc {hk:Nat->Int} {ad:Nat->Addr} {h h':Heap} {S:Addr} {js:List Nat} (x:ip hk ad h S js) (k:∀ o,h.get? S=some o->h'.get? S=some o):ip hk ad h' S js:=by
 obtain⟨o,es,ep,t,ho,r⟩:=x
 exact⟨o,es,ep,t,k o ho,r⟩
theorem Hd {α : Type} {xs:Array α} {p:Nat} {x : α} (hp:p <= xs.size) (i:Nat):(insertAt xs p x)[i]? = if i < p then xs[i]? else if i=p then some x else xs[i - 1]? := by
 have e:(insertAt xs p x).toList=xs.toList.take p ++ x :: xs.toList.drop p:=by
  unfold insertAt
  simp only[Array.toList_append,YL,Array.toList_extract,q0j,Zu,q0H,X8,List.singleton_append]
  rw[Xj (l:=xs.toList.drop p) (by rw[Yp,E8];exact we _)]
 rw[<-Wx,e]
 have hl:(xs.toList.take p).length=p:=by rw[WQ,E8];omega
 by_cases c:i < p
 ·rw[VY c,Wu (by omega),Xp c,Wx]
 ·rw[MC c,Ww (by omega),hl]
  by_cases c2:i=p
  ·rw[VY c2,c2,XB];rfl
  ·rw[MC c2]
   obtain⟨d,rfl⟩:∃ d,i=p + 1 + d:=⟨i - p - 1,by omega⟩
   rw[show p + 1 + d - p=d + 1 by omega,WR,List.getElem?_drop,Wx]
   congr 1
   omega
theorem Pj {α : Type} {es:Array α} {order:Array Nat} (h:∀ k∈order.toList,k < es.size) (i:Nat):(order.filterMap (es[·]?))[i]? = (order[i]?).bind fun k=>es[k]? := by
 have:∀ l:List Nat,(∀ k∈l,k < es.size)->∀ i:Nat,(l.filterMap fun k=>es[k]?)[i]? = (l[i]?).bind fun k=>es[k]? := by
  intro l
  induction l with
  | nil=>intro _ i;simp
  | cons k r ih =>
   intro hk i
   have He:=hk k E6
   rw[Zb]
   rw[VX He]
   dsimp only
   cases i with
   | zero=>simp[VX He]
   | succ i=>simpa using ih (fun k' mW=>hk k' (E9 _ mW)) i
 have e:=this order.toList h i
 rw[<-Wx,YV,e,Wx]
section
variable {hk:Nat->Int} {ad:Nat->Addr} {t:SetTable} {es:Array (Int × Value)} {js:List Nat}
theorem nq.found (T:nq hk ad t es js) {h:Int} (hm:h∈js.map hk):∃ j i nx,t.probe (fun i=>(es[i]?.map (·.1)).getD 0) h (t.probeStart h)=some (.candidate j i nx)/\∃ e,es[i]? = some e/\e.1=h:=by
 obtain⟨j,hj,rfl⟩:=Wt.mp hm
 obtain⟨e,he,e1⟩:=T.all j hj
 obtain⟨i,hi,ei⟩:=W0.mp he
 have bX:i < es.size:=by rw[<-E8];exact hi
 have ee:es[i]? = some e:=by rw[VX bX];exact congrArg some (by simpa using ei)
 have hp:i < t.place.size:=by rw[T.P.iz];exact bX
 have r:=T.su i e _ ee (VX hp)
 rw[e1] at r
 obtain⟨k,k1,k2,k3⟩:=r
 have sl:=G5 T.up hp
 obtain⟨j',i',nx,h1,h2,h3⟩:=G7 (t:=t) (f:=fun i=>(es[i]?.map (·.1)).getD 0) (h:=hk j) T.P.lO T.up k (10 * turns t.mask) (startM t.mask (hk j)) i k1 (by rw[k2];exact sl) (by rw[ee];exact e1) k3
 refine⟨j',i',nx,h1,?_⟩
 have cu:i' < es.size:=by rw[<-T.P.iz];exact h3
 exact⟨es[i'],VX cu,by have:=h2;rw[VX cu] at this;exact this⟩
end
section
variable {prog:Program} {w:World} {A:Around} {E:Value->Shared->Prop} {s:Shared} {ad:Nat->Addr} {ks:Nat->List Int} {js:List Nat} {S:Addr}
noncomputable abbrev aF (prog:Program) (w:World) (ks:Nat->List Int) (j:Nat):Int:=hT prog w (ks j)
theorem Hf {k:List Int} {a:Addr} {Q:Bool->Shared->Prop} (hk:IsTupleKey (intKind prog w) s.heap k a) (h:Q false s):wpAny (model prog w) A (ofAClassStatement 8 (.ref a)) Q E s:=by
 have hT:=hk.typeIs
 obtain⟨o,ak,n,ho,_,hd,hi⟩:=hk
 show wpAny _ _ (ofAClassStatement (7 + 1) (.ref a)) _ _ _
 unfold ofAClassStatement
 refine pT (ZA hT ?_)
 dsimp only
 refine pT ?_
 refine wg ?_
 simp only[YO,WD,XE]
 refine pT (Z9 ho hd ?_)
 dsimp only
 refine pT ?_
 show wpAny _ _ (forIn ak _ _) _ _ s
 rw[<-Zp]
 refine ZP _ (fun rest r s'=>s'=s/\r=(none,PUnit.unit)/\∀ v∈rest,∃ i t,v=Value.int i t) _ ?_ ?_ _ _ ⟨rfl,rfl,DS hi⟩
 ·rintro v rest r s' ⟨rfl,rfl,gB⟩
  obtain⟨i,t,rfl⟩:=gB v E6
  have e:ofAClassStatement 7 (.int i t)=pure false:=by unfold ofAClassStatement;rfl
  rw[e]
  refine pT (wg ?_)
  simp only[WD,XE]
  exact wg ⟨rfl,rfl,fun u hu=>gB u (E9 _ hu)⟩
 ·rintro r s' ⟨rfl,rfl,_⟩
  exact wg h
theorem Pk {k:List Int} {a:Addr} {Q:Bool->Shared->Prop} {stored:List Value} (hx:IsTupleKey (intKind prog w) s.heap k a) (hy:∀ y∈stored,∃ k' b,y=Value.ref b/\IsTupleKey (intKind prog w) s.heap k' b) (h:Q false s):wpAny (model prog w) A (searchCouldBeSeen (.ref a) stored) Q E s:=by
 unfold searchCouldBeSeen
 refine pT ?_
 refine ZP _ (fun rest r s'=>s'=s/\r=(none,PUnit.unit)/\∀ y∈rest,∃ k' b,y=Value.ref b/\IsTupleKey (intKind prog w) s.heap k' b) _ ?_ ?_ _ _ ⟨rfl,rfl,hy⟩
 ·rintro v rest r s' ⟨rfl,rfl,gB⟩
  obtain⟨k',b,rfl,hb⟩:=gB v E6
  have oD:∀ y∈rest,∃ k' b,y=Value.ref b/\IsTupleKey (intKind prog w) s'.heap k' b:=fun u hu=>gB u (E9 _ hu)
  dsimp only
  refine YK (fun _=>wg ⟨rfl,rfl,oD⟩) (fun _ => ?_)
  refine pT (wpAny_eqIsQuiet_tuple hx ?_)
  simp only[YO,WD,XE]
  refine pT (wpAny_eqIsQuiet_tuple hb ?_)
  simp only[YO,WD,XE]
  refine pT (Hf hx ?_)
  simp only[WD,XE]
  refine pT (Hf hb ?_)
  simp only[WD,XE]
  exact wg ⟨rfl,rfl,oD⟩
 ·rintro r s' ⟨rfl,rfl,_⟩
  exact wg h
theorem Pl {i:Nat} {o:Obj} {es:Array (Int × Value)} {ep:Nat} {t:SetTable} {Q:SetFound->Shared->Prop} (ho:s.heap.get? S=some o) (hd:o.data = .set es ep t) (T:nq (aF prog w ks) ad t es js) (hu:A.units < cLine)
  (keys:∀ j∈i :: js,IsTupleKey (intKind prog w) s.heap (ks j) (ad j)) (inj:∀ j∈js,aF prog w ks j=aF prog w ks i->ks j=ks i) (hm:aF prog w ks i∈js.map (aF prog w ks))
  (k:Q (.there none) s):wpAny (model prog w) A (setSearch S (.ref (ad i)) (aF prog w ks i) true) Q E s:=by
 unfold setSearch
 show wpAny _ _ (setSearchFrom S (.ref (ad i)) (aF prog w ks i) true (99999 + 1) none) _ _ _
 unfold setSearchFrom
 refine pT (XT ho hd T.P.fits ?_)
 dsimp only
 rw[T.P.sI]
 simp only[WD,↓reduceIte]
 obtain⟨j',i',nx,ej,e,ee,eh⟩:=T.found hm
 simp only[ZR]
 generalize hP:t.probe _ (aF prog w ks i) (t.probeStart (aF prog w ks i))=P
 have eP:P=some (.candidate j' i' nx):=hP.symm.trans ej
 rw[eP]
 dsimp only
 have em:e∈es.toList:=WN (by rw[Wx];exact ee)
 obtain⟨j,hj,rfl⟩:=T.el e em
 have ek:=inj j hj eh
 have kx:=keys i E6
 have ky:=keys j (E9 _ hj)
 have tail:wpAny (model prog w) A (do
   let some (_,y):=es[i']? | unsupported "internal:set-entry"
   let equal <- holding [y] (eqBool y (.ref (ad i)))
   let (sS,_,t') <- setState S
   if true && equal then return SetFound.there none
   let some same:=t'.sameMemory t.moves t.mask | unsupported "set.changed-during-lookup:is-the-new-block-at-the-old-address"
   let uS <- match (if same then t'.slot j' else .empty) with
    | .live i'=>match sS[i']? with
     | some (_,y')=>do pure (if <- isSame y' y then some i' else none)
     | none=>pure none
    | _=>pure none
   match uS with
   | none=>rule "set.search.anew";setSearchFrom S (.ref (ad i)) (aF prog w ks i) true 99999 none
   | some i'=>if equal then return SetFound.there (some i') else setSearchFrom S (.ref (ad i)) (aF prog w ks i) true 99999 (some nx)) Q E s:=by
  rw[ee]
  dsimp only
  refine pT (W9 (wpAny_eqBool_tuple hu ky kx ?_))
  refine pT (XT ho hd T.P.fits ?_)
  dsimp only
  rw[WC ek]
  exact wg k
 refine YK (fun _ => ?_) (fun _=>tail)
 refine pT (Pk kx (fun y hy => ?_) ?_)
 ·obtain⟨z,hz,rfl⟩:=Wt.mp hy
  have Pn:z∈es.toList:=by
   have:=ZX.mp hz
   exact ZX.mpr (Array.mem_filter.mp this).1
  obtain⟨q,hq,rfl⟩:=T.el z Pn
  exact⟨_,_,rfl,keys q (E9 _ hq)⟩
 ·exact tail
theorem Po {i:Nat} {Q:Bool->Shared->Prop} (hS:ip (aF prog w ks) ad s.heap S js) (hl:js.length < 60) (hu:A.units < cLine)
  (keys:∀ j∈i :: js,IsTupleKey (intKind prog w) s.heap (ks j) (ad j)) (inj:∀ j∈js,aF prog w ks j=aF prog w ks i->ks j=ks i)
  (k:∀ (b:Bool) h',Heap.SameBut S s.heap h'->ip (aF prog w ks) ad h' S (if aF prog w ks i∈js.map (aF prog w ks) then js else js ++ [i])->Q b { s with heap:=h' }) :
  wpAny (model prog w) A (setAddHashed S (.ref (ad i)) (aF prog w ks i)) Q E s:=by
 obtain⟨o,es,ep,t,ho,hex,hd,T⟩:=hS
 unfold setAddHashed
 refine W9 ?_
 show wpAny _ _ (setAddHashedIn S (.ref (ad i)) (aF prog w ks i) (99999 + 1)) _ _ _
 unfold setAddHashedIn
 refine pT (XT ho hd T.P.fits ?_)
 have hb:byScan (.ref (ad i)) es=false:=by unfold byScan;rfl
 dsimp only
 rw[hb]
 simp only[WD,↓reduceIte]
 by_cases hm:aF prog w ks i∈js.map (aF prog w ks)
 ·refine pT (Pl ho hd T hu keys inj hm ?_)
  dsimp only
  refine wg ?_
  have e:s={ s with heap:=s.heap }:=by cases s;rfl
  rw[e]
  exact k false s.heap (Heap.SameBut.refl S s.heap) (by rw[VY hm];exact⟨o,es,ep,t,ho,hex,hd,T⟩)
 rw[MC hm] at k
 have kx:=keys i E6
 have hz:t.place.size <= t.mask:=by have:=T.P.lt;rw[T.P.iz];omega
 obtain⟨j0,Bo⟩:=DC (t:=t) (f:=fun i=>(es[i]?.map (·.1)).getD 0) (h:=aF prog w ks i) T.P.lO T.P.lP hz (fun i' bX z=>by
  rw[T.P.iz] at bX
  rw[VX bX] at z
  exact hm (by rw[<-show es[i'].1=aF prog w ks i from z];exact T.P.ins _ (q0s bX)))
 have nj:j0∉t.place.toList:=DL T.up (vT Bo)
 have rj:oC t.mask (· ∈ t.place.toList) (aF prog w ks i) j0:=G6 T.P.lO _ _ _ _ Bo
 have sf:wpAny (model prog w) A (setSearch S (.ref (ad i)) (aF prog w ks i) true) (fun r s'=>r = .free j0 false/\s'=s) E s:=by
  unfold setSearch
  show wpAny _ _ (setSearchFrom S (.ref (ad i)) (aF prog w ks i) true (99999 + 1) none) _ _ _
  unfold setSearchFrom
  refine pT (XT ho hd T.P.fits ?_)
  dsimp only
  rw[T.P.sI]
  simp only[WD,↓reduceIte]
  simp only[ZR]
  generalize hP:t.probe _ (aF prog w ks i) (t.probeStart (aF prog w ks i))=P
  have eP:P=some (.empty j0 none):=hP.symm.trans Bo
  rw[eP]
  exact wg ⟨rfl,rfl⟩
 refine pT (Yr sf ?_ fun _ _ e=>e)
 rintro r s' ⟨rfl,rfl⟩
 dsimp only
 refine pT (XT ho hd T.P.fits ?_)
 dsimp only
 obtain⟨p1,p2,p3,p4,p5,p6,p7⟩:=yB t T.P.lO j0
 have up1:=DI T.up nj
 have pz:(t.put j0).2 <= t.place.size:=(q_ T.up j0).1
 have fin:∀ b:Bool,wpAny (model prog w) A (do
   storeSet S (SetTable.insertAt es (t.put j0).2 (aF prog w ks i,.ref (ad i))) (if b=true then (t.put j0).1 else { (t.put j0).1 with plain:=false })
   if (!false && (if b=true then (t.put j0).1 else { (t.put j0).1 with plain:=false }:SetTable).tooFull)=true then do
       setRelay S (SetTable.grown (es.size + 1))
       pure true
    else pure true) Q E s':=by
  intro b
  generalize k7:(if b=true then (t.put j0).1 else { (t.put j0).1 with plain:=false }:SetTable)=t2
  have q1:t2.dummies = #[]:=by rw[<-k7];cases b<;>exact p1
  have q2:t2.mask=t.mask:=by rw[<-k7];cases b<;>exact p2
  have q3:t2.place.size=es.size + 1:=by rw[<-k7,<-T.P.iz];cases b<;>exact p3
  have q4:t2.place=insertAt t.place (t.put j0).2 j0:=by rw[<-k7];cases b<;>rfl
  have q5:Up t2.place:=by rw[<-k7];cases b<;>exact up1
  have hX:=yC es (t.put j0).2 (aF prog w ks i,Value.ref (ad i))
  have nM:(insertAt es (t.put j0).2 (aF prog w ks i,Value.ref (ad i))).toList.Perm (es.toList ++ [(aF prog w ks i,Value.ref (ad i))]):=by
   have:=Zw es (t.put j0).2 (aF prog w ks i,Value.ref (ad i))
   rw[YL] at this
   exact this
  have Pp:t2.place.toList.Perm (t.place.toList ++ [j0]):=by
   rw[q4]
   have:=Zw t.place (t.put j0).2 j0
   rw[YL] at this
   exact this
  have uT:∀ (x:Nat) (e:Int × Value) (j:Nat),(insertAt es (t.put j0).2 (aF prog w ks i,Value.ref (ad i)))[x]? = some e->t2.place[x]? = some j->oC t2.mask (· ∈ t2.place.toList) e.1 j:=by
   intro x e j h1 h2
   rw[q4,Hd pz] at h2
   rw[Hd (by rw[<-T.P.iz];exact pz)] at h1
   rw[q2]
   have more:∀ y,y <= t.mask->y∈t.place.toList->y∈t2.place.toList:=fun y _ hy=>Pp.mem_iff.mpr (Xk _ hy)
   by_cases c:x < (t.put j0).2
   ·rw[VY c] at h1 h2
    exact (T.su x e j h1 h2).mono more
   ·rw[MC c] at h1 h2
    by_cases c2:x=(t.put j0).2
    ·rw[VY c2] at h1 h2
     cases h1;cases h2
     exact rj.mono more
    ·rw[MC c2] at h1 h2
     exact (T.su _ e j h1 h2).mono more
  generalize insertAt es (t.put j0).2 (aF prog w ks i,Value.ref (ad i))=bU at hX nM uT
  have Bp:∀ e∈bU.toList,∃ j∈js ++ [i],e=(aF prog w ks j,Value.ref (ad j)):=fun e he=>by
   rcases Xa.mp (nM.mem_iff.mp he) with q | q
   ·obtain⟨j,hj,e1⟩:=T.el e q
    exact⟨j,Xk _ hj,e1⟩
   ·exact⟨i,Wv _ E6,Wr.mp q⟩
  have all2:∀ j∈js ++ [i],∃ e∈bU.toList,e.1=aF prog w ks j:=fun j hj=>by
   rcases Xa.mp hj with q | q
   ·obtain⟨e,he,e1⟩:=T.all j q
    exact⟨e,nM.mem_iff.mpr (Xk _ he),e1⟩
   ·rw[Wr.mp q]
    exact⟨_,nM.mem_iff.mpr (Wv _ E6),rfl⟩
  have kN:((js ++ [i]).map (aF prog w ks)).Nodup:=by
   rw[WK]
   exact Xr.mpr ⟨T.ma,by simp,fun a ha b hb z=>hm (by rw[<-Wr.mp hb,<-z];exact ha)⟩
  have uU:∀ e∈bU.toList,e.1∈(js ++ [i]).map (aF prog w ks):=fun e he=>by
   obtain⟨j,hj,rfl⟩:=Bp e he
   exact Wt.mpr ⟨j,hj,rfl⟩
  have uV:bU.size=((js ++ [i]).map (aF prog w ks)).length:=by rw[hX,T.P.num,pU,pU,My];rfl
  have JU:es.size < 60:=by rw[T.P.num,pU];exact hl
  refine pT (Zx ho hd ?_ (by rw[hX,Xx];omega))
  have f_:(s'.heap.update S (Obj.putSet bU t2)).get? S=some { o with data := .set bU (ep + 1) t2 }:=by
   have:=Xu (Obj.putSet bU t2) ho (by rw[ZO bU t2 hd];rfl)
   rw[ZO bU t2 hd] at this;exact this
  have fl:t2.fill=es.size + 1:=by unfold SetTable.fill;rw[q1,q3];rfl
  have lt:=T.P.lt
  have nP:t2.fits bU.size=true:=by
   unfold SetTable.fits
   rw[fl,q3,hX,q2]
   simp
   rcases T.P.lP with e | e | e<;>rw[e] at lt ⊢ <;> omega
  by_cases tf:t2.tooFull=true
  ·rw[VY (by rw[tf];rfl)]
   have o6:t.mask * 3 <= (es.size + 1) * 5:=by
    unfold tooFull at tf
    rw[fl,q2] at tf
    have:=XD tf
    omega
   obtain⟨m,Bq,hw,hsz⟩:∃ m,Mk m/\sizeAbove (grown (es.size + 1)) - 1=m/\(es.size + 1) * 5 < m * 3:=by
    rcases T.P.lP with e | e | e
    ·rw[e] at lt o6
     have:es.size + 1=5:=by omega
     rw[this]
     exact⟨31,.inr (.inl rfl),DG,by omega⟩
    ·rw[e] at lt o6
     have:es.size + 1=19:=by omega
     rw[this]
     exact⟨127,.inr (.inr rfl),DH,by omega⟩
    ·rw[e] at o6;omega
   refine pT ?_
   unfold setRelay
   refine pT (XT f_ rfl nP ?_)
   dsimp only
   have yV:¬ SetTable.sizeAbove (SetTable.grown (es.size + 1)) > sizeLine:=by
    rw[Xx]
    rcases Bq with e | e | e<;>omega
   rw[MC yV]
   obtain⟨t3,order,er,r1,r2,r3,r4,r5,r6,r7⟩:=Pe Bq t2 (bU.map (·.1)) (grown (es.size + 1)) hw (by rw[Zy,hX];omega)
   rw[er]
   rw[Zy,hX] at r3 r5
   rw[Zy] at r6
   have Hg:∀ k∈order.toList,k < bU.size:=fun k hk=>WJ.mp (r6.mem_iff.mp hk)
   obtain⟨o1,o2⟩:=DF (es:=bU) (order:=order) Hg
   have og:=Pj (es:=bU) (order:=order) Hg
   refine pT ?_
   show wpAny _ _ (do
    if (order.filterMap (bU[·]?)).size != bU.size then
     unsupported "internal:set-table-lost-an-element"
    pure (order.filterMap (bU[·]?),t3)) _ _ _
   rw[MC (by rw[o1,r5,hX];simp)]
   refine wg ?_
   dsimp only
   refine Zx f_ rfl ?_ (by rw[o1,r5,Xx];omega)
   have fI:((s'.heap.update S (Obj.putSet bU t2)).update S (Obj.putSet (order.filterMap (bU[·]?)) t3)).get? S=some { o with data := .set (order.filterMap (bU[·]?)) (ep + 1 + 1) t3 }:=by
    have:=Xu (Obj.putSet (order.filterMap (bU[·]?)) t3) f_ (by rw[ZO _ t3 rfl];rfl)
    rw[ZO _ t3 rfl] at this;exact this
   refine wg (k true _ ((W7 ..).trans (W7 ..)) ⟨_,_,_,_,fI,hex,rfl,⟨r2,by rw[r1];exact Bq,by rw[r3,o1,r5],by rw[o1,r5,<-hX];exact uV,?_,fun e he=>uU e (o2 e he)⟩,r4,kN,fun e he=>Bp e (o2 e he),fun j hj => ?_,fun x e j h1 h2 => ?_⟩)
   ·unfold tooFull SetTable.fill
    rw[r2,r3,r1]
    simp
    omega
   ·obtain⟨e,he,e1⟩:=all2 j hj
    obtain⟨x,hx,ex⟩:=W0.mp he
    have ib:x < bU.size:=by rw[<-E8];exact hx
    have:x∈order.toList:=r6.mem_iff.mpr (WJ.mpr ib)
    refine⟨e,?_,e1⟩
    rw[YV]
    exact Yy.mpr ⟨x,this,by rw[VX ib];exact congrArg some (by simpa using ex)⟩
   ·rw[og] at h1
    cases q:order[x]? with
    | none=>rw[q] at h1;cases h1
    | some Hh =>
     rw[q] at h1
     have h1:bU[Hh]? = some e:=h1
     obtain⟨hh,g1,g2⟩:=r7 x j Hh h2 q
     rw[Array.getElem?_map,h1] at g1
     cases g1
     rw[r1]
     exact g2
  ·have sM:t2.tooFull=false:=by cases q:t2.tooFull<;>simp_all
   rw[MC (by rw[sM];decide)]
   exact wg (k true _ (W7 ..) ⟨_,_,_,_,f_,hex,rfl,⟨q1,by rw[q2];exact T.P.lP,by rw[q3,hX],uV,sM,uU⟩,q5,kN,Bp,all2,uT⟩)
 by_cases hp:(t.put j0).1.plain=true
 ·rw[VY hp]
  refine pT (JX kx fun b => ?_)
  exact fin b
 ·rw[MC hp]
  refine pT (wg ?_)
  exact fin true
end
noncomputable def iD (hk:Nat->Int):Nat->List Nat
 | 0=>[]
 | i + 1=>if hk i∈(iD hk i).map hk then iD hk i else iD hk i ++ [i]
theorem Hi (hk:Nat->Int):∀ i,(iD hk i).length <= i
 | 0=>we _
 | i + 1=>by
  have:=Hi hk i
  unfold iD
  split
  ·omega
  ·rw[My,W6];omega
theorem xw (hk:Nat->Int):∀ i,∀ j∈iD hk i,j < i
 | 0,j,h=>nomatch h
 | i + 1,j,h=>by
  unfold iD at h
  split at h
  ·have:=xw hk i j h;omega
  ·rcases Xa.mp h with h | h
   ·have:=xw hk i j h;omega
   ·rw[Wr.mp h];omega
theorem Pq {hk:Nat->Int} {ad:Nat->Addr} {h:Heap} {S:Addr} {led:Bool} (e:h.get? S=some (cO led)):ip hk ad h S [] :=
 ⟨_,#[],0,_,e,⟨rfl,rfl,rfl⟩,rfl,⟨rfl,.inl rfl,rfl,rfl,by cases led<;>decide,fun _ h=>nomatch h⟩,List.Pairwise.nil,YB,(fun _ h=>nomatch h),(fun _ h=>nomatch h),fun i e j h=>by simp at h⟩
section
variable {prog:Program} {w:World} {A:Around} {R:Result->Shared->Prop} {I S:Addr} {fp wr:List Addr} {G:Array GenState->Array GenState->Prop} {n:Nat} {P:Nat->Value->Prop} {St:Nat->Shared->Prop}
theorem Pr (W:WalksS prog w A.in1 I fp wr G n P St) (out:S∉fp) (ad:Nat->Addr) (ks:Nat->List Int) (qC:∀ i v,P i v->v = .ref (ad i)) (apart:∀ i,i < n->ad i∉S :: wr) (room:A.in1.units < cLine)
  (inj:∀ i j,i < n->j < i->hT prog w (ks j)=hT prog w (ks i)->ks j=ks i) (kj:n <= 30) :
  ∀ (left i:Nat) (s:Shared),i + left=n->St i s->(∀ j,j < n->IsTupleKey (intKind prog w) s.heap (ks j) (ad j))->ip (aF prog w ks) ad s.heap S (iD (aF prog w ks) i) →
   (∀ s',Moved (S :: wr) G s s'->ip (aF prog w ks) ad s'.heap S (iD (aF prog w ks) n)->R (.ok (.ret .none)) s') →
   codeAny (model prog w) A (.builtin "set.update.loop" ⟨[.ref S,.ref I],[]⟩) R s:=by
 have kO:S∉wr:=fun z=>out (W.sub _ z)
 have more:∀ b,b∈wr->b∈S :: wr:=fun b hb=>E9 _ hb
 intro left
 induction left with
 | zero =>
  intro i s hi st tk se fin
  obtain rfl:i=n:=by omega
  refine XC YS ?_
  rw[Xo Yg _]
  show wpAny _ A.in1 (pyNext (.ref I) >>= _) _ _ s
  refine pT (W.done s _ _ st fun s' mv => ?_)
  show wpAny _ A.in1 (ret Value.none) _ _ s'
  exact wg (fin s' (mv.mono more) (Hc se fun o e=>mv.heap S o kO e))
 | succ left ih =>
  intro i s hi st tk se fin
  have cu:i < n:=by omega
  refine XC YS ?_
  rw[Xo Yg _]
  show wpAny _ A.in1 (pyNext (.ref I) >>= _) _ _ s
  refine pT (W.item i s _ _ cu st fun v s1 hP me mv => ?_)
  obtain rfl:=qC i v hP
  have k_:∀ j,j < n->IsTupleKey (intKind prog w) s1.heap (ks j) (ad j):=fun j hj=>yI (tk j hj) fun o e=>mv.heap _ o (fun z=>apart j hj (more _ z)) e
  show wpAny _ A.in1 (holding [Value.ref (ad i)] (setAdd S (.ref (ad i))) >>= _) _ _ s1
  refine pT (W9 ?_)
  unfold setAdd
  refine W9 (pT (wpAny_pyHash_tuple room (k_ i cu) ?_))
  have fl:=xw (aF prog w ks) i
  refine Po (s:={ s1 with toks:=s1.toks + ((ks i).length + 1) }) (i:=i) (js:=iD (aF prog w ks) i) (Hc se fun o e=>mv.heap S o kO e) (by have:=Hi (aF prog w ks) i;omega) room (fun j hj => ?_) (fun j hj e=>inj i j cu (fl j hj) e) fun bb h2 sb yL => ?_
  ·rcases MA.mp hj with rfl | hj
   ·exact k_ _ cu
   ·exact k_ j (by have:=fl j hj;omega)
  ·have nS:∀ b,b∈fp->b≠S:=fun b hb z=>out (by rw[<-z];exact hb)
   refine wg ⟨Yx Yg _,ih (i + 1) _ (by omega) (W.frame _ s1 _ _ me (ZQ _ _) fun b hb o e=>by rw[sb.2 b (nS b hb)];exact e) (fun j hj=>yI (k_ j hj) fun o e => ?_) yL fun s3 yM yN => ?_⟩
   ·rw[sb.2 _ (fun z=>apart j hj (by rw[z];exact E6))];exact e
   ·refine fin s3 (Moved.trans W.gtrans ((mv.mono more).then_heap (ZQ _ _) fun b o hb e => ?_) yM) yN
    rw[sb.2 b (fun z=>hb (by rw[z];exact E6))];exact e
end
section
variable {prog:Program} {w:World} {A:Around} {E:Value->Shared->Prop} {s:Shared}
set_option maxHeartbeats 3200000 in
theorem Pt {l:Addr} {items:Array Value} {Q:Value->Shared->Prop} (ad:Nat->Addr) (ks:Nat->List Int) (hh:A.handled=none) (room:A.units + 8 < cLine) (sN:s.heap.IsList l items) (qC:∀ (i:Nat) (v:Value),items[i]? = some v->v = .ref (ad i))
  (tk:∀ i,i < items.size->IsTupleKey (intKind prog w) s.heap (ks i) (ad i)) (inj:∀ i j,i < items.size->j < i->hT prog w (ks j)=hT prog w (ks i)->ks j=ks i) (kj:items.size <= 30)
  (fin:∀ (h':Heap) (tk:Nat),ip (aF prog w ks) ad h' s.heap.objs.size (iD (aF prog w ks) items.size)->(∀ b o,b < s.heap.objs.size->s.heap.get? b=some o->h'.get? b=some o)->Q (.ref s.heap.objs.size) { s with heap:=h',toks:=tk }) :
  wpAny (model prog w) A (call (.type "set") [.ref l]) Q E s:=by
 obtain⟨c,tl,yO⟩:=XH.mro
 have m1:=XH.made
 have m2:=XH.sub
 have m3:=XH.notType
 have m4:=XH.canCreate
 have m5:=F.typeCall_set_1 (.ref l)
 refine wpAny_call (codeAny_of_tree ?_)
 show wpAny _ _ (callAny (.type "set") _) _ _ _
 refine wg ⟨Code.quiet_builtin _ (by decide +kernel),XC F.entry_type_call ?_⟩
 rw[Around.under_plain (weight_type_call_type "set" [.ref l] []) rfl]
 repeat (any_goals (first | assumption | wp_step))
 refine Y9 (code_set_new_1 (.ref l) (E:=E) (Q₁ := fun r s1=>∃ led:Bool,r = .ref s.heap.objs.size/\s1={ s with heap:=s.heap.push (cO led) }) fun led=>⟨led,rfl,rfl⟩) fun r s1 hr => ?_
 cases r with
 | error e=>exact hr
 | ok fl =>
  cases fl with
  | ret obj =>
   obtain⟨led,rfl,rfl⟩:=hr
   have gS:(s.heap.push (cO led)).get? s.heap.objs.size=some (cO led):=VW _ rfl
   have tS:Shared.TypeIs { s with heap:=s.heap.push (cO led) } (.ref s.heap.objs.size) "set" := ⟨_,gS,rfl⟩
   have m6:=XH.init.lookup
   have m7:=XH.init.bind (.ref s.heap.objs.size)
   repeat (any_goals (first | assumption | wp_step))
   refine Y9 (codeAny_call_builtin (R:=wants (fun r s2=>r = .none/\∃ h' tk,s2={ s with heap:=h',toks:=tk }/\ip (aF prog w ks) ad h' s.heap.objs.size (iD (aF prog w ks) items.size) ∧
     ∀ b o,b < s.heap.objs.size->s.heap.get? b=some o->h'.get? b=some o) E) XH.init.plain F.entry_set_init (check_set_init_1 tS ?_)) fun r2 s2 kP => ?_
   ·obtain⟨ol,gl,cl,nl,dl⟩:=sN
    obtain⟨c0,d0,J8,yP⟩:=ol
    simp only at cl dl
    subst cl
    subst dl
    have yQ:(s.heap.push (cO led)).get? l=some { cls := .type "list",dict:=d0,data := .seq items nl,slots:=yP }:=tP _ gl
    have x1:=F.sub_list_set
    have x2:=F.sub_list_frozenset
    have x3:(Value.type "list" == Value.type "dict")=false:=by decide
    have kQ:(s.heap.push (cO led)).IsList l items:=⟨_,yQ,rfl,nl,rfl⟩
    have ll:l < s.heap.objs.size:=Mz gl
    unfold Builtin.«set.__init__» noKeywords Builtin.Frozenset.updateFrom
    generalize yR:pyIter=PI
    wp_walk
    subst yR
    refine Yu kQ (pT (Z_ ?_))
    have h3:A.in1.in1.in1.handled=none:=by simp[hh]
    have ez:(s.heap.push (cO led)).objs.size=s.heap.objs.size + 1:=X_ ..
    have nI:l≠(s.heap.push (cO led)).objs.size:=by rw[ez];exact VZ (Xe ll)
    have lt:∀ i,i < items.size->ad i < s.heap.objs.size:=fun i hi=>by
     obtain⟨o,_,_,e,_⟩:=tk i hi
     exact Mz e
    refine Pr ((q0a h3 _ l nI items).toS) (S:=s.heap.objs.size) ?out ad ks (fun i v hv=>qC i v hv) ?apart ?room inj kj items.size 0 _ (Xi _)
     ⟨⟨_,VW _ rfl,rfl,rfl⟩,kQ.push _⟩ ?tk ?fresh ?fin
    case out =>
     simp only[MA,WV,YC,not_or,ez]
     exact⟨VZ (XY _),Ys ll⟩
    case apart =>
     intro i hi
     have:=lt i hi
     simp only[MA,WV,YC,not_or,ez]
     exact⟨VZ this,VZ (Xe this)⟩
    case room =>
     show A.units + 1 + 1 + 1 < cLine
     exact Zo (Nat.add_le_add_left (by decide:3 <= 8) _) room
    case tk =>
     intro j hj
     exact yI (tk j hj) fun o e=>tP _ (tP _ e)
    case fresh =>
     exact Pq (led:=led) (tP _ gS)
    case fin =>
     intro s' mv se
     obtain⟨h',g',d',rh,sO⟩:=s'
     obtain rfl:g'=s.gens:=mv.gens
     obtain rfl:d'=s.drawn:=mv.drawn
     obtain rfl:sO=s.os:=mv.os
     show wpAny _ _ _ _ _ _
     refine wg ?_
     show wpAny _ _ (ret Value.none) _ _ _
     refine wg ⟨rfl,h',rh,rfl,se,fun b o hb e => ?_⟩
     refine mv.heap b o ?_ (tP _ (tP _ e))
     simp only[MA,WV,YC,not_or,ez]
     exact⟨VZ hb,VZ (Xe hb)⟩
   ·cases r2 with
    | error e=>exact kP
    | ok yS =>
     cases yS with
     | ret r =>
      obtain⟨rfl,h',rh,rfl,se,kp⟩:=kP
      repeat (any_goals (first | assumption | wp_step))
      exact fin _ _ se kp
     | next=>exact kP
     | brk=>exact kP
     | cont=>exact kP
  | next=>exact hr
  | brk=>exact hr
  | cont=>exact hr
end
end LJS
namespace L2
open PySem PySem.Spec PyProof.Rows
variable [aJ]
noncomputable def oE:List D->Option (List (Int × Int))
 | []=>some []
 | .tup [.int i,.int j] :: r=>match oE r with
  | some ps=>some ((i,j) :: ps)
  | none=>none
 | _=>none
theorem Hj:∀ {ds:List D} {ps:List (Int × Int)},oE ds=some ps->ds=ps.map fun p => .tup [.int p.1,.int p.2]
 | [],ps,h=>by cases h;rfl
 | .tup [.int i,.int j] :: r,ps,h=>by
  unfold oE at h
  split at h
  ·rename_i qs e
   cases h
   rw[Hj e];rfl
  ·cases h
theorem Hk:∀ ps:List (Int × Int),oE (ps.map fun p=>D.tup [.int p.1,.int p.2])=some ps
 | []=>rfl
 | p :: r=>by
  show oE (.tup [.int p.1,.int p.2] :: r.map _)=_
  unfold oE
  rw[Hk r]
noncomputable def g7 (ps:List (Int × Int)):Nat->List (Int × Int)
 | 0=>[]
 | i + 1=>if ps.getD i (0,0)∈g7 ps i then g7 ps i else g7 ps i ++ [ps.getD i (0,0)]
theorem Br (ps:List (Int × Int)):∀ i,(g7 ps i).length <= i
 | 0=>we _
 | i + 1=>by
  have:=Br ps i
  unfold g7
  split
  ·omega
  ·rw[My,W6];omega
theorem Hl {ps:List (Int × Int)} (hn:ps.Nodup):∀ i,i <= ps.length->g7 ps i=ps.take i
 | 0,_=>rfl
 | i + 1,h=>by
  have hi:i < ps.length:=by omega
  have e:ps.getD i (0,0)=ps[i]:=by rw[rG,mM hi];rfl
  unfold g7
  rw[Hl hn i (by omega),e,MC ?_,Yb,mM hi]
  ·rfl
  ·intro hm
   obtain⟨j,hj,ej⟩:=W0.mp hm
   rw[WQ] at hj
   rw[Zv] at ej
   have:=(Yq (h₀ := by omega) (h₁ := hi) hn).mp ej
   omega
theorem Pu {ps:List (Int × Int)} (hl:(g7 ps ps.length).length=ps.length):ps.Nodup:=by
 have key:∀ i,i <= ps.length->(g7 ps i).length=i->(ps.take i).Nodup/\g7 ps i=ps.take i:=by
  intro i
  induction i with
  | zero=>intro _ _;exact⟨YB,rfl⟩
  | succ i ih =>
   intro hi hlen
   have bX:i < ps.length:=by omega
   have le:=Br ps i
   have e:ps.getD i (0,0)=ps[i]:=by rw[rG,mM bX];rfl
   unfold g7 at hlen ⊢
   split at hlen
   ·omega
   ·rename_i hn
    rw[My,W6] at hlen
    obtain⟨h1,h2⟩:=ih (by omega) (by omega)
    rw[MC hn,h2,Yb,mM bX,e]
    refine⟨?_,rfl⟩
    rw[h2,e] at hn
    exact Xr.mpr ⟨h1,by simp,fun a ha b hb z=>hn (by
     have hb:b=ps[i]:=by simpa using hb
     rw[<-hb,<-z];exact ha)⟩
 have:=(key ps.length (we _) hl).1
 rwa [Xj (we _)] at this
noncomputable def sv:List D->(D->Prop)->Prop
 | [.lst ds],K=>match intsOf ds with
  | some ns=>ns.length <= 40/\K (.lst ((sortI (nk ns)).map D.int))
  | none=>False
 | _,_=>False
theorem Hm (ns:List Int):(nk ns).length <= ns.length:=LJS.yK ns ns.length
section
variable {X:Cx} {fa:WA}
theorem Pw {a:Expr} {p1 p2 q1 q2:Pos} (hc:X.calm=true) (qu:Gl X "sorted") (hl:X.mg "sorted" = none) (qv:bootBuiltins "sorted" = some (.builtin "sorted")) (lC:Gl X "set") (hr:X.mg "set" = none) (lD:bootBuiltins "set" = some (.type "set")) (ha:JA X [a] (cx fa))
  (he:starEach [a] X.env=[(false,eval a X.env)]:=by rfl) (qw:starEach [.Call (.Name "set" p2) [a] [] q2] X.env=[(false,eval (.Call (.Name "set" p2) [a] [] q2) X.env)]:=by rfl):JE X (.Call (.Name "sorted" p1) [.Call (.Name "set" p2) [a] [] q2] [] q1) (tD (dN fa sv)) :=
 (uc (O6 hc) qu hl qv (iQ (lZ (O5 hc) lC hr lD ha (he:=he)) bp) (he:=qw)).weak fun σ H Q h0_ => el7 h0_ fun F ad δ K S q k =>⟨F,ad,δ,_,S,q,fun xs δ1 h1 vs F1 aS H1 E1 S1 V1=>by
  obtain⟨ds,h2,j3⟩:=rM S1 V1 h1
  unfold sv at h2
  split at h2
  ·split at h2
   ·rename_i es ns e
    obtain⟨v,rfl,a,vs,rfl,g1,g2⟩:=dg j3
    rw[ot e] at g2
    rw[lA g2] at g1
    refine⟨a,ns,rfl,bj.of g1,h2.1,fun p hp=>⟨p,nk ns,rfl,bK,by have:=Hm ns;omega,fun r eA pm pw hr => ?_⟩⟩
    have s1:aA H1 (upd H1 p (uP (LJS.iF X.w) p (nk ns))):=cR hp
    have S2:=S1.al s1
    have E2:=Ext.al S1 s1
    refine k _ _ h2.2 _ _ _ _ ((E1.trans E2).trans (Ext.al S2 (cR hr))) (S2.al (cR hr)) ?_
    rw[<-uE pm pw]
    exact l4 S2.sub hr mZ
   ·exact h2.elim
  ·exact h2.elim⟩
theorem Hn {F:Hp}:∀ {ps:List (Int × Int)} {vs:List V},af F (ps.map fun p=>D.tup [.int p.1,.int p.2]) vs->∃ as:List Addr,vs=as.map V.ref/\as.length=ps.length/\∀ (i:Nat) (a:Addr) (k:Int × Int),as[i]? = some a->ps[i]? = some k->F a=some (.tup [.int k.1,.int k.2])
 | [],vs,h=>by
  have h:vs=[]:=by simpa only [Ye,af] using h
  subst h
  exact⟨[],rfl,rfl,fun i a k e=>by simp at e⟩
 | p :: r,vs,h=>by
  rw[WH] at h
  simp only[af] at h
  obtain⟨v,r',rfl,h1,h2⟩:=h
  obtain⟨as,rfl,hl,g⟩:=Hn h2
  simp only[Is] at h1
  obtain⟨a,us,rfl,e1,e2⟩:=h1
  simp only[af,Is] at e2
  obtain⟨_,_,rfl,rfl,_,_,rfl,rfl,rfl⟩:=e2
  refine⟨a :: as,rfl,by rw[Mx,Mx,hl],fun i b k eb ek => ?_⟩
  cases i with
  | zero =>
   cases (show some a=some b by simpa using eb)
   cases (show some p=some k by simpa using ek)
   exact e1
  | succ i=>exact g i b k (by simpa using eb) (by simpa using ek)
theorem Px (hc:X.calm=true) (hu:X.A.units + 64 < cLine):fV X (.type "set") (fun xs H Q=>∃ (l:Addr) (ps:List Addr) (ks:List (Int × Int)),xs=[.ref l]/\bj X.K H l (ps.map V.ref)/\ps.length=ks.length ∧
  (∀ (i:Nat) (a:Addr) (k:Int × Int),ps[i]? = some a->ks[i]? = some k->H a=some (.tup [.int k.1,.int k.2]))/\(∀ k∈ks,0 <= k.1/\k.1 < k.2/\k.2 < 12)/\ks.length <= 30/\∀ p,H p=none->Q (.ref p) (upd H p (k9 p (g7 ks ks.length).length))):=by
 intro pins s σ H xs us Q I r h
 obtain⟨l,ps,ks,rfl,hq,hl,gb,bd,kj,q⟩:=h
 obtain⟨u,rfl,rx⟩:=vals1 r
 cases rx
 obtain⟨ak,r',pl,_⟩:=I.list hq
 obtain rfl:=FF r'
 have sz:(ps.map Value.ref).toArray.size=ks.length:=by rw[zR,pU,hl]
 have qD:∀ i,i < ks.length->∃ k,ks[i]? = some k/\ks.getD i (0,0)=k:=fun i hi=>⟨ks[i],mM hi,by rw[rG,mM hi];rfl⟩
 have Bs:∀ i,i < ks.length->∃ a,ps[i]? = some a/\ps.getD i 0=a:=fun i hi=>⟨ps[i]'(by rw[hl];exact hi),mM (by rw[hl];exact hi),by rw[rG,mM (by rw[hl];exact hi)];rfl⟩
 have same:∀ i j,i < ks.length->j < ks.length->LJS.hT X.prog X.w [(ks.getD j (0,0)).1,(ks.getD j (0,0)).2]=LJS.hT X.prog X.w [(ks.getD i (0,0)).1,(ks.getD i (0,0)).2]->ks.getD j (0,0)=ks.getD i (0,0):=fun i j hi hj z=>by
  obtain⟨k,ek,dk⟩:=qD i hi
  obtain⟨k',xv,Ho⟩:=qD j hj
  rw[dk,Ho,LJS.FD,LJS.FD] at z
  rw[dk,Ho]
  have b1:=bd k (V0.mpr ⟨i,ek⟩)
  have b2:=bd k' (V0.mpr ⟨j,xv⟩)
  exact LJS.NN (k'.1,k'.2) (LJS.FE b2.1 b2.2.1 b2.2.2) (k.1,k.2) (LJS.FE b1.1 b1.2.1 b1.2.2) z
 refine LJS.Pt (fun i=>ps.getD i 0) (fun i=>[(ks.getD i (0,0)).1,(ks.getD i (0,0)).2]) (I.ok.hd hc) (by omega) pl.isList (fun i v hv => ?_) (fun i hi => ?_) (fun i j hi hj z => ?_) (by rw[sz];exact kj) fun h' tk se kp => ?_
 ·rw[Yo,E7] at hv
  obtain⟨a,ea,rfl⟩:=VV.mp hv
  rw[rG,ea];rfl
 ·rw[sz] at hi
  obtain⟨k,ek,dk⟩:=qD i hi
  obtain⟨a,ea,da⟩:=Bs i hi
  show IsTupleKey _ _ [(ks.getD i (0,0)).1,(ks.getD i (0,0)).2] (ps.getD i 0)
  rw[dk,da]
  obtain⟨_,bq,r2,o,ho,oF,n,hd⟩:=I.aM a _ (gb i a k ea ek)
  cases r2 with
  | cons ra rr =>
   cases rr with
   | cons rb rn =>
    cases rn
    obtain⟨t1,rfl⟩:=ra
    obtain⟨t2,rfl⟩:=rb
    exact⟨o,_,n,ho,oF,hd,.cons (Z8 ..) (.cons (Z8 ..) .nil)⟩
 ·rw[sz] at hi
  have:=same i j hi (by omega) z
  show [(ks.getD j (0,0)).1,(ks.getD j (0,0)).2]=[(ks.getD i (0,0)).1,(ks.getD i (0,0)).2]
  rw[this]
 ·have key:∀ n,n <= ks.length->(LJS.iD (LJS.aF X.prog X.w fun i=>[(ks.getD i (0,0)).1,(ks.getD i (0,0)).2]) n).map (fun i=>ks.getD i (0,0))=g7 ks n:=by
   intro n
   induction n with
   | zero=>intro _;rfl
   | succ n ih =>
    intro hn
    have ih:=ih (by omega)
    unfold LJS.iD g7
    rw[<-ih]
    by_cases c:ks.getD n (0,0)∈(LJS.iD (LJS.aF X.prog X.w fun i=>[(ks.getD i (0,0)).1,(ks.getD i (0,0)).2]) n).map (fun i=>ks.getD i (0,0))
    ·obtain⟨j,hj,ej⟩:=Wt.mp c
     have:LJS.aF X.prog X.w (fun i=>[(ks.getD i (0,0)).1,(ks.getD i (0,0)).2]) n∈(LJS.iD (LJS.aF X.prog X.w fun i=>[(ks.getD i (0,0)).1,(ks.getD i (0,0)).2]) n).map (LJS.aF X.prog X.w fun i=>[(ks.getD i (0,0)).1,(ks.getD i (0,0)).2]):=by
      refine Wt.mpr ⟨j,hj,?_⟩
      have ej:ks.getD j (0,0)=ks.getD n (0,0):=ej
      show LJS.hT _ _ [(ks.getD j (0,0)).1,(ks.getD j (0,0)).2]=LJS.hT _ _ [(ks.getD n (0,0)).1,(ks.getD n (0,0)).2]
      rw[ej]
     rw[VY c,VY this]
    ·have:LJS.aF X.prog X.w (fun i=>[(ks.getD i (0,0)).1,(ks.getD i (0,0)).2]) n∉(LJS.iD (LJS.aF X.prog X.w fun i=>[(ks.getD i (0,0)).1,(ks.getD i (0,0)).2]) n).map (LJS.aF X.prog X.w fun i=>[(ks.getD i (0,0)).1,(ks.getD i (0,0)).2]):=fun z=>by
      obtain⟨j,hj,ej⟩:=Wt.mp z
      have xx:=LJS.xw _ n j hj
      exact c (Wt.mpr ⟨j,hj,same n j (by omega) (by omega) ej⟩)
     rw[MC c,MC this,WK];rfl
  obtain⟨o,es,ep,t,ho,hex,hd,T⟩:=se
  have hlen:((LJS.iD (LJS.aF X.prog X.w fun i=>[(ks.getD i (0,0)).1,(ks.getD i (0,0)).2]) ks.length).map (LJS.aF X.prog X.w fun i=>[(ks.getD i (0,0)).1,(ks.getD i (0,0)).2])).length=(g7 ks ks.length).length:=by
   rw[<-key ks.length (we _),pU,pU]
  have T':=T.P
  rw[sz] at T'
  have Bk:LJS.kM h' s.heap.objs.size _:=⟨o,es,ep,t,ho,hex,hd,T'⟩
  exact⟨.ref s.heap.objs.size,upd H s.heap.objs.size (k9 s.heap.objs.size (g7 ks ks.length).length),I.laid (t':=tk) (fun b o e=>kp b o (Mz e) e) (we _) (NO Bk hlen),rfl,q _ (I.aM.fresh (we _))⟩
end
end L2
namespace HT
open PySem PySem.Spec PyProof.Rows
section
variable {prog:Program} {w:World} {A:Around} {E:Value->Shared->Prop} {s:Shared}
theorem Py {t b:Addr} {ws:List Value} {Q:Value->Shared->Prop} (ht:IsTup s.heap t #[]) (hb:IsTup s.heap b ws.toArray) (h:Q (.ref b) s):wpAny (model prog w) A (binaryOp .Add (.ref t) (.ref b)) Q E s:=by
 obtain⟨⟨cls,dd,data,sl⟩,ho,hc,n,hd⟩:=id ht
 obtain⟨⟨tK,jS,data2,jT⟩,fI,jG,n2,hd2⟩:=id hb
 simp only at hc hd jG hd2
 subst hc hd jG hd2
 exact concat_meets ⟨_,ho,rfl⟩ ⟨_,fI,rfl⟩ noFill_tuple_add seq_tuple_add ZE Zr (Zg _ _)
  (tuple_addW0 t b #[] ws.toArray n n2 dd jS sl jT rfl) ⟨ho,fI,h⟩
theorem Pz {t sl:Addr} {items:Array Value} {vl vu:Value} {lo hi:Option Int} {Q:Value->Shared->Prop} (ht:IsTup s.heap t items) (hs:s.heap.IsSliceOf sl vl vu .none) (pl:IsPart vl lo) (pu:IsPart vu hi)
  (hw:ba items.size 0 lo=0/\ba items.size items.size hi=items.size) (h:Q (.ref t) s):wpAny (model prog w) A (getItem (.ref t) (.ref sl)) Q E s:=by
 obtain⟨os,pM,rD,tL⟩:=id hs
 have zz:s.TypeIs (.ref sl) "slice" := ⟨os,pM,rD⟩
 unfold getItem
 try with_reducible refine W9 ?_
 first | refine pT (wg ?_) | skip
 refine pT (wpAny_sequenceKey ht.typeIs (by decide) ?_)
 refine pT (Yh (name:=Str.ofString "__getitem__") ht.typeIs XA
  (X1 XA ht.typeIs entry_tuple_getitem ?_ (args_tuple_getitem _ _)))
 show wpAny _ _ (Builtin.Tuple.tupleItemsOf (.ref t) >>= _) _ _ s
 refine pT (tupleItemsOf_ ht ?_)
 refine pT (ZA zz ?_)
 rw[VY (by decide)]
 refine pT (EH hs pl pu ?_)
 show wpAny _ _ (if (((ba items.size 0 lo:Nat):Int) == 0 && (1:Int) == 1 && (ba items.size items.size hi - ba items.size 0 lo) == items.size)=true then _ else _) _ _ s
 rw[VY (by rw[hw.1,hw.2];simp)]
 unfold Builtin.Tuple.tupleIsExact
 refine pT (pT (ZA ht.typeIs (wg ?_)))
 rw[VY (by decide)]
 refine pT (q0I ?_)
 exact wg ⟨_,rfl,wg h⟩
end
end HT
namespace L2
open PySem PySem.Spec PyProof.Rows
variable [aJ]
section
variable {X:Cx} {e:Expr} {te:TE} {pos p2 p3 p4:Pos}
noncomputable def PB (K:PySem.W.Frag):V->Option Int->Option Int->Hp->VK->Prop:=fun x lo hi H Q=>∃ a xs,x = .ref a/\bV K H a xs ∧
 (HT.ba xs.length 0 lo=0/\HT.ba xs.length xs.length hi=xs.length->Q (.ref a) H)/\(¬ (HT.ba xs.length 0 lo=0/\HT.ba xs.length xs.length hi=xs.length)->∀ p,H p=none->Q (.ref p) (upd H p (.tup (dA xs lo hi))))
theorem PD:mI X (PB X.K):=by
 intro pins s σ H x v vl vu lo hi sl Q I rx hs pl pu h
 obtain⟨a,xs,rfl,hx,q1,q2⟩:=h
 by_cases hw:HT.ba xs.length 0 lo=0/\HT.ba xs.length xs.length hi=xs.length
 ·cases rx
  obtain⟨ak,r,ht,hz⟩:=I.tuple hx
  have hlen:ak.toArray.size=xs.length:=by rw[zR];exact r.length.symm
  refine⟨"tuple",_,XA.lookup,ht.typeIs,?_⟩
  exact HT.Pz ht hs pl pu (by rw[hlen];exact hw) ⟨.ref a,H,I,rfl,q1 hw⟩
 ·exact Me pins s σ H _ v vl vu lo hi sl Q I rx hs pl pu ⟨a,xs,rfl,hx,hw,q2 hw⟩
theorem PH:dW X (binaryOp .Add) (fun x y H Q=>∃ a b ys,x = .ref a/\y = .ref b/\bV X.K H a []/\bV X.K H b ys/\Q (.ref b) H):=by
 intro pins s σ H x y v u Q I rx ry h
 obtain⟨a,b,ys,rfl,rfl,ha,hb,q⟩:=h
 cases rx
 cases ry
 obtain⟨ak,r1,p1,_⟩:=I.tuple ha
 obtain⟨bq,r2,p2,_⟩:=I.tuple hb
 have:ak=[]:=r1.fW.mpr rfl
 subst this
 exact HT.Py p1 p2 ⟨.ref b,H,I,rfl,q⟩
noncomputable def e7:D->D->(D->Prop)->Prop
 | .int i,.int j,K=>K (.int (i + j))
 | .lst a,.lst b,K=>a.length + b.length <= 1000/\K (.lst (a ++ b))
 | .tup a,.tup b,K=>a.length + b.length <= 1000/\K (.tup (a ++ b))
 | .str a,.str b,K=>a.length + b.length <= 1000/\K (.str (a ++ b))
 | _,_,_=>False
theorem fS:gx X (binaryOp .Add) e7:=by
 rintro pins s σ H x y v u Q I rx ry ⟨F,d,e,K,sub,rd,re,q,md⟩
 unfold e7 at q
 split at q
 ·exact wY pins s σ H x y v u Q I rx ry ⟨F,_,_,K,sub,rd,re,q,md⟩
 ·exact wY pins s σ H x y v u Q I rx ry ⟨F,_,_,K,sub,rd,re,q,md⟩
 ·rename_i as bs
  by_cases c:as=[]
  ·subst c
   have dg:Is F (.tup []) x:=rd
   have iV:Is F (.tup bs) y:=re
   have PJ:=iV
   simp only[Is] at dg iV
   obtain⟨a,us,rfl,h1,h2⟩:=dg
   obtain⟨b,ws,rfl,h3,h4⟩:=iV
   have:us=[]:=by simpa only [af] using h2
   subst this
   exact PH pins s σ H _ _ v u Q I rx ry ⟨a,b,ws,rfl,rfl,bV.of (sub _ _ h1),bV.of (sub _ _ h3),md _ _ _ q.2 (fun _ _ e=>e) (uA sub PJ)⟩
  ·exact wY pins s σ H x y v u Q I rx ry ⟨F,_,_,K,sub,rd,re,⟨⟨c,q.1⟩,q.2⟩,md⟩
 ·exact wY pins s σ H x y v u Q I rx ry ⟨F,_,_,K,sub,rd,re,q,md⟩
 ·exact q.elim
noncomputable def nr:D->Option Int->Option Int->(D->Prop)->Prop
 | .lst ds,lo,hi,K=>K (.lst (cutD ds lo hi))
 | .tup ds,lo,hi,K=>K (.tup (cutD ds lo hi))
 | _,_,_,_=>False
noncomputable def iY (f:WE) (l h:WO):WE:=fun δ K=>f δ fun x δ1=>l δ1 fun lo δ2=>h δ2 fun hi δ3=>dM x δ3 fun d=>nr d lo hi fun z=>K (.p z) δ3
theorem PK {ds:List D} {lo hi:Option Int} (h:HT.ba ds.length 0 lo=0/\HT.ba ds.length ds.length hi=ds.length):cutD ds lo hi=ds:=by
 unfold cutD
 rw[h.1,h.2,Zu,q0H,Xj (we _)]
theorem xy {e:Expr} {f:WE} {lo hi:Option Expr} {l h:WO} {pos p2:Pos} (he:JE X e (tD f)) (hl:PO X lo (w_ l)) (hh:PO X hi (w_ h)):JE X (.Subscript e (.Slice lo hi none p2) pos) (tD (iY f l h)) :=
 (Aq (h_.or PD) he hl hh).weak fun σ H Q h0_ => el7 h0_ fun F ad δ K S q k =>⟨F,ad,δ,_,S,q,fun x δ1 h1 v F1 aS H1 E1 S1 V1=>⟨F1,aS,δ1,_,S1,h1,fun lo δ2 h2 F2 c_ H2 E2 S2=>⟨F2,c_,δ2,_,S2,h2,fun hi δ3 h3 F3 rT H3 E3 S3=>by
  obtain⟨d,h4,rd⟩:=i_ S3 ((V1.ext E2).ext E3) h3
  have Bt:=(E1.trans E2).trans E3
  unfold nr at h4
  split at h4
  ·rename_i ds
   obtain⟨a,vs,rfl,g1,g2⟩:=rd
   refine .inl ⟨a,vs,rfl,bj.of g1,fun p hp => ?_⟩
   exact k _ _ h4 _ _ _ _ (Bt.trans (Ext.al S3 (cR hp))) (S3.al (cR hp)) (l4 S3.sub hp (Gw g2 _ _))
  ·rename_i ds
   have dg:Is F3 (.tup ds) v:=rd
   have Bf:=dg
   simp only[Is] at dg
   obtain⟨a,vs,rfl,g1,g2⟩:=dg
   refine .inr ⟨a,vs,rfl,bV.of (S3.sub _ _ g1),fun hw => ?_,fun _ p hp => ?_⟩
   ·rw[g2.length] at hw
    rw[PK hw] at h4
    exact k _ _ h4 _ _ _ _ Bt S3 Bf
   ·exact k _ _ h4 _ _ _ _ (Bt.trans (Ext.al S3 (cR hp))) (S3.al (cR hp)) (A_ S3.sub hp (Gw g2 _ _))
  ·exact h4.elim⟩⟩⟩
end
end L2
open L2
open Lean in
local macro_rules
 | `(tactic| simp? only [$ls,*] $[$loc:location]?) => do
  let a ← ("Y_ dep cb Xn Nat.max_self Nat.max_zero Nat.zero_max Nat.reduceLeDiff au aC dN xo ah ag d1 d2 dC aa fg dM mP j4 aB.fix FW gi fM mQ dT mS j5 qb gN qc oh AK ft j6 aW bE bA kA ig ly j7 bS fZ qg dE bP mY iB A2 ju A3 dD av ur passes kF fQ j8 qi aP qp e7 nr iY rQ nh sv fR oI eZ oEq l5 oLt oy cf r_ xc sd xf m9 jx sg Bi Bj iW oz qz gO iX qy uI Bb dX uN aB.trim gy uo Option.join_some Option.join_none WH Ye List.cons_append List.nil_append Xv List.replicate_zero WY WR List.getElem?_nil Xb Xc Mx Ym List.take_succ_cons ZF List.take_nil List.any_nil YQ q1c YO Bool.and_true Bool.and_self Bool.or_false WD Bool.true_eq_false YM XE true_and and_true and_self reduceCtorEq q0y Xi Nat.reduceAdd Nat.reduceLT Nat.reduceEqDiff Nat.reduceSub pU My".splitOn " ").toArray.mapM fun s => `(Parser.Tactic.simpLemma| $(mkIdent s.toName):ident)
  let r ← `(Parser.Tactic.simpLemma| ↓reduceIte)
  let a : Syntax.TSepArray [`Lean.Parser.Tactic.simpStar, `Lean.Parser.Tactic.simpErase, `Lean.Parser.Tactic.simpLemma] "," := ⟨(Syntax.SepArray.ofElems (sep := ",") ((a.push r).map (·.raw) ++ ls.getElems.map (·.raw))).elemsAndSeps⟩
  `(tactic| simp only [$a,*] $[$loc]?)
set_option maxHeartbeats 8000000
namespace LJ
open PySem L2
variable [aJ]
theorem Hq {ns:List Int} {k:Int} (h0:0 <= k) (h1:k < (ns.length:Int)):∃ n,eB (ns.map D.int) k=some (.int n):=by
 obtain⟨i,rfl⟩:∃ i:Nat,k=i:=⟨k.toNat,by omega⟩
 have hi:i < ns.length:=by omega
 refine⟨ns[i],n5 ?_⟩
 rw[E7,mM hi];rfl
theorem f7 {α : Type} {x : α} {r:List α}:eB (x :: r) 0=some x:=n5 (j:=0) rfl
theorem g8 {α : Type} {x y : α} {r:List α}:eB (x :: y :: r) 1=some y:=n5 (j:=1) rfl
theorem at2 {α : Type} {x y z : α} {r:List α}:eB (x :: y :: z :: r) 2=some z:=n5 (j:=2) rfl
theorem uW {a b A B:Int} (h0:0 <= a) (h1:a <= A) (h2:0 <= b) (h3:b <= B):0 <= a * b/\a * b <= A * B :=
 ⟨Int.mul_nonneg h0 h2,Int.mul_le_mul h1 h3 h2 (Int.le_trans h0 h1)⟩
noncomputable def iZ:List Int:=[2147483629,2147483587,2147483579,2147483563,2147483549,2147483543,2147483497,2147483489,2147483477,2147483423,2147483399,2147483353,2147483323]
theorem Bu (n:Int):∃ q:Int,eB (iZ.map D.int) (n % 13)=some (.int q)/\0 < q/\q < 2147483648:=by
 have h0:0 <= n % 13:=Yc _ (by decide)
 have h1:n % 13 < 13:=XG _ (by decide)
 generalize n % 13=j at h0 h1
 obtain⟨i,rfl⟩:∃ i:Nat,j=i:=⟨j.toNat,by omega⟩
 have hi:i < 13:=by omega
 have hl:(iZ.map D.int)[i]? = some (.int (iZ[i]'(by show i < 13;exact hi))):=by
  rw[E7,mM (by show i < 13;exact hi)];rfl
 refine⟨_,n5 hl,?_⟩
 have all:∀ q∈iZ,0 < q/\q < 2147483648:=by decide
 exact all _ (X0 _)
theorem PL:jU 3 1=some 1:=rfl
theorem Hr:jU 3 2=some 2:=rfl
theorem a8 {A B:WS} {K:KS} {δ : aB} (h:∀ N:aB->Prop,N=B K->A { K with nx:=N } δ):au A B K δ := h _ rfl
theorem uX {t:WT} {G G':WS} {K:KS} {δ : aB} (h:∀ A B:aB->Prop,A=G K->B=G' K->t δ fun b δ1=>if b=true then A δ1 else B δ1):bE t G G' K δ := h _ _ rfl rfl
theorem qE {w:WI} {g:WG} {b:WS} {K:KS} {δ : aB} (h:∀ g' b' K',g'=g->b'=b->K'=K->w δ fun it δ1=>kC δ1 it.bD g' b' K' it.items δ1):bS w g b K δ := h _ _ _ rfl rfl rfl
theorem xA {f:WE} {g:WA} {δ : aB} {K:List DV->aB->Prop} (h:∀ K',K'=(fun x δ1=>g δ1 fun xs δ2=>K (x :: xs) δ2)->f δ K'):ah f g δ K:=h _ rfl
noncomputable def uY:GD:=fun ys ar K=>∃ cell at_:Int,ys=[.p (.int cell),.p (.int at_)]/\ar=[]/\0 <= at_/\at_ < 2 ^ 30/\∀ z:Int,K (.p (.int z)) []
noncomputable def Bv:WS:=(au (bE (dT (d2 (aa 0) (d2 (dC (.int 10)) (dC (.int 18)) (eZ h9 fun i j => .int (i ^ j.toNat))) (oI fun i j => .bl (decide (j <= i))))) (aW (aa 0)) ft) (au (aC 2 (fM (ah (dC (.int 2147483629)) (ah (dC (.int 2147483587)) (ah (dC (.int 2147483579)) (ah (dC (.int 2147483563)) (ah (dC (.int 2147483549)) (ah (dC (.int 2147483543)) (ah (dC (.int 2147483497)) (ah (dC (.int 2147483489)) ag)))))))))) (au (aC 2 (d2 (aa 2) (fM (ah (dC (.int 2147483477)) (ah (dC (.int 2147483423)) (ah (dC (.int 2147483399)) (ah (dC (.int 2147483353)) (ah (dC (.int 2147483323)) ag)))))) e7)) (au (aC 3 (d2 (d2 (d2 (d2 (d2 (d2 (aa 0) (dC (.int 1000000007)) (eZ (fun _ j=>0 < j) fun i j => .int (i % j))) (d2 (d2 (dC (.int 2)) (aa 1) fR) (dC (.int 69069)) e7) fR) (d2 (aa 1) (dC (.int 40503)) fR) e7) (dC (.int 977)) e7) (dC (.int 3)) (eZ h9 fun i j => .int (i ^ j.toNat))) (d2 (aa 2) (d2 (aa 1) (dC (.int 13)) (eZ (fun _ j=>0 < j) fun i j => .int (i % j))) aP) (eZ (fun _ j=>0 < j) fun i j => .int (i % j)))) (au (aC 4 (d2 (d2 (d2 (d2 (d2 (aa 3) (d2 (aa 1) (dC (.int 3)) e7) fR) (d2 (aa 0) (dC (.int 65537)) (eZ (fun _ j=>0 < j) fun i j => .int (i % j))) e7) (dC (.int 5)) e7) (dC (.int 5)) (eZ h9 fun i j => .int (i ^ j.toNat))) (d2 (aa 2) (d2 (d2 (aa 1) (dC (.int 5)) e7) (dC (.int 13)) (eZ (fun _ j=>0 < j) fun i j => .int (i % j))) aP) (eZ (fun _ j=>0 < j) fun i j => .int (i % j)))) (au (aC 5 (d2 (d2 (d2 (d2 (aa 4) (d2 (aa 3) (dC (.int 1009)) (eZ (fun _ j=>0 < j) fun i j => .int (i % j))) e7) (aa 1) e7) (dC (.int 3)) (eZ h9 fun i j => .int (i ^ j.toNat))) (d2 (aa 2) (d2 (d2 (aa 1) (dC (.int 7)) e7) (dC (.int 13)) (eZ (fun _ j=>0 < j) fun i j => .int (i % j))) aP) (eZ (fun _ j=>0 < j) fun i j => .int (i % j)))) (aW (d2 (d2 (d2 (d2 (aa 3) (dC (.int 2147483647)) fR) (aa 4) e7) (dC (.int 2147483647)) fR) (aa 5) e7))))))))
theorem PM:∀ ys ar K',ys.length=2->uY ys ar K'->Bv (dX ar.length K') ⟨ys.map some ++ List.replicate 4 none,ar.map some⟩:=by
 rintro ys ar K' - ⟨cell,k,rfl,rfl,h0,h1,fin⟩
 unfold Bv
 have uZ:∀ (z:Int) (sl:List (Option DV)),iU 0 K' (.p (.int z)) ⟨sl,[]⟩:=fun z sl=>⟨[],rfl,rfl,fin z⟩
 simp? only []
 refine⟨⟨by decide,by decide,by decide⟩,?_⟩
 split
 ·exact uZ _ _
 obtain⟨q1,e1,p1,b1⟩:=Bu k
 obtain⟨q2,e2,p2,b2⟩:=Bu (k + 5)
 obtain⟨q3,e3,p3,b3⟩:=Bu (k + 7)
 simp only[iZ,WH,Ye] at e1 e2 e3
 simp only[e1,e2,e3]
 have c0:0 <= cell % 1000000007:=Yc _ (by decide)
 have c1:cell % 1000000007 < 1000000007:=XG _ (by decide)
 have m1:=uW c0 (Int.le_of_lt c1) (show (0:Int) <= 2 * k + 69069 by omega) (show 2 * k + 69069 <= 2147552717 by omega)
 refine⟨by decide,.inl ⟨by decide,by decide⟩,.inl ⟨by omega,by omega⟩,.inr ⟨by decide,by decide⟩,⟨by decide,by decide,?cp1⟩,by decide,p1,?_⟩
 case cp1 =>
  generalize cell % 1000000007 * (2 * k + 69069)=m at m1 ⊢
  omega
 generalize (cell % 1000000007 * (2 * k + 69069) + k * 40503 + 977) ^ (3:Int).toNat=x1
 have o0:0 <= x1 % q1:=Yc _ (by omega)
 have o1:x1 % q1 < q1:=XG _ p1
 have d0:0 <= cell % 65537:=Yc _ (by decide)
 have d1:cell % 65537 < 65537:=XG _ (by decide)
 have m2:=uW o0 (show x1 % q1 <= 2147483648 by omega) (show (0:Int) <= k + 3 by omega) (show k + 3 <= 1073741827 by omega)
 refine⟨.inl ⟨by omega,by omega⟩,by decide,⟨by decide,by decide,?cp2⟩,by decide,p2,?_⟩
 case cp2 =>
  generalize x1 % q1 * (k + 3)=m at m2 ⊢
  omega
 have t0:0 <= (x1 % q1 * (k + 3) + cell % 65537 + 5) ^ (5:Int).toNat % q2:=Yc _ (by omega)
 have t1:(x1 % q1 * (k + 3) + cell % 65537 + 5) ^ (5:Int).toNat % q2 < q2:=XG _ p2
 have u0:0 <= x1 % q1 % 1009:=Yc _ (by decide)
 have u1:x1 % q1 % 1009 < 1009:=XG _ (by decide)
 generalize (x1 % q1 * (k + 3) + cell % 65537 + 5) ^ (5:Int).toNat % q2=m at t0 t1 ⊢
 exact⟨by decide,⟨by decide,by decide,by omega⟩,by decide,p3,.inr ⟨by decide,by decide⟩,.inr ⟨by decide,by decide⟩,uZ _ _⟩
noncomputable def jz (ns:List Int) (k z:Int):OV := .lst [.lst (ns.map D.int),.int k,.int z]
structure a7 (n:Int) (o:OV):Prop where
 out:∃ ns k z,o=jz ns k z/\ns.length <= 63/\0 <= k/\k <= n
theorem a7.mono {n m:Int} {o:OV} (h:a7 n o) (l:n <= m):a7 m o:=by
 obtain⟨ns,k,z,e,h1,h2,h3⟩:=h.out
 exact⟨ns,k,z,e,h1,h2,by omega⟩
noncomputable def u4:GD:=fun ys ar K=>∃ n o,ys=[.o 0]/\ar=[o]/\a7 n o/\∀ o',a7 n o'->K (.a 0) [o']
noncomputable def Bw:WS:=(au (qz (dC (.int 0)) (aa 0) (dC (.int 2))) (aW (aa 0)))
theorem PN:∀ ys ar K',ys.length=1->u4 ys ar K'->Bw (dX ar.length K') ⟨ys.map some ++ List.replicate 0 none,ar.map some⟩:=by
 rintro ys ar K' - ⟨n,o,rfl,rfl,P,fin⟩
 obtain⟨ns,k,z,rfl,h1,h2,h3⟩:=P.out
 unfold Bw jz
 simp? only []
 exact⟨[jz ns k 0],rfl,rfl,fin _ ⟨ns,k,0,rfl,h1,h2,h3⟩⟩
noncomputable def gz:GD:=fun ys ar K=>∃ (n m:Int) (o:OV),ys=[.o 0,.p (.int m)]/\ar=[o]/\a7 n o/\n < 2 ^ 30/\0 < m/\m < 1073741824/\∀ r o',0 <= r->r < m->a7 (n + 1) o'->K (.p (.int r)) [o']
noncomputable def Bx:WS:=(au (bE (dT (d2 (d2 (aa 0) (dC (.int 2)) aP) (aa 1) oLt)) (au (aC 2 (d2 (aa 0) (dC (.int 1)) aP)) (au (aC 3 (dC (.int 0))) (au (bE (dT (d2 (aa 2) (dN (ah (d2 (aa 0) (dC (.int 0)) aP) ag) cf) oLt)) (aC 3 (d2 (d2 (aa 0) (dC (.int 0)) aP) (aa 2) aP)) (bE (dT (d2 (dN (ah (d2 (aa 0) (dC (.int 0)) aP) ag) cf) (dC (.int 0)) (oI fun i j => .bl (decide (j < i))))) (aC 3 (d2 (d2 (d2 (aa 0) (dC (.int 0)) aP) (d2 (d2 (d2 (aa 2) (dC (.int 5)) fR) (dC (.int 3)) e7) (dN (ah (d2 (aa 0) (dC (.int 0)) aP) ag) cf) (eZ (fun _ j=>0 < j) fun i j => .int (i % j))) aP) (d2 (d2 (dC (.int 10)) (dC (.int 17)) (eZ h9 fun i j => .int (i ^ j.toNat))) (aa 2) e7) (eZ (fun _ j=>0 < j) fun i j => .int (i % j)))) ft)) (au (qz (d2 (aa 2) (dC (.int 1)) e7) (aa 0) (dC (.int 1))) (qz (av 2 uY (ah (aa 3) (ah (aa 2) ag))) (aa 0) (dC (.int 2))))))) ft) (au (aC 4 (d2 (d2 (aa 0) (dC (.int 2)) aP) (aa 1) (eZ (fun _ j=>0 < j) fun i j => .int (i % j)))) (au (qz (d2 (d2 (aa 0) (dC (.int 2)) aP) (aa 1) (eZ tu fun i j => .int (i.fdiv j))) (aa 0) (dC (.int 2))) (aW (aa 4)))))
theorem PQ:∀ ys ar K',ys.length=2->gz ys ar K'->Bx (dX ar.length K') ⟨ys.map some ++ List.replicate 3 none,ar.map some⟩:=by
 rintro ys ar K' - ⟨n,m,o,rfl,rfl,P,hn,Hs,Wc,fin⟩
 obtain⟨ns,k,z,rfl,h1,h2,h3⟩:=P.out
 unfold Bx jz
 have last:∀ (k' z':Int) (sl:List (Option DV)),0 <= k'->k' <= n + 1->iU 1 K' (.p (.int (z' % m))) ⟨sl,[some (.lst [.lst (ns.map D.int),.int k',.int (z'.fdiv m)])]⟩:=fun k' z' sl a b =>
  ⟨[jz ns k' (z'.fdiv m)],rfl,rfl,fin _ _ (Yc _ (by omega)) (XG _ Hs) ⟨ns,k',_,rfl,h1,a,b⟩⟩
 have PR:∀ z,tu z m:=fun z=>⟨by omega,by omega⟩
 have rest:∀ (k' z':Int) (s2 s3 s4:Option DV),0 <= k'->k' <= n + 1->(au (aC 4 (d2 (d2 (aa 0) (dC (.int 2)) aP) (aa 1) (eZ (fun _ j=>0 < j) fun i j => .int (i % j)))) (au (qz (d2 (d2 (aa 0) (dC (.int 2)) aP) (aa 1) (eZ tu fun i j => .int (i.fdiv j))) (aa 0) (dC (.int 2))) (aW (aa 4)))) (dX 1 K') ⟨[some (.o 0),some (.p (.int m)),s2,s3,s4],[some (.lst [.lst (ns.map D.int),.int k',.int z'])]⟩:=fun k' z' s2 s3 s4 a b=>by
  simp? only [at2,Hr]
  exact⟨Hs,PR _,last _ _ _ a b⟩
 refine a8 fun N hN => ?_
 refine uX fun A B hA hB => ?_
 simp? only [at2]
 split
 ·subst hA
  refine a8 fun N2 cG => ?_
  simp? only [g8]
  subst cG
  refine a8 fun N2 cG => ?_
  simp? only []
  subst cG
  refine a8 fun N2 cG => ?_
  have go:∀ (c:Int) (s4:Option DV),N2 ⟨[some (.o 0),some (.p (.int m)),some (.p (.int k)),some (.p (.int c)),s4],[some (.lst [.lst (ns.map D.int),.int k,.int z])]⟩:=fun c s4=>by
   subst cG
   simp? only [PL]
   refine⟨c,k,rfl,rfl,h2,by omega,fun z' => ?_⟩
   simp? only [Hr]
   subst hN
   exact rest _ _ _ _ _ (by omega) (by omega)
  refine uX fun A B hA hB => ?_
  simp? only [f7]
  split
  ·rename_i cu
   obtain⟨c,ec⟩:=Hq h2 (XD cu)
   subst hA
   simp? only [f7]
   rw[ec]
   exact go _ _
  ·subst hB
   refine uX fun A B hA hB => ?_
   simp? only [f7]
   split
   ·rename_i nv
    have nv:=XD nv
    obtain⟨c,ec⟩:=Hq (ns:=ns) (k:=(k * 5 + 3) % (ns.length:Int)) (Yc _ (by omega)) (XG _ nv)
    subst hA
    simp? only [f7]
    refine⟨.inr ⟨by decide,by decide⟩,nv,?_⟩
    rw[ec]
    exact⟨⟨by decide,by decide,by decide⟩,by show (0:Int) < 10 ^ 17 + k;omega,go _ _⟩
   ·subst hB
    exact go _ _
 ·subst hB hN
  exact rest _ _ _ _ _ (by omega) (by omega)
noncomputable def de (p:Int × Int):D := .tup [.int p.1,.int p.2]
structure dY (many:Int) (ps:List (Int × Int)):Prop where
 ends:∀ p∈ps,0 <= p.1/\p.1 < p.2/\p.2 < many
 ma:ps.Nodup
 jg:ps.length <= 66
theorem dY.sub {many:Int} {ps qs:List (Int × Int)} (h:dY many ps) (s:qs.Sublist ps):dY many qs :=
 ⟨fun p hp=>h.ends p (s.subset hp),h.ma.sublist s,XJ s.length_le h.jg⟩
noncomputable def u5:GD:=fun ys ar K=>∃ (n kind many:Int) (o:OV),ys=[.o 0,.p (.int kind),.p (.int many)]/\ar=[o]/\a7 n o/\n + 100 < 2 ^ 30/\1 <= many/\many <= 12/\∀ ps o',dY many ps->a7 (n + 67) o'->K (.n (ps.map de)) [o']
noncomputable def By:WS:=(au (aC 3 (mQ ag)) (au (bS (iB (ah (aa 2) ag)) (bA 4) (j6 (qy (aa 3) (ah (fZ (iB (ah (aa 4) ag)) [none,some 4] (bA 0) dE (gi (ah (aa 0) (ah (aa 1) ag)))) ag)))) (au (bE (dT (d2 (aa 1) (dC (.int 1)) oEq)) (aW (qg (A2 (ah (dC (.int 1)) (ah (aa 2) ag))) [none,some 0] (bA 0) dE (gi (ah (av 2 gz (ah (aa 1) (ah (aa 0) ag))) (ah (aa 0) ag))))) ft) (au (bE (dT (d2 (aa 1) (dC (.int 2)) oEq)) (au (aC 5 (fZ (iB (ah (d2 (aa 2) (dC (.int 1)) (oI fun i j => .int (i - j))) ag)) [none] (bA 0) dE (gi (ah (aa 0) (ah (d2 (aa 0) (dC (.int 1)) e7) ag))))) (aW (Bj (aa 5) (fZ (bP (aa 3)) [none,some 2] (bA 0) (j5 (dT (d2 (aa 0) (gi (ah (dC (.int 0)) (ah (d2 (aa 1) (dC (.int 1)) (oI fun i j => .int (i - j))) ag))) oEq)) (dT (d2 (aa 1) (dC (.int 2)) (oI fun i j => .bl (decide (j < i)))))) (aa 0))))) ft) (au (bE (dT (d2 (aa 1) (dC (.int 3)) oEq)) (aW (aa 3)) ft) (au (bE (dT (d2 (aa 1) (dC (.int 4)) oEq)) (aW (qg (bP (aa 3)) [none,some 0] (bA 0) (dT (d2 (av 2 gz (ah (aa 1) (ah (dC (.int 4)) ag))) (dC (.int 0)) oEq)) (aa 0))) ft) (au (bE (dT (d2 (aa 1) (dC (.int 5)) oEq)) (au (aC 6 (av 2 gz (ah (aa 0) (ah (d2 (aa 2) (dC (.int 1)) e7) ag)))) (aW (qg (bP (aa 3)) [none,some 6,some 0] (bA 0) (j5 (dT (d2 (d2 (d2 (aa 0) (dC (.int 0)) aP) (aa 1) oLt) (d2 (d2 (aa 0) (dC (.int 1)) aP) (aa 1) oLt) oEq)) (dT (d2 (av 2 gz (ah (aa 2) (ah (dC (.int 3)) ag))) (dC (.int 0)) (oI fun i j => .bl (decide (j < i)))))) (aa 0)))) ft) (aW (qg (bP (aa 3)) [none,some 0] (bA 0) (dT (d2 (av 2 gz (ah (aa 1) (ah (dC (.int 2)) ag))) (dC (.int 0)) oEq)) (aa 0))))))))))
theorem sub_snoc {α : Type} {zs ps:List α} {i:Nat} {x : α} (h:zs.Sublist (ps.take i)) (e:ps[i]? = some x):(zs ++ [x]).Sublist (ps.take (i + 1))/\zs.Sublist (ps.take (i + 1)):=by
 have:ps.take (i + 1)=ps.take i ++ [x]:=by rw[Yb,e];rfl
 rw[this]
 exact⟨h.append (q0r _),h.trans (q0v _ _)⟩
theorem PU {α : Type} {l:List α} {c : α} (h:l.Nodup) (hc:∀ x∈l,x=c):l.length <= 1:=by
 match l,h,hc with
 | [],_,_=>exact Xn _
 | [_],_,_=>exact we _
 | x :: y :: r,h,hc =>
  have:=(Xs.mp h).1 y (E6)
  exact absurd ((hc x E6).trans (hc y (E9 _ E6)).symm) this
theorem Bz {n:Int} {o:OV} {ps:List (Int × Int)} {t:WT} {K:List D->aB->Prop} {rest:List (Option DV)} {ev:Option OV} {bD:aB->Prop} (hc:∀ sl o',bD ⟨sl,[some o',ev]⟩) (hw:ps.length <= 66) (P:a7 n o) (hn:n + 70 < 2 ^ 30)
  (ht:∀ (p:Int × Int) (i:Nat) (o':OV) (Q:Bool->aB->Prop),p∈ps->i <= 66->a7 (n + i) o'->(∀ b j_,a7 (n + i + 1) j_->Q b ⟨some (.p (de p)) :: rest,[some j_,ev]⟩)->t ⟨some (.p (de p)) :: rest,[some o',ev]⟩ Q)
  (hr:gy 2 rest rest=rest)
  (fin:∀ (zs:List (Int × Int)) o',zs.Sublist ps->a7 (n + ps.length) o'->K (zs.map de) ⟨none :: rest,[some o',ev]⟩) :
  jJ ⟨none :: rest,[some o,ev]⟩ bD (bA 0) t (aa 0) K (ps.map de) [] ⟨none :: rest,[some o,ev]⟩:=by
 refine xm (fun i acc δ => ∃ (zs:List (Int × Int)) (o':OV),zs.Sublist (ps.take i)/\acc=zs.map de/\a7 (n + i) o' /\ δ = ⟨none :: rest,[some o',ev]⟩) ⟨[],o,q0r _,rfl,P.mono (by omega),rfl⟩ ?_ ?_
 ·rintro j d acc δ L hj ⟨zs,o',hz,rfl,P',rfl⟩ hL
  rw[E7] at hj
  obtain⟨p,hp,rfl⟩:=VV.mp hj
  have xx:j < ps.length:=(pV.mp hp).1
  refine⟨hc _ _,?_⟩
  show t ⟨some (.p (de p)) :: rest,[some o',ev]⟩ _
  refine ht p j o' _ (WN hp) (by omega) P' fun b j_ lF => ?_
  have hlen:(zs.map de).length < 1000:=by
   rw[pU]
   have:=hz.length_le
   rw[WQ] at this;omega
  have P3:a7 (n + ((j + 1:Nat):Int)) j_:=lF.mono (by omega)
  cases b with
  | true =>
   rw[VY rfl]
   refine⟨hlen,hL _ _ ⟨zs ++ [p],j_,(sub_snoc hz hp).1,by rw[WK];rfl,P3,?_⟩⟩
   show (⟨none :: gy 2 rest rest,_⟩:aB)=_
   rw[hr];rfl
  | false =>
   rw[MC (by decide)]
   refine hL _ _ ⟨zs,j_,(sub_snoc hz hp).2,rfl,P3,?_⟩
   show (⟨none :: gy 2 rest rest,_⟩:aB)=_
   rw[hr];rfl
 ·rintro acc δ ⟨zs,o',hz,rfl,P',rfl⟩
  rw[pU] at P' hz
  rw[Xj (we _)] at hz
  exact⟨hc _ _,fin zs o' hz P'⟩
theorem PV:∀ ys ar K',ys.length=3->u5 ys ar K'->By (dX ar.length K') ⟨ys.map some ++ List.replicate 4 none,ar.map some⟩:=by
 rintro ys ar K' - ⟨n,kind,many,o,rfl,rfl,P,hn,m1,gX,fin⟩
 obtain⟨mm,rfl⟩:∃ mm:Nat,many=mm:=⟨many.toNat,by omega⟩
 have BA:mm <= 12:=by omega
 unfold By
 have cy:dY mm (jI mm):=⟨fun p hp=>Aw hp,FI mm,FJ mm BA⟩
 refine a8 fun N hN => ?_
 simp? only []
 subst hN
 refine a8 fun N hN => ?_
 simp? only []
 refine⟨by omega,?_⟩
 refine jy (fun i δ => δ = ⟨[some (.o 0),some (.p (.int kind)),some (.p (.int mm)),some (.o 1),none,none,none],[some o,some (.lst ((jI i).map de))]⟩) rfl ?_ ?_
 ·rintro j d δ L hj rfl hL
  obtain⟨hj,rfl⟩:=jw hj
  simp? only []
  have e:(0 + (j:Int))=j:=by omega
  rw[e]
  refine⟨by omega,?_⟩
  refine l6 (fun d=>match d with
   | .int a=>de (a,j)
   | _ => .non) (by rw[jc];omega) trivial ?_ ?_
  ·intro d hd acc L' ha h
   obtain⟨i,hi⟩:=V0.mp hd
   obtain⟨hi,rfl⟩:=jw hi
   simp? only []
   exact⟨ha,h⟩
  ·have e2:(jI j).map de ++ (bY 0 (j:Int).toNat).map (fun d=>match d with
    | .int a=>de (a,j)
    | _ => .non)=(jI (j + 1)).map de:=by
    show _=(jI j ++ _).map de
    unfold bY
    rw[WK,WL,WL]
    congr 1
    refine W8 fun a _ => ?_
    simp[Function.comp]
   simp? only []
   have Wd:=FJ j (by omega)
   refine⟨by rw[jc];omega,?_⟩
   rw[e2]
   exact hL _ rfl
 ·rintro δ rfl
  refine⟨trivial,?_⟩
  subst hN
  have eL:((mm:Int)).toNat=mm:=by omega
  rw[jc,eL]
  dsimp only
  have back:∀ (ps:List (Int × Int)) (o':OV) (sl:List (Option DV)) (m:List (Option OV)),dY mm ps->a7 (n + 67) o'->iU 1 K' (.o (m.length + 1)) ⟨sl,some o' :: (m ++ [some (.lst (ps.map de))])⟩:=fun ps o' sl m h1 h2=>by
   refine⟨[o'],rfl,rfl,?_⟩
   show if m.length + 1 < 1 then _ else _
   rw[MC (by omega)]
   have:(some o' :: (m ++ [some (OV.lst (ps.map de))]))[m.length + 1]? = some (some (.lst (ps.map de))):=by
    rw[WR,Ww (we _),XB];rfl
   dsimp only
   rw[this]
   exact .inl (fin ps o' h1 h2)
  refine a8 fun N hN => ?_
  simp? only [az]
  split
  ·refine⟨by omega,?_⟩
   refine xm (fun i acc δ => ∃ (zs:List (Int × Int)) (o':OV),zs.length=i/\(∀ (q:Nat) (p:Int × Int),zs[q]? = some p->p.2=q + 1/\0 <= p.1/\p.1 < p.2)/\acc=zs.map de/\a7 (n + i) o' /\ δ = ⟨[none,some (.o 0)],[some o',some (.lst ((jI mm).map de))]⟩) ⟨[],o,rfl,fun q p e=>by simp at e,rfl,P.mono (by omega),rfl⟩ ?_ ?_
   ·rintro j d acc δ L hj ⟨zs,o',hz,hq,rfl,P',rfl⟩ hL
    obtain⟨hj,rfl⟩:=jw hj
    simp? only []
    refine⟨n + j,1 + j,o',rfl,rfl,P',by omega,by omega,by omega,fun r j_ r0 r1 lF => ?_⟩
    simp? only []
    refine⟨by omega,hL _ _ ⟨zs ++ [(r,1 + (j:Int))],j_,by rw[My,hz];rfl,fun q p e => ?_,by rw[WK];rfl,lF.mono (by omega),rfl⟩⟩
    by_cases c:q < zs.length
    ·rw[Wu c] at e
     exact hq q p e
    ·have hl:=(pV.mp e).1
     rw[My,W6] at hl
     have:q=zs.length:=by omega
     subst this
     rw[Ww (we _),XB] at e
     cases (show some (r,1 + (j:Int))=some p by simpa using e)
     exact⟨by show 1 + (j:Int)=_;omega,r0,r1⟩
   ·rintro acc δ ⟨zs,o',hz,hq,rfl,P',rfl⟩
    rw[jc] at hz P'
    refine⟨trivial,?_⟩
    refine back zs o' _ [_] ⟨fun p hp => ?_,?_,by omega⟩ (P'.mono (by omega))
    ·obtain⟨q,Ht⟩:=V0.mp hp
     have:=hq q p Ht
     have hl:=(pV.mp Ht).1
     omega
    ·refine YH.mpr fun i j hi hj je e => ?_
     have q1:=hq i _ (mM hi)
     have q2:=hq j _ (mM hj)
     rw[e] at q1
     omega
  subst hN
  refine a8 fun N hN => ?_
  simp? only [az]
  split
  ·clear hN
   refine⟨by omega,?_⟩
   refine l6 (fun d=>match d with
    | .int a=>de (a,a + 1)
    | _ => .non) (by rw[jc];omega) trivial ?_ ?_
   ·intro d hd acc L' ha h
    obtain⟨i,hi⟩:=V0.mp hd
    obtain⟨hi,rfl⟩:=jw hi
    simp? only []
    exact⟨ha,h⟩
   ·simp? only []
    refine uO (fun d=>az d (de (0,mm - 1)) && decide ((2:Int) < mm)) id (by rw[pU];have:=cy.jg;omega) rfl ?_ ?_
    ·intro d hd acc L' ha h h'
     obtain⟨p,hp,rfl⟩:=Wt.mp hd
     simp only[de] at h h'
     simp? only [de]
     split
     ·rename_i q1
      split
      ·rename_i q2
       exact⟨ha,h (by rw[q1,q2];rfl)⟩
      ·rename_i q2
       exact h' (by rw[q1,Bool.not_eq_true _ |>.mp q2];rfl)
     ·rename_i q1
      exact h' (by rw[Bool.not_eq_true _ |>.mp q1];rfl)
    ·simp? only []
     have er:(bY 0 ((mm:Int) - 1).toNat).map (fun d=>match d with
       | D.int a=>de (a,a + 1)
       | x=>D.non)=((List.range (mm - 1)).map fun i:Nat=>((i:Int),(i:Int) + 1)).map de:=by
      unfold bY
      rw[WL,WL]
      have:((mm:Int) - 1).toNat=mm - 1:=by omega
      rw[this]
      refine W8 fun a _ => ?_
      simp[Function.comp]
     have ef:(((jI mm).map de).filter fun d=>az d (de (0,mm - 1)) && decide ((2:Int) < mm))=((jI mm).filter fun p=>az (de p) (de (0,mm - 1)) && decide ((2:Int) < mm)).map de:=by
      rw[Z4];rfl
     rw[er,YU,ef,<-WK]
     have hf:∀ p∈(jI mm).filter (fun p=>az (de p) (de (0,mm - 1)) && decide ((2:Int) < mm)),p=(0,(mm:Int) - 1)/\(2:Int) < mm:=fun p hp=>by
      have:=(Xm.mp hp).2
      simp[de,az,cS] at this
      obtain⟨a,b⟩:=p
      simp at this ⊢
      omega
     have h1:((jI mm).filter (fun p=>az (de p) (de (0,mm - 1)) && decide ((2:Int) < mm))).length <= 1:=PU (cy.ma.sublist List.filter_sublist) fun p hp=>(hf p hp).1
     refine⟨by rw[jc,pU];omega,back _ o _ [_] ⟨fun p hp => ?_,?_,?_⟩ (P.mono (by omega))⟩
     ·rcases Xa.mp hp with hp | hp
      ·obtain⟨i,hi,rfl⟩:=Wt.mp hp
       have:=WJ.mp hi
       exact⟨by omega,by omega,by show (i:Int) + 1 < mm;omega⟩
      ·exact cy.ends p (Xm.mp hp).1
     ·refine Xr.mpr ⟨?_,cy.ma.sublist List.filter_sublist,fun a ha b hb e => ?_⟩
      ·refine XS.mpr (ZM.imp fun {a b} ne e=>ne ?_)
       have:=congrArg Prod.fst e
       exact Int.ofNat.inj this
      ·subst e
       obtain⟨i,hi,rfl⟩:=Wt.mp ha
       have:=hf _ hb
       have h2:=congrArg Prod.fst this.1
       have h3:=congrArg Prod.snd this.1
       simp at h2 h3
       omega
     ·rw[My,pU,Xl];omega
  subst hN
  refine a8 fun N hN => ?_
  simp? only [az]
  split
  ·exact⟨[o],rfl,rfl,.inl (fin _ _ cy (P.mono (by omega)))⟩
  subst hN
  refine a8 fun N hN => ?_
  simp? only [az]
  split
  ·refine Bz (fun _ _=>rfl) cy.jg P (by omega) (fun p i o' Q hp hi P' hQ => ?_) rfl fun zs o' hz P' => ?_
   ·simp? only [az]
    refine⟨n + i,4,o',rfl,rfl,P',by omega,by omega,by omega,fun r j_ r0 r1 lF => ?_⟩
    simp? only []
    exact hQ _ _ lF
   ·exact back zs o' _ [_] (cy.sub hz) (P'.mono (by have:=cy.jg;omega))
  subst hN
  refine a8 fun N hN => ?_
  simp? only [az]
  split
  ·refine⟨n,mm + 1,o,rfl,rfl,P,by omega,by omega,by omega,fun half o1 r0 r1 P1 => ?_⟩
   simp? only []
   refine Bz (n:=n + 1) (fun _ _=>rfl) cy.jg P1 (by omega) (fun p i o' Q hp hi P' hQ => ?_) rfl fun zs o' hz P' => ?_
   ·simp? only [az,de,f7,g8]
    split
    ·refine⟨n + 1 + i,3,o',rfl,rfl,P',by omega,by omega,by omega,fun r j_ r0 r1 lF => ?_⟩
     simp? only []
     exact hQ _ _ lF
    ·exact hQ _ _ (P'.mono (by omega))
   ·exact back zs o' _ [_] (cy.sub hz) (P'.mono (by have:=cy.jg;omega))
  subst hN
  simp? only [az]
  refine Bz (fun _ _=>rfl) cy.jg P (by omega) (fun p i o' Q hp hi P' hQ => ?_) rfl fun zs o' hz P' => ?_
  ·simp? only [az]
   refine⟨n + i,2,o',rfl,rfl,P',by omega,by omega,by omega,fun r j_ r0 r1 lF => ?_⟩
   simp? only []
   exact hQ _ _ lF
  ·exact back zs o' _ [_] (cy.sub hz) (P'.mono (by have:=cy.jg;omega))
theorem xB {α : Type}:∀ {l:List α} {j:Nat} (h:j < l.length),List.Perm (l[j] :: l.eraseIdx j) l
 | x :: r,0,h=>Yz _
 | x :: r,j + 1,h=>by
  have hj:j < r.length:=by simpa using h
  show List.Perm (r[j] :: x :: r.eraseIdx j) (x :: r)
  exact (List.Perm.swap x r[j] _).trans ((xB hj).cons x)
theorem xC {α β : Type} (f : α -> β):∀ (l:List α) (j:Nat),(l.map f).eraseIdx j=(l.eraseIdx j).map f
 | [],_=>rfl
 | _ :: _,0=>rfl
 | x :: r,j + 1=>by
  show f x :: (r.map f).eraseIdx j=f x :: (r.eraseIdx j).map f
  rw[xC f r j]
noncomputable def bM (y:Int × Int × Int):D := .tup [.int y.1,.int y.2.1,.int y.2.2]
noncomputable def aR (m:Int) (ys:List (Int × Int × Int)):D := .tup [.int m,.tup (ys.map bM)]
noncomputable def qF (y:Int × Int × Int):Int × Int:=(y.1,y.2.1)
theorem dY.perm {many:Int} {ps qs:List (Int × Int)} (h:dY many ps) (p:qs.Perm ps):dY many qs :=
 ⟨fun x hx=>h.ends x (p.mem_iff.mp hx),p.nodup_iff.mpr h.ma,by rw[p.length_eq];exact h.jg⟩
noncomputable def u6:GD:=fun ys ar K=>∃ (n d6 most:Int) (o:OV),ys=[.o 0,.p (.int d6),.p (.int most)]/\ar=[o]/\a7 n o/\n + 400 < 2 ^ 30/\1 <= d6/\d6 <= 12/\0 <= most/\most <= 30 ∧
 ∀ m ws o',dJ m ws->m <= d6->(ws.length:Int) <= most->a7 (n + 300) o'->K (.p (aR m ws)) [o']
noncomputable def BB:WS:=(au (aC 3 (av 2 gz (ah (aa 0) (ah (dC (.int 8)) ag)))) (au (aC 4 (av 2 gz (ah (aa 0) (ah (dC (.int 4)) ag)))) (au (aC 5 (d2 (dC (.int 1)) (av 2 gz (ah (aa 0) (ah (aa 1) ag))) e7)) (au (aC 6 (ur 3 u5 (ah (aa 0) (ah (aa 3) (ah (aa 5) ag))))) (au (aC 7 (mQ ag)) (au (bS (iB (ah (dN (ah (aa 2) (ah (dN (ah (aa 6) ag) cf) ag)) sd) ag)) (bA 8) (au (j7 (uI (aa 6) (ah (av 2 gz (ah (aa 0) (ah (dN (ah (aa 6) ag) cf) ag))) ag)) (ly 2 (ig (bA 9) (ig (bA 10) kA)))) (au (aC 11 (d2 (fM (ah (dC (.int 7)) (ah (av 2 gz (ah (aa 0) (ah (dC (.int 3)) ag))) (ah (d2 (d2 (dC (.int 10)) (dC (.int 9)) (eZ h9 fun i j => .int (i ^ j.toNat))) (av 2 gz (ah (aa 0) (ah (dC (.int 2)) ag))) (oI fun i j => .int (i - j))) (ah (av 2 gz (ah (aa 0) (ah (d2 (d2 (dC (.int 10)) (dC (.int 9)) (eZ h9 fun i j => .int (i ^ j.toNat))) (dC (.int 1)) e7) ag))) ag))))) (aa 4) aP)) (j6 (iX (aa 7) (ah (gi (ah (aa 9) (ah (aa 10) (ah (aa 11) ag)))) ag)))))) (aW (gi (ah (aa 5) (ah (dN (ah (aa 7) ag) xc) ag))))))))))
theorem PX:∀ ys ar K',ys.length=3->u6 ys ar K'->BB (dX ar.length K') ⟨ys.map some ++ List.replicate 9 none,ar.map some⟩:=by
 rintro ys ar K' - ⟨n,d6,most,o,rfl,rfl,P,hn,h1,Hu,s0,We,fin⟩
 unfold BB
 refine a8 fun N hN => ?_
 simp? only []
 refine⟨n,8,o,rfl,rfl,P,by omega,by omega,by omega,fun kind o1 _ _ P1 => ?_⟩
 simp? only []
 subst hN
 refine a8 fun N hN => ?_
 simp? only []
 refine⟨n + 1,4,o1,rfl,rfl,P1,by omega,by omega,by omega,fun fh o2 p0 p4 P2 => ?_⟩
 simp? only []
 subst hN
 refine a8 fun N hN => ?_
 simp? only []
 refine⟨n + 1 + 1,d6,o2,rfl,rfl,P2,by omega,by omega,by omega,fun mm o3 m0 mh P3 => ?_⟩
 simp? only []
 subst hN
 refine a8 fun N hN => ?_
 simp? only []
 refine⟨n + 1 + 1 + 1,kind,1 + mm,o3,rfl,rfl,P3,by omega,by omega,by omega,fun ps o4 Hv P4 => ?_⟩
 simp? only []
 subst hN
 refine a8 fun N hN => ?_
 simp? only []
 subst hN
 refine a8 fun N hN => ?_
 have Wf:=Hv.jg
 simp? only []
 refine⟨by omega,?_⟩
 have ek:(min most (ps.length:Int)).toNat=min most.toNat ps.length:=by omega
 rw[ek]
 generalize hk:min most.toNat ps.length=k
 refine jy (fun i δ => ∃ (qs:List (Int × Int)) (ws:List (Int × Int × Int)) (o':OV),qs.length + i=ps.length/\ws.length=i/\dY (1 + mm) (ws.map qF ++ qs)/\(∀ y∈ws,0 <= y.2.2/\y.2.2 <= 1000000000)/\a7 (n + 70 + 4 * i) o' ∧
  δ = ⟨[some (.o 0),some (.p (.int d6)),some (.p (.int most)),some (.p (.int kind)),some (.p (.int fh)),some (.p (.int (1 + mm))),some (.o 1),some (.o 2),none,none,none,none],[some o',some (.lst (qs.map de)),some (.lst (ws.map bM))]⟩)
  ⟨ps,[],o4,by omega,rfl,Hv,fun y hy=>absurd hy WV,P4.mono (by omega),rfl⟩ ?_ ?_
 ·rintro j d δ L hj ⟨qs,ws,o',hq,hw,hp,hy,P',rfl⟩ hL
  obtain⟨hj,rfl⟩:=jw hj
  have q0:0 < qs.length:=by omega
  have PY:=hp.jg
  rw[My,pU] at PY
  refine⟨trivial,?_⟩
  simp only[bA,Xb,Xc]
  refine a8 fun N2 cG => ?_
  simp? only []
  refine⟨n + 70 + 4 * j,qs.length,o',rfl,rfl,P',by omega,by omega,by omega,fun r o1 r0 r1 P1 => ?_⟩
  obtain⟨rn,rfl⟩:∃ rn:Nat,r=rn:=⟨r.toNat,by omega⟩
  have hr:rn < qs.length:=by omega
  have ix:seqIndex? (rn:Int) qs.length=some rn:=Ax hr
  have eq:(qs.map de)[rn]? = some (.tup [.int qs[rn].1,.int qs[rn].2]):=by rw[E7,mM hr];rfl
  simp? only [ix,eq]
  refine⟨⟨by omega,by omega⟩,?_⟩
  subst cG
  refine a8 fun N2 cG => ?_
  simp only[aC,d2,fM]
  refine xA fun K3 qG => ?_
  simp? only []
  subst qG
  refine xA fun K3 qG => ?_
  simp? only []
  refine⟨n + 70 + 4 * j + 1,3,o1,rfl,rfl,P1,by omega,by omega,by omega,fun a1 o2 Wg Wh P2 => ?_⟩
  simp? only []
  subst qG
  refine xA fun K3 qG => ?_
  simp? only []
  refine⟨⟨by decide,by decide,by decide⟩,n + 70 + 4 * j + 1 + 1,2,o2,rfl,rfl,P2,by omega,by omega,by omega,fun a2 o3 Wi Wj P3 => ?_⟩
  simp? only []
  subst qG
  refine xA fun K3 qG => ?_
  simp? only []
  refine⟨⟨by decide,by decide,by decide⟩,n + 70 + 4 * j + 1 + 1 + 1,10 ^ Int.toNat 9 + 1,o3,rfl,rfl,P3,by omega,by decide,by decide,fun a3 o4 Wk PZ P4 => ?_⟩
  simp? only []
  subst qG
  simp? only []
  have e9:(10:Int) ^ Int.toNat 9=1000000000:=by decide
  rw[e9] at PZ ⊢
  obtain⟨pr,P0,P5,P6⟩:∃ pr:Int,eB [D.int 7,D.int a1,D.int (1000000000 - a2),D.int a3] fh=some (.int pr)/\0 <= pr/\pr <= 1000000000:=by
   have:fh=0\/fh=1\/fh=2\/fh=3:=by omega
   rcases this with rfl | rfl | rfl | rfl
   ·exact⟨7,rfl,by omega,by omega⟩
   ·exact⟨a1,rfl,by omega,by omega⟩
   ·exact⟨1000000000 - a2,rfl,by omega,by omega⟩
   ·exact⟨a3,rfl,by omega,by omega⟩
  rw[P0]
  show N2 _
  subst cG
  simp? only []
  refine⟨by omega,hL _ ⟨qs.eraseIdx rn,ws ++ [(qs[rn].1,qs[rn].2,pr)],o4,?_,?_,?_,?_,P4.mono (by omega),?_⟩⟩
  ·rw[YA hr];omega
  ·rw[My,hw];rfl
  ·refine hp.perm ?_
   rw[WK,X8]
   refine Y3 _ ?_
   exact xB hr
  ·intro y xD
   rcases Xa.mp xD with h | h
   ·exact hy y h
   ·rw[Wr.mp h];exact⟨P5,P6⟩
  ·rw[WK,xC];rfl
 ·rintro δ ⟨qs,ws,o',hq,hw,hp,hy,P',rfl⟩
  refine⟨trivial,?_⟩
  subst hN
  simp? only []
  rw[jc] at hw P'
  refine⟨[o'],rfl,rfl,?_⟩
  refine fin (1 + mm) ws o' ⟨by omega,by omega,by omega,fun y xD => ?_,?_⟩ (by omega) (by omega) (P'.mono (by omega))
  ·have:=hp.ends (qF y) (Xk _ (Wt.mpr ⟨y,xD,rfl⟩))
   have h2:=hy y xD
   simp only[qF] at this
   omega
  ·exact (Xr.mp hp.ma).1
end LJ
namespace L2
open PySem PySem.Spec PyProof.Rows
variable [aJ]
noncomputable def xE:List D->(D->Prop)->Prop
 | [.lst ds],K=>match oE ds with
  | some ps=>(ps.length <= 30/\∀ p∈ps,0 <= p.1/\p.1 < p.2/\p.2 < 12)/\K (.int (g7 ps ps.length).length)
  | none=>False
 | _,_=>False
section
variable {X:Cx} {fa:WA}
theorem P7 {a:Expr} {p1 p2 q1 q2:Pos} (hc:X.calm=true) (hu:X.A.units + 64 < cLine) (qu:Gl X "len") (hl:X.mg "len" = none) (qv:bootBuiltins "len" = some (.builtin "len")) (lC:Gl X "set") (hr:X.mg "set" = none) (lD:bootBuiltins "set" = some (.type "set")) (ha:JA X [a] (cx fa))
  (he:starEach [a] X.env=[(false,eval a X.env)]:=by rfl) (qw:starEach [.Call (.Name "set" p2) [a] [] q2] X.env=[(false,eval (.Call (.Name "set" p2) [a] [] q2) X.env)]:=by rfl):JE X (.Call (.Name "len" p1) [.Call (.Name "set" p2) [a] [] q2] [] q1) (tD (dN fa xE)) :=
 (uc (NP) qu hl qv (iQ (lZ (Px hc hu) lC hr lD ha (he:=he)) bp) (he:=qw)).weak fun σ H Q h0_ => el7 h0_ fun F ad δ K S q k =>⟨F,ad,δ,_,S,q,fun xs δ1 h1 vs F1 aS H1 E1 S1 V1=>by
  obtain⟨ds,h2,j3⟩:=rM S1 V1 h1
  unfold xE at h2
  split at h2
  ·split at h2
   ·rename_i es ps e
    obtain⟨v,rfl,a,vs,rfl,g1,g2⟩:=dg j3
    rw[Hj e] at g2
    obtain⟨as,rfl,hl,g⟩:=Hn g2
    refine⟨a,as,ps,rfl,bj.of g1,hl,fun i b k' e1 e2=>S1.sub _ _ (g i b k' e1 e2),h2.1.2,h2.1.1,fun p hp=>⟨p,(g7 ps ps.length).length,rfl,bK,by have:=h2.1.1;have:=Br ps ps.length;omega,?_⟩⟩
    have s1:aA H1 (upd H1 p (k9 p (g7 ps ps.length).length)):=cR hp
    exact k _ _ h2.2 _ _ _ _ (E1.trans (Ext.al S1 s1)) (S1.al s1) rfl
   ·exact h2.elim
  ·exact h2.elim⟩
end
end L2
namespace LJ
open PySem L2
variable [aJ]
noncomputable def Hw:D->Bool
 | .int _=>true
 | _=>false
noncomputable def ka:D->Int->Int->Bool
 | .int i,lo,hi=>decide (lo <= i) && decide (i <= hi)
 | _,_,_=>false
noncomputable def ny:D->Int->Bool
 | .tup ds,n=>(ds.length:Int) == n
 | _,_=>false
theorem dF {K:RV->List OV->Prop} {d:D} {sl:List (Option DV)} (h:K (.p d) []):iU 0 K (.p d) ⟨sl,[]⟩:=⟨[],rfl,rfl,h⟩
noncomputable def u7:GD:=fun ys ar K=>∃ d,ys=[.p d]/\ar=[]/\K (.p (.bl (Hw d))) []
noncomputable def BC:WS:=(aW (oh (d1 (aa 0) (jx "int")) (AK (d1 (aa 0) (jx "bool")))))
theorem P8:∀ ys ar K',ys.length=1->u7 ys ar K'->BC (dX ar.length K') ⟨ys.map some ++ List.replicate 0 none,ar.map some⟩:=by
 rintro ys ar K' - ⟨d,rfl,rfl,k⟩
 unfold BC
 simp? only []
 cases d<;>simp only[gW,eC]<;>exact dF k
noncomputable def kJ:GD:=fun ys ar K=>∃ d lo hi,ys=[.p d,.p (.int lo),.p (.int hi)]/\ar=[]/\K (.p (.bl (ka d lo hi))) []
noncomputable def BE:WS:=(aW (oh (av 1 u7 (ah (aa 0) ag)) (Bb (aa 1) (aa 0) (aa 2) (oI fun i j => .bl (decide (i <= j))) (oI fun i j => .bl (decide (i <= j))))))
theorem P9:∀ ys ar K',ys.length=3->kJ ys ar K'->BE (dX ar.length K') ⟨ys.map some ++ List.replicate 0 none,ar.map some⟩:=by
 rintro ys ar K' - ⟨d,lo,hi,rfl,rfl,k⟩
 unfold BE
 simp? only []
 refine⟨d,rfl,rfl,?_⟩
 cases d<;>simp? only [Hw,ka] at k ⊢ <;> first | exact dF k | skip
 rename_i i
 by_cases c:lo <= i
 ·rw[WC c] at k ⊢
  simp only[ZW] at k
  exact dF k
 ·rw[Wz c] at k ⊢
  simp only[q1a] at k
  exact dF k
noncomputable def qH:GD:=fun ys ar K=>∃ d n,ys=[.p d,.p (.int n)]/\ar=[]/\K (.p (.bl (ny d n))) []
noncomputable def BF:WS:=(aW (oh (d1 (aa 0) (jx "tuple")) (d2 (dN (ah (aa 0) ag) cf) (aa 1) oEq)))
theorem P_:∀ ys ar K',ys.length=2->qH ys ar K'->BF (dX ar.length K') ⟨ys.map some ++ List.replicate 0 none,ar.map some⟩:=by
 rintro ys ar K' - ⟨d,n,rfl,rfl,k⟩
 unfold BF
 simp? only []
 cases d<;>simp? only [gW,eC,ny,az] at k ⊢ <;> exact dF k
noncomputable def Hx (m:Int):D->D->Bool
 | .int i,b=>ka b (i + 1) (m - 1)
 | _,_=>false
noncomputable def u9 (m:Int) (a b:D):Bool:=ka a 0 (m - 1) && Hx m a b
theorem u_ {d:D} {lo hi:Int} (h:ka d lo hi=true):∃ i,d = .int i/\lo <= i/\i <= hi:=by
 cases d with
 | int i =>
  have h:(decide (lo <= i) && decide (i <= hi))=true:=h
  rw[Xq,W5,W5] at h
  exact⟨i,rfl,h⟩
 | _=>cases h
noncomputable def va:GD:=fun ys ar K=>∃ m a b,ys=[.p (.int m),.p a,.p b]/\ar=[]/\K (.p (.bl (u9 m a b))) []
noncomputable def BG:WS:=(aW (oh (av 3 kJ (ah (aa 1) (ah (dC (.int 0)) (ah (d2 (aa 0) (dC (.int 1)) (oI fun i j => .int (i - j))) ag)))) (av 3 kJ (ah (aa 2) (ah (d2 (aa 1) (dC (.int 1)) e7) (ah (d2 (aa 0) (dC (.int 1)) (oI fun i j => .int (i - j))) ag))))))
theorem Qa:∀ ys ar K',ys.length=3->va ys ar K'->BG (dX ar.length K') ⟨ys.map some ++ List.replicate 0 none,ar.map some⟩:=by
 rintro ys ar K' - ⟨m,a,b,rfl,rfl,k⟩
 unfold BG
 simp? only []
 refine⟨a,0,m - 1,rfl,rfl,?_⟩
 simp? only []
 unfold u9 at k
 cases q:ka a 0 (m - 1)
 ·rw[q] at k
  exact dF k
 ·rw[q] at k
  obtain⟨i,rfl,_,_⟩:=u_ q
  simp? only [ZW,Hx] at k ⊢
  refine⟨b,i + 1,m - 1,rfl,rfl,?_⟩
  simp? only []
  exact dF k
noncomputable def cU (m:Int):D->Bool
 | .tup [a,b,p]=>u9 m a b && ka p 0 1000000000
 | _=>false
noncomputable def vb:GD:=fun ys ar K=>∃ m d,ys=[.p (.int m),.p d]/\ar=[]/\K (.p (.bl (cU m d))) []
noncomputable def BH:WS:=(au (bE (gN (dT (av 2 qH (ah (aa 1) (ah (dC (.int 3)) ag))))) (aW (dC (.bl false))) ft) (aW (oh (av 3 va (ah (aa 0) (ah (d2 (aa 1) (dC (.int 0)) aP) (ah (d2 (aa 1) (dC (.int 1)) aP) ag)))) (av 3 kJ (ah (d2 (aa 1) (dC (.int 2)) aP) (ah (dC (.int 0)) (ah (dC (.int 1000000000)) ag)))))))
theorem Qb {m:Int} {d:D} (h:ny d 3=false):cU m d=false:=by
 unfold cU
 split
 ·exact absurd h (by simp[ny])
 ·rfl
theorem BI {d:D} (h:ny d 3=true):∃ a b c,d = .tup [a,b,c]:=by
 cases d with
 | tup ds =>
  have h:((ds.length:Int) == 3)=true:=h
  have h:=XU h
  match ds,h with
  | [a,b,c],_=>exact⟨a,b,c,rfl⟩
  | [],h=>simp at h
  | [_],h=>simp at h
  | [_,_],h=>simp at h
  | _ :: _ :: _ :: _ :: r,h=>simp at h;omega
 | _=>cases h
theorem BJ {d:D} (h:ny d 2=true):∃ a b,d = .tup [a,b]:=by
 cases d with
 | tup ds =>
  have h:((ds.length:Int) == 2)=true:=h
  have h:=XU h
  match ds,h with
  | [a,b],_=>exact⟨a,b,rfl⟩
  | [],h=>simp at h
  | [_],h=>simp at h
  | _ :: _ :: _ :: r,h=>simp at h;omega
 | _=>cases h
theorem Qc:∀ ys ar K',ys.length=2->vb ys ar K'->BH (dX ar.length K') ⟨ys.map some ++ List.replicate 0 none,ar.map some⟩:=by
 rintro ys ar K' - ⟨m,d,rfl,rfl,k⟩
 unfold BH
 refine a8 fun N hN => ?_
 simp? only []
 refine⟨d,3,rfl,rfl,?_⟩
 simp? only []
 cases q:ny d 3
 ·rw[Qb q] at k
  simp only[q1c,YM]
  exact dF k
 ·simp only[YO,WD,XE]
  subst hN
  obtain⟨a,b,c,rfl⟩:=BI q
  simp? only [f7,g8,at2]
  refine⟨m,a,b,rfl,rfl,?_⟩
  simp? only [cU] at k ⊢
  cases q2:u9 m a b
  ·rw[q2] at k
   exact dF k
  ·rw[q2] at k
   refine⟨c,0,1000000000,rfl,rfl,?_⟩
   simp? only [ZW] at k ⊢
   exact dF k
noncomputable def pairOf:D->Int × Int
 | .tup [.int i,.int j,_]=>(i,j)
 | _=>(0,0)
theorem Hy {m:Int} {d:D} (h:cU m d=true):∃ i j p,d = .tup [.int i,.int j,.int p]/\0 <= i/\i < j/\j < m/\0 <= p/\p <= 1000000000:=by
 unfold cU at h
 split at h
 ·rename_i a b p
  rw[Xq] at h
  obtain⟨h1,h2⟩:=h
  unfold u9 at h1
  rw[Xq] at h1
  obtain⟨i,rfl,i0,i1⟩:=u_ h1.1
  have h3:ka b (i + 1) (m - 1)=true:=h1.2
  obtain⟨j,rfl,j0,j1⟩:=u_ h3
  obtain⟨p',rfl,p0,p1⟩:=u_ h2
  exact⟨i,j,p',rfl,i0,by omega,by omega,p0,p1⟩
 ·cases h
noncomputable def qI (m:Int):D->Bool
 | .tup ws=>decide (ws.length <= 30) && (ws.all (cU m) && decide ((ws.map pairOf).Nodup))
 | _=>false
noncomputable def vc:GD:=fun ys ar K=>∃ m d,ys=[.p (.int m),.p d]/\ar=[]/\m <= 12/\K (.p (.bl (qI m d))) []
noncomputable def BK:WS:=(au (bE (qb (gN (dT (d1 (aa 1) (jx "tuple")))) (dT (d2 (dN (ah (aa 1) ag) cf) (dC (.int 30)) (oI fun i j => .bl (decide (j < i)))))) (aW (dC (.bl false))) ft) (au (bE (gN (dT (dN (ah (fZ (bP (aa 1)) [none,some 0] (bA 0) dE (av 2 vb (ah (aa 1) (ah (aa 0) ag)))) ag) nh))) (aW (dC (.bl false))) ft) (aW (d2 (dN (ah (fZ (bP (aa 1)) [none] (bA 0) dE (iY (aa 0) iW (oz (dC (.int 2))))) ag) xE) (dN (ah (aa 1) ag) cf) oEq))))
theorem Qd:∀ ys ar K',ys.length=2->vc ys ar K'->BK (dX ar.length K') ⟨ys.map some ++ List.replicate 0 none,ar.map some⟩:=by
 rintro ys ar K' - ⟨m,d,rfl,rfl,hm,k⟩
 unfold BK
 refine a8 fun N hN => ?_
 by_cases ht:∃ ws,d = .tup ws
 ·obtain⟨ws,rfl⟩:=ht
  simp? only [gW,show eC "tuple" "tuple" = true from rfl]
  by_cases Hz:(30:Int) < ws.length
  ·rw[VY (WC Hz)]
   have:qI m (.tup ws)=false:=by
    show (decide (ws.length <= 30) && _)=false
    rw[Wz (by omega)];rfl
   rw[this] at k
   exact dF k
  ·rw[MC (by rw[Wz Hz];decide)]
   subst hN
   have vd:ws.length <= 30:=by omega
   refine a8 fun N hN => ?_
   simp? only []
   refine l6 (fun d => .bl (cU m d)) (by omega) trivial ?_ ?_
   ·intro d hd acc L ha h
    simp? only []
    refine⟨m,d,rfl,rfl,?_⟩
    simp? only []
    exact⟨ha,h⟩
   ·have e:qt (ws.map fun d=>D.bl (cU m d))=some (ws.map (cU m)):=by
     have:=Gy (ws.map (cU m))
     rw[WL] at this
     exact this
    simp? only [e]
    have ea:(ws.map (cU m)).all id=ws.all (cU m):=by rw[List.all_map];rfl
    rw[ea]
    cases q:ws.all (cU m)
    ·have:qI m (.tup ws)=false:=by
      show (decide (ws.length <= 30) && (ws.all (cU m) && _))=false
      rw[q];simp
     rw[this] at k
     exact dF k
    ·simp only[YO,WD,XE]
     subst hN
     have hw:∀ w∈ws,cU m w=true:=Yf.mp q
     simp? only []
     refine l6 (fun d => .tup [.int (pairOf d).1,.int (pairOf d).2]) (by omega) trivial ?_ ?_
     ·intro d hd acc L ha h
      obtain⟨i,j,p,rfl,_⟩:=Hy (hw d hd)
      have ec:cutD [D.int i,D.int j,D.int p] none (some 2)=[D.int i,D.int j]:=by
       unfold cutD;rfl
      simp? only [ec]
      exact⟨ha,h⟩
     ·have ep:oE (ws.map fun d=>D.tup [.int (pairOf d).1,.int (pairOf d).2])=some (ws.map pairOf):=by
       have:=Hk (ws.map pairOf)
       rw[WL] at this
       exact this
      have kk:qI m (.tup ws)=decide ((ws.map pairOf).Nodup):=by
       show (decide (ws.length <= 30) && (ws.all (cU m) && _))=_
       rw[q,WC vd];rfl
      rw[kk] at k
      simp? only [xE,ep,az]
      refine⟨⟨vd,fun p hp => ?_⟩,dF ?_⟩
      ·obtain⟨w,Qe,rfl⟩:=Wt.mp hp
       obtain⟨i,j,p,rfl,a1,a2,a3,_⟩:=Hy (hw w Qe)
       exact⟨a1,a2,by show j < 12;omega⟩
      ·have:(((g7 (ws.map pairOf) ws.length).length:Int) == (ws.length:Int))=decide ((ws.map pairOf).Nodup):=by
        by_cases c:(ws.map pairOf).Nodup
        ·have e2:=Hl c (ws.map pairOf).length (we _)
         rw[pU] at e2
         rw[WC c,e2,WQ,pU,Nat.min_self]
         simp
        ·rw[Wz c]
         refine beq_false_of_ne fun z=>c (Pu ?_)
         rw[pU];omega
       rw[this];exact k
 ·have:qI m d=false:=by
   cases d with
   | tup ws=>exact absurd ⟨ws,rfl⟩ ht
   | _=>rfl
  rw[this] at k
  cases d with
  | tup ws=>exact absurd ⟨ws,rfl⟩ ht
  | _=>simp? only [gW];exact dF k
noncomputable def lG:D->Bool
 | .tup [m,ws]=>ka m 1 12 && (match m with
  | .int i=>qI i ws
  | _=>false)
 | _=>false
noncomputable def ve:GD:=fun ys ar K=>∃ d,ys=[.p d]/\ar=[]/\K (.p (.bl (lG d))) []
noncomputable def BL:WS:=(au (bE (gN (dT (av 2 qH (ah (aa 0) (ah (dC (.int 2)) ag))))) (aW (dC (.bl false))) ft) (aW (oh (av 3 kJ (ah (d2 (aa 0) (dC (.int 0)) aP) (ah (dC (.int 1)) (ah (dC (.int 12)) ag)))) (av 2 vc (ah (d2 (aa 0) (dC (.int 0)) aP) (ah (d2 (aa 0) (dC (.int 1)) aP) ag))))))
theorem Qf:∀ ys ar K',ys.length=1->ve ys ar K'->BL (dX ar.length K') ⟨ys.map some ++ List.replicate 0 none,ar.map some⟩:=by
 rintro ys ar K' - ⟨d,rfl,rfl,k⟩
 unfold BL
 refine a8 fun N hN => ?_
 simp? only []
 refine⟨d,2,rfl,rfl,?_⟩
 simp? only []
 cases q:ny d 2
 ·have:lG d=false:=by
   unfold lG
   split
   ·exact absurd q (by simp[ny])
   ·rfl
  rw[this] at k
  simp only[q1c,YM]
  exact dF k
 ·simp only[YO,WD,XE]
  subst hN
  obtain⟨a,b,rfl⟩:=BJ q
  simp? only [f7,g8]
  refine⟨a,1,12,rfl,rfl,?_⟩
  simp? only [lG] at k ⊢
  cases q2:ka a 1 12
  ·rw[q2] at k
   exact dF k
  ·rw[q2] at k
   obtain⟨i,rfl,_,hi⟩:=u_ q2
   refine⟨i,b,rfl,rfl,hi,?_⟩
   simp? only [ZW] at k ⊢
   exact dF k
noncomputable def a9 (ns:List Int):D := .lst (ns.map D.int)
noncomputable def fw (fs:List Int) (i j:Nat):List Int:=fs.map fun x=>if x=max (fs.getD i 0) (fs.getD j 0) then min (fs.getD i 0) (fs.getD j 0) else x
theorem sx (fs:List Int) (i j:Nat):(fw fs i j).length=fs.length:=by unfold fw;rw[pU]
theorem jf {ns:List Int} {i:Nat} (h:i < ns.length):eB (ns.map D.int) (i:Int)=some (.int (ns.getD i 0)):=by
 refine n5 ?_
 rw[E7,mM h,rG,mM h];rfl
theorem gQ {K:RV->List OV->Prop} {d:D} {sl:List (Option DV)} {mu:List (Option OV)} (h:K (.p d) []):iU 0 K (.p d) ⟨sl,mu⟩:=⟨[],rfl,rfl,h⟩
noncomputable def oG:GD:=fun ys ar K=>∃ (fs:List Int) (i j:Nat),ys=[.p (a9 fs),.p (.int i),.p (.int j)]/\ar=[]/\i < fs.length/\j < fs.length/\fs.length <= 12/\K (.p (a9 (fw fs i j))) []
noncomputable def BM:WS:=(au (aC 3 (dN (ah (d2 (aa 0) (aa 1) aP) (ah (d2 (aa 0) (aa 2) aP) ag)) xf)) (au (aC 4 (dN (ah (d2 (aa 0) (aa 1) aP) (ah (d2 (aa 0) (aa 2) aP) ag)) sd)) (aW (fZ (bP (aa 0)) [none,some 4,some 3] (bA 0) dE (qc (dT (d2 (aa 0) (aa 2) oEq)) (aa 1) (aa 0))))))
theorem Qg:∀ ys ar K',ys.length=3->oG ys ar K'->BM (dX ar.length K') ⟨ys.map some ++ List.replicate 2 none,ar.map some⟩:=by
 rintro ys ar K' - ⟨fs,i,j,rfl,rfl,hi,hj,Hu,k⟩
 have a1:=jf hi
 have a2:=jf hj
 unfold BM a9
 refine a8 fun N hN => ?_
 simp? only [a1,a2]
 subst hN
 refine a8 fun N hN => ?_
 simp? only [a1,a2]
 subst hN
 simp? only []
 refine l6 (fun d=>match d with
  | .int x => .int (if x=max (fs.getD i 0) (fs.getD j 0) then min (fs.getD i 0) (fs.getD j 0) else x)
  | _ => .non) (by rw[pU];omega) trivial ?_ ?_
 ·intro d hd acc L ha h
  obtain⟨x,_,rfl⟩:=Wt.mp hd
  simp? only []
  cases q:az (.int x) (.int (max (fs.getD i 0) (fs.getD j 0)))
  ·have:¬ x=max (fs.getD i 0) (fs.getD j 0):=fun z=>by rw[z,jK] at q;cases q
   simp only[this,XE] at h
   exact⟨ha,h⟩
  ·have:x=max (fs.getD i 0) (fs.getD j 0):=by simp only[az] at q;exact XU q
   simp only[this,YM] at h
   exact⟨ha,h⟩
 ·refine gQ ?_
  have e:(fs.map D.int).map (fun d=>match d with
   | .int x=>D.int (if x=max (fs.getD i 0) (fs.getD j 0) then min (fs.getD i 0) (fs.getD j 0) else x)
   | _ => .non)=(fw fs i j).map D.int:=by
   unfold fw
   rw[WL,WL];rfl
  rw[e]
  exact k
noncomputable def bQ (ws:List (Int × Int × Int)) (n:Int):Nat × Nat:=((ws.getD n.toNat (0,0,0)).1.toNat,(ws.getD n.toNat (0,0,0)).2.1.toNat)
noncomputable def gn (ws:List (Int × Int × Int)) (fs:List Int) (ns:List Int):List Int:=ns.foldl (fun fs n=>fw fs (bQ ws n).1 (bQ ws n).2) fs
theorem xF (ws:List (Int × Int × Int)):∀ (ns:List Int) (fs:List Int),(gn ws fs ns).length=fs.length
 | [],fs=>rfl
 | n :: r,fs=>by
  show (gn ws (fw fs _ _) r).length=_
  rw[xF ws r,sx]
noncomputable def dU (m:Int) (ws:List (Int × Int × Int)) (ns:List Int):List Int:=gn ws (aN m.toNat) ns
noncomputable def Nums (ws:List (Int × Int × Int)) (ns:List Int):Prop:=∀ n∈ns,0 <= n/\n < (ws.length:Int)
theorem oH {m:Int} {ws:List (Int × Int × Int)} (W:dJ m ws) {n:Int} (h0:0 <= n) (h1:n < (ws.length:Int)):∃ y,ws.getD n.toNat (0,0,0)=y/\y∈ws/\eB (ws.map bM) n=some (bM y)/\∃ i j:Nat,y.1=i/\y.2.1=j/\i < m.toNat/\j < m.toNat/\i < j:=by
 obtain⟨k,rfl⟩:∃ k:Nat,n=k:=⟨n.toNat,by omega⟩
 have hk:k < ws.length:=by omega
 refine⟨ws[k],?_,X0 hk,n5 ?_,?_⟩
 ·rw[MB,rG,mM hk];rfl
 ·rw[E7,mM hk];rfl
 ·obtain⟨a,b,c,_,_⟩:=W.ends _ (X0 hk)
  exact⟨ws[k].1.toNat,ws[k].2.1.toNat,by omega,by omega,by omega,by omega,by omega⟩
noncomputable def oJ:GD:=fun ys ar K=>∃ (m:Int) (ws:List (Int × Int × Int)) (ns:List Int),dJ m ws/\Nums ws ns/\((ys=[.p (aR m ws),.p (a9 ns)]/\ar=[]/\K (.p (a9 (dU m ws ns))) [])\/(ys=[.p (aR m ws),.o 0]/\ar=[.lst (ns.map D.int)]/\K (.p (a9 (dU m ws ns))) [.lst (ns.map D.int)]))
noncomputable def xG:WS:=(au (aC 2 (sg (ah (d2 (aa 0) (dC (.int 0)) aP) ag))) (au (bS (bP (aa 1)) (bA 3) (au (aC 4 (d2 (d2 (aa 0) (dC (.int 1)) aP) (aa 3) aP)) (aC 2 (av 3 oG (ah (aa 2) (ah (d2 (aa 4) (dC (.int 0)) aP) (ah (d2 (aa 4) (dC (.int 1)) aP) ag))))))) (aW (aa 2))))
theorem Qh:∀ ys ar K',ys.length=2->oJ ys ar K'->xG (dX ar.length K') ⟨ys.map some ++ List.replicate 3 none,ar.map some⟩:=by
 rintro ys ar K' - ⟨m,ws,ns,W,hn,h⟩
 have m1:=W.m1
 have gX:=W.gX
 have il:(aN m.toNat).length=m.toNat:=by unfold aN;simp
 have core:∀ (x:DV) (mu:List (Option OV)) (bD:aB->Prop) (K:KS),(∀ sl,bD ⟨sl,mu⟩)->(∀ fs,fs=dU m ws ns->K.nx ⟨[some (.p (aR m ws)),some x,some (.p (a9 fs)),none,none],mu⟩)->(∀ k,x = .o k->k < mu.length) →
   kC ⟨[some (.p (aR m ws)),some x,some (.p (a9 (aN m.toNat))),none,none],mu⟩ bD (bA 3) (au (aC 4 (d2 (d2 (aa 0) (dC (.int 1)) aP) (aa 3) aP)) (aC 2 (av 3 oG (ah (aa 2) (ah (d2 (aa 4) (dC (.int 0)) aP) (ah (d2 (aa 4) (dC (.int 1)) aP) ag)))))) K (ns.map D.int) ⟨[some (.p (aR m ws)),some x,some (.p (a9 (aN m.toNat))),none,none],mu⟩:=by
  intro x mu bD K hc hK hx
  refine jy (fun i δ => δ = ⟨[some (.p (aR m ws)),some x,some (.p (a9 (gn ws (aN m.toNat) (ns.take i)))),none,none],mu⟩) rfl ?_ ?_
  ·rintro j d δ L hj rfl hL
   rw[E7] at hj
   obtain⟨n,jM,rfl⟩:=VV.mp hj
   obtain⟨n0,n1⟩:=hn n (WN jM)
   obtain⟨y,ey,hy,ea,i,k,e1,e2,h1,h2,_⟩:=oH W n0 n1
   refine⟨hc _,?_⟩
   simp only[bA,Xb,Xc]
   refine a8 fun N hN => ?_
   simp? only [g8,aR,ea]
   subst hN
   simp? only [f7,g8,bM]
   have hlen:(gn ws (aN m.toNat) (ns.take j)).length=m.toNat:=by rw[xF,il]
   refine⟨gn ws (aN m.toNat) (ns.take j),i,k,by rw[e1,e2],rfl,by omega,by omega,by omega,?_⟩
   have ej:fw (gn ws (aN m.toNat) (ns.take j)) i k=gn ws (aN m.toNat) (ns.take (j + 1)):=by
    have:ns.take (j + 1)=ns.take j ++ [n]:=by rw[Yb,jM];rfl
    rw[this]
    unfold gn
    rw[Y5]
    show _=fw _ (bQ ws n).1 (bQ ws n).2
    have:bQ ws n=(i,k):=by
     unfold bQ
     rw[ey,e1,e2,MB,MB]
    rw[this]
   rw[ej]
   have eq:(aB.trim ⟨[some (.p (aR m ws)),some x,some (.p (a9 (aN m.toNat))),none,none],mu⟩ ⟨[some (.p (aR m ws)),some x,some (.p (a9 (gn ws (aN m.toNat) (ns.take (j + 1))))),some (.p (.int n)),some (.p (bM y))],mu⟩)=⟨[some (.p (aR m ws)),some x,some (.p (a9 (gn ws (aN m.toNat) (ns.take (j + 1))))),none,none],mu⟩:=by
    unfold aB.trim
    rw[Y_]
    cases x with
    | p d=>rfl
    | o q =>
     have:=hx q rfl
     simp only[gy,uo,this,YM]
   have:=hL _ rfl
   rw[<-eq] at this
   exact this
  ·rintro δ rfl
   rw[pU,Xj (we _)]
   exact⟨hc _,hK _ rfl⟩
 have rg:bY 0 m.toNat=(aN m.toNat).map D.int:=lB m.toNat
 rcases h with⟨rfl,rfl,k⟩ | ⟨rfl,rfl,k⟩
 ·unfold xG
  refine a8 fun N hN => ?_
  simp? only [f7,aR]
  refine⟨⟨by omega,by omega⟩,?_⟩
  subst hN
  rw[rg]
  refine a8 fun N hN=>qE fun g' b' K2 hg d8 hK => ?_
  simp? only [a9]
  subst hg d8 hK
  refine core (.p (a9 ns)) [] _ _ (fun _=>trivial) (fun fs e => ?_) (fun k z=>by cases z)
  subst e
  show N _
  subst hN
  simp? only []
  exact gQ k
 ·unfold xG
  refine a8 fun N hN => ?_
  simp? only [f7,aR]
  refine⟨⟨by omega,by omega⟩,?_⟩
  subst hN
  rw[rg]
  refine a8 fun N hN=>qE fun g' b' K2 hg d8 hK => ?_
  simp? only []
  subst hg d8 hK
  refine core (.o 0) [some (.lst (ns.map D.int))] _ _ (fun _=>rfl) (fun fs e => ?_) (fun k z=>by cases z;exact Nat.zero_lt_one)
  subst e
  show N _
  subst hN
  simp? only []
  exact⟨[.lst (ns.map D.int)],rfl,rfl,k⟩
theorem Qi (a b:Int):sortI [a,b]=[min a b,max a b]:=by
 refine (uE (as:=[min a b,max a b]) ?_ ?_).symm
 ·by_cases c:a <= b
  ·rw[q00 c,q0A c]
  ·rw[q0B (by omega),q01 (by omega)]
   exact List.Perm.swap ..
 ·refine List.Pairwise.cons (fun x hx => ?_) (List.pairwise_singleton _ _)
  rw[Wr.mp hx];omega
noncomputable def vf:GD:=oJ
noncomputable def xH:WS:=(au (aC 2 (sg (ah (d2 (aa 0) (dC (.int 0)) aP) ag))) (au (bS (bP (aa 1)) (bA 3) (au (j7 (dN (ah (fZ (bP (iY (d2 (d2 (aa 0) (dC (.int 1)) aP) (aa 3) aP) iW (oz (dC (.int 2))))) [none,some 2] (bA 0) dE (d2 (aa 1) (aa 0) aP)) ag) qr) (ly 2 (ig (bA 4) (ig (bA 5) kA)))) (aC 2 (fZ (bP (aa 2)) [none,some 4,some 5] (bA 0) dE (qc (dT (d2 (aa 0) (aa 2) oEq)) (aa 1) (aa 0)))))) (aW (aa 2))))
theorem Qj:∀ ys ar K',ys.length=2->vf ys ar K'->xH (dX ar.length K') ⟨ys.map some ++ List.replicate 4 none,ar.map some⟩:=by
 rintro ys ar K' - ⟨m,ws,ns,W,hn,h⟩
 have m1:=W.m1
 have gX:=W.gX
 have il:(aN m.toNat).length=m.toNat:=by unfold aN;simp
 have core:∀ (x:DV) (mu:List (Option OV)) (bD:aB->Prop) (K:KS),(∀ sl,bD ⟨sl,mu⟩)->(∀ fs,fs=dU m ws ns->K.nx ⟨[some (.p (aR m ws)),some x,some (.p (a9 fs)),none,none,none],mu⟩)->(∀ k,x = .o k->k < mu.length) →
   kC ⟨[some (.p (aR m ws)),some x,some (.p (a9 (aN m.toNat))),none,none,none],mu⟩ bD (bA 3) (au (j7 (dN (ah (fZ (bP (iY (d2 (d2 (aa 0) (dC (.int 1)) aP) (aa 3) aP) iW (oz (dC (.int 2))))) [none,some 2] (bA 0) dE (d2 (aa 1) (aa 0) aP)) ag) qr) (ly 2 (ig (bA 4) (ig (bA 5) kA)))) (aC 2 (fZ (bP (aa 2)) [none,some 4,some 5] (bA 0) dE (qc (dT (d2 (aa 0) (aa 2) oEq)) (aa 1) (aa 0))))) K (ns.map D.int) ⟨[some (.p (aR m ws)),some x,some (.p (a9 (aN m.toNat))),none,none,none],mu⟩:=by
  intro x mu bD K hc hK hx
  refine jy (fun i δ => δ = ⟨[some (.p (aR m ws)),some x,some (.p (a9 (gn ws (aN m.toNat) (ns.take i)))),none,none,none],mu⟩) rfl ?_ ?_
  ·rintro j d δ L hj rfl hL
   rw[E7] at hj
   obtain⟨n,jM,rfl⟩:=VV.mp hj
   obtain⟨n0,n1⟩:=hn n (WN jM)
   obtain⟨y,ey,hy,ea,i,k,e1,e2,h1,h2,_⟩:=oH W n0 n1
   refine⟨hc _,?_⟩
   have hlen:(gn ws (aN m.toNat) (ns.take j)).length=m.toNat:=by rw[xF,il]
   have ej:fw (gn ws (aN m.toNat) (ns.take j)) i k=gn ws (aN m.toNat) (ns.take (j + 1)):=by
    have:ns.take (j + 1)=ns.take j ++ [n]:=by rw[Yb,jM];rfl
    rw[this]
    unfold gn
    rw[Y5]
    show _=fw _ (bQ ws n).1 (bQ ws n).2
    have:bQ ws n=(i,k):=by
     unfold bQ
     rw[ey,e1,e2,MB,MB]
    rw[this]
   generalize Wl:gn ws (aN m.toNat) (ns.take j)=fs at hlen ej
   have a1:=jf (ns:=fs) (i:=i) (by omega)
   have a2:=jf (ns:=fs) (i:=k) (by omega)
   simp only[bA,Xb,Xc]
   refine a8 fun N hN => ?_
   have ec:cutD [D.int y.1,D.int y.2.1,D.int y.2.2] none (some 2)=[D.int i,D.int k]:=by rw[<-e1,<-e2];rfl
   simp? only [g8,aR,ea,bM,ec]
   refine L2.l6 (fun d=>match d with
    | .int z => .int (fs.getD z.toNat 0)
    | _ => .non) (by show 2 <= 1000;decide) trivial ?_ ?_
   ·intro d hd acc L' ha h'
    simp only[MA,WV,YC] at hd
    rcases hd with rfl | rfl
    ·simp? only [a9,a1]
     simp only[MB] at h'
     exact⟨ha,h'⟩
    ·simp? only [a9,a2]
     simp only[MB] at h'
     exact⟨ha,h'⟩
   ·have es:intsOf [D.int (fs.getD i 0),D.int (fs.getD k 0)]=some [fs.getD i 0,fs.getD k 0]:=rfl
    simp? only [MB,qr,es,Qi]
    subst hN
    simp? only [a9]
    refine L2.l6 (fun d=>match d with
     | .int x => .int (if x=max (fs.getD i 0) (fs.getD k 0) then min (fs.getD i 0) (fs.getD k 0) else x)
     | _ => .non) (by rw[pU];omega) trivial ?_ ?_
    ·intro d hd acc L' ha h'
     obtain⟨z,_,rfl⟩:=Wt.mp hd
     simp? only []
     cases q:az (.int z) (.int (max (fs.getD i 0) (fs.getD k 0)))
     ·have:¬ z=max (fs.getD i 0) (fs.getD k 0):=fun w=>by rw[w,jK] at q;cases q
      simp only[this,XE] at h'
      exact⟨ha,h'⟩
     ·have:z=max (fs.getD i 0) (fs.getD k 0):=by simp only[az] at q;exact XU q
      simp only[this,YM] at h'
      exact⟨ha,h'⟩
    ·have e:(fs.map D.int).map (fun d=>match d with
      | .int x=>D.int (if x=max (fs.getD i 0) (fs.getD k 0) then min (fs.getD i 0) (fs.getD k 0) else x)
      | _ => .non)=(fw fs i k).map D.int:=by
      unfold fw
      rw[WL,WL];rfl
     rw[e,ej]
     have eq:(aB.trim ⟨[some (.p (aR m ws)),some x,some (.p (a9 (aN m.toNat))),none,none,none],mu⟩ ⟨[some (.p (aR m ws)),some x,some (.p (a9 (gn ws (aN m.toNat) (ns.take (j + 1))))),some (.p (.int n)),some (.p (.int (min (fs.getD i 0) (fs.getD k 0)))),some (.p (.int (max (fs.getD i 0) (fs.getD k 0))))],mu⟩)=⟨[some (.p (aR m ws)),some x,some (.p (a9 (gn ws (aN m.toNat) (ns.take (j + 1))))),none,none,none],mu⟩:=by
      unfold aB.trim
      rw[Y_]
      cases x with
      | p d=>rfl
      | o q =>
       have:=hx q rfl
       simp only[gy,uo,this,YM]
     have:=hL _ rfl
     rw[<-eq] at this
     exact this
  ·rintro δ rfl
   rw[pU,Xj (we _)]
   exact⟨hc _,hK _ rfl⟩
 have rg:bY 0 m.toNat=(aN m.toNat).map D.int:=lB m.toNat
 rcases h with⟨rfl,rfl,k⟩ | ⟨rfl,rfl,k⟩
 ·unfold xH
  refine a8 fun N hN => ?_
  simp? only [f7,aR]
  refine⟨⟨by omega,by omega⟩,?_⟩
  subst hN
  rw[rg]
  refine a8 fun N hN=>qE fun g' b' K2 hg d8 hK => ?_
  simp? only [a9]
  subst hg d8 hK
  refine core (.p (a9 ns)) [] _ _ (fun _=>trivial) (fun fs e => ?_) (fun k z=>by cases z)
  subst e
  show N _
  subst hN
  simp? only []
  exact gQ k
 ·unfold xH
  refine a8 fun N hN => ?_
  simp? only [f7,aR]
  refine⟨⟨by omega,by omega⟩,?_⟩
  subst hN
  rw[rg]
  refine a8 fun N hN=>qE fun g' b' K2 hg d8 hK => ?_
  simp? only []
  subst hg d8 hK
  refine core (.o 0) [some (.lst (ns.map D.int))] _ _ (fun _=>rfl) (fun fs e => ?_) (fun k z=>by cases z;exact Nat.zero_lt_one)
  subst e
  show N _
  subst hN
  simp? only []
  exact⟨[.lst (ns.map D.int)],rfl,rfl,k⟩
noncomputable def vg (marks:List Int) (f:Int):List Int:=(aN marks.length).filter fun h=>decide (marks.getD h.toNat 0=f)
noncomputable def oK (marks:List Int):List (List Int):=(sortI (nk marks)).map (vg marks)
noncomputable def kK (ls:List (List Int)):D := .lst (ls.map a9)
noncomputable def sy:GD:=fun ys ar K=>∃ (m:Int) (ws:List (Int × Int × Int)) (ns:List Int),dJ m ws/\Nums ws ns/\((ys=[.p (aR m ws),.p (a9 ns)]/\ar=[]/\K (.p (kK (oK (dU m ws ns)))) [])\/(ys=[.p (aR m ws),.o 0]/\ar=[.lst (ns.map D.int)]/\K (.p (kK (oK (dU m ws ns)))) [.lst (ns.map D.int)]))
noncomputable def xI:WS:=(au (aC 2 (av 2 vf (ah (aa 0) (ah (aa 1) ag)))) (aW (fZ (bP (dN (ah (aa 2) ag) sv)) [none,some 0,some 2] (bA 0) dE (fZ (iB (ah (d2 (aa 1) (dC (.int 0)) aP) ag)) [none,some 0,some 2] (bA 0) (dT (d2 (d2 (aa 2) (aa 0) aP) (aa 1) oEq)) (aa 0)))))
theorem HA {m:Int} {ws:List (Int × Int × Int)} {ns:List Int}:(dU m ws ns).length=m.toNat:=by
 unfold dU
 rw[xF];unfold aN;simp
theorem Qk:∀ ys ar K',ys.length=2->sy ys ar K'->xI (dX ar.length K') ⟨ys.map some ++ List.replicate 1 none,ar.map some⟩:=by
 rintro ys ar K' - ⟨m,ws,ns,W,hn,h⟩
 have m1:=W.m1
 have gX:=W.gX
 have ml:=HA (m:=m) (ws:=ws) (ns:=ns)
 have core:∀ (x:DV) (mu:List (Option OV)) (K:KS),K.rt (.p (kK (oK (dU m ws ns)))) ⟨[some (.p (aR m ws)),some x,some (.p (a9 (dU m ws ns)))],mu⟩ →
   (aW (fZ (bP (dN (ah (aa 2) ag) sv)) [none,some 0,some 2] (bA 0) dE (fZ (iB (ah (d2 (aa 1) (dC (.int 0)) aP) ag)) [none,some 0,some 2] (bA 0) (dT (d2 (d2 (aa 2) (aa 0) aP) (aa 1) oEq)) (aa 0)))) K ⟨[some (.p (aR m ws)),some x,some (.p (a9 (dU m ws ns)))],mu⟩:=by
  intro x mu K k
  generalize dU m ws ns=marks at ml k
  have ei:intsOf (marks.map D.int)=some marks:=uz marks
  have ol:=Hm marks
  simp only[aW,fZ,bP,dN,ah,ag,aa,WY,WR,fg,dM,sv,a9,ei,mY,dD,WH,Ye,Option.join_some]
  refine⟨by omega,?_⟩
  refine L2.l6 (fun d=>match d with
   | .int f=>a9 (vg marks f)
   | _ => .non) (by rw[pU,Bc];omega) trivial ?_ ?_
  ·intro d hd acc L ha h
   obtain⟨f,_,rfl⟩:=Wt.mp hd
   simp? only [f7,aR]
   refine⟨by omega,?_⟩
   refine L2.uO (fun d=>match d with
    | .int z=>decide (marks.getD z.toNat 0=f)
    | _=>false) id (by rw[jc];omega) trivial ?_ ?_
   ·intro d hd b_ L' Ql h1 h2
    obtain⟨i,hi⟩:=V0.mp hd
    obtain⟨hi,rfl⟩:=jw hi
    have e0:(0 + (i:Int))=i:=by omega
    rw[e0] at h1 h2 ⊢
    have ai:=jf (ns:=marks) (i:=i) (by omega)
    simp? only [ai]
    cases q:az (.int (marks.getD i 0)) (.int f)
    ·refine h2 ?_
     show decide (marks.getD (i:Int).toNat 0=f)=false
     rw[MB]
     refine Wz fun z => ?_
     rw[z,jK] at q;cases q
    ·refine⟨Ql,h1 ?_⟩
     show decide (marks.getD (i:Int).toNat 0=f)=true
     rw[MB]
     simp only[az] at q
     exact WC (XU q)
   ·simp? only []
    refine⟨ha,?_⟩
    have e:((bY 0 m.toNat).filter fun d=>match d with
     | .int z=>decide (marks.getD z.toNat 0=f)
     | _=>false).map id=(vg marks f).map D.int:=by
     rw[YU,lB,Z4]
     unfold vg
     rw[ml];rfl
    rw[e]
    exact h
  ·have e:((sortI (nk marks)).map D.int).map (fun d=>match d with
    | .int f=>a9 (vg marks f)
    | _ => .non)=(oK marks).map a9:=by
    unfold oK
    rw[WL,WL];rfl
   rw[e]
   exact k
 rcases h with⟨rfl,rfl,k⟩ | ⟨rfl,rfl,k⟩
 ·unfold xI
  refine a8 fun N hN => ?_
  simp? only []
  refine⟨m,ws,ns,W,hn,.inl ⟨rfl,rfl,?_⟩⟩
  simp? only []
  subst hN
  exact core _ _ _ (gQ k)
 ·unfold xI
  refine a8 fun N hN => ?_
  simp? only []
  refine⟨m,ws,ns,W,hn,.inr ⟨rfl,rfl,?_⟩⟩
  simp? only []
  subst hN
  exact core _ _ _ ⟨[.lst (ns.map D.int)],rfl,rfl,k⟩
theorem HB {n:Nat} {z:Int} (h:z∈aN n):0 <= z/\z < (n:Int):=by
 unfold aN at h
 obtain⟨i,hi,rfl⟩:=Wt.mp h
 have:=WJ.mp hi
 simp;omega
theorem BN (n:Nat):(aN n).Nodup:=by
 unfold aN
 refine XS.mpr (ZM.imp fun {a b} ne e=>ne ?_)
 exact Int.ofNat.inj e
noncomputable def vh:GD:=fun ys ar K=>∃ (n m most:Int) (ws:List (Int × Int × Int)) (o:OV),dJ m ws/\ys=[.o 0,.p (aR m ws),.p (.int most)]/\ar=[o]/\a7 n o/\n + 100 < 2 ^ 30/\0 <= most/\most <= 1000 ∧
 ∀ ns o',Nums ws ns->ns.Nodup->(ns.length:Int) <= most->ns.length <= ws.length->a7 (n + 31) o'->K (.n (ns.map D.int)) [o']
noncomputable def BO:WS:=(au (aC 3 (Bi (ah (dN (ah (d2 (aa 1) (dC (.int 1)) aP) ag) cf) ag))) (au (aC 4 (mQ ag)) (au (bS (iB (ah (dN (ah (dN (ah (aa 3) ag) cf) (ah (av 2 gz (ah (aa 0) (ah (d2 (aa 2) (dC (.int 1)) e7) ag))) ag)) sd) ag)) (bA 5) (j6 (iX (aa 4) (ah (uI (aa 3) (ah (av 2 gz (ah (aa 0) (ah (dN (ah (aa 3) ag) cf) ag))) ag)) ag)))) (aW (aa 4)))))
theorem Qm:∀ ys ar K',ys.length=3->vh ys ar K'->BO (dX ar.length K') ⟨ys.map some ++ List.replicate 3 none,ar.map some⟩:=by
 rintro ys ar K' - ⟨n,m,most,ws,o,W,rfl,rfl,P,hn,s0,s1,fin⟩
 have xJ:=W.kj
 unfold BO
 refine a8 fun N hN => ?_
 simp? only [g8,aR]
 refine⟨⟨by omega,by omega⟩,?_⟩
 subst hN
 rw[MB,lB]
 refine a8 fun N hN => ?_
 simp? only []
 subst hN
 refine a8 fun N hN=>qE fun g' b' K2 hg d8 hK => ?_
 simp? only []
 refine⟨n,most + 1,o,rfl,rfl,P,by omega,by omega,by omega,fun r o1 r0 r1 P1 => ?_⟩
 have il:(aN ws.length).length=ws.length:=by unfold aN;simp
 simp? only [il]
 refine⟨by omega,?_⟩
 subst hg d8 hK
 have ek:(min (ws.length:Int) r).toNat=min ws.length r.toNat:=by omega
 rw[ek]
 generalize hk:min ws.length r.toNat=k
 refine jy (fun i δ => ∃ (ls fs:List Int) (o':OV),ls.length + i=ws.length/\fs.length=i/\(fs ++ ls).Nodup/\Nums ws (fs ++ ls)/\a7 (n + 1 + i) o' ∧
  δ = ⟨[some (.o 0),some (.p (.tup [.int m,.tup (ws.map bM)])),some (.p (.int most)),some (.o 1),some (.o 2),none],[some o',some (.lst (ls.map D.int)),some (.lst (fs.map D.int))]⟩)
  ⟨aN ws.length,[],o1,by omega,rfl,BN _,fun z hz=>HB hz,P1.mono (by omega),rfl⟩ ?_ ?_
 ·rintro j d δ L hj ⟨ls,fs,o',hl,hf,nd,nu,P',rfl⟩ hL
  obtain⟨hj,rfl⟩:=jw hj
  have q0:0 < ls.length:=by omega
  simp? only []
  refine⟨n + 1 + j,ls.length,o',rfl,rfl,P',by omega,by omega,by omega,fun z o2 z0 z1 P2 => ?_⟩
  obtain⟨zn,rfl⟩:∃ zn:Nat,z=zn:=⟨z.toNat,by omega⟩
  have hz:zn < ls.length:=by omega
  have ix:seqIndex? (zn:Int) ls.length=some zn:=Ax hz
  have eq:(ls.map D.int)[zn]? = some (.int ls[zn]):=by rw[E7,mM hz];rfl
  simp? only [ix,eq]
  have pm:((fs ++ [ls[zn]]) ++ ls.eraseIdx zn).Perm (fs ++ ls):=by
   rw[X8]
   exact Y3 _ (xB hz)
  refine⟨⟨by omega,by omega⟩,by omega,hL _ ⟨ls.eraseIdx zn,fs ++ [ls[zn]],o2,?_,?_,pm.nodup_iff.mpr nd,fun x hx=>nu x (pm.mem_iff.mp hx),P2.mono (by omega),?_⟩⟩
  ·rw[YA hz];omega
  ·rw[My,hf];rfl
  ·rw[WK,xC];rfl
 ·rintro δ ⟨ls,fs,o',hl,hf,nd,nu,P',rfl⟩
  refine⟨trivial,?_⟩
  show N _
  subst hN
  simp? only []
  rw[jc] at hf P'
  refine⟨[o'],rfl,rfl,.inl (fin fs o' (fun x hx=>nu x (Xk _ hx)) (Xr.mp nd).1 (by omega) (by omega) (P'.mono (by omega)))⟩
theorem l7 {H:Hp} {a:Addr} {o:HO} (h:H a=none):aA H (upd H a o):=fun b u e=>by rw[aQ (dq e h)];exact e
structure xK (H:Hp) (p c:Addr) (at_ z:Int):Prop where
 lst:H p=some (.lst [.ref c,.int at_,.int z])
 cells:∃ ns:List Int,H c=some (.lst (ns.map V.int))/\ns.length <= 63
 pos:0 <= at_
theorem xK.ne {H:Hp} {p c:Addr} {k z:Int} (P:xK H p c k z):c≠p:=by
 obtain⟨ns,h,_⟩:=P.cells
 intro e
 subst e
 rw[P.lst] at h
 have h':=WW h
 injection h' with rN
 cases ns with
 | nil=>cases rN
 | cons n r=>injection rN with h1 _;cases h1
theorem Qn {ns:List Int} {k:Int} (h0:0 <= k) (h1:k < (ns.length:Int)):∃ n,eB (ns.map V.int) k=some (.int n):=by
 obtain⟨i,rfl⟩:∃ i:Nat,k=i:=⟨k.toNat,by omega⟩
 have hi:i < ns.length:=by omega
 refine⟨ns[i],n5 ?_⟩
 rw[E7,mM hi];rfl
noncomputable def BP (K:PySem.W.Frag):Sp:=fun vs H Q _=>∃ (a:Addr) (ns:List Int),vs=[.ref a]/\bj K H a (ns.map V.int)/\ns.length <= 63/\∀ (p c:Addr) (H':Hp),aA H H'->H p=none->xK H' p c 0 0->Q (.ref p) H'
noncomputable def xM (K:PySem.W.Frag):Sp:=fun vs H Q _=>∃ (a:Addr) (ns:List Int),vs=[.ref a]/\bj K H a (ns.map V.int)/\ns.length <= 63/\aJ.ok H/\∀ H',Q (.bl true) H'
theorem BQ (ns:List Int) (lo hi:Option Int):dA (ns.map V.int) lo hi=((ns.drop (HT.ba ns.length 0 lo)).take (HT.ba ns.length ns.length hi - HT.ba ns.length 0 lo)).map V.int:=by
 unfold dA
 rw[pU,List.map_take,List.map_drop]
theorem Qo {H:Hp} {p c a:Addr} {n:Nat} (hT:aJ.ok H) (N:xK H p c 0 0):∃ (F:Hp) (ns:List Int),ns.length <= 63/\SR F [p] ⟨none :: some (.o 0) :: List.replicate n none,[some (.lst [.lst (ns.map D.int),.int 0,.int 0])]⟩ (some (.ref a) :: some (.ref p) :: List.replicate n none) H:=by
 obtain⟨ns,hc,hn⟩:=N.cells
 have ne:=N.ne
 refine⟨upd (fun _=>none) c (.lst (ns.map V.int)),ns,hn,⟨fun b o e => ?_,fun b ⟨k,ov,e1,e2⟩ => ?_,rfl,fun k l a ov ow e1 e2 _ _ => ?_,fun k ov e => ?_,fun i x e => ?_,by simp,hT,fun b hb=>by
  obtain⟨ps,q⟩:=aJ.tb hT hb
  rw[aQ fun z=>by subst z;rw[hc] at q;cases q]⟩⟩
 ·by_cases z:b=c
  ·subst z;rw[bK] at e;cases e;exact hc
  ·rw[aQ z] at e;cases e
 ·cases k with
  | zero=>cases (show some p=some b by simpa using e1);rw[aQ (Yd ne)]
  | succ k=>simp at e1
 ·cases k with
  | zero =>
   cases l with
   | zero=>rfl
   | succ l=>simp at e2
  | succ k=>simp at e1
 ·cases k with
  | zero =>
   cases (show OV.lst [.lst (ns.map D.int),.int 0,.int 0]=ov by simpa using e)
   refine⟨p,_,rfl,N.lst,_,rfl,?_⟩
   refine .cons ?_ (.cons rfl (.cons rfl .nil))
   simp only[Is]
   exact⟨c,_,rfl,bK,mZ⟩
  | succ k=>simp at e
 ·cases i with
  | zero=>simp at e
  | succ i =>
   cases i with
   | zero =>
    cases (show DV.o 0=x by simpa using e)
    exact⟨_,rfl,p,rfl,rfl⟩
   | succ i =>
    exfalso
    have e:(List.replicate n (none:Option DV))[i]? = some (some x):=by simpa using e
    rw[YT] at e
    split at e<;>cases e
theorem Qp {B:WS} {F:Hp} {ad:List Addr} {δ : aB} {σ : St} {H:Hp} {Q:VK} (S:SR F ad δ σ H) (h:B ⟨fun _=>False,fun x _=>x = .p (.bl true),fun _=>False,fun _=>False⟩ δ) (q:∀ H',Q (.bl true) H'):fO B { nx:=fun _ H'=>Q .non H',rt:=Q } σ H :=
 ⟨F,ad,δ,_,S,h,⟨fun δ' h=>h.elim,fun δ' h=>h.elim,fun δ' h=>h.elim,fun x δ' h v F' aH σ' H' E' S' V=>by
  have h:x = .p (.bl true):=h
  subst h
  have V:v = .bl true:=V
  subst V
  exact q H'⟩⟩
end LJ
namespace L2
open PySem PySem.Spec PyProof.Rows
noncomputable def BR (Ts:List (Addr × Array Value)) (H:Hp):Prop:=∀ b,(∃ ps,Ts.lookup b=some ps/\H b=some (.tbl ps))\/(Ts.lookup b=none/\(H b=none\/∃ o xs,H b=some (.frz o (.lst xs))))
theorem Qq {P:Program} {w:World} {K:PySem.W.Frag} {mg mb:Str->Option Value} {CX:jR} {k:Nat} {fa a:Addr} {fd:FuncData} {x:Str} {sp:Sp} {s₁ : Shared} {vs:List Value} {ns:List Int} (Ts:List (Addr × Array Value))
  (hT:∀ b ps,Ts.lookup b=some ps->s₁.heap.get? b=some { cls := .none,data := .fields ps }/\isCodeTable s₁.heap b/\K.lookup b=none)
  (KX:K.In s₁.heap) (vi:s₁.heap.Ns mainGlobals mg) (hb:s₁.heap.Ns builtinsNs mb) (Qr:∀ x:Str,x ≠ "__name__" -> mb x=bootBuiltins x) (BS:s₁.heap.NoLimit) (hg:s₁.gens = #[])
  (ha:s₁.heap.get? a=some { cls := .type "list",data := .seq vs.toArray }) (hi:IntsAre vs ns) (hl:ns.length <= sizeLine) (hr:bz k callerA)
  (hB:∃ bm ob,mg "__builtins__" = some (.ref bm)/\bm≠builtinsNs/\s₁.heap.get? bm=some ob/\ob.cls = .type "module" /\ ob.dict=some builtinsNs/\ob.data = .plain)
  (F:∀ base:Heap,K.In base->base.Ns mainGlobals mg->(∀ b ps,Ts.lookup b=some ps->base.BuiltinsAt mg b)->aY P w K mg base CX k fa fd [x] sp) (vj:∀ (s:Shared) (u:Value),BindsTo s fd ⟨[u],[]⟩ [(x,u)])
  (nZ:∀ H:Hp,BR Ts H->bj K H a (ns.map V.int)->sp [.ref a] H (fun v _=>v = .bl true) fun _ _ _=>False)
  (BU:∀ H e s',CX [] H s₁ (fun _ _ _=>False) e s'->False) :
  codeAny (model P w) callerA (.call (.ref fa) ⟨[.ref a],[]⟩) (fun r s'=>r = .ok (.ret (.bool true))/\OldK s₁.heap s'.heap/\s'.os=s₁.os/\AllBare s'.gens) s₁ := by
 have rv:=E5 hi
 have BV:=hi.length
 have aT:Ts.lookup a=none:=by
  cases q:Ts.lookup a with
  | none=>rfl
  | some ps =>
   have:=(hT a ps q).1
   rw[ha] at this
   have z:=congrArg Obj.cls (WW this)
   cases (show Value.type "list" = Value.none from z)
 have core:∀ H:Hp,BR Ts H->bj K H a (ns.map V.int)->d9 P w H s₁.heap->(∀ b,Ts.lookup b=none->H b≠none->b=a)->(H a≠none->K.lookup a=none) →
   codeAny (model P w) callerA (.call (.ref fa) ⟨[.ref a],[]⟩) (fun r s'=>r = .ok (.ret (.bool true))/\OldK s₁.heap s'.heap/\s'.os=s₁.os/\AllBare s'.gens) s₁ := by
  intro H hO hS aM hA hK
  have iq:∀ {b:Addr} {o:Obj},s₁.heap.get? b=some o->H b=none->(gF s₁.heap H).get? b=some o:=fun e n=>Kx e n
  have mF:∀ {b:Addr} {o:Obj} {es:Array DictEntry} {ep:Nat},s₁.heap.get? b=some o->o.data = .dict es ep->H b=none:=fun {b o es ep} e d=>by
   cases q:H b with
   | none=>rfl
   | some u =>
    cases t:Ts.lookup b with
    | some ps =>
     have:=(hT b ps t).1
     rw[e] at this;cases this
     cases d
    | none =>
     have e':b=a:=hA b t (by rw[q];simp)
     subst e'
     rw[ha] at e;cases e
     have d':Data.seq vs.toArray _=Data.dict es ep:=d
     cases d'
  have xN:∀ {b:Addr} {m:Str->Option Value},s₁.heap.Ns b m->(gF s₁.heap H).Ns b m:=fun {b m} ⟨o,es,ep,e,d,r⟩=>⟨o,es,ep,iq e (mF e d),d,r⟩
  have HC:K.In (gF s₁.heap H):=fun b o e=>iq (KX b o e) (by
   cases q:H b with
   | none=>rfl
   | some u =>
    cases t:Ts.lookup b with
    | some ps=>rw[(hT b ps t).2.2] at e;cases e
    | none =>
     have e':b=a:=hA b t (by rw[q];simp)
     subst e'
     rw[hK (by rw[q];simp)] at e;cases e)
  have Qs:∀ b ps,Ts.lookup b=some ps->(gF s₁.heap H).BuiltinsAt mg b:=fun b ps t=>by
   obtain⟨bm,ob,b1,b2,b3,b4,b5,b6⟩:=hB
   refine⟨bm,ob,b1,b2,fun z => ?_,fun z => ?_,iq b3 ?_,b4,b5,b6⟩
   ·obtain⟨o,es,ep,e1,e2,_⟩:=vi
    rw[z,e1] at b3;cases b3
    rw[e2] at b6;cases b6
   ·have:=(hT b ps t).1
    rw[z,this] at b3;cases b3
    cases b6
   ·cases q:H bm with
    | none=>rfl
    | some u =>
     cases t':Ts.lookup bm with
     | some Qt =>
      have:=(hT bm Qt t').1
      rw[b3] at this;cases this
      cases b6
     | none =>
      have e':bm=a:=hA bm t' (by rw[q];simp)
      rw[e',ha] at b3;cases b3
      cases b6
  have hM:Mod K mg (gF s₁.heap H):=⟨HC,xN vi,⟨mb,xN hb,Qr⟩,let ⟨mc,h1,h2⟩:=BS; ⟨mc,xN h1,h2⟩⟩
  have e0:mE P w K mg (gF s₁.heap H) callerA [] s₁ H:=⟨rfl,hM,fun b o e=>Ky e,q0N (Kw _ _),trivial,fun b hb=>absurd (show b∈([]:List Addr) from hb) (by simp),aM,.of_eq hg⟩
  refine Y9 ((F _ HC (xN vi) Qs).run callerA [] s₁ H ⟨[.ref a],[]⟩ [.ref a] [.ref a] _ _ hr e0 (vj s₁ (.ref a)) (.cons rfl .nil) (nZ H hO hS)) fun r s' h => ?_
  cases r with
  | error e=>exact (BU H e s' h).elim
  | ok fl =>
   cases fl with
   | next=>exact False.elim h
   | brk=>exact False.elim h
   | cont=>exact False.elim h
   | ret u =>
    obtain⟨v,H',os,bare,un,vk,r',q⟩:=h
    have q':v = .bl true:=q
    subst q'
    obtain rfl:u=Value.bool true:=r'
    have all:∀ b o,s₁.heap.get? b=some o->asItWas s₁.heap s'.heap b o/\∃ o',s'.heap.get? b=some o':=fun b o e=>by
     rcases hO b with⟨ps,t,z⟩ | ⟨t,z | ⟨ob,xs,z⟩⟩
     ·obtain⟨more,z2⟩:=un.gE b ps z
      have e2:s'.heap.get? b=some { cls := .none,data := .fields (ps ++ more) }:=vk b _ z2
      have e1:=(hT b ps t).1
      rw[e] at e1;cases e1
      exact⟨.inr (.inl ⟨(hT b ps t).2.1,rfl,ps,more,rfl,e2⟩),_,e2⟩
     ·have e2:=un.keep b o e z (by intro z;exact absurd (show b∈([]:List Addr) from z) (by simp)) (by simp)
      exact⟨.inl e2,_,e2⟩
     ·have z2:=un.gD b ob _ z
      obtain⟨e1,_⟩:=aM b _ z
      obtain⟨e2,_⟩:=vk b _ z2
      rw[e] at e1;cases e1
      exact⟨.inl e2,_,e2⟩
    exact⟨rfl,⟨fun b o e=>(all b o e).1,fun b o e=>(all b o e).2⟩,os,bare⟩
 have oM:∀ (H:Hp) b ps,Ts.lookup b=some ps->aI P w H s₁.heap b (.tbl ps):=fun H b ps t=>(hT b ps t).1
 cases hk:K.lookup a with
 | some o =>
  have e:=KX a o hk
  rw[ha] at e
  cases e
  have hv:∀ b,(fun b=>(Ts.lookup b).map HO.tbl:Hp) b=(Ts.lookup b).map HO.tbl:=fun _=>rfl
  refine core (fun b=>(Ts.lookup b).map HO.tbl) (fun b => ?_) (.inr ⟨_,vs.toArray,_,hk,rfl,rfl,rfl,by rw[zR,BV];exact hl,by simpa using rv⟩) (fun b u z => ?_) (fun b t z => ?_) fun z => ?_
  ·cases t:Ts.lookup b with
   | some ps=>exact .inl ⟨ps,rfl,by show (Ts.lookup b).map HO.tbl=_;rw[t];rfl⟩
   | none=>exact .inr ⟨rfl,.inl (by show (Ts.lookup b).map HO.tbl=_;rw[t];rfl)⟩
  ·obtain⟨ps,t,rfl⟩:=VV.mp (show (Ts.lookup b).map HO.tbl=some u from z)
   exact oM _ b ps t
  ·exact absurd (show (Ts.lookup b).map HO.tbl=none by rw[t];rfl) z
  ·exact absurd (show (Ts.lookup a).map HO.tbl=none by rw[aT];rfl) z
 | none =>
  refine core (fun b=>if b=a then some (.frz { cls := .type "list",data := .seq vs.toArray } (.lst (ns.map V.int))) else (Ts.lookup b).map HO.tbl) (fun b => ?_) (.inl (.inr ⟨{ cls := .type "list",data := .seq vs.toArray },VY rfl⟩)) (fun b u z => ?_) (fun b t z => ?_) fun _=>hk
  ·by_cases hb:b=a
   ·subst hb
    exact .inr ⟨aT,.inr ⟨_,_,VY rfl⟩⟩
   ·cases t:Ts.lookup b with
    | some ps=>exact .inl ⟨ps,rfl,(MC hb).trans (by rw[t];rfl)⟩
    | none=>exact .inr ⟨rfl,.inl ((MC hb).trans (by rw[t];rfl))⟩
  ·by_cases hb:b=a
   ·have z':=(VY hb).symm.trans z
    cases z'
    subst hb
    exact⟨ha,by rw[pU];exact hl,vs,_,rv,ha⟩
   ·have z':=(MC hb).symm.trans z
    obtain⟨ps,t,rfl⟩:=VV.mp z'
    exact oM _ b ps t
  ·by_cases hb:b=a
   ·exact hb
   ·exact absurd ((MC hb).trans (by rw[t];rfl)) z
theorem Qu {l:PySem.W.OpenLaw} {n k:Nat} {q:Program} {loose:List Str} {XP:(Str->Option Value)->Heap->Prop} {YP:World->Heap->Prop} {d:DefRec} {K:World->PySem.W.Frag} {CX:World->jR} {sp:World->Sp} {x:Str} {Ts:World->List (Addr × Array Value)}
  (hn:l.most=some n) (Qv:n <= sizeLine) (tR:d.params.defaults=[]) (hr:bz k callerA)
  (hY:∀ (w:World) (h:Heap),YP w h->(K w).In h)
  (hT:∀ (w:World) (h:Heap),YP w h->∀ b ps,(Ts w).lookup b=some ps->h.get? b=some { cls := .none,data := .fields ps }/\isCodeTable h b/\(K w).lookup b=none)
  (F:∀ (w:World) (mg:Str->Option Value) (fa:Addr) (h:Heap),(K w).In h->h.Ns mainGlobals mg->mg d.name=some (.ref fa) →
   ∃ fd:FuncData,(∀ (s:Shared) (u:Value),BindsTo s fd ⟨[u],[]⟩ [(x,u)]) ∧
    ∀ base:Heap,(K w).In base->base.Ns mainGlobals mg->(∀ b ps,(Ts w).lookup b=some ps->base.BuiltinsAt mg b)->aY l.prog w (K w) mg base (CX w) k fa fd [x] (sp w))
  (nZ:∀ (w:World) (H:Hp) (a:Addr) (ns:List Int),ns.length <= n->BR (Ts w) H->bj (K w) H a (ns.map V.int)->sp w [.ref a] H (fun v _=>v = .bl true) fun _ _ _=>False)
  (BU:∀ (w:World) (H:Hp) (s:Shared) (e:Value) (s':Shared),CX w [] H s (fun _ _ _=>False) e s'->False) :
  PySem.W.WalkO q loose XP YP l.row.toRowW d [] (fun f vs=>PySem.call f vs):=by
 refine Att.iM hn tR fun w s₀ s₁ mg mb fa o pm cd doc a vs ns G Y ho hd gc mL pS hints hlen hg => ?_
 have KX:=hY w _ Y
 obtain⟨fd,hb,hF⟩:=F w mg fa _ KX G.T.g mL
 exact Qq (Ts w) (hT w _ Y) KX G.T.g G.T.b G.T.builtins G.T.nolimit hg pS hints (XJ hlen Qv) hr G.T.bmain hF hb (fun H hO hS=>nZ w H a ns hlen hO hS) fun H e s'=>BU w H s₁ e s'
section
variable {X:Cx} {pins:List (Addr × Obj)} {σ : St} {H:Hp} {s:Shared} {h':Heap}
theorem Inv.grow {T c f:Addr} {ps more:Array Value} {oc of:HO} {t':Nat} (I:Inv X pins σ H s) (hT:H T=some (.tbl ps)) (k:∀ b u,b≠T->s.heap.get? b=some u->h'.get? b=some u) (xO:h'.get? T=some { cls := .none,data := .fields (ps ++ more) })
  (hc:s.heap.objs.size <= c) (hf:s.heap.objs.size <= f) (BW:c≠f) (Qw:∀ H2,aI X.prog X.w H2 h' c oc) (Qx:∀ H2,aI X.prog X.w H2 h' f of) :
  Inv X pins σ (upd (upd (upd H T (.tbl (ps ++ more))) c oc) f of) { s with heap:=h',toks:=t' }:=by
 have tl:T < s.heap.objs.size:=(I.aM T _ hT).lt
 have cT:c≠T:=Ys (WB tl hc)
 have fT:f≠T:=Ys (WB tl hf)
 have Wm:H c=none:=I.aM.fresh hc
 have Qy:H f=none:=I.aM.fresh hf
 have old:∀ b,b < s.heap.objs.size->b≠T->upd (upd (upd H T (.tbl (ps ++ more))) c oc) f of b=H b:=fun b hb nT=>by
  rw[aQ (VZ (WB hb hf)),aQ (VZ (WB hb hc)),aQ nT]
 have atT:upd (upd (upd H T (.tbl (ps ++ more))) c oc) f of T=some (.tbl (ps ++ more)):=by
  rw[aQ (Yd fT),aQ (Yd cT),bK]
 have lt:∀ b u,H b=some u->b < s.heap.objs.size:=fun b u e=>(I.aM b u e).lt
 have eJ:∀ b u,H b=some u->(∀ qs,u ≠ .tbl qs)->upd (upd (upd H T (.tbl (ps ++ more))) c oc) f of b=some u:=fun b u e n=>by
  rw[old b (lt b u e) (fun z=>by subst z;rw[hT] at e;cases e;exact n _ rfl)];exact e
 refine I.un (t':=t') ⟨fun b o e n _ _=>k b o (fun z=>by subst z;rw[hT] at n;cases n) e,fun b o e n _ _=>⟨o.slots,k b o (fun z=>by subst z;rw[hT] at n;cases n) e⟩,fun b o e n _ => ?_,fun b o e _ => ?_,fun b xs e=>eJ b _ e (fun _ z=>by cases z),fun b o u e=>eJ b _ e (fun _ z=>by cases z),fun b qs e => ?_⟩ fun b u e => ?_
 ·rw[old b (Mz e) (fun z=>by subst z;rw[hT] at n;cases n)];exact n
 ·by_cases z:b=T
  ·subst z;exact⟨_,xO⟩
  ·exact⟨o,k b o z e⟩
 ·by_cases z:b=T
  ·subst z;rw[hT] at e;cases e;exact⟨more,atT⟩
  ·exact⟨#[],by rw[old b (lt b _ e) z,e];simp⟩
 ·by_cases z1:b=f
  ·subst z1;rw[bK] at e;cases e;exact Qx _
  ·rw[aQ z1] at e
   by_cases z2:b=c
   ·subst z2;rw[bK] at e;cases e;exact Qw _
   ·rw[aQ z2] at e
    by_cases z3:b=T
    ·subst z3;rw[bK] at e;cases e;exact xO
    ·rw[aQ z3] at e
     refine aI.gC (I.aM b u e) (fun d v hd q => ?_) (fun d q=>eJ d _ q (fun _ z=>by cases z)) (fun d xs q=>eJ d _ q (fun _ z=>by cases z))
     ·refine k d v (fun y => ?_) q
      subst y
      rcases hd with y | y
      ·exact z3 y.symm
      ·rw[hT] at y;cases y
noncomputable def l8 (c:Addr) (q:Str):HO := .ext fun h=>∃ o vs tq,h.get? c=some o/\o.data = .fields vs/\vs[1]? = some (.str q tq)
theorem Qz {P:Program} {w:World} {H:Hp} {h:Heap} {c:Addr} {q:Str} (e:h.CodeRec (.ref c) q):aI P w H h c (l8 c q):=by
 obtain⟨c',o,vs,tq,z,ho,hd,hq⟩:=e
 cases z
 exact⟨⟨o,vs,tq,ho,hd,hq⟩,⟨o,ho⟩,fun h1 h2 ⟨o,vs,tq,e1,e2,e3⟩ k=>⟨o,vs,tq,k o e1,e2,e3⟩⟩
theorem QA {P:Program} {w:World} {H:Hp} {h:Heap} {c:Addr} {q:Str} (x:aI P w H h c (l8 c q)):h.CodeRec (.ref c) q:=by
 obtain⟨⟨o,vs,tq,ho,hd,hq⟩,_⟩:=x
 exact⟨c,o,vs,tq,rfl,ho,hd,hq⟩
end
end L2
namespace L2
open PySem PySem.Spec PyProof.Rows PySem.W
section
variable {X:Cx} {pins:List (Addr × Obj)} {σ : St} {H:Hp} {s:Shared} {params:Arguments} {body:Expr} {scope:Scope} {pos:Pos} {i5:List (Str × Addr)} {cc T:Addr} {ps:Array Value} {E:Value->Shared->Prop} {Q:Value->Shared->Prop}
noncomputable def jA (f:Addr) (name qual:Str) (params:Arguments) (body:Expr) (scope:Scope) (i5:List (Str × Addr)) (pm cd:Value):HO := .ext fun h=>∃ vm,h.get? f=some { cls := .type "function",data := .func (kla_fn name qual params body scope i5 pm cd vm) }
noncomputable def eK (H:Hp) (T:Addr) (pos:Pos) (qual:Str):Prop:=∃ ps,H T=some (.tbl ps)/\TriplesOk ps.toList/\(codeAmong pos ps.toList=none\/∃ c,codeAmong pos ps.toList=some (.ref c)/\H c=some (l8 c qual))
theorem QB (I:Inv X pins σ H s) (hT:eK H T pos (X.env.qual ++ "<lambda>")) (BX:defaultsOf params X.env=([],[])) (oF:closureFor scope X.env=pure i5) (jN:X.env.code = .ref cc) (C:CodeHd s.heap cc T) (QC:mainGlobals≠T) (hg:s.heap.Ns mainGlobals X.mg) (hb:s.heap.BuiltinsAt X.mg T)
  (h:∀ f H' s' c,Inv X pins σ H' s'->eK H' T pos (X.env.qual ++ "<lambda>")->(∀ b o,H b=some o->b≠T->H' b=some o)->H f=none->H' f=some (jA f "<lambda>" (X.env.qual ++ "<lambda>") params body scope i5 ((X.mg "__name__").getD .none) (.ref c))->H' c=some (l8 c (X.env.qual ++ "<lambda>"))->Q (.ref f) s') :
  wpAny (model X.prog X.w) X.A (eval (.Lambda params body scope pos) X.env) Q E s:=by
 obtain⟨ps,hP,ht,hf⟩:=hT
 have BY:s.heap.get? T=some { cls := .none,data := .fields ps }:=I.aM T _ hP
 refine kla_eval BX ?_
 rcases hf with HD | ⟨c,hf,xP⟩
 ·refine kla_makeFunction oF I.ok.glob hg jN C BY ht HD QC hb fun c' vm h' tk hx xQ cu BZ QD => ?_
  have hsz:s.heap.objs.size <= h'.objs.size:=XR (Zo xQ cu)
  have tl:T < s.heap.objs.size:=Mz BY
  have QE:T≠h'.objs.size:=VZ (WB tl hsz)
  have QF:T≠c':=VZ (WB tl xQ)
  have BW:c'≠h'.objs.size:=VZ cu
  have HE:(ps ++ #[rawInt pos.line,rawInt pos.col,Value.ref c']).toList=ps.toList ++ [rawInt pos.line,rawInt pos.col,Value.ref c']:=by simp
  have atT:upd (upd (upd H T (.tbl (ps ++ #[rawInt pos.line,rawInt pos.col,.ref c']))) c' (l8 c' (X.env.qual ++ "<lambda>"))) h'.objs.size (jA h'.objs.size "<lambda>" (X.env.qual ++ "<lambda>") params body scope i5 ((X.mg "__name__").getD .none) (.ref c')) T=some (.tbl (ps ++ #[rawInt pos.line,rawInt pos.col,.ref c'])):=by
   rw[aQ QE,aQ QF,bK]
  have atC:upd (upd (upd H T (.tbl (ps ++ #[rawInt pos.line,rawInt pos.col,.ref c']))) c' (l8 c' (X.env.qual ++ "<lambda>"))) h'.objs.size (jA h'.objs.size "<lambda>" (X.env.qual ++ "<lambda>") params body scope i5 ((X.mg "__name__").getD .none) (.ref c')) c'=some (l8 c' (X.env.qual ++ "<lambda>")):=by
   rw[aQ BW,bK]
  refine h h'.objs.size _ _ c' (I.grow (t':=tk) (oc:=l8 c' (X.env.qual ++ "<lambda>")) (of:=jA h'.objs.size "<lambda>" (X.env.qual ++ "<lambda>") params body scope i5 ((X.mg "__name__").getD .none) (.ref c')) hP (fun b u nb e=>tP _ (hx b u nb e)) (tP _ QD) xQ hsz BW (fun _=>Qz (BZ.push _)) fun _ => ?_) ⟨_,atT,?_,.inr ⟨c',?_,atC⟩⟩ (fun b o e nb => ?_) (I.aM.fresh hsz) bK atC
  ·exact⟨⟨vm,VW _ rfl⟩,⟨_,VW _ rfl⟩,fun h1 h2 ⟨v,e⟩ k=>⟨v,k _ e⟩⟩
  ·rw[HE];exact TriplesOk_snoc _ _ _ _ ht
  ·rw[HE];exact codeAmong_snoc _ ht HD
  ·have bl:b < s.heap.objs.size:=(I.aM b o e).lt
   rw[aQ (VZ (WB bl hsz)),aQ (VZ (WB bl xQ)),aQ nb];exact e
 ·refine kla_makeFunctionHit oF I.ok.glob hg jN C BY ht hf hb fun vm h' tk hk hsz => ?_
  have hn:H h'.objs.size=none:=I.aM.fresh hsz
  refine h h'.objs.size _ _ c (I.laid (a:=h'.objs.size) (o:=jA h'.objs.size "<lambda>" (X.env.qual ++ "<lambda>") params body scope i5 ((X.mg "__name__").getD .none) (.ref c)) (t':=tk) (fun b u e=>tP _ (hk b u e)) hsz ?_) ⟨ps,?_,ht,.inr ⟨c,hf,?_⟩⟩ (fun b o e _ => ?_) hn bK ?_
  ·exact⟨⟨vm,VW _ rfl⟩,⟨_,VW _ rfl⟩,fun h1 h2 ⟨v,e⟩ k=>⟨v,k _ e⟩⟩
  ·rw[aQ (dq hP hn)];exact hP
  ·rw[aQ (dq xP hn)];exact xP
  ·rw[aQ (dq e hn)];exact e
  ·rw[aQ (dq xP hn)];exact xP
end
structure LD where
 A:Around
 cl:List (Str × Addr)
 f:Addr
 cd:Value
 s:Shared
 H:Hp
@[reducible] noncomputable def nA (X:Cx) (qual:Str) (scope:Scope) (Nb:List Str) (d:LD):Cx where
 prog:=X.prog
 w:=X.w
 K:=X.K
 mg:=X.mg
 base:=X.base
 A:=d.A.deeper (envX qual scope d.s.heap.objs.size d.f d.cd d.cl)
 N:=Nb
 s₀ := d.s
 H₀ := d.H
 env:=envX qual scope d.s.heap.objs.size d.f d.cd d.cl
 outer:=X.stack
 stack:=envX qual scope d.s.heap.objs.size d.f d.cd d.cl :: X.stack
 ex:=[]
 fn:=fun _=>false
 calm:=true
 pn:=[]
 xe:=fun _ _=>False
noncomputable def xR (N:List Str) (wk scope:Scope) (x:Str) (Nb:List Str) (cp:List (Option Nat)):Bool :=
 lY N wk scope (x :: Nb) (none :: cp) && (scope.names.all fun y=>decide (y.2 ≠ .cell)) && decide (scope.names.lookup x=some .local) && cp.all (·.isSome)
section
variable {X:Cx} {pins:List (Addr × Obj)} {σ : St} {H:Hp} {s:Shared} {params:Arguments} {body:Expr} {scope:Scope} {cl:List (Str × Addr)} {E:Value->Shared->Prop} {Q:VK} {name qual x:Str} {f c:Addr} {pm:Value} {A:Around} {v:V} {u:Value} {Nb:List Str} {cp:List (Option Nat)} {t:TE}
theorem QG (I:Inv X pins σ H s) (hf:H f=some (jA f name qual params body scope cl pm (.ref c))) (hc:H c=some (l8 c qual)) (hA:A.frames=some X.stack) (hh:A.handled=none) (hd:A.depth < recursionLimit)
  (hk:scope.kind = .function) (ho:xR X.N X.env.scope scope x Nb cp=true) (QH:scope.isCoroutine=false) (B0:scope.isGenerator=false)
  (qJ:∀ y c,cl.lookup y=some c->X.env.cells.lookup y=some c) (xS:∀ y∈scope.names,y.2 = .free->∃ c,cl.lookup y.1=some c)
  (hb:∀ (ct:Value),bindArgs (kla_fn name qual params body scope cl pm (.ref c) ct) ⟨[u],[]⟩=pure [(x,u)]) (r:RelV v u)
  (J:JE (nA X qual scope (x :: Nb) ⟨A,cl,f,.ref c,s,H⟩) body t) (h:t (some v :: i8 cp σ) H Q):wpAny (model X.prog X.w) A (call (.ref f) [u]) (EP X pins σ Q) E s:=by
 unfold xR at ho
 simp only[Xq,Yf,W5] at ho
 obtain⟨⟨⟨ho,HF⟩,hx⟩,cps⟩:=ho
 have S:=x1H hk ho
 obtain⟨⟨ct,QI⟩,_⟩:=I.aM f _ hf
 have gc:=QA (I.aM c _ hc)
 refine wpAny_call (kla_callFunE hd QI rfl QH B0 rfl gc ?_)
 rw[hb ct]
 refine wg (wpAny_newFunctionEnv (fun y hy=>HF y hy) (fun y hy=>by rw[Wr.mp hy];exact hx) (fun h₁ vi tX => ?_) hk)
 have vn:∀ b o,s.heap.get? b=some o->h₁.get? b=some o:=fun b o e=>tX.extBut b o (VZ (Mz e)) (tP _ e)
 refine⟨I.nolimit.keeps vn,?_⟩
 have e0:=I.tF
 show codeAny _ _ (.expr body (envX qual scope s.heap.objs.size f (.ref c) cl)) _ _
 have mF:∀ b:Addr,b∉(nA X qual scope (x :: Nb) ⟨A,cl,f,.ref c,s,H⟩).ex:=fun b z=>absurd (show b∈([]:List Addr) from z) (by simp)
 have mem:∀ {y:Str} {k:NameKind},scope.names.lookup y=some k->(y,k)∈scope.names:=fun e=>XQ e
 have I1:Inv (nA X qual scope (x :: Nb) ⟨A,cl,f,.ref c,s,H⟩) [] (some v :: i8 cp σ) H { s with heap:=h₁,toks:=s.toks + [(x,u)].length }:=by
  refine⟨⟨e0.mod,hk,rfl,rfl,we _,fun y z d h1 h2=>I.ok.inj y z d (qJ y d h1) (qJ z d h2),fun y hy => ?_,fun y d z _=>(by cases z),fun _=>hh,Around.frames_deeper hA,.inr ⟨rfl,rfl⟩,fun b z=>absurd z (mF b),e0.bs,e0.nV,fun b _ _=>mF b,fun b z=>absurd z (mF b),e0.fK,e0.pe⟩,
   rfl,e0.bare,Un.kept vn,⟨_,vi,fun i y w h1 h2 h3 => ?_⟩,fun y d hy => ?_,e0.aM.fresh (we _),fun y d hy=>I.c7 y d (qJ y d hy),fun p hp=>absurd (show p∈([]:List (Addr × Obj)) from hp) (by simp),e0.aM.kept vn,?_⟩
  ·have hy:scope.names.lookup y=some .cell\/scope.names.lookup y=some .free:=hy
   rcases hy with hy | hy
   ·exact absurd rfl (HF _ (mem hy))
   ·exact xS _ (mem hy) rfl
  ·cases i with
   | zero =>
    cases (show some x=some y by simpa using h1)
    cases (show v=w by simpa using h2)
    exact⟨u,r,.inl ⟨hx,by simp⟩⟩
   | succ j =>
    have h1:Nb[j]? = some y:=by simpa using h1
    have h2:(i8 cp σ)[j]? = some (some w):=by simpa using h2
    unfold i8 at h2
    rw[E7] at h2
    obtain⟨o,q1,q2⟩:=VV.mp h2
    match o,q2 with
    | none,q2=>cases q2
    | some i',q2 =>
     have q2:(σ[i']?).join=some w:=q2
     obtain⟨n1,n2⟩:=S.tT (j + 1) i' y (by simpa using q1) (by simpa using h1)
     have hs : σ[i']? = some (some w):=by
      cases q : σ[i']? with
      | none=>rw[q] at q2;cases q2
      | some z=>rw[q] at q2;cases (show z=some w from q2);rfl
     have kd:=S.free _ (mem n2) rfl
     obtain⟨m,hn,hl⟩:=I.loc
     obtain⟨u',rv,lk⟩:=hl i' y w n1 hs (by rcases kd with z | z;exact .inr (.inl z);exact .inr (.inr z))
     refine⟨u',rv,?_⟩
     rcases lk with⟨z,_⟩ | ⟨_,d,e1,o,e2,e3⟩
     ·rcases kd with k | k<;>(rw[show X.env.kindOf y=some .local from z] at k;cases k)
     ·obtain⟨d',e4⟩:=xS _ (mem n2) rfl
      have:=qJ _ _ e4
      rw[e1] at this;cases this
      exact .inr ⟨.inr n2,d,e4,o,vn _ _ e2,e3⟩
  ·obtain⟨z,o,e2,e3⟩:=I.cell y d (qJ y d hy)
   exact⟨z,o,vn _ _ e2,e3⟩
  ·have:=S.len
   show (some v :: i8 cp σ).length=(x :: Nb).length
   unfold i8
   rw[Mx,pU]
   simpa using this
 refine kla_codeExpr (Yr (J.out [] _ _ H Q I1 h) (fun u' s' hs => ?_) fun e s' hs=>hs.elim)
 obtain⟨w,H',J',rv,q⟩:=hs
 exact I.after ⟨w,H',J'.os,J'.bare,J'.base,J'.aM,rv,q⟩
end
noncomputable def lH (h:Heap) (k:LK) (v:Value):Prop:=∃ a o xs n,v = .ref a/\h.get? a=some o/\o.cls = .type "tuple" /\ o.data = .seq xs n/\IntsAre xs.toList k
section
variable {prog:Program} {w:World} {A:Around} {E:Value->Shared->Prop} {s:Shared} {Q:Bool->Shared->Prop}
theorem HG {fin:Bool}:∀ {us ws:List Value} {ks ls:LK} (i:Nat),IntsAre us ks->IntsAre ws ls->fin=decide (us.length < ws.length)->Q (HT.lexLt ks ls) s->KatLex prog w A true fin Q (us.zip ws) i s
 | _,_,_,_,i,.nil,.nil,hf,h=>by
  rw[q0o]
  subst hf
  exact h
 | _,_,_,_,i,.nil,.cons m u r,hf,h=>by
  rw[q0o]
  have:fin=true:=by rw[hf];simp
  subst this
  exact h
 | _,_,_,_,i,.cons n t r,.nil,hf,h=>by
  rw[List.zip_nil_right]
  have:fin=false:=by rw[hf];simp
  subst this
  exact h
 | _,_,_,_,i,.cons n t r,.cons m u r',hf,h=>by
  rw[q0f]
  refine kat_cons (wpAny_eqBool_int (kat_go (fun e => ?_) fun e => ?_))
  ·have e:n=m:=XU e
   subst e
   rw[HT.mH,VY rfl] at h
   exact kat_yes (HG (i + 1) r r' (by rw[hf];simp) h)
  ·have e:¬ n=m:=fun z=>by subst z;simp at e
   rw[HT.mH,MC e] at h
   refine kat_no ?_
   cases q:(true && i == 0) with
   | true=>exact oneLt_int h
   | false=>exact kat_one _ _ (PyProof.Rows.lt_int h)
theorem QJ {k l:LK} {x y:Value} (hx:lH s.heap k x) (hy:lH s.heap l y) (h:Q (HT.lexLt k l) s):wpAny (model prog w) A (keyLt' (tuples' true) x y) Q E s:=by
 obtain⟨a,o,xs,n,rfl,h1,_,h2,h3⟩:=hx
 obtain⟨b,o',ys,n',rfl,g1,_,g2,g3⟩:=hy
 exact kat_lt h1 h2 g1 g2 (HG 0 h3 g3 (by rw[E8,E8]) h)
theorem HH {h:Heap}:∀ {keys:List Value} {ks:List LK},(∀ k∈ks,k≠[])->keys.length=ks.length->(∀ (i:Nat) (k:LK) (v:Value),ks[i]? = some k->keys[i]? = some v->lH h k v)->∃ fs,KatTups h keys fs/\fs.length=keys.length/\∀ v∈fs,∃ n t,v=Value.int n t
 | [],[],_,_,_=>⟨[],.nil,rfl,fun v hv=>nomatch hv⟩
 | [],_ :: _,_,hl,_=>by simp at hl
 | _ :: _,[],_,hl,_=>by simp at hl
 | v :: keys,k :: ks,gR,hl,ht=>by
  obtain⟨fs,t,hf,hi⟩:=HH (h:=h) (keys:=keys) (ks:=ks) (fun k hk=>gR k (E9 _ hk)) (by simpa using hl) fun i k v e1 e2=>ht (i + 1) k v (by simpa using e1) (by simpa using e2)
  obtain⟨a,o,xs,n,rfl,h1,hc,h2,h3⟩:=ht 0 k v rfl rfl
  have hk:=gR k E6
  generalize hx:xs.toList=xl at h3
  cases h3 with
  | nil=>exact absurd rfl hk
  | cons m t' r =>
   have h0:xs[0]? = some (.int m t'):=by rw[<-Wx,hx];rfl
   refine⟨.int m t' :: fs,.cons h1 hc h2 h0 t,by rw[Mx,Mx,hf],fun v hv => ?_⟩
   rcases MA.mp hv with rfl | hv
   ·exact⟨m,t',rfl⟩
   ·exact hi v hv
theorem QK {M:Model} {keys:List Value} {ks:List LK} {Q:SortKind->Shared->Prop} (h0:0 < keys.length) (gR:∀ k∈ks,k≠[]) (hl:keys.length=ks.length) (ht:∀ (i:Nat) (k:LK) (v:Value),ks[i]? = some k->keys[i]? = some v->lH s.heap k v) (h:Q (tuples' true) s) :
  wpAny M A (keyKind' keys.toArray) Q E s:=by
 obtain⟨fs,t,hf,hi⟩:=HH gR hl ht
 refine kat_kind (T := .type "int") t (by omega) (fun v hv => ?_) (by decide) ?_
 ·obtain⟨n,t',rfl⟩:=hi v hv
  exact .now
 ·exact h
theorem getD_some {α : Type} {l:List α} {i:Nat} {d : α} (h:i < l.length):l[i]? = some (l.getD i d):=by
 rw[mM h,rG,mM h];rfl
theorem QL {a kS:Addr} {e1:Nat} {vs keys:List Value} {ks:List LK} {P:PySem.Fin->Shared->Prop} (hv:keys.length=vs.length) (i9:vs.length < 64) (gR:∀ k∈ks,k≠[]) (hl:keys.length=ks.length) (ht:∀ (i:Nat) (k:LK) (v:Value),ks[i]? = some k->keys[i]? = some v->lH s.heap k v)
  (fin:∀ st (p:Array Nat),(arrOf st).map (·.2)=List.toArray (p.toList.map fun i=>vs.getD i Value.none)->failedOf st=none->di vs.length p->Up (fun i=>ks.getD i []) p vs.length->wpAny (model prog w) A (ksk_tail a false e1 (.ref kS) st) P E s) :
  wpAny (model prog w) A (ksk_end a false vs.toArray e1 (.ref kS) (List.toArray keys)) P E s:=by
 unfold ksk_end
 try dsimp only
 simp only[WD,XE]
 by_cases h2:vs.toArray.size < 2
 ·rw[VY h2,VY h2]
  refine pT (wg ?_)
  rw[StateT.run_pure]
  refine pT (wg ?_)
  try dsimp only
  rw[zR] at h2
  refine fin _ (List.range vs.length).toArray ?_ rfl ⟨q0Y _⟩ fun i j je hj => ?_
  ·have B2:arrOf (SortSt.mk' general' (keys.toArray.zip vs.toArray) #[] 7 none)=(List.toArray (List.range vs.length)).map (kas_item (keys.toArray.zip vs.toArray)):=by
    have e:=kas_range (keys.toArray.zip vs.toArray)
    rw[show (keys.toArray.zip vs.toArray).size=vs.length by simp[hv]] at e
    rw[e]
   exact kat_snds hv B2
  ·have:i=j:=by omega
   subst this
   exact kle_refl _
 ·rw[MC h2,MC h2]
  rw[zR] at h2
  refine pT (QK (by omega) gR hl ht ?_)
  refine pT (Yr (kat_run (κ := tuples' true) (E:=E) (Q:=fun gU s'=>s'=s/\∃ p:Array Nat,arrOf gU=p.map (kas_item (keys.toArray.zip vs.toArray))/\failedOf gU=none/\di vs.length p/\Up (fun i=>ks.getD i []) p vs.length)
   (G:=fun p s'=>s'=s/\di vs.length p/\Up (fun i=>ks.getD i []) p vs.length) hv (by omega) i9 (fun p gU s' a1 a2 a3 a4=>⟨a4.1,p,a2,a3,a4.2.1,a4.2.2⟩) ?_) ?_ fun _ _ x=>x)
  ·refine GV (k:=fun i=>ks.getD i []) (I:=fun s'=>s'=s) (fun i j C s' hi hj e hC => ?_) (by omega) rfl fun p s' a1 a2 a3=>⟨a3,a1,a2⟩
   subst e
   exact QJ (ht i _ _ (getD_some (by omega)) (getD_some (by omega))) (ht j _ _ (getD_some (by omega)) (getD_some (by omega))) (hC _ rfl)
  ·rintro ⟨⟨⟩,gU⟩ s' ⟨rfl,p,a1,a2,a3,a4⟩
   try dsimp only
   exact fin gU p (kat_snds hv a1) a2 a3 a4
end
theorem bx.at {X:Cx} {pins:List (Addr × Obj)} {H H':Hp} {b:Addr} (f:bx X pins H b) (h:H' b=none):bx X pins H' b:=⟨h,f.2⟩
section
variable {X:Cx} {pins:List (Addr × Obj)} {σ : St} {H:Hp} {s:Shared} {A:Around} {E:Value->Shared->Prop} {a:Addr} {vs:List Value} {f:Value}
theorem Inv.g9 {h':Heap} {t':Nat} {b:Addr} (I:Inv X pins σ H s) (fb:bx X pins H b) (k:∀ c o,c≠b->s.heap.get? c=some o->h'.get? c=some o):Inv X pins σ H { s with heap:=h',toks:=t' } :=
 I.turned k fb.1 fb.2.1 fb.2.2.2.1 fb.2.2.2.2.1 fb.2.2.2.2.2
theorem Inv.nB {b:Addr} {o:Obj} (I:Inv X pins σ H s) (fb:bx X pins H b) (e:s.heap.get? b=some o) (hc:∀ v,o.data ≠ .cell v):Inv X ((b,o) :: pins) σ H s :=
 I.fU fun p hp=>by
  rcases MA.mp hp with rfl | hp
  ·exact⟨e,fb.1,fb.2.1,fb.2.2.1,hc⟩
  ·exact I.pin p (Wv _ hp)
theorem Inv.ir {p:Addr × Obj} (I:Inv X (p :: pins) σ H s):Inv X pins σ H s:=I.fU fun q hq=>I.pin q (Wv _ (E9 _ hq))
theorem bx.cons {b:Addr} {p:Addr × Obj} (f:bx X pins H b) (n:p.1≠b):bx X (p :: pins) H b :=
 ⟨f.1,f.2.1,f.2.2.1,f.2.2.2.1,f.2.2.2.2.1,fun q hq=>by
  rcases Xa.mp hq with z | z
  ·exact f.2.2.2.2.2 q (Xk _ z)
  ·rcases MA.mp z with rfl | z
   ·exact n
   ·exact f.2.2.2.2.2 q (Wv _ z)⟩
theorem xT {c:String} {xs:Array Value} {n:Nat}:∀ v,(seqObj c xs n).data ≠ .cell v:=fun v z=>by cases z
theorem QM {P:List V->Hp->Prop} {n0:Nat} {R:PySem.Fin->Shared->Prop} (I:Inv X pins σ H s) (fa:bx X pins H a) (ha:s.heap.get? a=some (seqObj "list" vs.toArray n0)) (i9:vs.length < 64) (p0:P [] H)
  (qK:∀ (du:List (Addr × Obj)) (v:Value) (kvs:List V) (H':Hp) (s':Shared),vs[kvs.length]? = some v->Inv X du σ H' s'->P kvs H'->wpAny (model X.prog X.w) A (call f [v]) (EP X du σ fun k lg=>P (kvs ++ [k]) lg) (fun _ _=>False) s')
  (fin:∀ kvs H',kvs.length=vs.length->P kvs H'->∃ ks:List LK,ks.length=vs.length/\(∀ k∈ks,k≠[])/\(∀ (i:Nat) (k:LK),ks[i]? = some k->∃ t,kvs[i]? = some (.ref t)/\H' t=some (.tup (k.map V.int))) ∧
   ∀ (p:Array Nat) (s':Shared) (c:Nat),di vs.length p->Up (fun i=>ks.getD i []) p vs.length->Inv X pins σ H' s'->bx X pins H' a->s'.heap.get? a=some (seqObj "list" (List.toArray (p.toList.map fun i=>vs.getD i Value.none)) c)->R (.done (.ret .none)) s') :
  wpAny (model X.prog X.w) A (ksk_tree a f false) R E s:=by
 unfold ksk_tree
 refine pT (listItems_at ha rfl ?_)
 refine pT (Zi ha rfl ?_ (by rw[zR,Xx];omega) (Xn _))
 have sb:=W7 s.heap a (Obj.mapSeq fun _=>(#[]:Array Value))
 obtain⟨e1,f_⟩:∃ e1,(s.heap.update a (Obj.mapSeq fun _=>(#[]:Array Value))).get? a=some (seqObj "list" #[] e1):=⟨_,Zm ha fun _ => #[]⟩
 have I1:Inv X pins σ H { s with heap:=s.heap.update a (Obj.mapSeq fun _=>(#[]:Array Value)) }:=I.g9 (t':=s.toks) fa fun c o n e=>(sb.2 c n).trans e
 refine pT (seqEpoch_at f_ rfl ?_)
 refine pT (wpAny_newTuple ?_ (by show vs.length <= _;rw[Xx];omega))
 refine pT (ZV ?_ (Xn _))
 refine W9 ?_
 generalize QN:s.heap.update a (Obj.mapSeq fun _=>(#[]:Array Value))=g0 at f_ I1
 show wpAny _ _ (ksk_rest a f false vs.toArray e1 (.ref (g0.push (seqObj "tuple" vs.toArray 0)).objs.size)) R E { s with heap:=(g0.push (seqObj "tuple" vs.toArray 0)).push (seqObj "list" #[] 0) }
 have I2:Inv X pins σ H { s with heap:=(g0.push (seqObj "tuple" vs.toArray 0)) }:=I1.kept (h':=g0.push (seqObj "tuple" vs.toArray 0)) (t':=s.toks) fun b u e=>tP _ e
 have fI:(g0.push (seqObj "tuple" vs.toArray 0)).get? a=some (seqObj "list" #[] e1):=tP _ f_
 generalize g0.push (seqObj "tuple" vs.toArray 0)=g1 at I2 fI
 have fk:bx X pins H g1.objs.size:=I2.iK (we _) (I2.aM.fresh (we _))
 have I3:Inv X pins σ H { s with heap:=g1.push (seqObj "list" #[] 0) }:=I2.kept (h':=g1.push (seqObj "list" #[] 0)) (t':=s.toks) fun b u e=>tP _ e
 have vo:g1.objs.size≠a:=Ys (Mz fI)
 have I4:=(I3.nB fk (VW _ rfl) xT).nB (fa.cons (p:=(g1.objs.size,seqObj "list" #[] 0)) vo) (tP _ fI) xT
 generalize g1.objs.size=kS at I4 vo fk
 unfold ksk_rest
 refine pT (q0I ?_)
 first
  | rw[List.forIn_toArray]
  | (rw[<-Zp];simp only[List.toList_toArray])
  | rw[<-Zp]
 refine pT (ksk_fold (fun i s'=>∃ H' kvs ks e,Inv X ((a,seqObj "list" #[] e1) :: (kS,seqObj "list" (List.toArray ks) e) :: pins) σ H' s'/\P kvs H'/\Vals kvs ks/\kvs.length=i) vs 0 _ ⟨H,[],[],0,I4,p0,.nil,rfl⟩ ?step ?done)
 case step =>
  rintro j x s' hx ⟨H',kvs,ks,e,J,pk,rv,hl⟩
  rw[Xi] at hl
  have hj:j < vs.length:=(pV.mp hx).1
  refine pT (wpAny_attempt (Yr (qK _ x kvs H' s' (by rw[hl];exact hx) J pk) (fun u s2 hs => ?_) fun _ _ z=>z.elim))
  obtain⟨k,H2,J2,r2,p2⟩:=hs
  try dsimp only
  have pa:=J2.pin (a,seqObj "list" #[] e1) (Wv _ (.head _))
  have oN:=J2.pin (kS,seqObj "list" (List.toArray ks) e) (Wv _ (.tail _ (.head _)))
  have lk:ks.length=j:=by rw[<-rv.length];exact hl
  refine pT (Zi oN.1 rfl ?_ (by rw[zR,Xx];omega) (XJ (q0N (q0S ..)) (by rw[zR,Xx];omega)))
  have s1:=W7 s2.heap kS (Obj.mapSeq (·.push u))
  have ea:(List.toArray ks).push u=List.toArray (ks ++ [u]):=by simp
  obtain⟨c2,jG⟩:∃ c2,(s2.heap.update kS (Obj.mapSeq (·.push u))).get? kS=some (seqObj "list" (List.toArray (ks ++ [u])) c2):=⟨_,by rw[<-ea];exact Zm oN.1 (·.push u)⟩
  have J3:=J2.ir.ir
  have J4:Inv X pins σ H2 { s2 with heap:=s2.heap.update kS (Obj.mapSeq (·.push u)) }:=J3.g9 (t':=s2.toks) (fk.at oN.2.1) fun c o n e=>(s1.2 c n).trans e
  refine wg ⟨rfl,H2,kvs ++ [k],ks ++ [u],c2,?_,p2,rv.append (.cons r2 .nil),by rw[My,hl,Xi];rfl⟩
  exact (J4.nB (fk.at oN.2.1) jG xT).nB ((fa.at pa.2.1).cons vo) ((s1.2 a vo.symm).trans pa.1) xT
 case done =>
  rintro s' ⟨H',kvs,ks,e,J,pk,rv,hl⟩
  rw[Xi] at hl
  have pa:=J.pin (a,seqObj "list" #[] e1) (Wv _ (.head _))
  have oN:=J.pin (kS,seqObj "list" (List.toArray ks) e) (Wv _ (.tail _ (.head _)))
  have lk:ks.length=vs.length:=by rw[<-rv.length];exact hl
  obtain⟨kk,k1,k2,k3,k4⟩:=fin kvs H' hl pk
  try dsimp only
  refine pT (listItems_at oN.1 rfl ?_)
  refine QL (ks:=kk) lk i9 k2 (by rw[lk,k1]) (fun i k v e1 e2 => ?_) fun st p qL hf hp up => ?_
  ·obtain⟨t,e3,e4⟩:=k3 i k e1
   obtain⟨u,e5,e6⟩:=rv.get e3
   rw[e2] at e5;cases e5
   cases e6
   obtain⟨ak,r',it,_⟩:=J.tuple (bV.of e4)
   obtain⟨o,o1,o2,n,o3⟩:=it
   exact⟨t,o,_,n,rfl,o1,o2,o3,by simpa using intsAre_of r'⟩
  ·have hz:(p.toList.map fun i=>vs.getD i Value.none).length=vs.length:=by rw[pU,E8,hp.size]
   unfold ksk_tail
   try dsimp only
   rw[qL]
   refine pT (Zi oN.1 rfl ?_ (by rw[zR,Xx];omega) (Xn _))
   refine pT (wpAny_letGo ?_)
   have s1:=W7 s'.heap kS (Obj.mapSeq fun _=>(#[]:Array Value))
   have na:(s'.heap.update kS (Obj.mapSeq fun _=>(#[]:Array Value))).get? a=some (seqObj "list" #[] e1):=(s1.2 a vo.symm).trans pa.1
   refine pT (seqEpoch_at na rfl ?_)
   simp only[WD,XE]
   refine pT (Zi na rfl ?_ (Xn _) (XJ (q0N (by rw[zR,hz])) (by rw[Xx];omega)))
   rw[hf]
   simp only[q0m,WD,XE]
   have J1:Inv X pins σ H' { s' with heap:=s'.heap.update kS (Obj.mapSeq fun _=>(#[]:Array Value)) }:=J.ir.ir.g9 (t':=s'.toks) (fk.at oN.2.1) fun c o n e=>(s1.2 c n).trans e
   have s2:=W7 (s'.heap.update kS (Obj.mapSeq fun _=>(#[]:Array Value))) a (Obj.mapSeq fun _=>List.toArray (p.toList.map fun i=>vs.getD i Value.none))
   have J2:Inv X pins σ H' { s' with heap:=(s'.heap.update kS (Obj.mapSeq fun _=>(#[]:Array Value))).update a (Obj.mapSeq fun _=>List.toArray (p.toList.map fun i=>vs.getD i Value.none)) }:=J1.g9 (t':=s'.toks) (fa.at pa.2.1) fun c o n e=>(s2.2 c n).trans e
   obtain⟨c2,jG⟩:∃ c2,((s'.heap.update kS (Obj.mapSeq fun _=>(#[]:Array Value))).update a (Obj.mapSeq fun _=>List.toArray (p.toList.map fun i=>vs.getD i Value.none))).get? a=some (seqObj "list" (List.toArray (p.toList.map fun i=>vs.getD i Value.none)) c2):=⟨_,Zm na fun _=>List.toArray (p.toList.map fun i=>vs.getD i Value.none)⟩
   exact wg (k4 p _ c2 hp up J2 (fa.at pa.2.1) jG)
end
section
variable {prog:Program} {w:World} {A:Around} {E:Value->Shared->Prop} {s:Shared}
theorem QO {Q:List Value->Shared->Prop} {r:Addr} {a b c:Int} {t u v:Tok} {n:Nat} (hh:A.handled=none) (hr:IsRange s.heap r a b c t u v) (qM:Builtin.Range.small a b c=true)
  (hn:Builtin.Range.rangeSize a b c=n) (hlen:n <= 2 ^ 24)
  (hQ:∀ h' tk b_,(∀ b o,s.heap.get? b=some o->h'.get? b=some o)->ItemsOf (fun i v=>∃ t,v = .int (a + i * c) t) b_ n->Q b_.toList { s with heap:=h',toks:=tk }):wpAny (model prog w) A (collect (.ref r)) Q E s:=by
 have key:∀ R:Result->Shared->Prop,(∀ h' tk b_ c',(∀ b o,s.heap.get? b=some o->h'.get? b=some o)->h'.get? s.heap.objs.size=some { cls := .type "list",dict:=none,data := .seq b_ c',slots := #[] }->ItemsOf (fun i v=>∃ t,v = .int (a + i * c) t) b_ n->R (.ok (.ret (.ref s.heap.objs.size))) { s with heap:=h',toks:=tk })->codeAny (model prog w) A (.builtin "proto.collect" ⟨[.ref r],[]⟩) R s:=by
  intro R hR
  refine XC F.entry_proto_collect ?_
  rw[Xo F.plain_proto_collect _]
  show wpAny _ A.in1 (newList [] >>= fun l=>again (.builtin "list.__iadd__" ⟨[l,.ref r],[]⟩)) _ _ s
  refine pT (Xy ?_)
  refine wg ⟨Yx ZC _,XC F.entry_list_iadd ?_⟩
  rw[Xo ZC _]
  show wpAny _ A.in1 (Builtin.List.listExtendWith (.ref s.heap.objs.size) (.ref r) (.ref s.heap.objs.size)) _ _ _
  have QP:(s.heap.push { cls := .type "list",data := .seq ([]:List Value).toArray }).get? s.heap.objs.size=some { cls := .type "list",data := .seq #[] 0 }:=VW _ rfl
  refine wpAny_extend_range (R:=R) (s:={ s with heap:=s.heap.push { cls := .type "list",data := .seq ([]:List Value).toArray } }) hh (tP _ hr) qM hn hlen s.heap.objs.size (.ref s.heap.objs.size) 0 QP fun h' tk b_ c' hk rp jh => ?_
  exact hR h' tk b_ c' (fun b o e=>hk b o (VZ (Mz e)) (tP _ e)) rp jh
 unfold collect
 refine pT (Z_ (key _ fun h' tk b_ c' hk rp jh => ?_))
 show wpAny _ A (load s.heap.objs.size >>= _) _ _ _
 refine pT (wpAny_load rp ?_)
 exact wg (hQ h' tk b_ hk jh)
end
section
variable {X:Cx} {pins:List (Addr × Obj)} {σ : St} {H:Hp} {s:Shared} {E:Value->Shared->Prop}
theorem Inv.oO {a:Addr} {o:HO} (I:Inv X pins σ H s) (fa:bx X pins H a) (ha:X.s₀.heap.objs.size <= a) (new:aI X.prog X.w (upd H a o) s.heap a o):Inv X pins σ (upd H a o) s:=by
 obtain⟨f0,f1,f2,_,f4,f5⟩:=fa
 have ne:∀ {b u},H b=some u->b≠a:=fun e z=>by rw[z,f0] at e;cases e
 refine⟨I.ok,I.os,I.bare,⟨I.base.keep,I.base.slot,fun b u e n hx => ?_,I.base.there,fun b xs e => ?_,fun b u v e => ?_,fun b ps e => ?_⟩,I.loc,I.cell,?_,fun x c e => ?_,fun p hp => ?_,fun b u e => ?_,I.len⟩
 ·rw[aQ (VZ (WB (Mz e) ha))];exact I.base.free b u e n hx
 ·have:=I.base.gb b xs e
  rw[aQ (ne this)];exact this
 ·have:=I.base.gD b u v e
  rw[aQ (ne this)];exact this
 ·obtain⟨more,this⟩:=I.base.gE b ps e
  exact⟨more,by rw[aQ (ne this)];exact this⟩
 ·rw[aQ (Yd f1)];exact I.free
 ·rw[aQ (f4 x c e)];exact I.c7 x c e
 ·obtain⟨e1,e2,e3⟩:=I.pin p hp
  exact⟨e1,by rw[aQ (f5 p hp)];exact e2,e3⟩
 ·by_cases z:b=a
  ·subst z;rw[bK] at e;cases e;exact new
  ·rw[aQ z] at e
   refine (I.aM b u e).gC (fun c v _ q=>q) (fun c q => ?_) fun c xs q => ?_
   ·rw[aQ (ne q)];exact q
   ·rw[aQ (ne q)];exact q
theorem HI {xs:List V} {vs:List Value} (r:Vals xs vs) {p:List Nat} (hp:∀ i∈p,i < vs.length):Vals (p.map fun i=>xs.getD i .non) (p.map fun i=>vs.getD i Value.none):=by
 induction p with
 | nil=>exact .nil
 | cons i q ih =>
  refine .cons ?_ (ih fun j hj=>hp j (E9 _ hj))
  have hi:=hp i E6
  obtain⟨u,e1,e2⟩:=r.get (getD_some (l:=xs) (d:=V.non) (by rw[r.length];exact hi))
  have:=getD_some (l:=vs) (d:=Value.none) hi
  rw[this] at e1;cases e1
  exact e2
theorem di.mem {n:Nat} {p:Array Nat} (h:di n p) {i:Nat} (hi:i∈p.toList):i < n:=by
 have:=(Y7.mp h.perm).mem_iff.mp hi
 simpa using this
theorem QQ {l q:Addr} {P:List V->Hp->Prop} {xs:List V} {Q:Value->Shared->Prop} (I:Inv X pins σ H s)
  (col:∀ Q':List Value->Shared->Prop,(∀ h' tk vs,(∀ b o,s.heap.get? b=some o->h'.get? b=some o)->Vals xs vs->Q' vs { s with heap:=h',toks:=tk })->wpAny (model X.prog X.w) X.A.in1 (collect (.ref l)) Q' E s)
  (i9:xs.length < 64) (p0:P [] H)
  (qK:∀ (du:List (Addr × Obj)) (x:V) (u:Value) (kvs:List V) (H':Hp) (s':Shared),xs[kvs.length]? = some x->RelV x u->Inv X du σ H' s'->P kvs H'->wpAny (model X.prog X.w) X.A.in1.in1 (call (.ref q) [u]) (EP X du σ fun k lg=>P (kvs ++ [k]) lg) (fun _ _=>False) s')
  (fin:∀ kvs H',kvs.length=xs.length->P kvs H'->∃ ks:List LK,ks.length=xs.length/\(∀ k∈ks,k≠[])/\(∀ (i:Nat) (k:LK),ks[i]? = some k->∃ t,kvs[i]? = some (.ref t)/\H' t=some (.tup (k.map V.int))) ∧
   ∀ (p:Array Nat) (s':Shared) (a:Addr),di xs.length p->Up (fun i=>ks.getD i []) p xs.length->H' a=none->Inv X pins σ (upd H' a (.lst (p.toList.map fun i=>xs.getD i .non))) s'->Q (.ref a) s') :
  wpAny (model X.prog X.w) X.A (call (.builtin "sorted") [.ref l] [(Str.ofString "key",.ref q)]) Q E s:=by
 refine call_function_entry_kw kind_sorted plain_sorted entry_sorted (ksk_s1 _ _) ?_
 unfold Builtin.«sorted»
 refine pT (m:=checkCount "sorted" 1 1 _) (wg ?_)
 refine pT (col _ fun h' tk vs kp rv => ?_)
 have lv:vs.length=xs.length:=rv.length.symm
 refine pT (ZV ?_ (by rw[Xx];omega))
 have I1:Inv X pins σ H { s with heap:=h',toks:=tk }:=I.kept kp
 have fa:bx X pins H h'.objs.size:=I1.iK (we _) (I1.aM.fresh (we _))
 have B3:X.s₀.heap.objs.size <= h'.objs.size:=I1.sz
 have I2:Inv X pins σ H { s with heap:=h'.push (seqObj "list" vs.toArray 0),toks:=tk }:=I1.kept (h':=h'.push (seqObj "list" vs.toArray 0)) (t':=tk) fun b u e=>tP _ e
 have kU:(h'.push (seqObj "list" vs.toArray 0)).get? h'.objs.size=some (seqObj "list" vs.toArray 0):=VW _ rfl
 refine pT (W9 (wpAny_call_entry_kw slot_list_sort ⟨_,kU,rfl⟩ entry_list_sort ?body (ksk_l1 _ _)))
 case body =>
  show wpAny (model X.prog X.w) X.A.in1.in1 (Builtin.«list.sort» ⟨[.ref h'.objs.size],[(Str.ofString "key",.ref q)]⟩) _ _ _
  rw[ksk_t1]
  refine QM (P:=P) I2 fa kU (by omega) p0 (fun du v kvs H' s' hv J pk => ?_) fun kvs H' hl pk => ?_
  ·have hi:kvs.length < xs.length:=by rw[<-lv];exact (pV.mp hv).1
   obtain⟨u,e1,e2⟩:=rv.get (mM hi)
   rw[hv] at e1;cases e1
   exact qK du _ v kvs H' s' (mM hi) e2 J pk
  ·obtain⟨ks,k1,k2,k3,k4⟩:=fin kvs H' (by omega) pk
   refine⟨ks,by omega,k2,k3,fun p s' c hp up J fj e=>⟨_,rfl,?_⟩⟩
   rw[lv] at hp up
   refine wg ⟨_,rfl,k4 p s' h'.objs.size hp up fj.1 (J.oO fj B3 ?_)⟩
   have hz:(p.toList.map fun i=>xs.getD i V.non).length=xs.length:=by rw[pU,E8,hp.size]
   exact⟨by rw[hz,Xx];omega,_,c,HI rv fun i hi=>by rw[lv];exact hp.mem hi,e⟩
end
theorem af.at {H:Hp} {ds:List D} {vs:List V} {i:Nat} {d:D} {v:V} (h:af H ds vs) (e1:ds[i]? = some d) (e2:vs[i]? = some v):Is H d v:=by
 obtain⟨d',e3,h'⟩:=h.get e2
 rw[e1] at e3;cases e3
 exact h'
theorem af.qN {H:Hp}:∀ {ds:List D} {vs:List V},vs.length=ds.length->(∀ (i:Nat) (d:D),ds[i]? = some d->∃ v,vs[i]? = some v/\Is H d v)->af H ds vs
 | [],[],_,_ => .nil
 | [],_ :: _,h,_=>by simp at h
 | _ :: _,[],h,_=>by simp at h
 | d :: ds,v :: vs,h,g=>by
  obtain⟨v',e,h1⟩:=g 0 d rfl
  cases (show some v=some v' from e)
  exact .cons h1 (af.qN (by simpa using h) fun i d e=>by simpa using g (i + 1) d (by simpa using e))
structure oP where
 T:Addr
 pos:Pos
 qual:Str
theorem eK.same {H H':Hp} {T:Addr} {pos:Pos} {q:Str} (h:eK H T pos q) (s:aA H H'):eK H' T pos q:=by
 obtain⟨ps,e,t,c⟩:=h
 exact⟨ps,s _ _ e,t,c.imp id fun ⟨c,e1,e2⟩=>⟨c,e1,s _ _ e2⟩⟩
theorem eK.keep {H H':Hp} {T T':Addr} {pos:Pos} {q:Str} (h:eK H T pos q) (ne:T≠T') (hT:∃ ps,H T'=some (.tbl ps)) (s:∀ b o,H b=some o->b≠T'->H' b=some o):eK H' T pos q:=by
 obtain⟨ps,e,t,c⟩:=h
 refine⟨ps,s _ _ e ne,t,c.imp id fun ⟨c,e1,e2⟩=>⟨c,e1,s _ _ e2 fun z => ?_⟩⟩
 obtain⟨qs,hT⟩:=hT
 rw[z,hT] at e2;cases e2
theorem eK.put {H:Hp} {T a:Addr} {pos:Pos} {q:Str} {o o':HO} (h:eK H T pos q) (ha:H a=some o) (hk:(∃ vs,o = .lst vs)\/∃ ws,o = .dK ws):eK (upd H a o') T pos q:=by
 obtain⟨ps,e,t,c⟩:=h
 have ne:∀ {b u},H b=some u->(∀ vs,u ≠ .lst vs)->(∀ ws,u ≠ .dK ws)->b≠a:=fun {b u} e n1 n2 z=>by
  subst z
  rw[ha] at e;cases e
  rcases hk with⟨_,z⟩ | ⟨_,z⟩
  ·exact n1 _ z
  ·exact n2 _ z
 refine⟨ps,by rw[aQ (ne e (fun _ z=>by cases z) fun _ z=>by cases z)];exact e,t,c.imp id fun ⟨c,e1,e2⟩=>⟨c,e1,?_⟩⟩
 rw[aQ (ne e2 (fun _ z=>by cases z) fun _ z=>by cases z)];exact e2
@[reducible] noncomputable def qO (ls:List oP):aJ where
 ad:=ls.map (·.T)
 ok:=fun H=>∀ l∈ls,eK H l.T l.pos l.qual
 same:=fun h s l hl=>(h l hl).same s
 put:=fun h ha hk l hl=>(h l hl).put ha hk
 tb:=fun h ha=>by
  obtain⟨l,hl,rfl⟩:=Wt.mp ha
  obtain⟨ps,e,_⟩:=h l hl
  exact⟨ps,e⟩
variable [aJ]
structure B4 (T:Addr) (pos:Pos) (q:Str):Prop where
 mem:T∈aJ.ad
 get:∀ H:Hp,aJ.ok H->eK H T pos q
 put:∀ H H':Hp,aJ.ok H->eK H' T pos q->(∀ b o,H b=some o->b≠T->H' b=some o)->aJ.ok H'
omit [aJ] in
theorem HJ {ls:List oP} {l:oP} (hl:l∈ls) (nd:∀ a∈ls,∀ b∈ls,a.T=b.T->a=b):@B4 (qO ls) l.T l.pos l.qual:=by
 letI:aJ:=qO ls
 refine⟨Zc hl,fun H h=>h l hl,fun H H' h t k l' gZ => ?_⟩
 by_cases z:l'.T=l.T
 ·rw[nd _ gZ _ hl z];exact t
 ·obtain⟨ps,e,_⟩:=h l hl
  exact (h l' gZ).keep z ⟨ps,e⟩ k
structure QR (X:Cx) (T:Addr):Prop where
 code:∃ cc,X.env.code = .ref cc/\CodeHd X.base cc T
 ng:mainGlobals≠T
 blt:X.base.BuiltinsAt X.mg T
section
variable {F H H':Hp} {ad:List Addr} {δ : aB} {σ : St}
theorem SR.B5 (S:SR F ad δ σ H) (k:∀ b o,H b=some o->b∉aJ.ad->H' b=some o) (tk:aJ.ok H'):SR (Nw F H H') ad δ σ H':=by
 have sm:=Nw.same (H':=H') S.sub
 have nF:∀ {a o},F a=some o->a∉aJ.ad:=fun {a o} e t=>by rw[S.nt a t] at e;cases e
 have nO:∀ {i a ov},ad[i]? = some a -> δ.mu[i]? = some (some ov)->a∉aJ.ad:=fun {i a ov} e1 e2 t=>by
  obtain⟨a',o,e3,e4,h⟩:=S.mu i ov e2
  rw[e1] at e3;cases e3
  obtain⟨ps,q⟩:=aJ.tb S.tab t
  rw[e4] at q;cases q
  rcases h.kind with⟨_,z⟩ | ⟨_,z⟩<;>cases z
 refine⟨fun a o e => ?_,fun a l => ?_,S.c8,S.inj,fun i ov e => ?_,fun i x e => ?_,S.len,tk,fun a ha => ?_⟩
 ·unfold Nw at e
  cases q:H a with
  | none=>rw[q] at e;exact e
  | some u=>rw[q] at e;exact k a o (S.sub a o e) (nF e)
 ·obtain⟨i,ov,e1,e2⟩:=l
  obtain⟨a',o,e3,e4,_⟩:=S.mu i ov e2
  rw[e1] at e3;cases e3
  unfold Nw;rw[e4];exact S.off a ⟨i,ov,e1,e2⟩
 ·obtain⟨a,o,e1,e2,h⟩:=S.mu i ov e
  exact⟨a,o,e1,k a o e2 (nO e1 e),h.same sm⟩
 ·obtain⟨v,e1,h⟩:=S.sl i x e
  refine⟨v,e1,?_⟩
  cases x with
  | p d=>exact Is.same sm h
  | o k=>exact h
 ·obtain⟨ps,q⟩:=aJ.tb S.tab ha
  unfold Nw;rw[q];exact S.nt a ha
theorem Ext.B5 (S:SR F ad δ σ H) (k:∀ b o,H b=some o->b∉aJ.ad->H' b=some o) (tk:aJ.ok H'):Ext F ad δ.mu H (Nw F H H') ad δ.mu H' where
 same:=Nw.same S.sub
 new:=fun a o e=>by
  unfold Nw at e
  cases q:H a with
  | none=>exact .inr (.inl rfl)
  | some u=>rw[q] at e;exact .inl e
 keep:=fun a o e _ t=>k a o e t
 pre:=fun _ _ e=>e
 cH:=fun _ l => .inl l
 iS:=fun a o e=>by
  by_cases t:a∈aJ.ad
  ·obtain⟨ps,q⟩:=aJ.tb tk t
   exact⟨_,q⟩
  ·exact⟨o,k a o e t⟩
theorem SR.vp {sl:List (Option DV)} {mu:List (Option OV)} {τ : St} {d:D} {v:V} (S:SR F ad ⟨sl,mu⟩ τ H) (h:Is F d v):SR F ad ⟨some (.p d) :: sl,mu⟩ (some v :: τ) H:=by
 refine⟨S.sub,S.off,S.c8,S.inj,S.mu,fun i x e => ?_,by have:=S.len;simp only[Mx];exact congrArg (· + 1) this,S.tab,S.nt⟩
 cases i with
 | zero=>cases (show some (some (DV.p d))=some (some x) from e);exact⟨v,rfl,h⟩
 | succ i=>exact S.sl i x e
theorem Ext.oQ {F' H':Hp} {aH:List Addr} {d5:List (Option OV)} {a:Addr} {o:HO} (S:SR F ad δ σ H) (e:Ext F ad δ.mu H F' aH d5 H') (h:H a=some o) (n1:∀ vs,o ≠ .lst vs) (n2:∀ ws,o ≠ .dK ws) (n3:∀ ps,o ≠ .tbl ps):H' a=some o:=by
 refine e.keep a o h (fun ⟨i,ov,e1,e2⟩ => ?_) fun t => ?_
 ·obtain⟨a',u,e3,e4,q⟩:=S.mu i ov e2
  rw[e1] at e3;cases e3
  rw[h] at e4;cases e4
  rcases q.kind with⟨_,z⟩ | ⟨_,z⟩
  ·exact n1 _ z
  ·exact n2 _ z
 ·obtain⟨ps,q⟩:=aJ.tb S.tab t
  rw[h] at q;exact n3 _ (WW q)
end
noncomputable def QS (cp:List (Option Nat)) (fb:WE) (δ : aB) (ds:List D) (key:D->LK):Prop :=
 ∀ d∈ds,key d≠[]/\fb ⟨some (.p d) :: dD cp δ.sl,δ.mu⟩ fun y δ'=>y = .p (.tup ((key d).map D.int)) /\ δ'.mu = δ.mu
noncomputable def sortBy (cp:List (Option Nat)) (fb:WE) (δ : aB) (ds:List D) (K:List D->Prop):Prop :=
 ds.length < 64/\∃ key:D->LK,QS cp fb δ ds key/\∀ out:List D,out.Perm ds->(out.map key).Pairwise kle->K out
section
variable {X:Cx} {params:Arguments} {body:Expr} {scope:Scope} {fq:Pos} {x:Str} {Nb:List Str} {cp:List (Option Nat)} {fb:WE} {T:Addr}
structure g_ (X:Cx) (params:Arguments) (body:Expr) (scope:Scope) (fq:Pos) (T:Addr) (x:Str) (Nb:List Str) (cp:List (Option Nat)) (fb:WE):Prop where
 env:QR X T
 tbl:B4 T fq (X.env.qual ++ "<lambda>")
 QT:defaultsOf params X.env=([],[])
 kind:scope.kind = .function
 names:xR X.N X.env.scope scope x Nb cp=true
 co:scope.isCoroutine=false
 gen:scope.isGenerator=false
 bind:∀ (cl:List (Str × Addr)) (pm cd ct u:Value),bindArgs (kla_fn "<lambda>" (X.env.qual ++ "<lambda>") params body scope cl pm cd ct) ⟨[u],[]⟩=pure [(x,u)]
 room:∃ k,bz (k + 3) X.A/\∀ d:LD,bz k (d.A.deeper (envX (X.env.qual ++ "<lambda>") scope d.s.heap.objs.size d.f d.cd d.cl))->JE (nA X (X.env.qual ++ "<lambda>") scope (x :: Nb) d) body (tD fb)
theorem HK {pins:List (Addr × Obj)} {σ : St} {H:Hp} {s:Shared} {E:Value->Shared->Prop} {l:Addr} {F:Hp} {ad:List Addr} {δ : aB} {ds:List D} {xs:List V} {jk pos:Pos} {Q:VK} (L:g_ X params body scope fq T x Nb cp fb)
  (I:Inv X pins σ H s) (S:SR F ad δ σ H) (hx:af F ds xs)
  (col:∀ (s:Shared) (H':Hp),Inv X pins σ H' s->(∀ b o,H b=some o->b∉aJ.ad->H' b=some o)->∀ Q':List Value->Shared->Prop,(∀ h' tk vs,(∀ b o,s.heap.get? b=some o->h'.get? b=some o)->Vals xs vs->Q' vs { s with heap:=h',toks:=tk })->wpAny (model X.prog X.w) X.A.in1 (collect (.ref l)) Q' E s)
  (hs:sortBy cp fb δ ds fun out=>∀ a F' H' us,Ext F ad δ.mu H F' ad δ.mu H'->SR F' ad δ σ H'->H' a=none->af F' out us->Q (.ref a) (upd H' a (.lst us))) :
  wpAny (model X.prog X.w) X.A (evalAll ((backToKw pos (keywordEach [⟨some "key",.Lambda params body scope fq,jk⟩] X.env)).map (·.2))) (fun kvs s₂ => wpAny (model X.prog X.w) X.A (call (.builtin "sorted") [.ref l] (((backToKw pos (keywordEach [⟨some "key",.Lambda params body scope fq,jk⟩] X.env)).filterMap (·.1)).zip kvs)) (EP X pins σ Q) E s₂) E s:=by
 obtain⟨i9,key,hk,K⟩:=hs
 obtain⟨k,vq,J⟩:=L.room
 obtain⟨cc,jN,hC⟩:=L.env.code
 show wpAny _ _ (evalAll [do let v <- eval (.Lambda params body scope fq) X.env;standAt pos;pure v]) _ _ _
 refine evalAll_cons (pT ?_)
 have B6:=L.names
 unfold xR at B6
 simp only[Xq,Yf,W5] at B6
 have SC:=x1H L.kind B6.1.1.1
 obtain⟨cl,oF,qJ,xS⟩:=E_ (scope:=scope) (env:=X.env) fun y hy e=>I.ok.has y.1 (SC.free y hy e)
 refine QB I (L.tbl.get H S.tab) L.QT oF jN (hC.keeps I.bk) L.env.ng (I.mod.glob.keeps I.bk) (L.env.blt.keeps I.bk) fun f H1 s1 c I1 t1 k1 Qy hf hc => ?_
 refine pT (ZT (wg ?_))
 refine evalAll_nil ?_
 show wpAny _ _ (call (.builtin "sorted") [.ref l] [(Str.ofString "key",.ref f)]) _ _ _
 have kT:∀ b o,H b=some o->b∉aJ.ad->H1 b=some o:=fun b o e t=>k1 b o e fun z=>t (by rw[z];exact L.tbl.mem)
 have k_:=L.tbl.put H H1 S.tab t1 k1
 have S1:=S.B5 kT k_
 have E1:=Ext.B5 S kT k_
 have lx:=hx.length
 refine QQ (xs:=xs) (P:=fun kvs H'=>∃ F',Ext F ad δ.mu H F' ad δ.mu H'/\SR F' ad δ σ H'/\H' f=some (jA f "<lambda>" (X.env.qual ++ "<lambda>") params body scope cl ((X.mg "__name__").getD .none) (.ref c))/\H' c=some (l8 c (X.env.qual ++ "<lambda>"))/\∀ (i:Nat) (d:D) (kv:V),ds[i]? = some d->kvs[i]? = some kv->Is F' (.tup ((key d).map D.int)) kv)
  I1 (col s1 H1 I1 kT) (by omega) ⟨_,E1,S1,hf,hc,fun i d kv _ e=>by simp at e⟩ (fun du v u kvs H' s' hv rv I' ⟨F',E',S',B7,kr,B8⟩ => ?_) fun kvs H' hl ⟨F',E',S',B7,kr,B8⟩ => ?_
 ·have hi:kvs.length < ds.length:=by rw[<-lx];exact (pV.mp hv).1
  have hd:=mM hi
  have QU:Is F' ds[kvs.length] v:=af.at (hx.same E'.same) hd hv
  obtain⟨Wn,QV⟩:=hk _ (X0 hi)
  have r2:bz (k + 1) X.A.in1.in1:=(bz.in1 (bz.in1 (k:=k + 2) vq))
  refine QG I' B7 kr (by rw[show X.A.in1.in1.frames=X.A.frames from rfl];exact I'.ok.frames) r2.hd r2.depth L.kind L.names L.co L.gen qJ xS (fun ct=>L.bind cl _ _ ct u) rv (J ⟨X.A.in1.in1,cl,f,.ref c,s',H'⟩ (r2.deeper _)) ?_
  refine⟨F',ad,_,_,(S'.uq (cp:=cp)).vp QU,QV,fun y δ' ⟨ey,em⟩ w F2 c_ H2 E2 S2 V2 => ?_⟩
  subst ey
  have ea:c_=ad:=by
   have l2:c_.length=ad.length:=by rw[S2.c8,em,S'.c8]
   refine Yt fun i => ?_
   by_cases hi:i < ad.length
   ·rw[mM hi];exact E2.pre i _ (mM hi)
   ·rw[Xt (by omega),Xt (by omega)]
  subst ea
  obtain⟨D4,d5⟩ := δ'
  have em:d5 = δ.mu:=em
  subst em
  refine⟨F2,E'.trans E2,SR.back S' E2 S2,E2.oQ S' B7 (fun _ z=>by cases z) (fun _ z=>by cases z) (fun _ z=>by cases z),E2.oQ S' kr (fun _ z=>by cases z) (fun _ z=>by cases z) (fun _ z=>by cases z),fun i d kv e1 e2 => ?_⟩
  by_cases kI:i < kvs.length
  ·rw[Wu kI] at e2
   exact Is.same E2.same (B8 i d kv e1 e2)
  ·have:i=kvs.length:=by
    have:=(pV.mp e2).1
    rw[My,W6] at this
    omega
   subst this
   rw[Ww (we _),XB] at e2
   cases (show some w=some kv from e2)
   rw[hd] at e1;cases e1
   exact V2
 ·refine⟨ds.map key,by rw[pU];omega,fun k mW => ?_,fun i k' e => ?_,fun p s' a hp up ha I' => ?_⟩
  ·obtain⟨d,hd,rfl⟩:=Wt.mp mW
   exact (hk d hd).1
  ·rw[E7] at e
   obtain⟨d,hd,rfl⟩:=VV.mp e
   have hi:i < kvs.length:=by rw[hl,lx];exact (pV.mp hd).1
   have is:=B8 i d _ hd (mM hi)
   simp only[Is] at is
   obtain⟨t,us,e1,e2,e3⟩:=is
   refine⟨t,by rw[mM hi,e1],?_⟩
   rw[<-lA e3];exact S'.sub _ _ e2
  ·have pm:(p.toList.map fun i=>ds.getD i .non).Perm ds:=by
    have h1:=(Y7.mp hp.perm).map fun i=>ds.getD i .non
    have h2:(List.range xs.length).map (fun i=>ds.getD i D.non)=ds:=by
     refine Yt fun i => ?_
     rw[E7]
     by_cases hi:i < ds.length
     ·rw[Xg (by omega),Zk,mM hi,rG,mM hi];rfl
     ·rw[Xt (by rw[Xl];omega),Xt (by omega)];rfl
    rw[show (List.range xs.length).toArray.toList=List.range xs.length from rfl,h2] at h1
    exact h1
   refine⟨.ref a,_,I',rfl,K _ pm ?_ a _ _ _ E' S' ha ?_⟩
   ·rw[WL,YH]
    intro i j hi hj je
    rw[pU,E8,hp.size] at hi hj
    have:=up i j (XR je) hj
    unfold KA at this
    rw[Xw,Xw]
    have gp:∀ {i:Nat} (h:i < p.toList.length),p.getD i 0=p.toList[i]:=fun {i} h=>by
     have h':i < p.size:=by rw[<-E8];exact h
     simp[Array.getD,h']
    have gk:∀ {i:Nat},i < ds.length->(ds.map key).getD i []=key (ds.getD i .non):=fun {i} h=>by
     rw[rG,E7,mM h,rG,mM h];rfl
    have pi:=hp.lt hi
    have pj:=hp.lt hj
    dsimp only at this
    rw[gk (by omega),gk (by omega),gp (by rw[E8,hp.size];exact hi),gp (by rw[E8,hp.size];exact hj)] at this
    exact this
   ·refine af.qN ?_ fun i d e => ?_
    ·rw[pU,pU]
    ·rw[E7] at e ⊢
     obtain⟨z,e1,rfl⟩:=VV.mp e
     rw[e1]
     have hz:=hp.mem (WN e1)
     refine⟨_,rfl,af.at (hx.same E'.same) (getD_some (by omega)) (getD_some (by omega))⟩
end
structure HL (mg:Str->Option Value) (base:Heap) (fd:FuncData) (T:Addr) (pos:Pos) (q:Str):Prop where
 code:∃ cc,fd.code = .ref cc/\CodeHd base cc T
 ng:mainGlobals≠T
 blt:base.BuiltinsAt mg T
 tbl:B4 T pos q
theorem cI.vt {P:Program} {w:World} {K:PySem.W.Frag} {mg:Str->Option Value} {base:Heap} {x qual:Str} {st:Stmt} {f:Addr} {fd:FuncData} {N ps:List Str} {k:Nat} {G:GD} (F:cI K x qual st f fd) (S:dz N ps (bW st))
  (eu:∀ (bo:Value) (A:Around) (outer:List Env) (s:Shared) (H:Hp) (E:XK),fd.code=bo->bz k (A.deeper (envOfC qual (bW st) s.heap.objs.size f bo)) →
   ∃ B:WS,gK (gJ cm P w K mg base N qual (bW st) f bo A outer s H E).mx (jX st) (fO B)/\∀ ys ar K',ys.length=ps.length->G ys ar K'->B (dX ar.length K') ⟨ys.map some ++ List.replicate (N.length - ps.length) none,ar.map some⟩) :
  aY P w K mg base cm (k + 1) f fd ps (aU G ps.length):=by
 obtain⟨oc,od,kV,doc,pm,an,bo,ct,mG,rfl,lk,gc⟩:=F.ex
 refine Ez lk gc S (fun vs H Q E h=>h.1) fun A outer s H vs Q E hr h => ?_
 obtain⟨hl,Fz,ad,ys,ar,K',S0,g,kk⟩:=h
 obtain⟨B,jb,hb⟩:=eu bo A outer s H E rfl hr
 have hy:ys.length=ps.length:=by
  have:=S0.len
  rw[pU] at this
  rw[<-hl,this];show _=(ys.map some).length;rw[pU]
 refine⟨_,jb.out.mx,Fz,ad,⟨ys.map some ++ List.replicate (N.length - ps.length) none,ar.map some⟩,dX ar.length K',by rw[<-hl];exact S0.start,hb ys ar K' hy g,⟨fun δ' h F' aH σ' H' E' S' => ?_,fun δ' h=>h.elim,fun δ' h=>h.elim,fun y δ' h v F' aH σ' H' E' S' V => ?_⟩⟩
 ·exact wR (σ' := σ') S0 E' S' (x := .p .non) (v := .non) rfl h kk
 ·exact wR (σ' := σ') S0 E' S' V h kk
section
variable {X:Cx} {params:Arguments} {body a e:Expr} {scope:Scope} {fq p1 p2 q1 q2 jk:Pos} {x:Str} {Nb:List Str} {cp:List (Option Nat)} {fb f:WE} {fa:WA} {T:Addr}
noncomputable def B9 (fa:WA) (cp:List (Option Nat)) (fb:WE):WE:=fun δ K=>fa δ fun xs δ1=>match xs with
 | [.p (.int j)]=>(0 <= j/\j <= 60)/\sortBy cp fb δ1 (bY 0 j.toNat) fun out=>K (.o δ1.mu.length) ⟨δ1.sl,δ1.mu ++ [some (.lst out)]⟩
 | _=>False
noncomputable def B_ (f:WE) (cp:List (Option Nat)) (fb:WE):WE:=fun δ K=>f δ fun x δ1=>dM x δ1 fun d=>match d with
 | .lst ds=>sortBy cp fb δ1 ds fun out=>K (.p (.lst out)) δ1
 | _=>False
theorem QW (L:g_ X params body scope fq T x Nb cp fb) (hc:X.calm=true) (vv:Gl X "sorted") (hs:X.mg "sorted" = none) (vw:bootBuiltins "sorted" = some (.builtin "sorted")) (lC:Gl X "range") (hr:X.mg "range" = none) (lD:bootBuiltins "range" = some (.type "range")) (ha:JA X [a] (cx fa))
  (he:starEach [a] X.env=[(false,eval a X.env)]) (M:aB->List D->Prop)
  {pins:List (Addr × Obj)} {s:Shared} {σ : St} {H:Hp} {Q:VK} {F:Hp} {ad:List Addr} {δ : aB} (I:Inv X pins σ H s) (S:SR F ad δ σ H)
  (q:fa δ fun xs δ1=>match xs with
   | [.p (.int j)]=>(0 <= j/\j <= 60)/\sortBy cp fb δ1 (bY 0 j.toNat) (M δ1)
   | _=>False)
  (fin:∀ δ1 out,M δ1 out->∀ a F' aH H' us,Ext F ad δ.mu H F' aH δ1.mu H'->SR F' aH δ1 σ H'->H' a=none->af F' out us->Q (.ref a) (upd H' a (.lst us))) :
  wpAny (model X.prog X.w) X.A (eval (.Call (.Name "sorted" p1) [.Call (.Name "range" p2) [a] [] q2] [⟨some "key",.Lambda params body scope fq,jk⟩] q1) X.env) (EP X pins σ Q) X.xe s:=by
 refine YX (mq I vv hs vw ?_)
 refine callWith_kw ?_
 refine bg ((iQ (lZ Az lC hr lD ha (he:=he)) bp).out q1 pins s σ H (fun vs H2=>∃ (r:Addr) (j:Int) (F1:Hp) (aS:List Addr) (δ1:aB) (H1:Hp),vs=[.ref r]/\H2=upd H1 r (.rng 0 j)/\H1 r=none/\Ext F ad δ.mu H F1 aS δ1.mu H1/\SR F1 aS δ1 σ H1/\(0 <= j/\j <= 60)/\sortBy cp fb δ1 (bY 0 j.toNat) (M δ1)) I ?_) fun us s1 Ca => ?_
 ·refine⟨F,ad,δ,_,S,q,fun xs δ1 h1 vs F1 aS H1 E1 S1 V1 => ?_⟩
  split at h1
  ·rename_i j
   obtain⟨v,r,e,W1,W2⟩:=V1
   have W2:r=[]:=W2
   have W1:v = .int j:=W1
   subst W2 W1 e
   exact⟨j,rfl,fun rr uF=>⟨rr,j,F1,aS,δ1,H1,rfl,rfl,uF,E1,S1,h1.1,h1.2⟩⟩
  ·exact h1.elim
 ·obtain⟨vs,H2,I2,r2,r,j,F1,aS,δ1,H1,ev,eH,QX,E1,S1,hj,xU⟩:=Ca
  subst ev eH
  obtain⟨u,rfl,rx⟩:=vals1 r2
  cases rx
  have sm:aA H1 (upd H1 r (.rng 0 j)):=cR QX
  have S2:=S1.al sm
  have E2:=Ext.al S1 sm
  obtain⟨n,rfl⟩:∃ n:Nat,j=n:=⟨j.toNat,by omega⟩
  rw[MB,lB] at xU
  refine HK L I2 S2 (ds:=(aN n).map D.int) (xs:=(aN n).map V.int) mZ (fun s' H' I' kp Q' hQ => ?_) ?_
  ·have xV:H' r=some (.rng 0 (n:Int)):=kp r _ bK fun t=>by
    obtain⟨ps,z⟩:=aJ.tb S2.tab t
    rw[bK] at z;cases z
   obtain⟨t,u,v,e⟩:=(show ∃ t u v,s'.heap.get? r=some { cls := .type "range",data := .fields #[.int 0 t,.int (n:Int) u,.int 1 v] } from I'.aM r _ xV)
   have hsz:Builtin.Range.rangeSize 0 (n:Int) 1=n:=by rw[rangeSize_one];split<;>omega
   refine QO (n:=n) (by rw[YE];exact I'.ok.hd hc) e (small_one (by omega) (by omega) (by omega) (by omega)) hsz (by omega) fun h' tk acc QY it=>hQ h' tk _ QY ?_
   refine AA ?_ fun i u e => ?_
   ·rw[E8,it.1,aN,pU,Xl]
   ·rw[Wx] at e
    obtain⟨t',e2⟩:=it.2 i u e
    have hi:i < n:=by rw[<-it.1];exact (XW.mp e).1
    refine⟨t',e2.trans ?_⟩
    rw[aN,rG,E7,Xg hi]
    show Value.int (0 + (i:Int) * 1) t'=Value.int (i:Int) t'
    rw[Int.zero_add,Int.mul_one]
  ·obtain⟨i9,key,hk,hK⟩:=xU
   exact⟨i9,key,hk,fun out pm pw a F' H' us E' S' hn is=>fin δ1 out (hK out pm pw) a F' aS H' us ((E1.trans E2).trans E') S' hn is⟩
theorem QZ (L:g_ X params body scope fq T x Nb cp fb) (hc:X.calm=true) (vv:Gl X "sorted") (hs:X.mg "sorted" = none) (vw:bootBuiltins "sorted" = some (.builtin "sorted")) (lC:Gl X "range") (hr:X.mg "range" = none) (lD:bootBuiltins "range" = some (.type "range")) (ha:JA X [a] (cx fa))
  (he:starEach [a] X.env=[(false,eval a X.env)]:=by rfl):JE X (.Call (.Name "sorted" p1) [.Call (.Name "range" p2) [a] [] q2] [⟨some "key",.Lambda params body scope fq,jk⟩] q1) (tD (B9 fa cp fb)) :=
 ⟨fun pins s σ H Q I h0_ => el7 h0_ fun F ad δ K S q k =>QW L hc vv hs vw lC hr lD ha he (fun δ1 out=>K (.o δ1.mu.length) ⟨δ1.sl,δ1.mu ++ [some (OV.lst out)]⟩) I S q fun δ1 out hM a F' aH H' us E' S' hn is=>by
  have oi:fX F' (.lst out) (.lst us):=⟨us,rfl,is⟩
  exact k _ _ hM _ _ _ _ (E'.trans (Ext.own S' hn)) (S'.own hn oi) (xq S')⟩
theorem Q0 (L:g_ X params body scope fq T x Nb cp fb) (vv:Gl X "sorted") (hs:X.mg "sorted" = none) (vw:bootBuiltins "sorted" = some (.builtin "sorted")) (ha:JA X [e] (cx (ah f ag)))
  (he:starEach [e] X.env=[(false,eval e X.env)]:=by rfl):JE X (.Call (.Name "sorted" p1) [e] [⟨some "key",.Lambda params body scope fq,jk⟩] q1) (tD (B_ f cp fb)) :=
 ⟨fun pins s σ H Q I h0_ => el7 h0_ fun F ad δ K S q k =>by
  refine YX (mq I vv hs vw ?_)
  refine callWith_kw ?_ (he:=by rw[he];rfl) (hplain:=by rw[he];rfl)
  refine bg (ha.out q1 pins s σ H (fun vs H1=>∃ (l:Addr) (F1:Hp) (aS:List Addr) (δ1:aB) (ds:List D) (us:List V),vs=[.ref l]/\H1 l=some (.lst us)/\af F1 ds us/\Ext F ad δ.mu H F1 aS δ1.mu H1/\SR F1 aS δ1 σ H1/\sortBy cp fb δ1 ds fun out=>K (.p (.lst out)) δ1) I ?_) fun us s1 Ca => ?_
  ·refine⟨F,ad,δ,fun xs δ1=>match xs with
    | [x]=>dM x δ1 fun d=>match d with
     | .lst ds=>sortBy cp fb δ1 ds fun out=>K (.p (.lst out)) δ1
     | _=>False
    | _=>False,S,q,fun xs δ1 h1 vs F1 aS H1 E1 S1 V1 => ?_⟩
   match xs,h1,V1 with
   | [],h1,_=>exact h1.elim
   | _ :: _ :: _,h1,_=>exact h1.elim
   | [x],h1,V1 =>
    obtain⟨v,r,e,W1,W2⟩:=V1
    have W2:r=[]:=W2
    subst W2 e
    obtain⟨d,h2,rd⟩:=i_ S1 W1 h1
    match d,h2,rd with
    | .lst ds,h2,rd =>
     obtain⟨a,us,rfl,g1,g2⟩:=rd
     exact⟨a,F1,aS,δ1,ds,us,rfl,g1,g2,E1,S1,h2⟩
  ·obtain⟨vs,H1,I1,r1,l,F1,aS,δ1,ds,ws,ev,hl,hi,E1,S1,xU⟩:=Ca
   subst ev
   obtain⟨u,rfl,rx⟩:=vals1 r1
   cases rx
   refine HK L I1 S1 hi (fun s' H' I' kp Q' hQ => ?_) ?_
   ·have gZ:H' l=some (.lst ws):=kp l _ hl fun t=>by
     obtain⟨ps,z⟩:=aJ.tb S1.tab t
     rw[hl] at z;cases z
    obtain⟨ak,r',pl,hz⟩:=I'.list (bj.of gZ)
    exact collect_list (by simpa using pl.isList) (hQ _ s'.toks ak (fun b o e=>by
     have cu:b < s'.heap.objs.size:=Mz e
     rw[Heap.get?_update_ne _ _ _ _ (VZ cu),Heap.get?_push_ne _ _ _ (VZ cu)]
     exact e) r') (by rw[<-r'.length];exact hz)
   ·obtain⟨i9,key,hk,hK⟩:=xU
    exact⟨i9,key,hk,fun out pm pw a F' H' us E' S' hn is=>k _ _ (hK out pm pw) _ _ _ _ ((E1.trans E').trans (Ext.al S' (cR hn))) (S'.al (cR hn)) (l4 S'.sub hn is)⟩⟩
end
end L2
namespace L2
open PySem PySem.Spec PyProof.Rows PySem.W
section
variable {prog:Program} {w:World} {A:Around} {E:Value->Shared->Prop} {s:Shared} {Q:Bool->Shared->Prop}
end
section
variable {X:Cx} {pins:List (Addr × Obj)} {σ : St} {H:Hp} {s:Shared} {A:Around} {E:Value->Shared->Prop} {a:Addr} {vs:List Value} {ks:List LK} {κ : SortKind}
theorem Q1 {n0:Nat} {R:PySem.Fin->Shared->Prop} (I:Inv X pins σ H s) (fa:bx X pins H a) (ha:s.heap.get? a=some (seqObj "list" vs.toArray n0)) (i9:vs.length < 64)
  (kind:∀ s':Shared,Inv X pins σ H s'->2 <= vs.length->∀ Q:SortKind->Shared->Prop,Q κ s'->wpAny (model X.prog X.w) A (keyKind' vs.toArray) Q E s')
  (ask:∀ s':Shared,Inv X pins σ H s'->∀ (i j:Nat) (C:Bool->Shared->Prop),i < vs.length->j < vs.length->C (HT.lexLt (ks.getD i []) (ks.getD j [])) s'->wpAny (model X.prog X.w) A (keyLt' κ (vs.getD i Value.none) (vs.getD j Value.none)) C (fun _ _=>False) s')
  (fin:∀ (p:Array Nat) (s':Shared) (c:Nat),di vs.length p->Up (fun i=>ks.getD i []) p vs.length->Inv X pins σ H s'->s'.heap.get? a=some (seqObj "list" (List.toArray (p.toList.map fun i=>vs.getD i Value.none)) c)->R (.done (.ret .none)) s') :
  wpAny (model X.prog X.w) A (Builtin.«list.sort» ⟨[.ref a],[]⟩) R E s:=by
 have sb:=W7 s.heap a (Obj.mapSeq fun _=>(#[]:Array Value))
 obtain⟨e1,f_⟩:∃ e1,(s.heap.update a (Obj.mapSeq fun _=>(#[]:Array Value))).get? a=some (seqObj "list" #[] e1):=⟨_,Zm ha fun _ => #[]⟩
 have I1:Inv X pins σ H { s with heap:=s.heap.update a (Obj.mapSeq fun _=>(#[]:Array Value)) }:=I.g9 (t':=s.toks) fa fun c o n e=>(sb.2 c n).trans e
 rw[list_sort_plain]
 refine pT (listItems_at ha rfl ?_)
 refine pT (Zi ha rfl ?_ (by rw[zR,Xx];omega) (Xn _))
 refine pT (seqEpoch_at f_ rfl ?_)
 refine pT (wpAny_newTuple ?_ (by show vs.length <= _;rw[Xx];omega))
 refine pT (ZV ?_ (Xn _))
 refine W9 ?_
 generalize QN:s.heap.update a (Obj.mapSeq fun _=>(#[]:Array Value))=g0 at f_ I1 sb
 show wpAny (model X.prog X.w) A _ R E { s with heap:=(g0.push (seqObj "tuple" vs.toArray 0)).push (seqObj "list" #[] 0) }
 have I2:Inv X pins σ H { s with heap:=(g0.push (seqObj "tuple" vs.toArray 0)).push (seqObj "list" #[] 0) }:=I1.kept (h':=(g0.push (seqObj "tuple" vs.toArray 0)).push (seqObj "list" #[] 0)) (t':=s.toks) fun b u e=>tP _ (tP _ e)
 have fI:((g0.push (seqObj "tuple" vs.toArray 0)).push (seqObj "list" #[] 0)).get? a=some (seqObj "list" #[] e1):=tP _ (tP _ f_)
 have kp:∀ b o,b≠a->s.heap.get? b=some o->((g0.push (seqObj "tuple" vs.toArray 0)).push (seqObj "list" #[] 0)).get? b=some o:=fun b o n e=>tP _ (tP _ ((sb.2 b n).trans e))
 generalize (g0.push (seqObj "tuple" vs.toArray 0)).push (seqObj "list" #[] 0)=g1 at I2 fI kp
 dsimp only
 have tail:∀ (st:SortSt) (p:Array Nat),(arrOf st).map (·.2)=List.toArray (p.toList.map fun i=>vs.getD i Value.none)->failedOf st=none->di vs.length p->Up (fun i=>ks.getD i []) p vs.length->wpAny (model X.prog X.w) A (do
   let touched:=(<- seqEpoch a) != e1
   Builtin.List.listUpdate (.ref a) fun _=>(arrOf st).map (·.2)
   if let some e:=failedOf st then rule "list.sort.comparison-raised";throw e
   if touched then rule "list.sort.modified";raiseError "ValueError" "list modified during sort"
   ret .none) R E { s with heap:=g1 }:=by
  intro st p qL hf hp up
  have hz:(p.toList.map fun i=>vs.getD i Value.none).length=vs.length:=by rw[pU,E8,hp.size]
  rw[qL]
  have s2:=W7 g1 a (Obj.mapSeq fun _=>List.toArray (p.toList.map fun i=>vs.getD i Value.none))
  obtain⟨c2,jG⟩:∃ c2,(g1.update a (Obj.mapSeq fun _=>List.toArray (p.toList.map fun i=>vs.getD i Value.none))).get? a=some (seqObj "list" (List.toArray (p.toList.map fun i=>vs.getD i Value.none)) c2):=⟨_,Zm fI fun _=>List.toArray (p.toList.map fun i=>vs.getD i Value.none)⟩
  have J:Inv X pins σ H { s with heap:=g1.update a (Obj.mapSeq fun _=>List.toArray (p.toList.map fun i=>vs.getD i Value.none)) }:=I2.g9 (h':=g1.update a (Obj.mapSeq fun _=>List.toArray (p.toList.map fun i=>vs.getD i Value.none))) (t':=s.toks) fa fun c o n e=>(s2.2 c n).trans e
  refine pT (seqEpoch_at fI rfl ?_)
  refine pT (Zi fI rfl ?_ (Xn _) (XJ (q0N (by rw[zR,hz])) (by rw[Xx];omega)))
  rw[hf]
  simp only[q0m,WD,XE]
  exact wg (fin p _ c2 hp up J jG)
 by_cases h2:vs.toArray.size < 2
 ·rw[VY h2,VY h2]
  refine pT (wg ?_)
  rw[StateT.run_pure]
  refine pT (wg ?_)
  rw[zR] at h2
  refine tail (SortSt.mk' general' (vs.toArray.zip vs.toArray) #[] 7 none) (List.range vs.length).toArray ?_ rfl ⟨q0Y _⟩ fun i j je hj => ?_
  ·have B2:arrOf (SortSt.mk' general' (vs.toArray.zip vs.toArray) #[] 7 none)=(List.toArray (List.range vs.length)).map (kas_item (vs.toArray.zip vs.toArray)):=by
    have e:=kas_range (vs.toArray.zip vs.toArray)
    rw[show (vs.toArray.zip vs.toArray).size=vs.length by simp] at e
    rw[e]
   exact kat_snds rfl B2
  ·have:i=j:=by omega
   subst this
   exact kle_refl _
 ·rw[MC h2,MC h2]
  rw[zR] at h2
  refine pT (kind _ I2 (by omega) _ ?_)
  refine pT (Yr (kat_run (κ := κ) (E:=E) (Q:=fun gU s'=>s'={ s with heap:=g1 }/\∃ p:Array Nat,arrOf gU=p.map (kas_item (vs.toArray.zip vs.toArray))/\failedOf gU=none/\di vs.length p/\Up (fun i=>ks.getD i []) p vs.length)
   (G:=fun p s'=>s'={ s with heap:=g1 }/\di vs.length p/\Up (fun i=>ks.getD i []) p vs.length) rfl (by omega) i9 (fun p gU s' a1 a2 a3 a4=>⟨a4.1,p,a2,a3,a4.2.1,a4.2.2⟩) ?_) ?_ fun _ _ x=>x)
  ·refine GV (k:=fun i=>ks.getD i []) (I:=fun s'=>s'={ s with heap:=g1 }) (fun i j C s' hi hj e hC => ?_) (by omega) rfl fun p s' a1 a2 a3=>⟨a3,a1,a2⟩
   subst e
   exact ask _ I2 i j C hi hj (hC _ rfl)
  ·rintro ⟨⟨⟩,gU⟩ s' ⟨rfl,p,a1,a2,a3,a4⟩
   exact tail gU p (kat_snds rfl a1) a2 a3 a4
theorem Q2 {l:Addr} {xs:List V} {Q:Value->Shared->Prop} (I:Inv X pins σ H s)
  (col:∀ Q':List Value->Shared->Prop,(∀ h' tk vs,(∀ b o,s.heap.get? b=some o->h'.get? b=some o)->Vals xs vs->Q' vs { s with heap:=h',toks:=tk })->wpAny (model X.prog X.w) X.A.in1 (collect (.ref l)) Q' E s) (i9:xs.length < 64)
  (kind:∀ (s':Shared) (vs:List Value),Vals xs vs->Inv X pins σ H s'->2 <= vs.length->∀ Q:SortKind->Shared->Prop,Q κ s'->wpAny (model X.prog X.w) X.A.in1.in1 (keyKind' vs.toArray) Q E s')
  (ask:∀ (s':Shared) (vs:List Value),Vals xs vs->Inv X pins σ H s'->∀ (i j:Nat) (C:Bool->Shared->Prop),i < vs.length->j < vs.length->C (HT.lexLt (ks.getD i []) (ks.getD j [])) s'->wpAny (model X.prog X.w) X.A.in1.in1 (keyLt' κ (vs.getD i Value.none) (vs.getD j Value.none)) C (fun _ _=>False) s')
  (fin:∀ (p:Array Nat) (s':Shared) (a:Addr),di xs.length p->Up (fun i=>ks.getD i []) p xs.length->H a=none->Inv X pins σ (upd H a (.lst (p.toList.map fun i=>xs.getD i .non))) s'->Q (.ref a) s') :
  wpAny (model X.prog X.w) X.A (call (.builtin "sorted") [.ref l]) Q E s:=by
 refine Calls.call_function_entry kind_sorted plain_sorted entry_sorted (args_sorted1 _) ?_
 unfold Builtin.«sorted»
 refine pT (m:=checkCount "sorted" 1 1 _) (wg ?_)
 refine pT (col _ fun h' tk ak kp rv => ?_)
 have lv:ak.length=xs.length:=rv.length.symm
 refine pT (ZV ?_ (by rw[Xx];omega))
 have I1:Inv X pins σ H { s with heap:=h',toks:=tk }:=I.kept kp
 have fa:bx X pins H h'.objs.size:=I1.iK (we _) (I1.aM.fresh (we _))
 have B3:X.s₀.heap.objs.size <= h'.objs.size:=I1.sz
 have I2:Inv X pins σ H { s with heap:=h'.push (seqObj "list" ak.toArray 0),toks:=tk }:=I1.kept (h':=h'.push (seqObj "list" ak.toArray 0)) (t':=tk) fun b u e=>tP _ e
 have kU:(h'.push (seqObj "list" ak.toArray 0)).get? h'.objs.size=some (seqObj "list" ak.toArray 0):=VW _ rfl
 refine pT (W9 (X1 slot_list_sort ⟨_,kU,rfl⟩ entry_list_sort ?body (args_list_sort _)))
 case body =>
  refine Q1 (κ := κ) (ks:=ks) I2 fa kU (by omega) (fun s' J h2 Q' hq=>kind s' ak rv J h2 Q' hq) (fun s' J i j C hi hj hC=>ask s' ak rv J i j C hi hj hC) fun p s' c hp up J e=>⟨_,rfl,?_⟩
  rw[lv] at hp up
  refine wg ⟨_,rfl,fin p s' h'.objs.size hp up fa.1 (J.oO fa B3 ?_)⟩
  have hz:(p.toList.map fun i=>xs.getD i V.non).length=xs.length:=by rw[pU,E8,hp.size]
  exact⟨by rw[hz,Xx];omega,_,c,HI rv fun i hi=>by rw[lv];exact hp.mem hi,e⟩
end
theorem Q3 {ds:List D} {key:D->LK} {p:Array Nat} {n:Nat} (hn:ds.length=n) (hp:di n p) (up:Up (fun i=>(ds.map key).getD i []) p n):(p.toList.map fun i=>ds.getD i .non).Perm ds/\((p.toList.map fun i=>ds.getD i .non).map key).Pairwise kle:=by
 subst hn
 constructor
 ·have h1:=(Y7.mp hp.perm).map fun i=>ds.getD i D.non
  have h2:(List.range ds.length).map (fun i=>ds.getD i D.non)=ds:=by
   refine Yt fun i => ?_
   rw[E7]
   by_cases hi:i < ds.length
   ·rw[Xg hi,Zk,mM hi,rG,mM hi];rfl
   ·rw[Xt (by rw[Xl];omega),Xt (by omega)];rfl
  rw[show (List.range ds.length).toArray.toList=List.range ds.length from rfl,h2] at h1
  exact h1
 ·rw[WL,YH]
  intro i j hi hj je
  rw[pU,E8,hp.size] at hi hj
  have:=up i j (XR je) hj
  unfold KA at this
  rw[Xw,Xw]
  have gp:∀ {i:Nat} (h:i < p.toList.length),p.getD i 0=p.toList[i]:=fun {i} h=>by
   have h':i < p.size:=by rw[<-E8];exact h
   simp[Array.getD,h']
  have gk:∀ {i:Nat},i < ds.length->(ds.map key).getD i []=key (ds.getD i .non):=fun {i} h=>by
   rw[rG,E7,mM h,rG,mM h];rfl
  have pi:=hp.lt hi
  have pj:=hp.lt hj
  dsimp only at this
  rw[gk pi,gk pj,gp (by rw[E8,hp.size];exact hi),gp (by rw[E8,hp.size];exact hj)] at this
  exact this
theorem Q4 {F:Hp} {ds:List D} {xs:List V} {p:List Nat} (h:af F ds xs) (hp:∀ i∈p,i < ds.length):af F (p.map fun i=>ds.getD i .non) (p.map fun i=>xs.getD i .non):=by
 refine af.qN (by rw[pU,pU]) fun i d e => ?_
 rw[E7] at e ⊢
 obtain⟨z,e1,rfl⟩:=VV.mp e
 rw[e1]
 have hz:=hp z (WN e1)
 exact⟨_,rfl,af.at h (getD_some hz) (getD_some (by rw[h.length];exact hz))⟩
section
variable [aJ] {X:Cx}
end
end L2
namespace LJ
open PySem L2 PySem.W
theorem Q5 {ls:List oP} {b:Addr} {ps:Array Value}:(ls.map fun l=>(l.T,(#[]:Array Value))).lookup b=some ps->(∃ l∈ls,l.T=b)/\ps = #[]:=by
 induction ls with
 | nil=>intro h;cases h
 | cons l ls ih =>
  intro h
  rw[WH,WU] at h
  cases q:b == l.T with
  | true =>
   rw[q] at h
   exact⟨⟨l,E6,(XU q).symm⟩,(WW h).symm⟩
  | false =>
   rw[q] at h
   obtain⟨⟨l',h1,h2⟩,h3⟩:=ih h
   exact⟨⟨l',E9 _ h1,h2⟩,h3⟩
theorem Cb {ls:List oP} {l:oP} (h:l∈ls):(ls.map fun l=>(l.T,(#[]:Array Value))).lookup l.T=some #[]:=by
 induction ls with
 | nil=>cases h
 | cons l' ls ih =>
  rw[WH,WU]
  cases q:l.T == l'.T with
  | true=>rfl
  | false =>
   rcases MA.mp h with rfl | h
   ·simp at q
   ·exact ih h
theorem Q6 {l:OpenLaw} {q:Program} {loose:List Str} {XP:(Str->Option Value)->Heap->Prop} {d:DefRec} {K:Params->Frag} {as:List Addr} {e:∀ P,as=(K P).map (·.1)} {ts:List Addr} {kk:Nat} (ls:List oP) (Q7:ls.map (·.T)=ts) (hn:l.most=some 63) (tR:d.params.defaults=[]) (hr:bz kk callerA)
  (gc:∀ (w:World) (h:Heap),(K w.params).In h->∀ t∈ls,∃ cc,CodeHd h cc t.T) (Q8:∀ P,noTabs (K P)=true)
  (F:∀ (w:World) (mg:Str->Option Value) (fa:Addr) (h:Heap),(K w.params).In h->h.Ns mainGlobals mg->mg d.name=some (.ref fa) →
   ∃ fd:FuncData,(∀ (s:Shared) (u:Value),BindsTo s fd ⟨[u],[]⟩ [("script",u)])/\∀ base:Heap,(K w.params).In base->base.Ns mainGlobals mg->(∀ t∈ls,base.BuiltinsAt mg t.T)->aY l.prog w (K w.params) mg base cm kk fa fd ["script"] (@xM (qO ls) (K w.params))) :
  WalkO q loose XP (kmHook K as e ts).says l.row.toRowW d [] (fun f vs=>PySem.call f vs) :=
 L2.Qu (n:=63) (k:=kk) (x := "script") (K:=fun w=>K w.params) (CX:=fun _=>cm) (sp:=fun w=>@xM (qO ls) (K w.params)) (Ts:=fun _=>ls.map fun l=>(l.T,#[])) hn (by decide) tR hr (fun w h Y=>km_in_of Y)
  (fun w h Y b ps hl=>by
   obtain⟨⟨t,ht,rfl⟩,rfl⟩:=Q5 hl
   have e1:h.get? t.T=some (tabObj #[]):=km_tabs_of Y t.T (by rw[<-Q7];exact Zc ht)
   refine⟨e1,?_,?_⟩
   ·obtain⟨cc,o,vs,_,_,_,_,_,_,_,c1,c2,c3,c4,_⟩:=gc w h (km_in_of Y) t ht
    exact⟨cc,o,vs,c1,c2,c3,c4⟩
   ·cases z:(K w.params).lookup t.T with
    | none=>rfl
    | some o =>
     have e2:=km_in_of Y t.T o z
     rw[e1] at e2;cases e2
     have h2:=Yf.mp (Q8 w.params) (t.T,tabObj #[]) (mem_of_lookupK z)
     exact absurd (show false=true from h2) Ws)
  (fun w mg fa h KX G mL=>by
   obtain⟨fd,hb,hF⟩:=F w mg fa h KX G mL
   exact⟨fd,hb,fun base k1 k2 k3=>hF base k1 k2 fun t ht=>k3 t.T #[] (Cb ht)⟩)
  (fun w H a ns hl hO hS=>by
   letI:aJ:=qO ls
   refine⟨a,ns,rfl,hS,hl,fun t ht => ?_,fun _=>rfl⟩
   rcases hO t.T with⟨ps,z1,z2⟩ | ⟨z1,_⟩
   ·rw[Cb ht] at z1;cases z1
    exact⟨#[],z2,trivial,.inl rfl⟩
   ·rw[Cb ht] at z1;cases z1)
  fun _ _ _ _ _ z=>z
end LJ
namespace LJ
open PySem L2
variable [aJ]
omit [aJ] in
theorem Q9 {m:Int} {ws:List (Int × Int × Int)} (h:dJ m ws):lG (aR m ws)=true:=by
 show (ka (.int m) 1 12 && qI m (.tup (ws.map bM)))=true
 have h1:ka (.int m) 1 12=true:=by
  show (decide (1 <= m) && decide (m <= 12))=true
  rw[WC h.m1,WC h.gX];rfl
 rw[h1,ZW]
 show (decide ((ws.map bM).length <= 30) && ((ws.map bM).all (cU m) && decide (((ws.map bM).map pairOf).Nodup)))=true
 have h2:(ws.map bM).all (cU m)=true:=by
  refine Yf.mpr fun d hd => ?_
  obtain⟨y,hy,rfl⟩:=Wt.mp hd
  obtain⟨a,b,c,d,e⟩:=h.ends y hy
  show (((decide (0 <= y.1) && decide (y.1 <= m - 1)) && (decide (y.1 + 1 <= y.2.1) && decide (y.2.1 <= m - 1))) && (decide (0 <= y.2.2) && decide (y.2.2 <= 1000000000)))=true
  rw[WC a,WC (by omega:y.1 <= m - 1),WC (by omega:y.1 + 1 <= y.2.1),WC (by omega:y.2.1 <= m - 1),WC d,WC e];rfl
 have h3:(ws.map bM).map pairOf=ws.map fun y=>(y.1,y.2.1):=by rw[WL];rfl
 rw[h2,h3,WC h.unlike,pU,WC h.kj];rfl
noncomputable def qP:GD:=fun ys ar K=>∃ (m:Int) (ws:List (Int × Int × Int)),dJ m ws/\ys=[.p (aR m ws)]/\ar=[]/\K (.p .non) []
noncomputable def Cc:WS:=(bE (gN (dT (av 1 ve (ah (aa 0) ag)))) rQ ft)
theorem Q_:∀ ys ar K',ys.length=1->qP ys ar K'->Cc (dX ar.length K') ⟨ys.map some ++ List.replicate 0 none,ar.map some⟩:=by
 rintro ys ar K' - ⟨m,ws,W,rfl,rfl,k⟩
 unfold Cc
 simp? only []
 refine⟨aR m ws,rfl,rfl,?_⟩
 rw[Q9 W]
 simp? only []
 exact gQ k
noncomputable def vx:GD:=fun ys ar K=>∃ y:Int × Int × Int,ys=[.p (bM y)]/\ar=[]/\K (.p (.tup [.int y.2.2,.int y.1,.int y.2.1])) []
noncomputable def Cd:WS:=(aW (gi (ah (d2 (aa 0) (dC (.int 2)) aP) (ah (d2 (aa 0) (dC (.int 0)) aP) (ah (d2 (aa 0) (dC (.int 1)) aP) ag)))))
theorem Ra:∀ ys ar K',ys.length=1->vx ys ar K'->Cd (dX ar.length K') ⟨ys.map some ++ List.replicate 0 none,ar.map some⟩:=by
 rintro ys ar K' - ⟨y,rfl,rfl,k⟩
 unfold Cd
 simp? only [bM,f7,g8,at2]
 exact gQ k
noncomputable def oR (ws:List (Int × Int × Int)) (n:Int):LK:=[(ws.getD n.toNat (0,0,0)).2.2,(ws.getD n.toNat (0,0,0)).1,(ws.getD n.toNat (0,0,0)).2.1]
structure cz (ws:List (Int × Int × Int)) (ns:List Int):Prop where
 perm:ns.Perm (aN ws.length)
 up:(ns.map (oR ws)).Pairwise kle
theorem cz.nums {ws:List (Int × Int × Int)} {ns:List Int} (h:cz ws ns):Nums ws ns:=fun n hn=>HB (h.perm.mem_iff.mp hn)
theorem cz.len {ws:List (Int × Int × Int)} {ns:List Int} (h:cz ws ns):ns.length=ws.length:=by rw[h.perm.length_eq];unfold aN;simp
theorem Rb {m:Int} {ws:List (Int × Int × Int)} (W:dJ m ws) {a b:Int} (ha:0 <= a/\a < (ws.length:Int)) (hb:0 <= b/\b < (ws.length:Int)) (e:oR ws a=oR ws b):a=b:=by
 obtain⟨i,rfl⟩:∃ i:Nat,a=i:=⟨a.toNat,by omega⟩
 obtain⟨j,rfl⟩:∃ j:Nat,b=j:=⟨b.toNat,by omega⟩
 have hi:i < ws.length:=by omega
 have hj:j < ws.length:=by omega
 unfold oR at e
 rw[MB,MB,rG,mM hi,rG,mM hj] at e
 simp only[Option.getD_some,List.cons.injEq,and_true] at e
 have q:(ws.map fun y=>(y.1,y.2.1))[i]'(by rw[pU];exact hi)=(ws.map fun y=>(y.1,y.2.1))[j]'(by rw[pU];exact hj):=by
  rw[Xw,Xw,e.2.1,e.2.2]
 have:=(Yq W.unlike).mp q
 rw[this]
theorem HM {out:List D} {l:List Int} (h:out.Perm (l.map D.int)):∃ ns:List Int,out=ns.map D.int/\ns.Perm l:=by
 refine⟨out.map fun d=>match d with
  | .int n=>n
  | _=>0,?_,?_⟩
 ·rw[WL]
  refine (YU out).symm.trans (W8 fun d hd => ?_)
  obtain⟨n,_,rfl⟩:=Wt.mp (h.mem_iff.mp hd)
  rfl
 ·have:=h.map fun d=>match d with
   | .int n=>n
   | _=>0
  rw[WL] at this
  exact this.trans (List.Perm.of_eq ((W8 fun n _=>rfl).trans (YU l)))
noncomputable def vy:GD:=fun ys ar K=>∃ (m:Int) (ws:List (Int × Int × Int)),dJ m ws/\ys=[.p (aR m ws)]/\ar=[]/\∀ ns,cz ws ns->K (.n (ns.map D.int)) []
noncomputable def Ce:WS:=(au (j6 (av 1 qP (ah (aa 0) ag))) (au (aC 1 (d2 (aa 0) (dC (.int 1)) aP)) (aW (B9 (ah (dN (ah (aa 1) ag) cf) ag) [some 1] (av 1 vx (ah (d2 (aa 1) (aa 0) aP) ag))))))
theorem Rc:∀ ys ar K',ys.length=1->vy ys ar K'->Ce (dX ar.length K') ⟨ys.map some ++ List.replicate 1 none,ar.map some⟩:=by
 rintro ys ar K' - ⟨m,ws,W,rfl,rfl,k⟩
 have xJ:=W.kj
 unfold Ce
 refine a8 fun N hN => ?_
 simp? only []
 refine⟨m,ws,W,rfl,rfl,?_⟩
 simp? only []
 subst hN
 refine a8 fun N hN => ?_
 simp? only [g8,aR]
 subst hN
 simp? only [B9]
 refine⟨⟨by omega,by omega⟩,by rw[jc];omega,fun d=>match d with
  | .int n=>oR ws n
  | _=>[],fun d hd => ?_,fun out pm pw => ?_⟩
 ·obtain⟨i,hi⟩:=V0.mp hd
  obtain⟨hi,rfl⟩:=jw hi
  have e0:(0 + (i:Int))=i:=by omega
  rw[e0]
  obtain⟨y,ey,hy,ea,_⟩:=oH W (n:=(i:Int)) (by omega) (by omega)
  refine⟨(by intro z;cases z),?_⟩
  simp? only [ea]
  refine⟨y,rfl,rfl,?_⟩
  simp? only []
  unfold oR
  rw[ey]
  rfl
 ·rw[MB,lB] at pm
  obtain⟨ns,rfl,pn⟩:=HM pm
  refine⟨[],rfl,rfl,.inl (k ns ⟨pn,?_⟩)⟩
  rw[WL] at pw
  exact pw
end LJ
namespace L2
open PySem PySem.Spec PyProof.Rows
variable [aJ]
noncomputable def dh (kvs:List (Key × D)) (k:Key):Option D:=(kvs.find? fun kv=>decide (kv.1=k)).map (·.2)
noncomputable def putD (kvs:List (Key × D)) (k:Key) (d:D):List (Key × D) :=
 if (kvs.any fun kv=>decide (kv.1=k))=true then kvs.map (fun kv=>if kv.1=k then (kv.1,d) else kv) else kvs ++ [(k,d)]
theorem gh.val {F:Hp} (k:Key):∀ {gM:List (Key × D)} {ws:List (Key × V)},gh F gM ws->(dh gM k=none/\cq ws k=none)\/∃ d v,dh gM k=some d/\cq ws k=some v/\Is F d v
 | [],_,h=>by have h:_=[]:=h;subst h;exact .inl ⟨rfl,rfl⟩
 | kd :: r,_,⟨v,t,e,h1,h2⟩=>by
  subst e
  by_cases c:kd.1=k
  ·refine .inr ⟨kd.2,v,?_,t6 c,h1⟩
   unfold dh;rw[List.find?_cons_of_pos (by simpa using c)];rfl
  ·rw[t7 c]
   have e:dh (kd :: r) k=dh r k:=by unfold dh;rw[List.find?_cons_of_neg (by simpa using c)]
   rw[e]
   exact gh.val k h2
theorem gh.length {F:Hp}:∀ {gM:List (Key × D)} {ws:List (Key × V)},gh F gM ws->ws.length=gM.length
 | [],_,h=>by have h:_=[]:=h;subst h;rfl
 | kd :: r,_,⟨v,t,e,h1,h2⟩=>by subst e;rw[Mx,Mx,h2.length]
theorem gh.any {F:Hp} (k:Key):∀ {gM:List (Key × D)} {ws:List (Key × V)},gh F gM ws->(ws.any fun kv=>decide (kv.1=k))=gM.any fun kv=>decide (kv.1=k)
 | [],_,h=>by have h:_=[]:=h;subst h;rfl
 | kd :: r,_,⟨v,t,e,h1,h2⟩=>by subst e;rw[YQ,YQ,h2.any k]
theorem gh.jo {F:Hp} (k:Key) {d:D} {v:V} (hd:Is F d v):∀ {gM:List (Key × D)} {ws:List (Key × V)},gh F gM ws->gh F (gM.map fun kv=>if kv.1=k then (kv.1,d) else kv) (ws.map fun kv=>if kv.1=k then (kv.1,v) else kv)
 | [],_,h=>by have h:_=[]:=h;subst h;rfl
 | kd :: r,_,⟨u,t,e,h1,h2⟩=>by
  subst e
  by_cases c:kd.1=k
  ·rw[WH,WH,VY c,VY c]
   exact⟨v,_,rfl,hd,h2.jo k hd⟩
  ·rw[WH,WH,MC c,MC c]
   exact⟨u,_,rfl,h1,h2.jo k hd⟩
theorem gh.snoc {F:Hp} {k:Key} {d:D} {v:V} (hd:Is F d v):∀ {gM:List (Key × D)} {ws:List (Key × V)},gh F gM ws->gh F (gM ++ [(k,d)]) (ws ++ [(k,v)])
 | [],_,h=>by have h:_=[]:=h;subst h;exact⟨v,[],rfl,hd,rfl⟩
 | kd :: r,_,⟨u,t,e,h1,h2⟩=>by subst e;exact⟨u,_,rfl,h1,h2.snoc hd⟩
theorem gh.put {F:Hp} {gM:List (Key × D)} {ws:List (Key × V)} {k:Key} {d:D} {v:V} (h:gh F gM ws) (hd:Is F d v):gh F (putD gM k d) (putK ws k v):=by
 unfold putD putK
 rw[h.any k]
 split
 ·exact h.jo k hd
 ·exact h.snoc hd
noncomputable def kc (x:DV) (δ : aB) (K:Nat->List (Key × D)->Prop):Prop:=match x with
 | .o k=>match δ.mu[k]? with
  | some (some (.dct kvs))=>K k kvs
  | _=>False
 | _=>False
theorem HN {F H:Hp} {ad:List Addr} {δ : aB} {σ : St} {x:DV} {v:V} {K:Nat->List (Key × D)->Prop} (S:SR F ad δ σ H) (V1:gY F ad x v) (h:kc x δ K):∃ k kvs a ws,x = .o k/\K k kvs/\v = .ref a/\ad[k]? = some a/\H a=some (.dK ws)/\gh F kvs ws /\ δ.mu[k]? = some (some (.dct kvs)):=by
 unfold kc at h
 split at h
 ·rename_i k
  split at h
  ·rename_i kvs e
   obtain⟨a,e1,rfl⟩:=V1
   obtain⟨a',o,e2,e3,ws,rfl,h4⟩:=S.mu k _ e
   rw[e1] at e2;cases e2
   exact⟨k,kvs,a,ws,rfl,h,rfl,e1,e3,h4,e⟩
  ·exact h.elim
 ·exact h.elim
noncomputable def ke (x:DV) (P:Int->Prop):Prop:=match x with
 | .p (.int i)=>P i
 | _=>False
theorem HP {F:Hp} {ad:List Addr} {x:DV} {v:V} {P:Int->Prop} (hv:gY F ad x v) (h:ke x P):∃ i,v=kV (.inl i)/\P i:=by
 unfold ke at h
 split at h
 ·rename_i i;exact⟨i,hv,h⟩
 ·exact h.elim
noncomputable def Cf:WE:=fun δ K=>K (.o δ.mu.length) ⟨δ.sl,δ.mu ++ [some (.dct [])]⟩
noncomputable def nD (neg:Bool) (fi fo:WE):WE:=fun δ K=>fi δ fun x δ1=>fo δ1 fun y δ2=>ke x fun i=>kc y δ2 fun _ kvs=>K (.p (.bl (neg != (dh kvs (.inl i)).isSome))) δ2
noncomputable def Cg (fv fo fi:WE):WS:=fun K δ => fv δ fun z δ1=>fo δ1 fun x δ2=>fi δ2 fun y δ3=>mP z δ3 fun d δ4=>ke y fun i=>kc x δ4 fun k kvs=>kvs.length < 1000/\K.nx ⟨δ4.sl,δ4.mu.set k (some (.dct (putD kvs (.inl i) d)))⟩
section
variable {X:Cx} {o i e v:Expr} {fo fi fv fk fe:WE} {pos:Pos}
theorem Rf:JE X (.Dict [] [] pos) (tD Cf):=iP.weak fun σ H Q ⟨F,ad,δ,K,S,q,k⟩ p hp=>by
 have oi:fX F (.dct []) (.dK []):=⟨[],rfl,rfl⟩
 refine k _ _ q _ _ _ _ (Ext.own S hp) (S.own hp oi) ⟨p,?_,rfl⟩
 rw[<-S.c8,Ww (we _),XB];rfl
theorem Rg {neg:Bool} (td:TE) (hn:∀ σ H (Q:VK),(tD fi σ H fun y H1=>tD fo σ H1 fun x H2=>∃ a o,x = .ref a/\jY H2 a y o/\Q (.bl (neg != o.isSome)) H2)->td σ H Q):∀ σ H Q,tD (nD neg fi fo) σ H Q->td σ H Q:=fun σ H Q h0_ => el7 h0_ fun F ad δ K S q k =>hn σ H Q ⟨F,ad,δ,_,S,q,fun x δ1 h1 v F1 aS H1 E1 S1 V1=>⟨F1,aS,δ1,_,S1,h1,fun y δ2 h2 u F2 c_ H2 E2 S2 V2=>by
  obtain⟨i,rfl,h3⟩:=HP (V1.ext E2) h2
  obtain⟨k0,kvs,a,ws,rfl,h4,rfl,e1,e2,i1,m1⟩:=HN S2 V2 h3
  refine⟨a,_,rfl,jY.k e2,?_⟩
  have es:(cq ws (Sum.inl i:Key)).isSome=(dh kvs (.inl i)).isSome:=by
   rcases i1.val (.inl i) with⟨z1,z2⟩ | ⟨d,v,z1,z2,_⟩
   ·rw[z1,z2];rfl
   ·rw[z1,z2];rfl
  rw[es]
  exact k _ _ h4 _ _ _ _ (E1.trans E2) S2 rfl⟩⟩
theorem Rh {t:TE} {f:WE} (h:∀ σ H Q,tD f σ H Q->t σ H Q):∀ σ H Q,dQ (dT f) σ H Q->tB t σ H Q:=fun σ H Q h0_ => el7 h0_ fun F ad δ K S q k =>h σ H _ ⟨F,ad,δ,_,S,q,fun x δ1 h1 v F1 aS H1 E1 S1 V1=>by
  obtain⟨b,rfl,h2⟩:=um V1 h1
  exact⟨b,rfl,k _ _ h2 _ _ _ E1 S1⟩⟩
theorem Ri (hu:X.A.units + 64 < cLine) (hi:JE X i (tD fi)) (ho:JE X o (tD fo)) (hm:behindInMarks .In o=false:=by rfl):JT X (.Compare i [.In] [o] pos) (dQ (dT (nD false fi fo))) :=
 (Nl (NJ (by omega) hi ho) hm).weak (Rh (Rg (pY (tD fi) (tD fo)) fun σ H Q h=>by simp only[Bool.false_bne] at h;exact h))
theorem Rj {pos':Pos} (hu:X.A.units + 64 < cLine) (ho:JE X o (tD fo)) (hi:JE X i (tD fi)) (hv:JE X v (tD fv)) (hs:swapsWith v (some (.Subscript o i pos')) pos.line X.env=pure false:=by rfl):JS X (.Assign [.Subscript o i pos'] v pos) (fO (Cg fv fo fi)) :=
 (NK (by omega) ho hi hv hs).weak fun D σ H h0_ => el7 h0_ fun F ad δ K S q k =>⟨F,ad,δ,_,S,q,fun z δ1 h1 w F1 aS H1 E1 S1 V1=>⟨F1,aS,δ1,_,S1,h1,fun x δ2 h2 u F2 c_ H2 E2 S2 V2=>⟨F2,c_,δ2,_,S2,h2,fun y δ3 h3 t F3 rT H3 E3 S3 V3=>by
  obtain⟨d,δ4,F4,h4,E4,S4,i4⟩:=ui S3 ((V1.ext E2).ext E3) h3
  obtain⟨i,rfl,h5⟩:=HP V3 h4
  obtain⟨k0,kvs,a,ws,rfl,h6,rfl,e1,e2,i1,m1⟩:=HN S4 ((V2.ext E3).ext E4) h5
  have oi:fX F4 (.dct (putD kvs (.inl i) d)) (.dK (putK ws (.inl i) w)):=⟨_,rfl,i1.put i4⟩
  refine⟨a,_,rfl,k8.k e2 (lX (by rw[i1.length];exact XR h6.1)),?_⟩
  exact k.nx _ h6.2 _ _ _ _ ((((E1.trans E2).trans E3).trans E4).trans (Ext.put S4 m1 e1)) (S4.put m1 e1 oi)⟩⟩⟩
end
end L2
namespace LJ
open PySem L2
variable [aJ]
theorem Rk {kvs:List (Key × D)} {k l:Key} {d:D} (h:dh kvs k=none):dh (putD kvs k d) l=if l=k then some d else dh kvs l:=by
 have na:(kvs.any fun kv=>decide (kv.1=k))=false:=by
  cases q:kvs.any fun kv=>decide (kv.1=k) with
  | false=>rfl
  | true =>
   obtain⟨kv,h1,h2⟩:=q0C.mp q
   unfold dh at h
   rw[Option.map_eq_none_iff] at h
   exact absurd h2 (Zn.mp h kv h1)
 unfold putD
 rw[na,MC Ws]
 unfold dh
 rw[List.find?_append]
 cases q:kvs.find? fun kv=>decide (kv.1=l) with
 | some kv =>
  have e:=Zj q
  have e:kv.1=l:=by simpa using e
  rw[MC]
  ·rfl
  ·intro z
   subst z
   have hm:=Za q
   have:=YN.mp na kv hm
   exact this (by simpa using e)
 | none =>
  by_cases c:l=k
  ·subst c
   rw[VY rfl]
   simp
  ·rw[MC c]
   simp[show ¬ k=l from fun z=>c z.symm]
theorem Rl {kvs:List (Key × D)} {k:Key} {d:D}:(putD kvs k d).length <= kvs.length + 1:=by
 unfold putD
 split
 ·rw[pU];omega
 ·rw[My];simp
noncomputable def qQ:GD:=fun ys ar K=>∃ (m:Int) (ws:List (Int × Int × Int)) (ns:List Int),dJ m ws/\Nums ws ns/\ns.Nodup/\ns.length <= 900/\ys=[.p (aR m ws),.p (a9 ns)]/\ar=[]/\K (.p .non) []
noncomputable def Ci:WS:=(au (j6 (av 1 qP (ah (aa 0) ag))) (au (bE (gN (dT (d1 (aa 1) (jx "list")))) rQ ft) (au (aC 2 (d2 (dN (ah (d2 (aa 0) (dC (.int 1)) aP) ag) cf) (dC (.int 1)) (oI fun i j => .int (i - j)))) (au (aC 3 Cf) (bS (ju (ah (aa 1) ag)) (ly 2 (ig (bA 4) (ig (bA 5) kA))) (au (bE (qb (gN (dT (av 3 kJ (ah (aa 5) (ah (dC (.int 0)) (ah (aa 2) ag)))))) (dT (nD false (aa 5) (aa 3)))) rQ ft) (Cg (dC (.bl true)) (aa 3) (aa 5))))))))
theorem Rm:∀ ys ar K',ys.length=2->qQ ys ar K'->Ci (dX ar.length K') ⟨ys.map some ++ List.replicate 4 none,ar.map some⟩:=by
 rintro ys ar K' - ⟨m,ws,ns,W,hn,nd,hl,rfl,rfl,k⟩
 unfold Ci
 refine a8 fun N hN => ?_
 simp? only []
 refine⟨m,ws,W,rfl,rfl,?_⟩
 show N _
 subst hN
 refine a8 fun N hN => ?_
 simp? only []
 rw[show a9 ns = .lst (ns.map D.int) from rfl]
 simp? only [gW,eC,Bool.true_or]
 subst hN
 refine a8 fun N hN => ?_
 simp? only [g8,aR]
 subst hN
 refine a8 fun N hN => ?_
 simp? only [Cf]
 subst hN
 have il:∀ (j:Nat) (d:D),(j9 0 (ns.map D.int))[j]? = some d->∃ n:Int,ns[j]? = some n/\d=D.tup [.int (j:Int),.int n]:=fun j d hd=>by
  obtain⟨e,h1,h2⟩:=ql hd
  rw[E7] at h1
  obtain⟨n,h3,rfl⟩:=VV.mp h1
  exact⟨n,h3,by rw[h2,Xi]⟩
 have el:(j9 0 (ns.map D.int)).length=ns.length:=by rw[oq,pU]
 simp only[bS,ju,ah,aa,ag,WY,WR,mY]
 refine jy (fun i δ => ∃ kvs:List (Key × D),kvs.length <= i/\(∀ n:Int,(dh kvs (.inl n)).isSome=decide (n∈ns.take i)) /\ δ = ⟨[some (.p (.tup [.int m,.tup (ws.map bM)])),some (.p (.lst (ns.map D.int))),some (.p (.int (ws.length - 1))),some (.o 0),none,none],[some (.dct kvs)]⟩) ?_ ?_ ?_
 ·refine⟨[],we _,fun n=>by simp[dh],?_⟩
  simp only[pU]
 ·rintro j d δ L hj ⟨kvs,kl,kv,rfl⟩ hL
  obtain⟨n,jM,rfl⟩:=il j d hj
  obtain⟨n0,n1⟩:=hn n (WN jM)
  have jl:j < ns.length:=(pV.mp jM).1
  have ff:(dh kvs (.inl n)).isSome=false:=by
   rw[kv n]
   refine Wz fun hm => ?_
   obtain⟨i,hi,ei⟩:=W0.mp hm
   rw[WQ] at hi
   rw[Zv] at ei
   have e2:ns[j]=n:=(pV.mp jM).2
   have:=(Yq (h₀ := by omega) (h₁ := jl) nd).mp (ei.trans e2.symm)
   omega
  have fn:dh kvs (.inl n)=none:=by
   cases q:dh kvs (.inl n) with
   | none=>rfl
   | some d=>rw[q] at ff;cases ff
  have wb:ka (.int n) 0 (ws.length - 1)=true:=by
   show (decide (0 <= n) && decide (n <= (ws.length:Int) - 1))=true
   rw[WC n0,WC (by omega)];rfl
  refine⟨trivial,?_⟩
  simp only[ly,ig,kA,bA,dM,Xb,Xc,Mx,Ym]
  refine⟨trivial,?_⟩
  refine a8 fun N hN => ?_
  simp? only []
  refine⟨.int n,0,ws.length - 1,rfl,rfl,?_⟩
  simp? only [wb,nD,ke,kc,ff,Bool.false_bne]
  subst hN
  simp? only [Cg,ke,kc]
  refine⟨by omega,hL _ ⟨putD kvs (.inl n) (.bl true),?_,fun l => ?_,?_⟩⟩
  ·have:=Rl (kvs:=kvs) (k := .inl n) (d := .bl true);omega
  ·rw[Rk fn,Yb,jM]
   by_cases c:l=n
   ·subst c
    rw[VY rfl]
    exact (WC (by simp)).symm
   ·rw[MC (fun z=>c (Sum.inl.inj z)),kv l]
    simp[c]
  ·simp? only []
 ·rintro δ ⟨kvs,_,_,rfl⟩
  exact⟨trivial,gQ k⟩
end LJ
namespace L2
open PySem PySem.Spec PyProof.Rows PySem.W
section
open PySem.SeqAt
open PySem.AutoSeq1 (wpAny_loadPart')
open PySem.MeetsSeq PySem.MeetsSeq2 PySem.MeetsSeq3
theorem Cj:∀ {vs:List Value} {ns:List Int} {i:Nat},IntsAre vs ns->i < vs.length->∃ n t,vs[i]? = some (.int n t)/\ns.drop i=n :: ns.drop (i + 1)
 | _,_,_,.nil,h=>by simp at h
 | _,_,0,.cons n t r,_=>⟨n,t,rfl,by simp⟩
 | _,_,i + 1,.cons n t r,h=>by
  obtain⟨m,u,e1,e2⟩:=Cj (i:=i) r (by simpa using h)
  exact⟨m,u,by simpa using e1,by simpa using e2⟩
theorem Rn (l b:Addr) (items aV:Array Value) (n n2:Nat) (dd jS:Option Addr) (sl jT:Array (Option Value)) (ns ms:List Int) (hi:IntsAre items.toList ns) (hj:IntsAre aV.toList ms) (k:Nat) :
  ∀ i:Nat,items.size - i=k->i <= items.size->i <= aV.size->Meets (Builtin.«list.__eq__.loop» ⟨[.ref l,.ref b,rawInt i,rawInt 0],[]⟩)
   (fun A R s=>s.heap.get? l=some { cls := .type "list",dict:=dd,data := .seq items n,slots:=sl }/\s.heap.get? b=some { cls := .type "list",dict:=jS,data := .seq aV n2,slots:=jT } ∧
    R (.ok (.ret (.bool (HT.lexLt (ns.drop i) (ms.drop i))))) s):=by
 have z1:ns.length=items.size:=by rw[<-hi.length];simp
 have z2:ms.length=aV.size:=by rw[<-hj.length];simp
 induction k with
 | zero =>
  intro i hk l1 l2 prog w A R s h
  obtain⟨hp,g,d,tk,os⟩:=s;obtain⟨hl,hb,h⟩:=h
  wp_walk using WX hl,WX hb
  have n_:items[((i:Nat):Int).toNat]? = none:=by simp;omega
  rw[n_]
  have hd:ns.drop i=[]:=ZG (by omega)
  have he:HT.lexLt (ns.drop i) (ms.drop i)=decide (items.size < aV.size):=by
   rw[hd]
   cases q:ms.drop i with
   | nil =>
    have:=List.drop_eq_nil_iff.mp q
    rw[HT.EA];exact (Wz (by omega)).symm
   | cons y ys =>
    have:i < ms.length:=by
     by_cases c:i < ms.length
     ·exact c
     ·rw[ZG (by omega)] at q;cases q
    rw[HT.EB];exact (WC (by omega)).symm
  rw[he] at h
  wp_walk using WX hl,WX hb
  exact h
 | succ k ih =>
  intro i hk l1 l2 prog w A R s h
  obtain⟨hp,g,d,tk,os⟩:=s;obtain⟨hl,hb,h⟩:=h
  have cu:i < items.size:=by omega
  obtain⟨x,t,ex,dx⟩:=Cj (i:=i) hi (by simpa using cu)
  rw[Wx] at ex
  wp_walk using WX hl,WX hb
  have n_:items[((i:Nat):Int).toNat]? = some (.int x t):=by simpa using ex
  rw[n_]
  rw[dx] at h
  by_cases c:i < aV.size
  ·obtain⟨y,u,ey,dy⟩:=Cj (i:=i) hj (by simpa using c)
   rw[Wx] at ey
   have kI:aV[((i:Nat):Int).toNat]? = some (.int y u):=by simpa using ey
   have hc:((i:Int) + 1)=((i + 1:Nat):Int):=by push_cast;rfl
   rw[dy,HT.mH] at h
   rw[kI]
   refine pT (wpAny_eqBool_int ?_)
   by_cases e:x=y
   ·rw[VY e] at h
    subst e
    rw[q0y]
    wp_walk
    rw[hc]
    exact⟨Yx plain_eq_loop _,XC entry_eq_loop (by
     rw[Xo plain_eq_loop _]
     exact ih (i + 1) (by omega) (by omega) (by omega) prog w A R _ ⟨hl,hb,h⟩)⟩
   ·rw[MC e] at h
    rw[beq_false_of_ne e]
    wp_walk using WX hl,WX hb
    rw[n_,kI]
    have zy:=HT.ED A.in1 ⟨hp,g,d,tk,os⟩ x t y u prog w
    wp_walk using zy
    exact h
  ·have kI:aV[((i:Nat):Int).toNat]? = none:=by simp;omega
   rw[kI]
   have hd:ms.drop i=[]:=ZG (by omega)
   rw[hd,HT.EC] at h
   wp_walk using WX hl,WX hb
   show R (.ok (.ret (.bool (decide (items.size < aV.size))))) _
   rw[Wz (by omega)]
   exact h
theorem Ro (l b:Addr) (items aV:Array Value) (n n2:Nat) (dd jS:Option Addr) (sl jT:Array (Option Value)) (ns ms:List Int) (hi:IntsAre items.toList ns) (hj:IntsAre aV.toList ms) :
  Meets (Builtin.«list.__lt__» ⟨[.ref l,.ref b],[]⟩)
   (fun A R s=>s.heap.get? l=some { cls := .type "list",dict:=dd,data := .seq items n,slots:=sl }/\s.heap.get? b=some { cls := .type "list",dict:=jS,data := .seq aV n2,slots:=jT } ∧
    R (.ok (.ret (.bool (HT.lexLt ns ms)))) s):=by
 intro prog w A R s h
 obtain⟨hp,g,d,tk,os⟩:=s;obtain⟨hl,hb,h⟩:=h
 have f3:=AutoSeq1.sub_list_list
 wp_walk using WX hl,WX hb
 exact⟨Yx plain_eq_loop _,XC entry_eq_loop (by
  rw[Xo plain_eq_loop _]
  exact Rn l b items aV n n2 dd jS sl jT ns ms hi hj _ 0 rfl (Xn _) (Xn _) prog w A R _ ⟨hl,hb,by simpa using h⟩)⟩
end
noncomputable def nE (h:Heap) (k:LK) (v:Value):Prop:=∃ a o xs n,v = .ref a/\h.get? a=some o/\o.cls = .type "list" /\ o.data = .seq xs n/\IntsAre xs.toList k
section
variable {prog:Program} {w:World} {A:Around} {E:Value->Shared->Prop} {s:Shared} {Q:Bool->Shared->Prop}
theorem Rp {k l:LK} {x y:Value} (hu:A.units < cLine) (hx:nE s.heap k x) (hy:nE s.heap l y) (h:Q (HT.lexLt k l) s):wpAny (model prog w) A (keyLt' oneType' x y) Q E s:=by
 obtain⟨a,⟨c1,d1,t1,s1⟩,xs,n,rfl,e1,e2,e3,i1⟩:=hx
 obtain⟨b,⟨c2,d2,t2,s2⟩,ys,m,rfl,f1,f2,f3,i2⟩:=hy
 simp only at e2 e3 f2 f3
 subst e2 e3 f2 f3
 rw[keyLt'_oneType,oneLt'_eq]
 simp only[YM]
 refine pT (wpAny_cRoomFor hu ?_)
 refine pT (wpAny_callSpecialIfBound?_slot (T := "list") ⟨_,e1,rfl⟩ PySem.F.slot_list_lt (ZS PySem.F.slot_list_lt ⟨_,e1,rfl⟩ PySem.F.entry_list_lt (PySem.F.args_list_lt_2 _ _) (Ro a b xs ys n m d1 d2 s1 s2 k l i1 i2) ⟨e1,f1,?_⟩))
 exact Yl h
theorem Rq {M:Model} {vs:List Value} {ks:List LK} {Q:SortKind->Shared->Prop} (h2:2 <= vs.length) (hl:vs.length=ks.length) (ht:∀ (i:Nat) (k:LK) (v:Value),ks[i]? = some k->vs[i]? = some v->nE s.heap k v) (h:Q oneType' s) :
  wpAny M A (keyKind' vs.toArray) Q E s:=by
 refine kas_kind (T := .type "list") h2 (fun v hv => ?_) (by decide) (by decide) h
 obtain⟨i,e⟩:=V0.mp hv
 have hi:i < ks.length:=by rw[<-hl];exact (pV.mp e).1
 obtain⟨a,o,xs,n,rfl,e1,e2,_⟩:=ht i _ v (mM hi) e
 rw[<-e2];exact (Looks.ld e1).andThen .now
end
noncomputable def xW:D->LK
 | .lst ds=>ds.map fun d=>match d with
  | .int i=>i
  | _=>0
 | _=>[]
theorem HQ (k:LK):xW (.lst (k.map D.int))=k:=by
 show (k.map D.int).map _=k
 rw[WL]
 exact YU k
noncomputable def xX:List D->(D->Prop)->Prop
 | [.lst ds],K=>ds.length < 64/\∃ iw:List LK,ds=iw.map (fun k=>D.lst (k.map D.int))/\∀ out:List LK,out.Perm iw->out.Pairwise kle->K (.lst (out.map fun k=>D.lst (k.map D.int)))
 | _,_=>False
section
variable [aJ] {X:Cx}
theorem Ck {pins:List (Addr × Obj)} {σ : St} {H F:Hp} {s:Shared} {k:LK} {v:V} {u:Value} (I:Inv X pins σ H s) (sub:aA F H) (h:Is F (.lst (k.map D.int)) v) (r:RelV v u):nE s.heap k u:=by
 simp only[Is] at h
 obtain⟨a,us,rfl,e,i⟩:=h
 cases r
 rw[lA i] at e
 obtain⟨ak,rv,pl,_⟩:=I.list (bj.of (sub _ _ e))
 obtain⟨o,o1,o2,n,o3⟩:=pl.isList
 exact⟨a,o,_,n,rfl,o1,o2,o3,by simpa using intsAre_of rv⟩
theorem Rr {pins:List (Addr × Obj)} {σ : St} {H F:Hp} {s:Shared} {E:Value->Shared->Prop} {l:Addr} {ds:List D} {us:List V} {iw:List LK} {Q:Value->Shared->Prop} (hu:X.A.units + 64 < cLine) (I:Inv X pins σ H s) (sub:aA F H) (hl:H l=some (.lst us)) (hi:af F ds us) (i9:ds.length < 64) (hk:ds=iw.map fun k=>D.lst (k.map D.int))
  (fin:∀ (out:List LK) (ws:List V) (a:Addr) (s':Shared),out.Perm iw->out.Pairwise kle->af F (out.map fun k=>D.lst (k.map D.int)) ws->H a=none->Inv X pins σ (upd H a (.lst ws)) s'->Q (.ref a) s'):wpAny (model X.prog X.w) X.A (call (.builtin "sorted") [.ref l]) Q E s:=by
 have col:∀ Q':List Value->Shared->Prop,(∀ h' tk vs,(∀ b o,s.heap.get? b=some o->h'.get? b=some o)->Vals us vs->Q' vs { s with heap:=h',toks:=tk })->wpAny (model X.prog X.w) X.A.in1 (collect (.ref l)) Q' E s:=fun Q' hQ=>by
  obtain⟨ak,rv,pl,hz⟩:=I.list (bj.of hl)
  obtain⟨o,o1,o2,n,o3⟩:=pl.isList
  exact wpAny_collect_seq l (.inl rfl) o1 o2 o3 (fun h' kp=>hQ h' s.toks _ kp (by simpa using rv)) (by rw[zR,<-rv.length];exact hz)
 have lu:=hi.length
 have lk:ds.length=iw.length:=by rw[hk,pU]
 have Rt:X.A.in1.in1.units < cLine:=by show X.A.units + 1 + 1 < cLine;omega
 have dk:∀ {i:Nat},i < ds.length->ds.getD i .non = .lst ((iw.getD i []).map D.int):=fun {i} h=>by
  rw[hk,rG,E7,getD_some (l:=iw) (d:=[]) (i:=i) (by omega)];rfl
 have isAt:∀ {i:Nat},i < ds.length->∀ {vs:List Value},Vals us vs->∃ v,Is F (.lst ((iw.getD i []).map D.int)) v/\RelV v (vs.getD i Value.none):=fun {i} h {vs} rv=>by
  obtain⟨u,e1,e2⟩:=rv.get (getD_some (l:=us) (d:=V.non) (i:=i) (by omega))
  have:=getD_some (l:=vs) (d:=Value.none) (i:=i) (by rw[<-rv.length];omega)
  rw[this] at e1;cases e1
  have:=af.at hi (getD_some (d:=D.non) h) (getD_some (l:=us) (d:=V.non) (i:=i) (by omega))
  rw[dk h] at this
  exact⟨_,this,e2⟩
 refine Q2 (κ := oneType') (ks:=iw) I col (by omega) (fun s' vs rv J h2 Q' hq => ?_) (fun s' vs rv J i j C bX Bm hC => ?_) fun p s' a hp up ha J => ?_
 ·refine Rq (ks:=iw) (by omega) (by rw[<-rv.length];omega) (fun i k v e1 e2 => ?_) hq
  have h:i < ds.length:=by rw[lk];exact (pV.mp e1).1
  obtain⟨w,i1,r1⟩:=isAt h rv
  have ek:iw.getD i []=k:=by rw[rG,e1];rfl
  have ev:vs.getD i Value.none=v:=by rw[rG,e2];rfl
  rw[ek] at i1
  rw[ev] at r1
  exact Ck J sub i1 r1
 ·rw[<-rv.length] at bX Bm
  obtain⟨w,i1,r1⟩:=isAt (i:=i) (by omega) rv
  obtain⟨w',i2,r2⟩:=isAt (i:=j) (by omega) rv
  exact Rp Rt (Ck J sub i1 r1) (Ck J sub i2 r2) hC
 ·have e0:iw=ds.map xW:=by
   rw[hk,WL]
   exact (YU iw).symm.trans (W8 fun k _=>(HQ k).symm)
  rw[e0] at up
  obtain⟨o1,o2⟩:=Q3 lu.symm hp up
  have e1:(p.toList.map fun i=>ds.getD i .non)=(p.toList.map fun i=>iw.getD i []).map fun k=>D.lst (k.map D.int):=by
   rw[WL]
   exact W8 fun i bX=>dk (by rw[<-lu];exact hp.mem bX)
  have e2:((p.toList.map fun i=>ds.getD i .non).map xW)=p.toList.map fun i=>iw.getD i []:=by
   rw[e1,WL]
   exact (W8 fun k _=>HQ k).trans (YU _)
  have q1:(p.toList.map fun i=>iw.getD i []).Perm iw:=by
   have:=o1.map xW
   rw[e2,<-e0] at this
   exact this
  rw[e2] at o2
  have q3:=Q4 hi fun i bX=>by rw[<-lu];exact hp.mem bX
  rw[e1] at q3
  exact fin _ _ a s' q1 o2 q3 ha J
theorem Ru (hu:X.A.units + 64 < cLine):c9 X (.builtin "sorted") xX:=by
 rintro pins s σ H xs us Q I r ⟨F,ds,K,sub,rd,q,md⟩
 unfold xX at q
 split at q
 ·rename_i es
  obtain⟨i9,iw,sh,hK⟩:=q
  obtain⟨v,rfl,a,vs,rfl,h1,h2⟩:=dg rd
  obtain⟨u,rfl,rx⟩:=vals1 r
  cases rx
  exact Rr hu I sub h1 h2 i9 sh fun out ws b s' o1 o2 o3 hb J=>⟨.ref b,_,J,rfl,md _ _ _ (hK out o1 o2) (cR hb) (l4 sub hb o3)⟩
 ·exact q.elim
end
end L2
namespace LJ
open PySem L2
noncomputable abbrev Lt:=Int × (Addr × List Int)
noncomputable def eM (es:List Lt):List (Key × V):=es.map fun e=>(Sum.inl e.1,V.ref e.2.1)
structure dG (H:Hp) (es:List Lt):Prop where
 at_:∀ e∈es,H e.2.1=some (.lst (e.2.2.map V.int))
 nG:(es.map (·.2.1)).Nodup
 nH:(es.map (·.1)).Nodup
noncomputable def strip (es:List Lt):List (Int × List Int):=es.map fun e=>(e.1,e.2.2)
noncomputable def l9 (g:List (Int × List Int)) (x h:Int):List (Int × List Int):=if x∈g.map (·.1) then g.map (fun e=>if e.1=x then (e.1,e.2 ++ [h]) else e) else g ++ [(x,[h])]
noncomputable def cV (fs:List Int):Nat->List (Int × List Int)
 | 0=>[]
 | i + 1=>l9 (cV fs i) (fs.getD i 0) i
theorem HR (x:Int):∀ es:List Lt,cq (eM es) (Sum.inl x:Key)=(es.find? fun e=>decide (e.1=x)).map fun e=>V.ref e.2.1
 | []=>rfl
 | e :: es=>by
  by_cases c:e.1=x
  ·rw[List.find?_cons_of_pos (by simpa using c)]
   exact t6 (congrArg Sum.inl c)
  ·rw[List.find?_cons_of_neg (by simpa using c)]
   have:=HR x es
   rw[<-this]
   exact t7 (fun z=>c (Sum.inl.inj z))
theorem Rv (es:List Lt):(strip es).map (·.1)=es.map (·.1):=by unfold strip;rw[WL];rfl
noncomputable def grow (es:List Lt) (x h:Int):List Lt:=es.map fun e=>if e.1=x then (e.1,e.2.1,e.2.2 ++ [h]) else e
theorem Rw (es:List Lt) (x h:Int):eM (grow es x h)=eM es:=by
 unfold eM grow
 rw[WL]
 refine W8 fun e _ => ?_
 show ((Sum.inl (if e.1=x then (e.1,e.2.1,e.2.2 ++ [h]) else e).1:Key),V.ref (if e.1=x then (e.1,e.2.1,e.2.2 ++ [h]) else e).2.1)=_
 split<;>rfl
theorem Rx (es:List Lt) (x h:Int):(grow es x h).map (·.2.1)=es.map (·.2.1):=by
 unfold grow
 rw[WL]
 refine W8 fun e _ => ?_
 show (if e.1=x then (e.1,e.2.1,e.2.2 ++ [h]) else e).2.1=_
 split<;>rfl
theorem Ry (es:List Lt) (x h:Int):(grow es x h).map (·.1)=es.map (·.1):=by
 unfold grow
 rw[WL]
 refine W8 fun e _ => ?_
 show (if e.1=x then (e.1,e.2.1,e.2.2 ++ [h]) else e).1=_
 split<;>rfl
theorem Rz {es:List Lt} {x h:Int} (hx:x∈es.map (·.1)):strip (grow es x h)=l9 (strip es) x h:=by
 unfold l9
 rw[VY (by rw[Rv];exact hx)]
 unfold strip grow
 rw[WL,WL]
 refine W8 fun e _ => ?_
 show ((if e.1=x then (e.1,e.2.1,e.2.2 ++ [h]) else e).1,(if e.1=x then (e.1,e.2.1,e.2.2 ++ [h]) else e).2.2)=if e.1=x then (e.1,e.2.2 ++ [h]) else (e.1,e.2.2)
 split<;>rfl
theorem RA {es:List Lt} (n:(es.map (·.1)).Nodup) {e e':Lt} (h:e∈es) (h':e'∈es) (q:e.1=e'.1):e=e':=by
 obtain⟨i,hi,rfl⟩:=W0.mp h
 obtain⟨j,hj,rfl⟩:=W0.mp h'
 have:=(Yq (h₀ := by rw[pU];exact hi) (h₁ := by rw[pU];exact hj) n).mp (by rw[Xw,Xw];exact q)
 subst this;rfl
theorem RB {es:List Lt} (n:(es.map (·.2.1)).Nodup) {e e':Lt} (h:e∈es) (h':e'∈es) (q:e.2.1=e'.2.1):e=e':=by
 obtain⟨i,hi,rfl⟩:=W0.mp h
 obtain⟨j,hj,rfl⟩:=W0.mp h'
 have:=(Yq (h₀ := by rw[pU];exact hi) (h₁ := by rw[pU];exact hj) n).mp (by rw[Xw,Xw];exact q)
 subst this;rfl
theorem dG.grow {H:Hp} {es:List Lt} {e:Lt} {h:Int} (L:dG H es) (he:e∈es):dG (upd H e.2.1 (.lst (e.2.2.map V.int ++ [V.int h]))) (grow es e.1 h):=by
 refine⟨fun e' oS => ?_,by rw[Rx];exact L.nG,by rw[Ry];exact L.nH⟩
 unfold LJ.grow at oS
 obtain⟨d,hd,rfl⟩:=Wt.mp oS
 by_cases c:d.1=e.1
 ·obtain rfl:=RA L.nH hd he c
  rw[VY rfl]
  show upd H d.2.1 _ d.2.1=some (.lst ((d.2.2 ++ [h]).map V.int))
  rw[bK,WK];rfl
 ·rw[MC c]
  rw[aQ fun z=>c (by rw[RB L.nG hd he z])]
  exact L.at_ d hd
theorem dG.snoc {H H':Hp} {es:List Lt} {x h:Int} {n:Addr} (L:dG H es) (hn:H n=none) (hx:x∉es.map (·.1)) (kp:∀ e∈es,H' e.2.1=H e.2.1) (h':H' n=some (.lst [V.int h])):dG H' (es ++ [(x,n,[h])]):=by
 refine⟨fun e he => ?_,?_,?_⟩
 ·rcases Xa.mp he with q | q
  ·rw[kp e q];exact L.at_ e q
  ·rw[Wr.mp q];exact h'
 ·rw[WK]
  refine Xr.mpr ⟨L.nG,by simp,fun a ha b hb z => ?_⟩
  subst z
  obtain⟨e,he,rfl⟩:=Wt.mp ha
  have:e.2.1=n:=by simpa using hb
  rw[<-this,L.at_ e he] at hn
  cases hn
 ·rw[WK]
  refine Xr.mpr ⟨L.nH,by simp,fun a ha b hb z => ?_⟩
  subst z
  have:a=x:=by simpa using hb
  exact hx (by rw[<-this];exact ha)
variable [aJ]
noncomputable def oT:GD:=fun ys ar K=>∃ (m:Int) (ws:List (Int × Int × Int)) (ns:List Int),dJ m ws/\Nums ws ns/\ns.Nodup/\ns.length <= 900/\ys=[.p (aR m ws),.p (a9 ns)]/\ar=[]/\K (.p (kK ((cV (dU m ws ns) m.toNat).map (·.2)))) []
end LJ
namespace L2
open PySem
variable [aJ]
noncomputable def yX (δ : aB):aB:=⟨δ.sl,δ.mu.map fun _=>none⟩
section
variable {F F' H H':Hp} {ad aH:List Addr} {δ δ':aB} {σ σ':St}
noncomputable def HS (H:Hp) (v:V) (H':Hp):Prop:=∃ a b r,v = .ref a/\H a=none/\H' a=some (.lst (.ref b :: r))/\H b=none
end
section
variable {X:Cx} {Wo me km rA:Stmt} {i n:Nat} {G:GD} {fa:WA} {t:WT} {B:TS} {E:XK}
end
end L2
namespace LJ
open PySem L2
variable [aJ]
noncomputable def RC:V->List V->Hp->VK->Prop:=fun x vs H Q=>∃ (d:Addr) (kvs:List (Key × V)) (k:Key) (dv:V),x = .ref d/\vs=[kV k,dv]/\H d=some (.dK kvs)/\kvs.length < sizeLine/\(∀ v,cq kvs k=some v->Q v H)/\(cq kvs k=none->Q dv (upd H d (.dK (putK kvs k dv))))
noncomputable def RD:V->List V->Hp->VK->Prop:=fun x vs H Q=>∃ (d:Addr) (kvs:List (Key × V)),x = .ref d/\vs=[]/\H d=some (.dK kvs)/\∀ r,H r=none->Q (.ref r) (upd H r (iR r d))
noncomputable def RE:List V->Hp->VK->Prop:=fun xs H Q=>∃ (r d:Addr) (kvs:List (Key × V)),xs=[.ref r]/\H r=some (iR r d)/\H d=some (.dK kvs)/\∀ l,H l=none->Q (.ref l) (upd H l (.lst (kvs.map (·.2))))
noncomputable def RF:TS:=fO (j6 (av 2 qQ (ah (aa 0) (ah (aa 1) ag))))
noncomputable def RG (Kf:PySem.W.Frag):TS:=kW (h8 Am (lV 2)) (kW (pE (zZ Kf (gv (tG (aU oJ 2) [] E0 (gv (gG 0) (gv (gG 1) iL))) iL)) (pC Kf 2 (v3 (lV 3) (v3 (lV 4) pB)))
 (zh (mJ Kf "list" zJ (mJ Kf "dict" RC (gG 2) (gv (gG 4) (gv (pJ iL) iL))) (gv (gG 3) iL))))
 (px (pL RE (gv (pO Kf "dict" RD (gG 2)) iL))))
theorem RH {fs:List Int}:∀ {i:Nat},0 < i->cV fs i≠[]
 | i + 1,_,z=>by
  unfold cV l9 at z
  split at z
  ·rename_i c
   rw[List.map_eq_nil_iff] at z
   rw[z] at c
   exact nomatch c
  ·simp at z
theorem RI {Kf:PySem.W.Frag} {H F0:Hp} {ad:List Addr} {vs:List V} {m:Int} {ws:List (Int × Int × Int)} {ns:List Int} {K':RV->List OV->Prop} {Q:VK} {Dd:Ends} (hl:vs.length=2) (W:dJ m ws) (hn:Nums ws ns) (hd:ns.Nodup) (Cm:ns.length <= 900)
  (hK:K' (.p (kK ((cV (dU m ws ns) m.toNat).map (·.2)))) []) (S0:SR F0 ad ⟨[DV.p (aR m ws),DV.p (a9 ns)].map some,([]:List OV).map some⟩ (vs.map some) H) (kk:∀ r ows,K' r ows->∀ v F' H',wQ F0 ad H r ows v F' H'->HS H v H'->Q v H') (hD:∀ v H',Q v H'->Dd.rt v H') :
  kW RF (RG Kf) Dd (start ["web", "ways", "lots", "house", "first"] vs) H:=by
 have ea:ad=[]:=by have:=S0.c8;simpa using this
 subst ea
 have S1:=S0.start (N:=["web", "ways", "lots", "house", "first"])
 rw[hl] at S1
 refine⟨F0,[],_,{ nx:=fun δ' => δ'=⟨[some (.p (aR m ws)),some (.p (a9 ns)),none,none,none],[]⟩,rt:=fun _ _=>False },S1,?_,⟨?_,fun _ h=>h.elim,fun _ h=>h.elim,fun _ _ h=>h.elim⟩⟩
 ·simp? only []
  exact⟨m,ws,ns,W,hn,hd,Cm,rfl,rfl,rfl⟩
 rintro δ' rfl F1 aS σ1 H1 E1 S1
 have ea:aS=[]:=by have:=S1.c8;simpa using this
 subst ea
 obtain⟨v0,e0,i0⟩:=S1.sl 0 _ rfl
 obtain⟨v1,e1,i1⟩:=S1.sl 1 _ rfl
 have hlen:=S1.len
 obtain⟨w2,w3,w4,rfl⟩:∃ w2 w3 w4,σ1=[some v0,some v1,w2,w3,w4]:=by
  obtain⟨a,r,rfl⟩:=X7 hlen
  obtain⟨b,r,rfl⟩:=X7 (YZ hlen)
  have hlen:=YZ (YZ hlen)
  obtain⟨c,r,rfl⟩:=X7 hlen
  obtain⟨d,r,rfl⟩:=X7 (YZ hlen)
  obtain⟨e,rfl⟩:=List.length_eq_one_iff.mp (YZ (YZ hlen))
  cases (show some a=some (some v0) from e0)
  cases (show some b=some (some v1) from e1)
  exact⟨c,d,e,rfl⟩
 intro dl mX
 have vz:H dl=none:=by
  cases q:H dl with
  | none=>rfl
  | some u=>obtain⟨u',h'⟩:=E1.iS dl u q;rw[mX] at h';cases h'
 have fl:F1 dl=none:=by
  cases q:F1 dl with
  | none=>rfl
  | some u=>rw[S1.sub dl u q] at mX;cases mX
 have nl:¬ Lv [] ([]:List (Option OV)) dl:=fun ⟨k,ov,z,_⟩=>by simp at z
 have S2:=S1.other (o := .dK []) fl nl (aJ.same S1.tab (cR mX))
 have E2:=E1.other (o := .dK []) vz
 refine⟨_,rfl,_,rfl,?_⟩
 refine AW (E:=E0) (xs:=[.p (aR m ws),.p (a9 ns)]) (K:=fun r ows=>r = .p (a9 (dU m ws ns))/\ows=[]) S2 ⟨v0,_,rfl,i0,v1,_,rfl,i1,rfl⟩ rfl rfl rfl ⟨m,ws,ns,W,hn,.inl ⟨rfl,rfl,rfl,rfl⟩⟩ fun res ows v F3 H3 ⟨er,eo⟩ X3 S3 gj => ?_
 subst er eo
 have vA:(dU m ws ns).length=m.toNat:=HA
 have gX:=W.gX
 generalize dU m ws ns=fs at hK gj vA
 have gj:Is F3 (.lst (fs.map D.int)) v:=gj
 simp only[Is] at gj
 obtain⟨g,us,rfl,hg,iu⟩:=gj
 have RJ:=lA iu
 subst RJ
 have Co:Ext F1 [] [] (upd H1 dl (.dK [])) F3 [] [] H3:=X3
 have E3:Ext F0 [] [] H F3 [] [] H3:=E2.trans Co
 have xY:∀ a,¬ Lv [] ([]:List (Option OV)) a:=fun a ⟨k,ov,z,_⟩=>by simp at z
 have RK:dl∉aJ.ad:=fun z=>by obtain⟨ps,q⟩:=aJ.tb S1.tab z;rw[mX] at q;cases q
 have xZ:H3 dl=some (.dK []):=Co.keep dl _ bK (xY _) RK
 have x_:H3 g=some (.lst (fs.map V.int)):=S3.sub _ _ hg
 have RL:F3 dl=none:=by
  cases q:F3 dl with
  | none=>rfl
  | some u =>
   rcases Co.new dl u q with z | z | z
   ·rw[fl] at z;cases z
   ·rw[bK] at z;cases z
   ·exact absurd z (xY _)
 have gd:g≠dl:=fun z=>by rw[z,xZ] at x_;cases x_
 refine⟨g,rfl,⟨_,bj.of x_⟩,?_⟩
 refine Fo (K:=Kf) (a:=g) (xs:=fs.map V.int) (fun i σ H4=>∃ (es:List Lt) (w3 w4:Option V),σ = [some v0,some v1,some (.ref dl),w3,w4]/\(∀ a o,H3 a=some o->a≠dl->H4 a=some o)/\aJ.ok H4/\H4 dl=some (.dK (eM es))/\dG H4 es/\(∀ e∈es,H3 e.2.1=none)/\strip es=cV fs i/\es.length <= i/\∀ e∈es,e.2.2.length <= i) ?_ (fun i σ H4 _ ⟨_,_,_,_,kp,_⟩=>bj.of (kp g _ x_ gd)) ?_ ?_
 ·exact⟨[],w3,w4,rfl,fun a o e _=>e,S3.tab,xZ,⟨(fun e he=>nomatch he),YB,YB⟩,(fun e he=>nomatch he),rfl,we _,fun e he=>nomatch he⟩
 ·rintro i x T' σ H4 hx ⟨es,w3,w4,rfl,kp,tk,oU,L4,fr,st,le,ll⟩ xO
  rw[E7] at hx
  obtain⟨y,ey,rfl⟩:=VV.mp hx
  have hi:=(pV.mp ey).1
  have eD:fs.getD i 0=y:=by rw[rG,ey];rfl
  have s5:aA H4 (upd H4 T' (.tup [.int (i:Int),.int y])):=l7 xO
  refine⟨T',_,rfl,bV.of bK,rfl,_,_,rfl,_,_,rfl,rfl,?_⟩
  have RM:=s5 _ _ oU
  refine⟨_,rfl,.inr (.inr (.inl ⟨rfl,.inl ⟨_,RM⟩⟩)),_,rfl,Xn _,fun en HU => ?_⟩
  have s6:=s5.trans (l7 (o := .lst []) HU)
  have ya:=s6 _ _ oU
  have vB:upd (upd H4 T' (.tup [.int (i:Int),.int y])) en (.lst []) en=some (.lst []):=bK
  have kg:H4 en=none:=s5.free HU
  have sA:=aJ.same tk s6
  generalize upd (upd H4 T' (.tup [.int (i:Int),.int y])) en (.lst [])=H6 at s6 ya vB sA
  have L6:dG H6 es:=⟨fun e he=>s6 _ _ (L4.at_ e he),L4.nG,L4.nH⟩
  have Cp:en≠dl:=fun z=>by rw[z,oU] at kg;cases kg
  have vC:H3 en=none:=by
   cases q:H3 en with
   | none=>rfl
   | some u=>rw[kp en u q Cp] at kg;cases kg
  have fv:=HR y es
  refine⟨dl,eM es,Sum.inl y,.ref en,rfl,rfl,ya,lX (by unfold eM;rw[pU];omega),fun v hv => ?_,fun hv => ?_⟩
  ·rw[hv] at fv
   cases ff:es.find? fun e=>decide (e.1=y) with
   | none=>rw[ff] at fv;cases fv
   | some e =>
    rw[ff] at fv
    obtain rfl:v=V.ref e.2.1:=by simpa using fv
    have he:e∈es:=Za ff
    have ek:e.1=y:=by simpa using Zj ff
    have ib:y∈es.map (·.1):=Wt.mpr ⟨e,he,ek⟩
    have Cq:=L6.at_ e he
    have Cr:e.2.1≠dl:=fun z=>by have:=fr e he;rw[z,xZ] at this;cases this
    refine⟨.inl ⟨rfl,_,bj.of Cq⟩,_,rfl,e.2.1,_,_,rfl,rfl,Cq,?_,?_⟩
    ·refine lX ?_
     rw[pU]
     have:=ll e he
     omega
    ·refine⟨LJ.grow es y i,_,_,rfl,fun b' o eb nb => ?_,aJ.put sA Cq (.inl ⟨_,rfl⟩),?_,?_,?_,?_,?_,?_⟩
     ·rw[aQ (dq eb (fr e he))];exact s6 _ _ (kp _ _ eb nb)
     ·rw[aQ (Yd Cr),Rw];exact ya
     ·rw[<-ek];exact L6.grow he
     ·intro e' oS
      unfold LJ.grow at oS
      obtain⟨d,hd,rfl⟩:=Wt.mp oS
      have:=fr d hd
      split<;>exact this
     ·rw[Rz ib,st];show l9 (cV fs i) y i=l9 (cV fs i) (fs.getD i 0) i;rw[eD]
     ·unfold LJ.grow;rw[pU];omega
     ·intro e' oS
      unfold LJ.grow at oS
      obtain⟨d,hd,rfl⟩:=Wt.mp oS
      have:=ll d hd
      split
      ·show (d.2.2 ++ [(i:Int)]).length <= i + 1
       rw[My,W6];omega
      ·omega
  ·rw[hv] at fv
   have ib:y∉es.map (·.1):=fun z=>by
    obtain⟨e,he,ek⟩:=Wt.mp z
    cases ff:es.find? fun e=>decide (e.1=y) with
    | none=>exact absurd (Zn.mp ff e he) (by simpa using ek)
    | some e'=>rw[ff] at fv;cases fv
   have qR:upd H6 dl (.dK (putK (eM es) (Sum.inl y) (.ref en))) en=some (.lst []):=by rw[aQ Cp];exact vB
   refine⟨.inl ⟨rfl,_,bj.of qR⟩,_,rfl,en,_,_,rfl,rfl,qR,lX (Xn _),?_⟩
   refine⟨es ++ [(y,en,[(i:Int)])],_,_,rfl,fun b' o eb nb => ?_,aJ.put (aJ.put sA ya (.inr ⟨_,rfl⟩)) qR (.inl ⟨_,rfl⟩),?_,?_,?_,?_,?_,?_⟩
   ·rw[aQ (dq eb vC),aQ nb];exact s6 _ _ (kp _ _ eb nb)
   ·rw[aQ (Yd Cp),bK,M9 _ hv];unfold eM;rw[WK];rfl
   ·refine L4.snoc kg ib (fun e he => ?_) (by rw[bK];rfl)
    have ne1:e.2.1≠en:=dq (L4.at_ e he) kg
    have Cr:e.2.1≠dl:=fun z=>by have:=fr e he;rw[z,xZ] at this;cases this
    rw[aQ ne1,aQ Cr,L4.at_ e he];exact s6 _ _ (L4.at_ e he)
   ·intro e he
    rcases Xa.mp he with q | q
    ·exact fr e q
    ·rw[Wr.mp q];exact vC
   ·unfold strip at st ⊢
    rw[WK,st]
    show cV fs i ++ [(y,[(i:Int)])]=l9 (cV fs i) (fs.getD i 0) i
    unfold l9
    rw[eD,MC (by rw[<-st,WL];exact ib)]
   ·rw[My,W6];omega
   ·intro e he
    rcases Xa.mp he with q | q
    ·have:=ll e q;omega
    ·rw[Wr.mp q];show 1 <= i + 1;omega
 ·rintro σ H4 ⟨es,w3,w4,rfl,kp,tk,oU,L4,fr,st,le,ll⟩
  rw[pU,vA] at st
  refine⟨_,rfl,.inr (.inr (.inl ⟨rfl,.inl ⟨_,oU⟩⟩)),dl,_,rfl,rfl,oU,fun v hv => ?_⟩
  have s5:aA H4 (upd H4 v (iR v dl)):=l7 hv
  refine⟨v,dl,_,rfl,bK,s5 _ _ oU,fun r xV => ?_⟩
  have s6:=s5.trans (l7 (o := .lst ((eM es).map (·.2))) xV)
  have yb:H4 r=none:=s5.free xV
  have Cs:upd (upd H4 v (iR v dl)) r (.lst ((eM es).map (·.2))) r=some (.lst ((eM es).map (·.2))):=bK
  have sA:=aJ.same tk s6
  generalize upd (upd H4 v (iR v dl)) r (.lst ((eM es).map (·.2)))=H5 at s6 Cs sA
  have RN:r≠dl:=fun z=>by rw[z,oU] at yb;cases yb
  have HV:H3 r=none:=by
   cases q:H3 r with
   | none=>rfl
   | some u=>rw[kp r u q RN] at yb;cases yb
  have non:∀ {x:Addr},H3 x=none->H x=none:=fun {x} e=>by
   cases q:H x with
   | none=>rfl
   | some u=>obtain⟨u',z⟩:=E3.iS x u q;rw[e] at z;cases z
  have RO:HS H (.ref r) H5:=by
   cases es with
   | nil=>exact absurd st.symm (RH (by have:=W.m1;omega))
   | cons e es=>exact⟨r,e.2.1,_,rfl,non HV,Cs,non (fr e E6)⟩
  refine hD _ _ (kk _ _ hK _ (Nw F3 H3 H5) _ ?_ RO)
  have sm:aA F3 (Nw F3 H3 H5):=Nw.same S3.sub
  refine⟨fun a o e => ?_,E3.same.trans sm,fun a o e => ?_,fun a o e _ t => ?_,sA,fun a ha => ?_,rfl,fun j ow e=>by simp at e,fun a ha=>by simp at ha,?_⟩
  ·unfold Nw at e
   cases q:H3 a with
   | none=>rw[q] at e;exact e
   | some u =>
    rw[q] at e
    have e:F3 a=some o:=e
    exact s6 _ _ (kp _ _ (S3.sub _ _ e) fun z=>by rw[z,RL] at e;cases e)
  ·unfold Nw at e
   cases q:H3 a with
   | none =>
    refine .inr ?_
    cases q0:H a with
    | none=>rfl
    | some u=>obtain⟨u',h'⟩:=E3.iS a u q0;rw[q] at h';cases h'
   | some u =>
    rw[q] at e
    have e:F3 a=some o:=e
    rcases E3.new a o e with z | z | z
    ·exact .inl z
    ·exact .inr z
    ·exact absurd z (xY _)
  ·exact s6 _ _ (kp _ _ (E3.keep a o e (xY _) t) fun z=>by rw[z,vz] at e;cases e)
  ·obtain⟨ps,q⟩:=aJ.tb S3.tab ha
   unfold Nw;rw[q];exact S3.nt a ha
  ·show Is (Nw F3 H3 H5) (.lst (((cV fs m.toNat).map (·.2)).map a9)) _
   simp only[Is]
   refine⟨r,_,rfl,by unfold Nw;rw[HV];exact Cs,?_⟩
   rw[<-st]
   have key:∀ xs:List Lt,(∀ e∈xs,e∈es)->af (Nw F3 H3 H5) (((strip xs).map (·.2)).map a9) ((eM xs).map (·.2)):=by
    intro xs
    induction xs with
    | nil=>intro _;exact .nil
    | cons e xs ih =>
     intro h
     show af _ (a9 e.2.2 :: _) (V.ref e.2.1 :: _)
     simp only[af]
     refine⟨_,_,rfl,?_,ih fun x hx=>h x (E9 _ hx)⟩
     have he:=h e E6
     show Is _ (.lst (e.2.2.map D.int)) _
     simp only[Is]
     refine⟨e.2.1,e.2.2.map V.int,rfl,by unfold Nw;rw[fr e he];exact s6 _ _ (L4.at_ e he),mZ⟩
   exact key es fun _ h=>h
noncomputable def f9 (p q:Int) (fs:List Int):List Int:=fs.map fun x=>if x=p then q else x
theorem RP {p q x y:Int}:(if x=p then q else x)=(if y=p then q else y)↔x=y\/((x=p\/x=q)/\(y=p\/y=q)):=by
 by_cases h1:x=p<;>by_cases h2:y=p
 ·rw[VY h1,VY h2];constructor<;>intro h<;>omega
 ·rw[VY h1,MC h2];constructor<;>intro h<;>omega
 ·rw[MC h1,VY h2];constructor<;>intro h<;>omega
 ·rw[MC h1,MC h2];constructor<;>intro h<;>omega
theorem HW {f:Int->Int} {fs:List Int} {i:Nat} (h:i < fs.length):(fs.map f).getD i 0=f (fs.getD i 0):=by
 rw[rG,E7,mM h,rG,mM h];rfl
theorem RQ (fs:List Int) (i j:Nat):fw fs i j=f9 (max (fs.getD i 0) (fs.getD j 0)) (min (fs.getD i 0) (fs.getD j 0)) fs:=rfl
theorem RR (a b:Int):(max a b=a/\min a b=b)\/(max a b=b/\min a b=a):=by
 by_cases h:a <= b
 ·exact .inr ⟨q0A h,q00 h⟩
 ·exact .inl ⟨q01 (by omega),q0B (by omega)⟩
noncomputable def lI (ws:List (Int × Int × Int)) (st:List Int × List Int) (n:Int):List Int × List Int :=
 if st.2.getD (bQ ws n).1 0=st.2.getD (bQ ws n).2 0 then st else (st.1 ++ [n],fw st.2 (bQ ws n).1 (bQ ws n).2)
noncomputable def hJ (ws:List (Int × Int × Int)) (fs ns:List Int):List Int × List Int:=ns.foldl (lI ws) ([],fs)
noncomputable def sC (m:Int) (ws:List (Int × Int × Int)) (ns:List Int):List Int:=sortI (hJ ws (aN m.toNat) ns).1
theorem RS (ws:List (Int × Int × Int)) (st:List Int × List Int) (n:Int):(lI ws st n).2.length=st.2.length:=by
 unfold lI
 split
 ·rfl
 ·exact sx _ _ _
theorem Ct (ws:List (Int × Int × Int)):∀ (ns:List Int) (st:List Int × List Int),∃ l,(ns.foldl (lI ws) st).1=st.1 ++ l/\l.Sublist ns/\(ns.foldl (lI ws) st).2.length=st.2.length
 | [],st=>⟨[],by simp,.slnil,rfl⟩
 | n :: r,st=>by
  obtain⟨l,h1,h2,h3⟩:=Ct ws r (lI ws st n)
  rw[Z0]
  rw[RS] at h3
  unfold lI at h1 h3 ⊢
  split at h1
  ·rename_i q
   rw[VY q] at h3 ⊢
   exact⟨l,h1,h2.cons _,h3⟩
  ·rename_i q
   rw[MC q] at h3 ⊢
   exact⟨n :: l,by rw[h1,X8];rfl,h2.cons₂ _,h3⟩
theorem oV {a b:Int}:az (.int a) (.int b)=decide (a=b):=by
 cases q:az (.int a) (.int b)
 ·exact (Wz fun z=>by rw[z,jK] at q;cases q).symm
 ·simp only[az] at q
  exact (WC (XU q)).symm
noncomputable def vD:GD:=fun ys ar K=>∃ (m:Int) (ws:List (Int × Int × Int)),dJ m ws/\ys=[.p (aR m ws)]/\ar=[]/\∀ ns,cz ws ns->K (.n ((sC m ws ns).map D.int)) []
noncomputable def Cu:WS:=(au (aC 1 (av 1 vy (ah (aa 0) ag))) (au (aC 2 (mQ ag)) (au (aC 3 (av 2 oJ (ah (aa 0) (ah (aa 2) ag)))) (au (bS (bP (aa 1)) (bA 4) (au (aC 5 (d2 (d2 (aa 0) (dC (.int 1)) aP) (aa 4) aP)) (bE (dT (d2 (d2 (aa 3) (d2 (aa 5) (dC (.int 0)) aP) aP) (d2 (aa 3) (d2 (aa 5) (dC (.int 1)) aP) aP) l5)) (au (j6 (iX (aa 2) (ah (aa 4) ag))) (aC 3 (av 3 oG (ah (aa 3) (ah (d2 (aa 5) (dC (.int 0)) aP) (ah (d2 (aa 5) (dC (.int 1)) aP) ag)))))) ft))) (aW (xo (ah (aa 2) ag) xp))))))
theorem RT:∀ ys ar K',ys.length=1->vD ys ar K'->Cu (dX ar.length K') ⟨ys.map some ++ List.replicate 5 none,ar.map some⟩:=by
 rintro ys ar K' - ⟨m,ws,W,rfl,rfl,k⟩
 have xJ:=W.kj
 have m1:=W.m1
 have gX:=W.gX
 unfold Cu
 refine a8 fun N hN => ?_
 simp? only []
 refine⟨m,ws,W,rfl,rfl,fun ns ho => ?_⟩
 simp? only []
 subst hN
 refine a8 fun N hN => ?_
 simp? only []
 subst hN
 refine a8 fun N hN => ?_
 simp? only []
 refine⟨m,ws,[],W,fun n hn=>absurd hn WV,.inr ⟨rfl,rfl,?_⟩⟩
 simp? only []
 subst hN
 refine a8 fun N hN=>qE fun g' b' K2 hg d8 hK => ?_
 simp? only []
 subst hg d8 hK
 have il:(aN m.toNat).length=m.toNat:=by unfold aN;simp
 have hlen:=ho.len
 have inv:∀ i,(hJ ws (aN m.toNat) (ns.take i)).2.length=m.toNat/\(hJ ws (aN m.toNat) (ns.take i)).1.length <= 30:=fun i=>by
  obtain⟨l,h1,h2,h3⟩:=Ct ws (ns.take i) ([],aN m.toNat)
  refine⟨h3.trans il,?_⟩
  have:(hJ ws (aN m.toNat) (ns.take i)).1=l:=h1
  rw[this]
  have:=h2.length_le
  rw[WQ] at this
  omega
 refine jy (fun i δ => δ = ⟨[some (.p (aR m ws)),some (.p (.lst (ns.map D.int))),some (.o 0),some (.p (a9 (hJ ws (aN m.toNat) (ns.take i)).2)),none,none],[some (.lst ((hJ ws (aN m.toNat) (ns.take i)).1.map D.int))]⟩) rfl ?_ ?_
 ·rintro i d δ L hi rfl hL
  rw[E7] at hi
  obtain⟨n,HX,rfl⟩:=VV.mp hi
  obtain⟨n0,n1⟩:=ho.nums n (WN HX)
  obtain⟨y,ey,hy,ea,a,b,e1,e2,h1,h2,_⟩:=oH W n0 n1
  have en:bQ ws n=(a,b):=by unfold bQ;rw[ey,e1,e2,MB,MB]
  obtain⟨hf,hl⟩:=inv i
  have step:hJ ws (aN m.toNat) (ns.take (i + 1))=lI ws (hJ ws (aN m.toNat) (ns.take i)) n:=by
   have:ns.take (i + 1)=ns.take i ++ [n]:=by rw[Yb,HX];rfl
   rw[this]
   unfold hJ
   rw[Y5];rfl
  have jO:=hL _ rfl
  rw[step] at jO
  generalize hJ ws (aN m.toNat) (ns.take i)=st at hf hl jO
  obtain⟨acc,fs⟩:=st
  dsimp only at hf hl jO ⊢
  unfold lI at jO
  rw[en] at jO
  dsimp only at jO
  refine⟨trivial,?_⟩
  simp only[bA,Xb,Xc]
  refine a8 fun N2 cG => ?_
  simp? only [g8,aR,ea]
  subst cG
  have a1:=jf (ns:=fs) (i:=a) (by omega)
  have a2:=jf (ns:=fs) (i:=b) (by omega)
  refine uX fun Ay Bn hA hB => ?_
  simp? only [f7,g8,bM,e1,e2,a9,a1,a2,oV]
  by_cases q:fs.getD a 0=fs.getD b 0
  ·rw[WC q]
   simp? only []
   subst hB
   rw[VY q] at jO
   simp? only []
   exact jO
  ·rw[Wz q]
   simp? only []
   subst hA
   rw[MC q] at jO
   refine a8 fun N2 cG => ?_
   simp? only []
   refine⟨by omega,?_⟩
   subst cG
   simp? only [f7,g8]
   refine⟨fs,a,b,rfl,rfl,by omega,by omega,by omega,?_⟩
   simp? only []
   rw[WK] at jO
   exact jO
 ·rintro δ rfl
  refine⟨trivial,?_⟩
  obtain⟨hf,hl⟩:=inv ns.length
  rw[pU,Xj (we _)] at *
  show N _
  subst hN
  simp? only [xp,uz]
  exact⟨by omega,[],rfl,rfl,.inl (k ns ho)⟩
end LJ
namespace LJ
open PySem L2
noncomputable abbrev Wy:=Int × Int × Int
noncomputable def yc (S:Wy->Prop) (a b:Int):Prop:=∃ w,S w/\((w.1=a/\w.2.1=b)\/(w.1=b/\w.2.1=a))
inductive aG (S:Wy->Prop) (a:Int):Int->Prop
 | rf:aG S a a
 | st {b c:Int}:aG S a b->yc S b c->aG S a c
section
variable {S S':Wy->Prop} {a b c:Int}
theorem yc.symm (h:yc S a b):yc S b a:=let ⟨w,h1,h2⟩:=h; ⟨w,h1,h2.symm⟩
theorem aG.trans (h:aG S a b) (h':aG S b c):aG S a c:=by
 induction h' with
 | rf=>exact h
 | st _ e ih=>exact .st ih e
theorem aG.symm (h:aG S a b):aG S b a:=by
 induction h with
 | rf=>exact .rf
 | st _ e ih=>exact (aG.st .rf e.symm).trans ih
theorem aG.bind (h:aG S a b) (k:∀ w,S w->aG S' w.1 w.2.1):aG S' a b:=by
 induction h with
 | rf=>exact .rf
 | st _ e ih =>
  obtain⟨w,h1,h2⟩:=e
  rcases h2 with⟨rfl,rfl⟩ | ⟨rfl,rfl⟩
  ·exact ih.trans (k w h1)
  ·exact ih.trans (k w h1).symm
theorem aG.one {w:Wy} (h:S w):aG S w.1 w.2.1 := .st .rf ⟨w,h,.inl ⟨rfl,rfl⟩⟩
theorem aG.mono (h:aG S a b) (k:∀ w,S w->S' w):aG S' a b:=h.bind fun w hw => .one (k w hw)
theorem aG.none (h:aG S a b) (k:∀ w,¬ S w):a=b:=by
 cases h with
 | rf=>rfl
 | st _ e=>obtain⟨w,h1,_⟩:=e;exact absurd h1 (k w)
theorem aG.add {w:Wy} (k:∀ v,S' v↔S v\/v=w):aG S' a b↔aG S a b\/(aG S a w.1/\aG S w.2.1 b)\/(aG S a w.2.1/\aG S w.1 b):=by
 constructor
 ·intro h
  induction h with
  | rf=>exact .inl .rf
  | st _ e ih =>
   rename_i b c _
   obtain⟨v,h1,h2⟩:=e
   rcases (k v).mp h1 with h1 | rfl
   ·have e':aG S b c := .st .rf ⟨v,h1,h2⟩
    rcases ih with i | ⟨i,j⟩ | ⟨i,j⟩
    ·exact .inl (i.trans e')
    ·exact .inr (.inl ⟨i,j.trans e'⟩)
    ·exact .inr (.inr ⟨i,j.trans e'⟩)
   ·rcases h2 with⟨rfl,rfl⟩ | ⟨rfl,rfl⟩
    ·rcases ih with i | ⟨i,j⟩ | ⟨i,j⟩
     ·exact .inr (.inl ⟨i,.rf⟩)
     ·exact .inr (.inl ⟨i,.rf⟩)
     ·exact .inl i
    ·rcases ih with i | ⟨i,j⟩ | ⟨i,j⟩
     ·exact .inr (.inr ⟨i,.rf⟩)
     ·exact .inl i
     ·exact .inr (.inr ⟨i,.rf⟩)
 ·have up:∀ {x y},aG S x y->aG S' x y:=fun h=>h.mono fun v hv=>(k v).mpr (.inl hv)
  have o:aG S' w.1 w.2.1 := .one ((k w).mpr (.inr rfl))
  rintro (h | ⟨h,h'⟩ | ⟨h,h'⟩)
  ·exact up h
  ·exact ((up h).trans o).trans (up h')
  ·exact ((up h).trans o.symm).trans (up h')
end
variable [aJ]
noncomputable def aL (n:Nat) (fs:List Int) (S:Wy->Prop):Prop:=fs.length=n/\∀ i j:Nat,i < n->j < n->(fs.getD i 0=fs.getD j 0↔aG S i j)
theorem vE {n i:Nat} (h:i < n):(aN n).getD i 0=i:=by
 unfold aN
 rw[rG,E7,Xg h];rfl
theorem aL.start (n:Nat):aL n (aN n) (fun _=>False):=by
 refine⟨by unfold aN;simp,fun i j hi hj => ?_⟩
 rw[vE hi,vE hj]
 exact⟨fun e=>by rw[e];exact .rf,fun h=>h.none fun _ z=>z⟩
theorem aL.join {n i j:Nat} {fs:List Int} {S S':Wy->Prop} {w:Wy} {p q:Int} (h:aL n fs S) (hi:i < n) (hj:j < n) (e1:w.1=i) (e2:w.2.1=j) (k:∀ v,S' v↔S v\/v=w) (pq:(p=fs.getD i 0/\q=fs.getD j 0)\/(p=fs.getD j 0/\q=fs.getD i 0)):aL n (f9 p q fs) S':=by
 refine⟨by unfold f9;rw[pU,h.1],fun x y hx hy => ?_⟩
 unfold f9
 rw[HW (by rw[h.1];exact hx),HW (by rw[h.1];exact hy),RP,aG.add k,e1,e2,<-h.2 x y hx hy,<-h.2 x i hx hi,<-h.2 x j hx hj,<-h.2 j y hj hy,<-h.2 i y hi hy]
 rcases pq with⟨rfl,rfl⟩ | ⟨rfl,rfl⟩
 ·constructor
  ·rintro (h | ⟨h1 | h1,h2 | h2⟩)
   ·exact .inl h
   ·exact .inl (h1.trans h2.symm)
   ·exact .inr (.inl ⟨h1,h2.symm⟩)
   ·exact .inr (.inr ⟨h1,h2.symm⟩)
   ·exact .inl (h1.trans h2.symm)
  ·rintro (h | ⟨h1,h2⟩ | ⟨h1,h2⟩)
   ·exact .inl h
   ·exact .inr ⟨.inl h1,.inr h2.symm⟩
   ·exact .inr ⟨.inr h1,.inl h2.symm⟩
 ·constructor
  ·rintro (h | ⟨h1 | h1,h2 | h2⟩)
   ·exact .inl h
   ·exact .inl (h1.trans h2.symm)
   ·exact .inr (.inr ⟨h1,h2.symm⟩)
   ·exact .inr (.inl ⟨h1,h2.symm⟩)
   ·exact .inl (h1.trans h2.symm)
  ·rintro (h | ⟨h1,h2⟩ | ⟨h1,h2⟩)
   ·exact .inl h
   ·exact .inr ⟨.inr h1,.inl h2.symm⟩
   ·exact .inr ⟨.inl h1,.inr h2.symm⟩
theorem aL.gC {n i j:Nat} {fs:List Int} {S S':Wy->Prop} {w:Wy} (h:aL n fs S) (hi:i < n) (hj:j < n) (e1:w.1=i) (e2:w.2.1=j) (k:∀ v,S' v↔S v\/v=w) (e:fs.getD i 0=fs.getD j 0):aL n fs S':=by
 refine⟨h.1,fun x y hx hy=>(h.2 x y hx hy).trans ?_⟩
 have ij:=(h.2 i j hi hj).mp e
 rw[aG.add k,e1,e2]
 exact⟨.inl,fun z=>z.elim id fun z=>z.elim (fun ⟨a,b⟩=>(a.trans ij).trans b) fun ⟨a,b⟩=>(a.trans ij.symm).trans b⟩
noncomputable def aD (ws:List Wy) (n:Int):Wy:=ws.getD n.toNat (0,0,0)
theorem RU {m:Int} {ws:List Wy} (W:dJ m ws):∀ (ns:List Int),Nums ws ns->ns.Nodup->aL m.toNat (hJ ws (aN m.toNat) ns).2 (fun v=>∃ k∈ns,v=aD ws k) ∧
  ∀ n,n∈(hJ ws (aN m.toNat) ns).1↔∃ as bs,ns=as ++ n :: bs/\¬ aG (fun v=>∃ k∈as,v=aD ws k) (aD ws n).1 (aD ws n).2.1:=by
 intro ns
 have rev:∀ (rs:List Int),Nums ws rs.reverse->rs.reverse.Nodup->aL m.toNat (hJ ws (aN m.toNat) rs.reverse).2 (fun v=>∃ k∈rs.reverse,v=aD ws k) ∧
  ∀ n,n∈(hJ ws (aN m.toNat) rs.reverse).1↔∃ as bs,rs.reverse=as ++ n :: bs/\¬ aG (fun v=>∃ k∈as,v=aD ws k) (aD ws n).1 (aD ws n).2.1:=by
  intro rs
  induction rs with
  | nil =>
   intro _ _
   refine⟨?_,fun n=>⟨fun h=>absurd h WV,fun ⟨as,bs,e,_⟩ => ?_⟩⟩
   ·refine⟨(aL.start _).1,fun i j hi hj=>((aL.start _).2 i j hi hj).trans ⟨fun h=>h.mono fun _ z=>z.elim,fun h=>h.mono fun v ⟨k,hk,_⟩=>absurd hk WV⟩⟩
   ·exact absurd e (by simp)
  | cons r rs ih =>
   intro hn nd
   rw[List.reverse_cons] at hn nd ⊢
   have gu:Nums ws rs.reverse:=fun x hx=>hn x (Xk _ hx)
   have RW:=(Xr.mp nd).1
   obtain⟨mk,mem⟩:=ih gu RW
   obtain⟨r0,r1⟩:=hn r (Wv _ E6)
   obtain⟨y,ey,hy,_,i,j,e1,e2,h1,h2,_⟩:=oH W r0 r1
   have ew:aD ws r=y:=ey
   have en:bQ ws r=(i,j):=by unfold bQ;rw[ey,e1,e2,MB,MB]
   have step:hJ ws (aN m.toNat) (rs.reverse ++ [r])=lI ws (hJ ws (aN m.toNat) rs.reverse) r:=by unfold hJ;rw[Y5];rfl
   have kS:∀ v,(∃ k∈rs.reverse ++ [r],v=aD ws k)↔(∃ k∈rs.reverse,v=aD ws k)\/v=aD ws r:=fun v=>by
    constructor
    ·rintro ⟨k,hk,rfl⟩
     rcases Xa.mp hk with hk | hk
     ·exact .inl ⟨k,hk,rfl⟩
     ·rw[Wr.mp hk];exact .inr rfl
    ·rintro (⟨k,hk,rfl⟩ | rfl)
     ·exact⟨k,Xk _ hk,rfl⟩
     ·exact⟨r,Wv _ E6,rfl⟩
   have split:∀ n (P:List Int->Prop),(∃ as bs,rs.reverse ++ [r]=as ++ n :: bs/\P as)↔(∃ as bs,rs.reverse=as ++ n :: bs/\P as)\/(n=r/\P rs.reverse):=fun n P=>by
    constructor
    ·rintro ⟨as,bs,e,hp⟩
     rcases List.eq_nil_or_concat bs with rfl | ⟨HY,z,rfl⟩
     ·have:=List.append_inj' e rfl
      obtain⟨rfl,e3⟩:=this
      cases e3
      exact .inr ⟨rfl,hp⟩
     ·have e':rs.reverse ++ [r]=(as ++ n :: HY) ++ [z]:=by rw[e];simp
      obtain⟨e3,_⟩:=List.append_inj' e' rfl
      exact .inl ⟨as,HY,e3,hp⟩
    ·rintro (⟨as,bs,e,hp⟩ | ⟨rfl,hp⟩)
     ·exact⟨as,bs ++ [r],by rw[e];simp,hp⟩
     ·exact⟨rs.reverse,[],rfl,hp⟩
   rw[step]
   unfold lI
   rw[en]
   dsimp only
   have HZ:=mk.2 i j h1 h2
   by_cases q:(hJ ws (aN m.toNat) rs.reverse).2.getD i 0=(hJ ws (aN m.toNat) rs.reverse).2.getD j 0
   ·rw[VY q]
    refine⟨mk.gC (w:=aD ws r) h1 h2 (by rw[ew];exact e1) (by rw[ew];exact e2) kS q,fun n => ?_⟩
    rw[split n (fun as=>¬ aG (fun v=>∃ k∈as,v=aD ws k) (aD ws n).1 (aD ws n).2.1),mem n]
    refine⟨.inl,fun z=>z.elim id fun ⟨e,hc⟩ => ?_⟩
    subst e
    rw[ew,e1,e2] at hc
    exact absurd (HZ.mp q) hc
   ·rw[MC q]
    refine⟨?_,fun n => ?_⟩
    ·dsimp only
     rw[RQ]
     exact mk.join (w:=aD ws r) h1 h2 (by rw[ew];exact e1) (by rw[ew];exact e2) kS (RR _ _)
    ·rw[split n (fun as=>¬ aG (fun v=>∃ k∈as,v=aD ws k) (aD ws n).1 (aD ws n).2.1)]
     dsimp only
     rw[Xa,mem n,Wr]
     refine or_congr Iff.rfl ⟨fun e=>⟨e,?_⟩,fun h=>h.1⟩
     subst e
     rw[ew,e1,e2]
     exact fun z=>q (HZ.mpr z)
 intro hn nd
 have:=rev ns.reverse (by rw[ZY];exact hn) (by rw[ZY];exact nd)
 rw[ZY] at this
 exact this
noncomputable def kh (w:Wy):LK:=[w.2.2,w.1,w.2.1]
noncomputable def oW (v w:Wy):Prop:=HT.lexLt (kh v) (kh w)=true
noncomputable def kL (ws:List Wy) (w:Wy):Prop:=w∈ws/\¬ aG (fun v=>v∈ws/\oW v w) w.1 w.2.1
theorem Cv {ws:List Wy} {n:Int} (h0:0 <= n) (h1:n < (ws.length:Int)):aD ws n∈ws:=by
 unfold aD
 exact WN (getD_some (by omega))
theorem H_ {ws:List Wy} {w:Wy} (h:w∈ws):∃ n:Int,(0 <= n/\n < (ws.length:Int))/\aD ws n=w:=by
 obtain⟨i,hi⟩:=V0.mp h
 have hl:=(pV.mp hi).1
 refine⟨i,⟨by omega,by omega⟩,?_⟩
 unfold aD
 rw[MB,rG,hi];rfl
theorem Ia {a b:LK} (h:kle a b) (n:a≠b):HT.lexLt a b=true:=by
 cases q:HT.lexLt a b with
 | true=>rfl
 | false=>exact absurd (uK q h) n
theorem RX {m:Int} {ws:List Wy} (W:dJ m ws) {ns:List Int} (ho:cz ws ns) {n:Int}:n∈sC m ws ns↔(0 <= n/\n < (ws.length:Int))/\kL ws (aD ws n):=by
 have nd:ns.Nodup:=ho.perm.nodup_iff.mpr (BN _)
 unfold sC
 rw[(sortI_perm _).mem_iff,(RU W ns ho.nums nd).2 n]
 have before:∀ as bs,ns=as ++ n :: bs->∀ v,(∃ k∈as,v=aD ws k)↔(v∈ws/\oW v (aD ws n)):=fun as bs e v=>by
  have up:=ho.up
  rw[e,WK,WH,List.pairwise_append,Xs] at up
  obtain⟨_,⟨u2,_⟩,u3⟩:=up
  have hn:n∈ns:=by rw[e];exact Wv _ E6
  have nn:=ho.nums n hn
  rw[e] at nd
  have RY:=Xr.mp nd
  constructor
  ·rintro ⟨k,hk,rfl⟩
   have mW:k∈ns:=by rw[e];exact Xk _ hk
   have kn:=ho.nums k mW
   refine⟨Cv kn.1 kn.2,Ia (u3 _ (Zc hk) _ E6) fun z => ?_⟩
   have:=Rb W kn nn z
   subst this
   exact RY.2.2 k hk k E6 rfl
  ·rintro ⟨hv,cu⟩
   obtain⟨k,kn,rfl⟩:=H_ hv
   have hk:k∈ns:=ho.perm.mem_iff.mpr (by
    unfold aN
    exact Wt.mpr ⟨k.toNat,WJ.mpr (by omega),by simp;omega⟩)
   rw[e] at hk
   rcases Xa.mp hk with hk | hk
   ·exact⟨k,hk,rfl⟩
   ·exfalso
    rcases MA.mp hk with rfl | hk
    ·have:HT.lexLt (kh (aD ws k)) (kh (aD ws k))=true:=cu
     rw[uJ] at this;cases this
    ·have:=u2 _ (Zc hk)
     have h2:HT.lexLt (oR ws k) (oR ws n)=true:=cu
     unfold kle at this
     rw[this] at h2;cases h2
 constructor
 ·rintro ⟨as,bs,e,hc⟩
  have nn:=ho.nums n (by rw[e];exact Wv _ E6)
  exact⟨nn,Cv nn.1 nn.2,fun z=>hc (z.mono fun v hv=>(before as bs e v).mpr hv)⟩
 ·rintro ⟨nn,_,hc⟩
  have hn:n∈ns:=ho.perm.mem_iff.mpr (by
   unfold aN
   exact Wt.mpr ⟨n.toNat,WJ.mpr (by omega),by simp;omega⟩)
  obtain⟨as,bs,e⟩:=List.append_of_mem hn
  exact⟨as,bs,e,fun z=>hc (z.mono fun v hv=>(before as bs e v).mp hv)⟩
theorem RZ {m:Int} {ws:List Wy} {ns:List Int} (ho:cz ws ns):(sC m ws ns).Nodup:=by
 unfold sC
 refine (sortI_perm _).nodup_iff.mpr ?_
 obtain⟨l,h1,h2,_⟩:=Ct ws ns ([],aN m.toNat)
 have:(hJ ws (aN m.toNat) ns).1=l:=h1
 rw[this]
 exact (ho.perm.nodup_iff.mpr (BN _)).sublist h2
end LJ
namespace LJ
open PySem L2
variable [aJ]
open Classical in
theorem R0 {m:Int} {ws:List Wy} (W:dJ m ws):ws.Nodup:=by
 have:=W.unlike
 unfold List.Nodup at this ⊢
 rw[XS] at this
 exact this.imp fun {a b} h e=>h (by rw[e])
open Classical in
open Classical in
noncomputable def lJ (ws:List Wy) (w:Wy):Nat:=ws.countP fun v=>HT.lexLt (kh v) (kh w)
theorem Ib {α : Type} {p q : α -> Bool} {x : α}:∀ {l:List α},(∀ y∈l,p y=true->q y=true)->x∈l->q x=true->p x=false->l.countP p < l.countP q
 | y :: l,h,hx,h1,h2=>by
  have le:l.countP p <= l.countP q:=List.countP_mono_left fun z hz=>h z (E9 _ hz)
  rw[Xf,Xf]
  rcases MA.mp hx with rfl | hx
  ·rw[h1,h2];simp;omega
  ·have:=Ib (fun z hz=>h z (E9 _ hz)) hx h1 h2
   have hy:=h y E6
   cases q1:p y with
   | false=>simp;split<;>omega
   | true=>rw[hy q1];simp;omega
theorem yd {ws:List Wy} {u v:Wy} (hu:u∈ws) (h:oW u v):lJ ws u < lJ ws v :=
 Ib (fun y _ hy=>uL hy h) hu h (uJ _)
theorem Ic {ws:List Wy}:∀ (k:Nat) (v:Wy),v∈ws->lJ ws v <= k->aG (fun u=>kL ws u/\(oW u v\/u=v)) v.1 v.2.1
 | k,v,hv,hk=>by
  by_cases t:kL ws v
  ·exact .one ⟨t,.inr rfl⟩
  ·have c:aG (fun u=>u∈ws/\oW u v) v.1 v.2.1:=YG fun z=>t ⟨hv,z⟩
   refine c.bind fun u hu => ?_
   have lt:=yd hu.1 hu.2
   match k,hk with
   | 0,hk=>omega
   | k + 1,hk =>
    refine (Ic k u hu.1 (by omega)).mono fun x hx=>⟨hx.1,.inl ?_⟩
    rcases hx.2 with h | rfl
    ·exact uL h hu.2
    ·exact hu.2
noncomputable def k3 (w:Wy):LK:=[w.1,w.2.1,w.2.2]
theorem qS (n:Nat):(aN n).length=n:=by unfold aN;simp
structure Good (fs:List Int):Prop where
 le:∀ h:Nat,h < fs.length->0 <= fs.getD h 0/\fs.getD h 0 <= h
 own:∀ h:Nat,h < fs.length->fs.getD (fs.getD h 0).toNat 0=fs.getD h 0
theorem getD_at {fs:List Int} {h:Nat} (hl:h < fs.length):fs.getD h 0=fs[h]:=by rw[rG,mM hl];rfl
theorem R1 {fs:List Int} {i j h:Nat} (hl:h < fs.length):(fw fs i j).getD h 0=if fs.getD h 0=max (fs.getD i 0) (fs.getD j 0) then min (fs.getD i 0) (fs.getD j 0) else fs.getD h 0:=by
 rw[getD_at (by rw[sx];exact hl),getD_at hl]
 unfold fw
 rw[Xw]
theorem R3 (n:Nat):Good (aN n):=by
 have e:∀ h:Nat,h < (aN n).length->(aN n).getD h 0=h:=fun h hl=>by
  rw[qS] at hl
  rw[aN,rG,E7,Xg hl];rfl
 refine⟨fun h hl=>by rw[e h hl];omega,fun h hl => ?_⟩
 rw[e h hl,MB,e h hl]
theorem Good.join {fs:List Int} (G:Good fs) {i j:Nat} (hi:i < fs.length) (hj:j < fs.length):Good (fw fs i j):=by
 have a1:=G.le i hi
 have a2:=G.le j hj
 have o1:=G.own i hi
 have o2:=G.own j hj
 generalize hg:max (fs.getD i 0) (fs.getD j 0)=g
 generalize hk:min (fs.getD i 0) (fs.getD j 0)=k
 have gk:0 <= k/\k <= g/\k.toNat < fs.length/\fs.getD k.toNat 0=k:=by
  rw[<-hg,<-hk]
  rcases Int.le_total (fs.getD i 0) (fs.getD j 0) with c | c
  ·rw[q00 c,q0A c];exact⟨a1.1,c,by omega,o1⟩
  ·rw[q0B c,q01 c];exact⟨a2.1,c,by omega,o2⟩
 have at_:∀ h,h < fs.length->(fw fs i j).getD h 0=if fs.getD h 0=g then k else fs.getD h 0:=fun h hl=>by rw[R1 hl,hg,hk]
 refine⟨fun h hl => ?_,fun h hl => ?_⟩
 ·rw[sx] at hl
  have:=G.le h hl
  rw[at_ h hl]
  split<;>omega
 ·rw[sx] at hl
  have b:=G.le h hl
  have c:=G.own h hl
  rw[at_ h hl]
  by_cases d:fs.getD h 0=g
  ·rw[VY d,at_ _ gk.2.2.1,gk.2.2.2]
   split<;>rfl
  ·rw[MC d,at_ _ (by omega),c,MC d]
theorem Cw {m:Int} {ws:List Wy} (W:dJ m ws) {n:Int} (h0:0 <= n) (h1:n < (ws.length:Int)):∃ i k:Nat,bQ ws n=(i,k)/\(aD ws n).1=i/\(aD ws n).2.1=k/\i < m.toNat/\k < m.toNat:=by
 obtain⟨y,ey,hy,_,i,k,e1,e2,h1,h2,_⟩:=oH W h0 h1
 refine⟨i,k,?_,by unfold aD;rw[ey];exact e1,by unfold aD;rw[ey];exact e2,h1,h2⟩
 unfold bQ
 rw[ey,e1,e2,MB,MB]
theorem Ie {m:Int} {ws:List Wy} (W:dJ m ws):∀ (ns fs:List Int),Nums ws ns->fs.length=m.toNat->Good fs->Good (gn ws fs ns)
 | [],_,_,_,G=>G
 | n :: ns,fs,hn,hl,G=>by
  have b:=hn n (E6 ..)
  obtain⟨i,k,e,_,_,h1,h2⟩:=Cw W b.1 b.2
  refine Ie W ns _ (fun x hx=>hn x (E9 _ hx)) (by rw[sx];exact hl) ?_
  show Good (fw fs (bQ ws n).1 (bQ ws n).2)
  rw[e]
  exact G.join (by omega) (by omega)
theorem Ig {m:Int} {ws:List Wy} (W:dJ m ws):∀ (ns fs:List Int) (S:Wy->Prop),Nums ws ns->aL m.toNat fs S->aL m.toNat (gn ws fs ns) (fun v=>S v\/∃ k∈ns,v=aD ws k)
 | [],fs,S,_,h=>by
  have:(fun v=>S v\/∃ k∈([]:List Int),v=aD ws k)=S:=funext fun v=>propext (by simp)
  rw[this];exact h
 | n :: ns,fs,S,hn,h=>by
  have b:=hn n (E6 ..)
  obtain⟨i,k,e,e1,e2,h1,h2⟩:=Cw W b.1 b.2
  have step:aL m.toNat (fw fs i k) (fun v=>S v\/v=aD ws n):=by
   refine aL.join (w:=aD ws n) (p:=max (fs.getD i 0) (fs.getD k 0)) (q:=min (fs.getD i 0) (fs.getD k 0)) h h1 h2 e1 e2 (fun v=>Iff.rfl) ?_
   omega
  have:=Ig W ns _ _ (fun x hx=>hn x (E9 _ hx)) step
  have eq:(fun v=>(S v\/v=aD ws n)\/∃ k∈ns,v=aD ws k)=(fun v=>S v\/∃ k∈n :: ns,v=aD ws k):=funext fun v=>propext (by
   constructor
   ·rintro ((h | h) | ⟨k,hk,h⟩)
    ·exact .inl h
    ·exact .inr ⟨n,E6,h⟩
    ·exact .inr ⟨k,E9 _ hk,h⟩
   ·rintro (h | ⟨k,hk,h⟩)
    ·exact .inl (.inl h)
    ·rcases MA.mp hk with rfl | hk
     ·exact .inl (.inr h)
     ·exact .inr ⟨k,hk,h⟩)
  rw[eq] at this
  show aL _ (gn ws (fw fs (bQ ws n).1 (bQ ws n).2) ns) _
  rw[e]
  exact this
noncomputable def d7 (ws:List Wy) (ns:List Int):Wy->Prop:=fun v=>∃ k∈ns,v=aD ws k
theorem Ih {m:Int} {ws:List Wy} (W:dJ m ws) {ns:List Int} (hn:Nums ws ns):aL m.toNat (dU m ws ns) (d7 ws ns):=by
 have:=Ig W ns _ _ hn (aL.start m.toNat)
 have eq:(fun v=>False\/∃ k∈ns,v=aD ws k)=d7 ws ns:=funext fun v=>propext (by unfold d7;simp)
 rw[eq] at this
 exact this
theorem R4 {m:Int} {ws:List Wy} (W:dJ m ws) {ns:List Int} (hn:Nums ws ns):Good (dU m ws ns):=Ie W ns _ hn (qS _) (R3 _)
noncomputable def bZ (fs:List Int) (i:Nat) (x:Int):List Int:=((List.range i).filter fun h=>decide (fs.getD h 0=x)).map fun h:Nat=>(h:Int)
noncomputable def roots (fs:List Int) (i:Nat):List Nat:=(List.range i).filter fun h=>decide (fs.getD h 0=(h:Int))
theorem Ii {fs:List Int} (G:Good fs):∀ i,i <= fs.length->cV fs i=(roots fs i).map fun r:Nat=>((r:Int),bZ fs i (r:Int))
 | 0,_=>rfl
 | i + 1,hi=>by
  have ih:=Ii G i (by omega)
  have le:=G.le i (by omega)
  have own:=G.own i (by omega)
  show l9 (cV fs i) (fs.getD i 0) i=_
  rw[ih]
  have keys:((roots fs i).map fun r:Nat=>((r:Int),bZ fs i (r:Int))).map (·.1)=(roots fs i).map fun r:Nat=>(r:Int):=by rw[WL];rfl
  have lK:∀ x,bZ fs (i + 1) x=if fs.getD i 0=x then bZ fs i x ++ [(i:Int)] else bZ fs i x:=fun x=>by
   unfold bZ
   rw[Y0,YY]
   by_cases c:fs.getD i 0=x
   ·rw[VY c,WK,List.filter_cons_of_pos (by simpa using c)];rfl
   ·rw[MC c,List.filter_cons_of_neg (by simpa using c),List.filter_nil,Yw]
  have lL:∀ r,r∈roots fs i↔r < i/\fs.getD r 0=(r:Int):=fun r=>by
   unfold roots
   rw[Xm,WJ,W5]
  unfold l9
  rw[keys]
  by_cases c:fs.getD i 0=(i:Int)
  ·have no:fs.getD i 0∉(roots fs i).map fun r:Nat=>(r:Int):=fun z=>by
    obtain⟨r,hr,e⟩:=Wt.mp z
    have:=((lL r).mp hr).1
    omega
   rw[MC no]
   have er:roots fs (i + 1)=roots fs i ++ [i]:=by
    unfold roots
    rw[Y0,YY,List.filter_cons_of_pos (by simpa using c)];rfl
   rw[er,WK]
   congr 1
   ·refine W8 fun r hr => ?_
    have:=((lL r).mp hr).1
    rw[lK,MC (by omega)]
   ·show [(fs.getD i 0,[(i:Int)])]=[((i:Int),bZ fs (i + 1) i)]
    rw[lK,VY c,c]
    have:bZ fs i (i:Int)=[]:=by
     unfold bZ
     rw[List.filter_eq_nil_iff.mpr fun h hh => ?_]
     ·rfl
     ·have h1:=WJ.mp hh
      have:=G.le h (by omega)
      rw[W5]
      omega
    rw[this];rfl
  ·obtain⟨x,ex⟩:∃ x:Nat,fs.getD i 0=x:=⟨(fs.getD i 0).toNat,by omega⟩
   rw[ex] at own le c ⊢
   rw[MB] at own
   have hx:x∈roots fs i:=(lL x).mpr ⟨by omega,own⟩
   rw[VY (Wt.mpr ⟨x,hx,rfl⟩)]
   have er:roots fs (i + 1)=roots fs i:=by
    unfold roots
    rw[Y0,YY,List.filter_cons_of_neg (by rw[ex];simpa using c),List.filter_nil,Yw]
   rw[er,WL]
   refine W8 fun r hr => ?_
   show (if (r:Int)=(x:Int) then ((r:Int),bZ fs i r ++ [(i:Int)]) else ((r:Int),bZ fs i r))=((r:Int),bZ fs (i + 1) r)
   rw[lK,ex]
   by_cases d:(r:Int)=(x:Int)
   ·rw[VY d,VY d.symm]
   ·rw[MC d,MC (Yd d)]
theorem sD:∀ {a b:List Int},a.Pairwise (· < ·)->b.Pairwise (· < ·)->(∀ x,x∈a↔x∈b)->a=b
 | [],[],_,_,_=>rfl
 | [],y :: _,_,_,h=>absurd ((h y).mpr (E6 ..)) (by simp)
 | x :: _,[],_,_,h=>absurd ((h x).mp (E6 ..)) (by simp)
 | x :: a,y :: b,ha,hb,h=>by
  obtain⟨h1,h2⟩:=Xs.mp ha
  obtain⟨h3,h4⟩:=Xs.mp hb
  have R5:x=y:=by
   rcases MA.mp ((h x).mp (E6 ..)) with e | e
   ·exact e
   ·rcases MA.mp ((h y).mpr (E6 ..)) with e' | e'
    ·exact e'.symm
    ·have:=h3 x e
     have:=h1 y e'
     omega
  subst R5
  rw[sD h2 h4 fun z => ?_]
  constructor
  ·intro hz
   rcases MA.mp ((h z).mp (E9 _ hz)) with e | e
   ·have:=h1 z hz;omega
   ·exact e
  ·intro hz
   rcases MA.mp ((h z).mpr (E9 _ hz)) with e | e
   ·have:=h3 z hz;omega
   ·exact e
open Classical in
noncomputable def cls (n:Nat) (S:Wy->Prop) (h:Int):List Int:=(aN n).filter fun x=>decide (aG S h x)
theorem bh {n:Nat} {x:Int}:x∈aN n↔0 <= x/\x < n:=by
 unfold aN
 constructor
 ·intro h
  obtain⟨k,hk,rfl⟩:=Wt.mp h
  have:=WJ.mp hk
  omega
 ·intro h
  exact Wt.mpr ⟨x.toNat,WJ.mpr (by omega),by omega⟩
theorem vF (n:Nat):(aN n).Pairwise (· < ·):=by
 unfold aN
 exact XS.mpr ((Yk (n:=n)).imp fun h=>by omega)
open Classical in
theorem bt {n:Nat} {S:Wy->Prop} {h x:Int}:x∈cls n S h↔(0 <= x/\x < n)/\aG S h x:=by
 unfold cls
 rw[Xm,bh,W5]
open Classical in
theorem oX (n:Nat) (S:Wy->Prop) (h:Int):(cls n S h).Pairwise (· < ·):=(vF n).filter _
structure bG (n:Nat) (S:Wy->Prop) (L:List (List Int)):Prop where
 nd:L.Nodup
 mem:∀ l,l∈L↔∃ h:Int,(0 <= h/\h < n)/\l=cls n S h
theorem Cy {n:Nat} {S:Wy->Prop} {a b:Int} (h:aG S a b):cls n S a=cls n S b :=
 sD (oX _ _ _) (oX _ _ _) fun x=>by
  rw[bt,bt]
  exact⟨fun ⟨h1,h2⟩=>⟨h1,h.symm.trans h2⟩,fun ⟨h1,h2⟩=>⟨h1,h.trans h2⟩⟩
theorem Cz {n:Nat} {S:Wy->Prop} {a:Int} (h:0 <= a/\a < n):a∈cls n S a:=bt.mpr ⟨h,.rf⟩
theorem R6 {x y:Int} {xs ys:List Int} (h:x < y):kle (x :: xs) (y :: ys):=by
 unfold kle
 rw[HT.mH,MC (by omega)]
 exact Wz (by omega)
theorem Ij {n:Nat} {fs:List Int} {S:Wy->Prop} (M:aL n fs S) {r:Nat} (hr:r < n) (e:fs.getD r 0=r):bZ fs n r=cls n S r:=by
 refine sD ?_ (oX _ _ _) fun x => ?_
 ·unfold bZ
  exact XS.mpr (((Yk (n:=n)).filter _).imp fun h=>by omega)
 ·rw[bt]
  unfold bZ
  constructor
  ·intro h
   obtain⟨k,hk,rfl⟩:=Wt.mp h
   rw[Xm,WJ,W5] at hk
   exact⟨by omega,(M.2 r k hr hk.1).mp (by rw[e,hk.2])⟩
  ·rintro ⟨⟨h0,h1⟩,hc⟩
   obtain⟨k,rfl⟩:∃ k:Nat,x=k:=⟨x.toNat,by omega⟩
   refine Wt.mpr ⟨k,?_,rfl⟩
   rw[Xm,WJ,W5]
   have:=(M.2 r k hr (by omega)).mpr hc
   exact⟨by omega,by rw[<-this,e]⟩
noncomputable def qT (fs:List Int) (n:Nat):List (List Int):=(roots fs n).map fun r:Nat=>bZ fs n (r:Int)
theorem R7 {fs:List Int} (G:Good fs):(cV fs fs.length).map (·.2)=qT fs fs.length:=by
 rw[Ii G fs.length (we _),WL];rfl
theorem ye {n:Nat} {fs:List Int} (G:Good fs) (hl:fs.length=n) {r:Nat} (hr:r < n) (e:fs.getD r 0=r):∃ t,bZ fs n r=(r:Int) :: t:=by
 have mem:(r:Int)∈bZ fs n r:=by
  unfold bZ
  refine Wt.mpr ⟨r,?_,rfl⟩
  rw[Xm,WJ,W5]
  exact⟨hr,e⟩
 have up:(bZ fs n r).Pairwise (· < ·):=by
  unfold bZ
  exact XS.mpr (((Yk (n:=n)).filter _).imp fun h=>by omega)
 cases q:bZ fs n r with
 | nil=>rw[q] at mem;simp at mem
 | cons x t =>
  refine⟨t,?_⟩
  have hx:x∈bZ fs n r:=by rw[q];exact E6
  unfold bZ at hx
  obtain⟨k,hk,rfl⟩:=Wt.mp hx
  rw[Xm,WJ,W5] at hk
  have l:=G.le k (by omega)
  rw[hk.2] at l
  rw[q] at mem up
  rcases MA.mp mem with z | z
  ·rw[z]
  ·have:=(Xs.mp up).1 _ z
   omega
theorem R8 {fs:List Int} (G:Good fs):(qT fs fs.length).Pairwise kle:=by
 unfold qT
 refine XS.mpr ?_
 have:(roots fs fs.length).Pairwise fun a b=>a < b/\(a < fs.length/\fs.getD a 0=a)/\b < fs.length/\fs.getD b 0=b:=by
  have h1:(roots fs fs.length).Pairwise (· < ·):=(Yk (n:=fs.length)).filter _
  have hm:∀ a∈roots fs fs.length,a < fs.length/\fs.getD a 0=a:=fun a ha=>by
   unfold roots at ha
   rw[Xm,WJ,W5] at ha
   exact ha
  exact h1.imp_of_mem fun ha hb h=>⟨h,hm _ ha,hm _ hb⟩
 refine this.imp fun {a b} h => ?_
 obtain⟨t,e⟩:=ye G rfl h.2.1.1 h.2.1.2
 obtain⟨u,e'⟩:=ye G rfl h.2.2.1 h.2.2.2
 rw[e,e']
 exact R6 (by omega)
theorem R9 {n:Nat} {fs:List Int} {S:Wy->Prop} (G:Good fs) (M:aL n fs S):bG n S (qT fs n):=by
 have hl:=M.1
 have hm:∀ a∈roots fs n,a < n/\fs.getD a 0=a:=fun a ha=>by
  unfold roots at ha
  rw[Xm,WJ,W5] at ha
  exact ha
 refine⟨?_,fun l => ?_⟩
 ·unfold qT
  refine XS.mpr ?_
  have h1:(roots fs n).Pairwise (· < ·):=(Yk (n:=n)).filter _
  refine h1.imp_of_mem fun {a b} ha hb h z => ?_
  obtain⟨t,e⟩:=ye G hl (hm a ha).1 (hm a ha).2
  obtain⟨u,e'⟩:=ye G hl (hm b hb).1 (hm b hb).2
  rw[e,e'] at z
  have:=(List.cons.inj z).1
  omega
 ·unfold qT
  constructor
  ·intro h
   obtain⟨r,hr,rfl⟩:=Wt.mp h
   obtain⟨h1,h2⟩:=hm r hr
   exact⟨r,by omega,Ij M h1 h2⟩
  ·rintro ⟨h,hh,rfl⟩
   obtain⟨k,rfl⟩:∃ k:Nat,h=k:=⟨h.toNat,by omega⟩
   have le:=G.le k (by omega)
   have own:=G.own k (by omega)
   obtain⟨r,er⟩:∃ r:Nat,fs.getD k 0=r:=⟨(fs.getD k 0).toNat,by omega⟩
   rw[er] at le own
   rw[MB] at own
   refine Wt.mpr ⟨r,?_,?_⟩
   ·unfold roots
    rw[Xm,WJ,W5]
    exact⟨by omega,own⟩
   ·rw[Ij M (by omega) own]
    exact Cy ((M.2 r k (by omega) (by omega)).mp (by rw[own,er]))
theorem Ik:∀ {as bs:List (List Int)},as.Perm bs->as.Pairwise kle->bs.Pairwise kle->as=bs
 | [],bs,p,_,_=>(List.nil_perm.mp p).symm
 | a :: as,[],p,_,_=>absurd p.length_eq (by simp)
 | a :: as,b :: bs,p,h1,h2=>by
  rw[Xs] at h1 h2
  have e:a=b:=by
   rcases MA.mp (p.mem_iff.mp E6) with z | z
   ·exact z
   ·rcases MA.mp (p.mem_iff.mpr (E6 (a:=b) (l:=bs))) with y | y
    ·exact y.symm
    ·exact GK (h1.1 _ y) (h2.1 _ z)
  subst e
  rw[Ik p.cons_inv h1.2 h2.2]
theorem Il {n:Nat} {S:Wy->Prop} {L L':List (List Int)} (h:bG n S L) (h':bG n S L') (up:L.Pairwise kle) (R_:L'.Pairwise kle):L=L' :=
 Ik ((q0h h.nd h'.nd).mpr fun l=>(h.mem l).trans (h'.mem l).symm) up R_
theorem bG.perm {n:Nat} {S:Wy->Prop} {L L':List (List Int)} (h:bG n S L) (p:L'.Perm L):bG n S L':=⟨p.nodup_iff.mpr h.nd,fun l=>(p.mem_iff).trans (h.mem l)⟩
noncomputable def iy (m:Int) (ws:List Wy) (ns:List Int):List (List Int):=(cV (dU m ws ns) m.toNat).map (·.2)
theorem vG {m:Int} {ws:List Wy} (W:dJ m ws) {ns:List Int} (hn:Nums ws ns):bG m.toNat (d7 ws ns) (iy m ws ns)/\(iy m ws ns).Pairwise kle:=by
 have M:=Ih W hn
 have G:=R4 W hn
 have e:iy m ws ns=qT (dU m ws ns) m.toNat:=by
  unfold iy
  have:=R7 G
  rw[M.1] at this
  exact this
 rw[e]
 refine⟨R9 G M,?_⟩
 have:=R8 G
 rw[M.1] at this
 exact this
theorem Sa {n:Nat} {S:Wy->Prop} {L:List (List Int)} (h:bG n S L) {l l':List Int} {x:Int} (hl:l∈L) (gZ:l'∈L) (hx:x∈l) (ib:x∈l'):l=l':=by
 obtain⟨a,_,rfl⟩:=(h.mem l).mp hl
 obtain⟨b,_,rfl⟩:=(h.mem l').mp gZ
 exact Cy ((bt.mp hx).2.trans (bt.mp ib).2.symm)
theorem Im {n:Nat} {S:Wy->Prop}:∀ {L L0:List (List Int)},bG n S L0->(∀ l∈L,l∈L0)->L.Nodup->L.flatten.Nodup
 | [],_,_,_,_=>YB
 | l :: L,L0,h,hs,nd=>by
  rw[X9,Xr]
  rw[YJ] at nd
  refine⟨?_,Im h (fun x hx=>hs x (E9 _ hx)) nd.2,fun x hx y hy e => ?_⟩
  ·obtain⟨a,_,rfl⟩:=(h.mem l).mp (hs l E6)
   exact (oX _ _ _).imp fun h=>by omega
  ·subst e
   obtain⟨l',h1,h2⟩:=List.mem_flatten.mp hy
   exact nd.1 (by rw[Sa h (hs l E6) (hs l' (E9 _ h1)) hx h2];exact h1)
theorem Io {l:List Int} (h:l.Pairwise (· < ·)):l.Nodup:=h.imp fun h=>by omega
theorem Sb {xs ys:List Int} (nd:xs.Nodup) (up:ys.Pairwise (· < ·)) (h:∀ x,x∈xs↔x∈ys):sortI xs=ys :=
 (uE ((q0h (Io up) nd).mpr fun x=>(h x).symm) (up.imp fun h=>by omega)).symm
theorem Sd {n:Nat} {S:Wy->Prop} {L:List (List Int)} (h:bG n S L):sortI L.flatten=aN n:=by
 refine Sb (Im h (fun _ hx=>hx) h.nd) (vF n) fun x => ?_
 rw[List.mem_flatten,bh]
 constructor
 ·rintro ⟨l,hl,hx⟩
  obtain⟨a,_,rfl⟩:=(h.mem l).mp hl
  exact (bt.mp hx).1
 ·intro hx
  exact⟨_,(h.mem _).mpr ⟨x,hx,rfl⟩,Cz hx⟩
theorem CA:∀ a b:List Int,cS (a.map D.int) (b.map D.int)=decide (a=b)
 | [],[]=>by simp[cS]
 | [],_ :: _=>by simp[cS]
 | _ :: _,[]=>by simp[cS]
 | x :: a,y :: b=>by
  rw[WH,WH]
  simp only[cS]
  rw[oV,CA a b]
  by_cases e:x=y<;>by_cases e2:a=b<;>simp[e,e2]
theorem Se (a b:List Int):az (a9 a) (a9 b)=decide (a=b):=by
 unfold a9
 simp only[az]
 exact CA a b
theorem vH:∀ us:List Int,cb (us.map D.int)=0
 | []=>by simp[cb]
 | u :: r=>by rw[WH];simp only[cb,dep];rw[vH r];rfl
theorem yf:∀ ls:List (List Int),cb (ls.map a9) <= 1
 | []=>by simp[cb]
 | l :: r=>by
  rw[WH]
  have h1:=yf r
  have h2:=vH l
  simp only[cb,dep,a9]
  omega
theorem Ip (l:List Int) (x:Int):((l.map D.int).any fun e=>az e (.int x))=decide (x∈l):=by
 rw[List.any_map]
 cases q:decide (x∈l) with
 | true=>exact q0C.mpr ⟨x,XD q,jK _⟩
 | false =>
  refine YN.mpr fun y hy => ?_
  show ¬ az (.int y) (.int x)=true
  rw[oV]
  intro z
  have:=XD z
  subst this
  exact YW q hy
theorem Sf (ls:List (List Int)) (l:List Int):((ls.map a9).any fun e=>az e (a9 l))=decide (l∈ls):=by
 rw[List.any_map]
 cases q:decide (l∈ls) with
 | true=>exact q0C.mpr ⟨l,XD q,jK _⟩
 | false =>
  refine YN.mpr fun y hy => ?_
  show ¬ az (a9 y) (a9 l)=true
  rw[Se]
  intro z
  have:=XD z
  subst this
  exact YW q hy
end LJ
namespace L2
open PySem PySem.Spec PyProof.Rows PySem.W
theorem Iq (kf:Nat->Int):∀ k,argBest (fun i j=>decide (kf i < kf j)) k <= k/\∀ j,j <= k->kf (argBest (fun i j=>decide (kf i < kf j)) k) <= kf j
 | 0=>⟨we _,fun j hj=>by
  have e:j=0:=by omega
  subst e
  exact Int.le_refl _⟩
 | k + 1=>by
  obtain⟨h1,h2⟩:=Iq kf k
  show (if decide (kf (k + 1) < kf (argBest _ k))=true then k + 1 else argBest _ k) <= k + 1/\∀ j,j <= k + 1->kf (if decide (kf (k + 1) < kf (argBest _ k))=true then k + 1 else argBest _ k) <= kf j
  by_cases c:kf (k + 1) < kf (argBest (fun i j=>decide (kf i < kf j)) k)
  ·rw[VY (WC c)]
   refine⟨we _,fun j hj => ?_⟩
   by_cases e:j=k + 1
   ·subst e;exact Int.le_refl _
   ·have:=h2 j (by omega);omega
  ·rw[MC (by rw[Wz c];decide)]
   refine⟨by omega,fun j hj => ?_⟩
   by_cases e:j=k + 1
   ·subst e;omega
   ·exact h2 j (by omega)
section
variable {X:Cx}
theorem Sg (hc:X.calm=true):fV X (.builtin "min") (fun xs H Q=>∃ (l:Addr) (ns:List Int),xs=[.ref l]/\bj X.K H l (ns.map V.int)/\ns≠[]/\∀ x∈ns,(∀ y∈ns,x <= y)->Q (.int x) H):=by
 intro pins s σ H xs us Q I r h
 obtain⟨l,ns,rfl,hq,ne,q⟩:=h
 obtain⟨u,rfl,rx⟩:=vals1 r
 cases rx
 obtain⟨ak,r',pl,_⟩:=I.list hq
 have hl:=r'.length
 rw[pU] at hl
 have hL:=pl.isList
 have ll:l < s.heap.objs.size:=by obtain⟨o,e,_⟩:=hL;exact Mz e
 have nI:l≠s.heap.objs.size:=VZ ll
 have n0:0 < ns.length:=List.length_pos_iff.mpr ne
 have sz:ak.toArray.size=ns.length:=by rw[zR];exact hl.symm
 have o5:∀ (i:Nat) (v:Value),ak.toArray[i]? = some v->∃ t,v=Value.int (ns.getD i 0) t:=fun i v hv=>by
  rw[Yo] at hv
  have hi:i < ns.length:=by rw[hl];exact (pV.mp hv).1
  obtain⟨u,e1,t,e2⟩:=r'.get (x:=V.int (ns.getD i 0)) (i:=i) (by rw[E7,mM hi,rG,mM hi];rfl)
  rw[hv] at e1
  cases e1
  exact⟨t,e2⟩
 refine call_min_walk (Yu hL ?_)
 refine⟨s.heap.objs.size,_,_,_,_,_,fun i j=>decide (ns.getD i 0 < ns.getD j 0),rfl,q0a (by rw[YE];exact I.ok.hd hc) s.heap.objs.size l nI _,⟨⟨_,VW _ rfl,rfl,rfl⟩,hL.push _⟩,fun b hb => ?_,by rw[sz];exact n0,CmpOf.ints_lt (fun i=>ns.getD i 0) o5,fun v h' tk hv kp => ?_⟩
 ·simp only[MA,WV,YC] at hb
  rw[X_]
  rcases hb with e | e
  ·rw[e];exact XY _
  ·rw[e];exact Xe ll
 ·obtain⟨t,rfl⟩:=o5 _ v hv
  rw[sz] at hv ⊢
  obtain⟨b1,b2⟩:=Iq (fun i=>ns.getD i 0) (ns.length - 1)
  have gm:∀ {i:Nat},i < ns.length->ns.getD i 0∈ns:=fun {i} h=>by rw[rG,mM h];exact X0 h
  refine⟨.int _,H,I.kept (t':=tk) fun b o e=>kp b o (fun z => ?_) (tP _ e),⟨t,rfl⟩,q _ (gm (by omega)) fun y hy => ?_⟩
  ·have:=Mz e
   rw[Wr.mp z] at this
   exact Ya _ this
  ·obtain⟨j,hj,rfl⟩:=W0.mp hy
   have:=b2 j (by omega)
   rw[show ns.getD j 0=ns[j] by rw[rG,mM hj];rfl] at this
   exact this
end
noncomputable def yg:List D->(D->Prop)->Prop
 | [.lst ds],K=>match intsOf ds with
  | some ns=>ns≠[]/\∀ x∈ns,(∀ y∈ns,x <= y)->K (.int x)
  | none=>False
 | _,_=>False
variable [aJ] {X:Cx}
theorem Sh (hc:X.calm=true):c9 X (.builtin "min") yg:=by
 rintro pins s σ H xs us Q I r ⟨F,ds,K,sub,rd,q,md⟩
 unfold yg at q
 split at q
 ·rename_i es
  split at q
  ·rename_i ns e
   obtain⟨v,rfl,a,vs,rfl,h1,h2⟩:=dg rd
   rw[ot e] at h2
   rw[lA h2] at h1
   exact Sg hc pins s σ H _ us Q I r ⟨a,ns,rfl,bj.of h1,q.1,fun x hx hm=>md _ _ _ (q.2 x hx hm) (fun _ _ e=>e) rfl⟩
  ·exact q.elim
 ·exact q.elim
end L2
namespace LJ
open PySem L2
variable [aJ]
noncomputable def bN (fs:List Int) (x:Int):Nat:=fs.countP fun y=>decide (y=x)
theorem Si (fs:List Int) (x:Int):(fs.map D.int).countP (fun e=>az e (.int x))=bN fs x:=by
 unfold bN
 rw[q0R]
 refine List.countP_congr fun y _ => ?_
 show az (.int y) (.int x)=true↔_
 rw[oV]
theorem Ir:∀ fs:List Int,(fs.map D.int).all cg.eI=true
 | []=>rfl
 | _ :: r=>by rw[WH,Zh,Ir r];rfl
noncomputable def vI:GD:=fun ys ar K=>∃ (fs:List Int) (i j:Nat),ys=[.p (a9 fs),.p (.int i),.p (.int j)]/\ar=[]/\i < fs.length/\j < fs.length/\fs.length <= 12 ∧
 ∀ p q,((p=fs.getD i 0/\q=fs.getD j 0)\/(p=fs.getD j 0/\q=fs.getD i 0))->bN fs p <= bN fs q->K (.p (a9 (f9 p q fs))) []
noncomputable def CB:WS:=(au (aC 3 (B_ (fM (ah (d2 (aa 0) (aa 1) aP) (ah (d2 (aa 0) (aa 2) aP) ag))) [some 0] (gi (ah (ni (aa 1) (ah (aa 0) ag) cg) (ah (d1 (aa 0) m9) ag))))) (aW (fZ (bP (aa 0)) [none,some 3] (bA 0) dE (qc (dT (d2 (aa 0) (d2 (aa 1) (dC (.int 0)) aP) oEq)) (d2 (aa 1) (dC (.int 1)) aP) (aa 0)))))
theorem Sj:∀ ys ar K',ys.length=3->vI ys ar K'->CB (dX ar.length K') ⟨ys.map some ++ List.replicate 1 none,ar.map some⟩:=by
 rintro ys ar K' - ⟨fs,i,j,rfl,rfl,hi,hj,Hu,k⟩
 unfold CB a9
 refine a8 fun N hN => ?_
 have ai:=jf (ns:=fs) (i:=i) hi
 have aj:=jf (ns:=fs) (i:=j) hj
 simp? only [B_,ai,aj,sortBy]
 refine⟨fun d=>match d with
  | .int x=>[(bN fs x:Int),-x]
  | _=>[],fun d hd => ?_,fun out pm pw => ?_⟩
 ·obtain⟨x,rfl⟩:∃ x,d = .int x:=by
   rcases MA.mp hd with e | e
   ·exact⟨_,e⟩
   ·exact⟨_,Wr.mp e⟩
  refine⟨(by intro z;cases z),?_⟩
  simp? only [ni,cg,Ir,Si,cg.eI]
  rfl
 ·obtain⟨ns,rfl,pn⟩:=HM (l:=[fs.getD i 0,fs.getD j 0]) pm
  have hl:=pn.length_eq
  match ns,hl,pn,pw with
  | [p,q],_,pn,pw =>
   have c:(p=fs.getD i 0/\q=fs.getD j 0)\/(p=fs.getD j 0/\q=fs.getD i 0):=by
    rcases MA.mp (pn.mem_iff.mp (E6 (a:=p) (l:=[q]))) with e | e
    ·subst e
     exact .inl ⟨rfl,by simpa using pn.cons_inv.mem_iff.mp (Wr.mpr rfl)⟩
    ·have e:p=fs.getD j 0:=Wr.mp e
     have p2:=pn.trans (List.Perm.swap (fs.getD j 0) (fs.getD i 0) [])
     subst e
     exact .inr ⟨rfl,by simpa using p2.cons_inv.mem_iff.mp (Wr.mpr rfl)⟩
   have le:bN fs p <= bN fs q:=by
    have h:=(Xs.mp pw).1 [(bN fs q:Int),-q] (by simp)
    have h:HT.lexLt [(bN fs q:Int),-q] [(bN fs p:Int),-p]=false:=h
    rw[HT.mH] at h
    split at h
    ·omega
    ·have:=YW h;omega
   subst hN
   have a0:eB [D.int p,D.int q] 0=some (.int p):=f7
   have a1:eB [D.int p,D.int q] 1=some (.int q):=g8
   simp? only []
   refine l6 (fun d=>match d with
    | .int x => .int (if x=p then q else x)
    | _ => .non) (by rw[pU];omega) trivial ?_ ?_
   ·intro d hd acc L ha h
    obtain⟨x,hx,rfl⟩:=Wt.mp hd
    simp? only [a0,a1]
    rw[oV]
    by_cases e:x=p
    ·rw[WC e]
     simp? only []
     refine⟨ha,?_⟩
     dsimp only at h
     rw[VY e] at h
     exact h
    ·rw[Wz e]
     simp? only []
     refine⟨ha,?_⟩
     dsimp only at h
     rw[MC e] at h
     exact h
   ·have e:(fs.map D.int).map (fun d=>match d with
     | .int x => .int (if x=p then q else x)
     | _ => .non)=(f9 p q fs).map D.int:=by
     unfold f9
     rw[WL,WL];rfl
    rw[e]
    exact gQ (k p q c le)
theorem CC {p q:Int} (ne:p≠q):∀ fs:List Int,bN (f9 p q fs) q=bN fs p + bN fs q
 | []=>rfl
 | x :: r=>by
  have ih:=CC ne r
  unfold bN f9 at ih ⊢
  rw[WH,Xf,Xf,Xf,ih]
  by_cases c1:x=p
  ·subst c1;simp[ne];omega
  ·by_cases c2:x=q
   ·subst c2;simp[c1];omega
   ·simp[c1,c2]
theorem Iu {p q r:Int} (h1:r≠p) (h2:r≠q):∀ fs:List Int,bN (f9 p q fs) r=bN fs r
 | []=>rfl
 | x :: t=>by
  have ih:=Iu h1 h2 t
  unfold bN f9 at ih ⊢
  rw[WH,Xf,Xf,ih]
  by_cases c1:x=p
  ·subst c1;simp[Yd h1,Yd h2]
  ·simp[c1]
noncomputable def ki (fs gs tk:List Int):List Int:=(List.range fs.length).map fun h=>if fs.getD h 0=gs.getD h 0 then tk.getD h 0 else tk.getD h 0 + 1
theorem yh {p q:Int} {fs:List Int} {h:Nat} (hl:h < fs.length):(f9 p q fs).getD h 0=if fs.getD h 0=p then q else fs.getD h 0:=by
 unfold f9
 rw[rG,E7,mM hl,rG,mM hl];rfl
theorem Sk {fs gs tk:List Int} {h:Nat} (hl:h < fs.length):(ki fs gs tk).getD h 0=if fs.getD h 0=gs.getD h 0 then tk.getD h 0 else tk.getD h 0 + 1:=by
 unfold ki
 rw[rG,E7,Xg hl];rfl
theorem Iv {p q:Int} (ne:p≠q):∀ (fs tk:List Int),tk.length=fs.length->(ki fs (f9 p q fs) tk).sum=tk.sum + bN fs p
 | [],[],_=>rfl
 | [],_ :: _,h=>by simp at h
 | _ :: _,[],h=>by simp at h
 | x :: fs,t :: tk,h=>by
  have ih:=Iv ne fs tk (by simpa using h)
  have e:ki (x :: fs) (f9 p q (x :: fs)) (t :: tk)=(if x=(if x=p then q else x) then t else t + 1) :: ki fs (f9 p q fs) tk:=by
   unfold ki f9
   rw[Mx,List.range_succ_eq_map,WH,WL,WH]
   rfl
  rw[e,ZU,ih,ZU]
  unfold bN
  rw[Xf]
  by_cases c:x=p
  ·subst c
   rw[VY rfl,MC ne]
   simp;omega
  ·rw[MC c,VY rfl]
   simp[c];omega
theorem CD {n:Nat} {fs:List Int} {S:Wy->Prop} (M:aL n fs S) {h:Nat} (hh:h < n):bN fs (fs.getD h 0)=(cls n S h).length:=by
 have e:cls n S h=(aN n).filter fun x=>decide (fs.getD x.toNat 0=fs.getD h 0):=by
  refine sD (oX _ _ _) ((vF n).filter _) fun x => ?_
  rw[bt,Xm,bh,W5]
  constructor
  ·rintro ⟨hx,c⟩
   obtain⟨k,rfl⟩:∃ k:Nat,x=k:=⟨x.toNat,by omega⟩
   exact⟨hx,by rw[MB];exact ((M.2 h k hh (by omega)).mpr c).symm⟩
  ·rintro ⟨hx,c⟩
   obtain⟨k,rfl⟩:∃ k:Nat,x=k:=⟨x.toNat,by omega⟩
   rw[MB] at c
   exact⟨hx,(M.2 h k hh (by omega)).mp c.symm⟩
 rw[e,<-List.countP_eq_length_filter]
 have hf:fs=(aN n).map fun x=>fs.getD x.toNat 0:=by
  refine List.ext_getElem (by rw[pU,qS,M.1]) fun i h1 h2 => ?_
  rw[Xw]
  unfold aN
  rw[Xw,List.getElem_range,MB,rG,mM h1];rfl
 unfold bN
 generalize fs.getD h 0=z
 conv=>lhs;rw[hf]
 rw[q0R];rfl
noncomputable def oY (n:Nat) (ws:List Wy) (ns:List Int) (k:Nat):Int:=min ((cls n (d7 ws (ns.take k)) (aD ws (ns.getD k 0)).1).length:Int) ((cls n (d7 ws (ns.take k)) (aD ws (ns.getD k 0)).2.1).length:Int)
noncomputable def Joins (ws:List Wy) (ns:List Int):Prop:=∀ k,k < ns.length->¬ aG (d7 ws (ns.take k)) (aD ws (ns.getD k 0)).1 (aD ws (ns.getD k 0)).2.1
structure cJ (m:Int) (ws:List Wy) (ns:List Int) (k:Nat) (fs tk:List Int):Prop where
 mo:aL m.toNat fs (d7 ws (ns.take k))
 own:∀ h,h < m.toNat->(0 <= fs.getD h 0/\fs.getD h 0 < m)/\fs.getD (fs.getD h 0).toNat 0=fs.getD h 0
 tl:tk.length=m.toNat
 pw:∀ h,h < m.toNat->(0 <= tk.getD h 0/\tk.getD h 0 <= k)/\2 ^ (tk.getD h 0).toNat <= bN fs (fs.getD h 0)
 sum:tk.sum=((List.range k).map (oY m.toNat ws ns)).sum
theorem cJ.step {m:Int} {ws:List Wy} (W:dJ m ws) {ns:List Int} (hn:Nums ws ns) (J:Joins ws ns) {k:Nat} (hk:k < ns.length) {fs tk:List Int} (M:cJ m ws ns k fs tk) {i j:Nat} (e1:(aD ws (ns.getD k 0)).1=i) (e2:(aD ws (ns.getD k 0)).2.1=j) (hi:i < m.toNat) (hj:j < m.toNat) :
  fs.getD i 0≠fs.getD j 0/\∀ p q,((p=fs.getD i 0/\q=fs.getD j 0)\/(p=fs.getD j 0/\q=fs.getD i 0))->bN fs p <= bN fs q->cJ m ws ns (k + 1) (f9 p q fs) (ki fs (f9 p q fs) tk):=by
 have hl:=M.mo.1
 have ne:fs.getD i 0≠fs.getD j 0:=fun e=>J k hk (by rw[e1,e2];exact (M.mo.2 i j hi hj).mp e)
 refine⟨ne,fun p q pq le => ?_⟩
 have vJ:p≠q:=by
  rcases pq with⟨rfl,rfl⟩ | ⟨rfl,rfl⟩
  ·exact ne
  ·exact Yd ne
 have et:ns.take (k + 1)=ns.take k ++ [ns.getD k 0]:=by
  rw[Yb,mM hk,rG,mM hk];rfl
 have ck:bN fs p=(oY m.toNat ws ns k).toNat/\0 <= oY m.toNat ws ns k:=by
  unfold oY
  rw[e1,e2,<-CD M.mo hi,<-CD M.mo hj]
  rcases pq with⟨rfl,rfl⟩ | ⟨rfl,rfl⟩<;>omega
 refine⟨?_,fun h hh => ?_,by unfold ki;rw[pU,Xl,hl],fun h hh => ?_,?_⟩
 ·refine aL.join (w:=aD ws (ns.getD k 0)) M.mo hi hj e1 e2 (fun v => ?_) pq
  rw[et]
  unfold d7
  constructor
  ·rintro ⟨x,hx,rfl⟩
   rcases Xa.mp hx with z | z
   ·exact .inl ⟨x,z,rfl⟩
   ·rw[Wr.mp z];exact .inr rfl
  ·rintro (⟨x,hx,rfl⟩ | rfl)
   ·exact⟨x,Xk _ hx,rfl⟩
   ·exact⟨_,Wv _ (Wr.mpr rfl),rfl⟩
 ·have qo:(0 <= q/\q < m)/\fs.getD q.toNat 0=q:=by
   rcases pq with⟨rfl,rfl⟩ | ⟨rfl,rfl⟩
   ·exact M.own j hj
   ·exact M.own i hi
  have ho:=M.own h hh
  rw[yh (by omega)]
  by_cases c:fs.getD h 0=p
  ·rw[VY c]
   refine⟨qo.1,?_⟩
   rw[yh (by omega),qo.2,MC (Yd vJ)]
  ·rw[MC c]
   refine⟨ho.1,?_⟩
   rw[yh (by omega),ho.2,MC c]
 ·have hp:=M.pw h hh
  rw[Sk (by omega),yh (by omega)]
  by_cases c:fs.getD h 0=p
  ·rw[VY c,c,MC vJ,CC vJ]
   rw[c] at hp
   refine⟨by omega,?_⟩
   have:(tk.getD h 0 + 1).toNat=(tk.getD h 0).toNat + 1:=by omega
   rw[this,Nat.pow_succ]
   omega
  ·rw[MC c,VY rfl]
   refine⟨by omega,?_⟩
   by_cases d:fs.getD h 0=q
   ·rw[d,CC vJ]
    rw[d] at hp
    omega
   ·rw[Iu c d]
    exact hp.2
 ·rw[Iv vJ fs tk (by rw[M.tl,hl]),M.sum,Y0,WK,q0X]
  simp only[WH,Ye,ZU,List.sum_nil]
  omega
noncomputable def Indep (A:Wy->Prop):Prop:=∀ a,A a->¬ aG (fun v=>A v/\v≠a) a.1 a.2.1
omit [aJ] in
theorem Indep.add {A B:Wy->Prop} {w:Wy} (h:Indep A) (k:∀ v,B v↔A v\/v=w) (n:¬ aG A w.1 w.2.1):Indep B:=by
 intro a ha c
 rcases (k a).mp ha with ha | rfl
 ·have aw:a≠w:=fun e=>n (by rw[<-e];exact .one ha)
  have c':aG (fun v=>(A v/\v≠a)\/v=w) a.1 a.2.1:=c.mono fun v hv=>by
   rcases (k v).mp hv.1 with z | z
   ·exact .inl ⟨z,hv.2⟩
   ·exact .inr z
  have m:∀ {x y:Int},aG (fun v=>A v/\v≠a) x y->aG A x y:=fun z=>z.mono fun v hv=>hv.1
  rcases (aG.add fun v=>Iff.rfl).mp c' with z | ⟨z1,z2⟩ | ⟨z1,z2⟩
  ·exact h a ha z
  ·exact n (((m z1).symm.trans (.one ha)).trans (m z2).symm)
  ·exact n (((m z2).trans (aG.one ha).symm).trans (m z1))
 ·exact n (c.mono fun v hv=>by
   rcases (k v).mp hv.1 with z | z
   ·exact z
   ·exact absurd z hv.2)
theorem Iw {m:Int} {ws:List Wy} (W:dJ m ws) {u v:Wy} (hu:u∈ws) (hv:v∈ws) (ne:u≠v):oW u v\/oW v u:=by
 by_cases c:oW u v
 ·exact .inl c
 ·refine .inr ?_
  have c:kle (kh v) (kh u):=by
   unfold kle
   cases q:HT.lexLt (kh u) (kh v) with
   | false=>rfl
   | true=>exact absurd q c
  refine Ia c fun e=>ne ?_
  obtain⟨a1,a2,a3⟩:=u
  obtain⟨b1,b2,b3⟩:=v
  unfold kh at e
  simp only[List.cons.injEq,and_true] at e
  obtain⟨e1,e2,e3⟩:=e
  subst e1 e2 e3
  rfl
theorem Iy {m:Int} {ws:List Wy} (W:dJ m ws):Indep (kL ws):=by
 have key:∀ k,Indep fun u=>kL ws u/\lJ ws u < k:=by
  intro k
  induction k with
  | zero=>intro a ha;omega
  | succ k ih =>
   by_cases e:∃ w,kL ws w/\lJ ws w=k
   ·obtain⟨w,tw,cw⟩:=e
    refine ih.add (w:=w) (fun v => ?_) fun c => ?_
    ·constructor
     ·rintro ⟨tv,cv⟩
      by_cases z:v=w
      ·exact .inr z
      ·refine .inl ⟨tv,?_⟩
       rcases Iw W tv.1 tw.1 z with y | y
       ·have:=yd tv.1 y;omega
       ·have:=yd tw.1 y;omega
     ·rintro (⟨tv,cv⟩ | rfl)
      ·exact⟨tv,by omega⟩
      ·exact⟨tw,by omega⟩
    ·refine tw.2 (c.mono fun v hv=>⟨hv.1.1,?_⟩)
     by_cases z:v=w
     ·subst z;omega
     ·rcases Iw W hv.1.1 tw.1 z with y | y
      ·exact y
      ·have:=yd tw.1 y;omega
   ·have eq:(fun u=>kL ws u/\lJ ws u < k + 1)=fun u=>kL ws u/\lJ ws u < k:=funext fun u=>propext ⟨fun ⟨a,b⟩=>⟨a,by
     by_cases z:lJ ws u=k
     ·exact absurd ⟨u,a,z⟩ e
     ·omega⟩,fun ⟨a,b⟩=>⟨a,by omega⟩⟩
    rw[eq];exact ih
 have eq:(fun u=>kL ws u/\lJ ws u < ws.length + 1)=kL ws:=funext fun u=>propext ⟨fun h=>h.1,fun h=>⟨h,by
  have:=List.countP_le_length (p:=fun v=>HT.lexLt (kh v) (kh u)) (l:=ws)
  unfold lJ;omega⟩⟩
 have:=key (ws.length + 1)
 rw[eq] at this
 exact this
theorem Sl {m:Int} {ws:List Wy} (W:dJ m ws) {a b:Int} (ha:0 <= a/\a < (ws.length:Int)) (hb:0 <= b/\b < (ws.length:Int)) (e:aD ws a=aD ws b):a=b:=by
 have nd:=R0 W
 unfold aD at e
 have h1:a.toNat < ws.length:=by omega
 have h2:b.toNat < ws.length:=by omega
 rw[rG,rG,mM h1,mM h2] at e
 have:=(Yq (h₀ := h1) (h₁ := h2) nd).mp (by simpa using e)
 omega
theorem Iz {m:Int} {ws:List Wy} (W:dJ m ws) {A:Wy->Prop} (h:Indep A) {ns:List Int} (hn:Nums ws ns) (nd:ns.Nodup) (hA:∀ n∈ns,A (aD ws n)):Joins ws ns:=by
 intro k hk c
 have ek:ns.getD k 0=ns[k]:=by rw[rG,mM hk];rfl
 rw[ek] at c
 have hm:=X0 hk
 refine h _ (hA _ hm) (c.mono fun v hv => ?_)
 obtain⟨x,hx,rfl⟩:=hv
 have ib:=Y6 hx
 refine⟨hA x ib,fun e => ?_⟩
 have e2:=Sl W (hn x ib) (hn _ hm) e
 obtain⟨i,hi,ei⟩:=W0.mp hx
 rw[WQ] at hi
 rw[Zv] at ei
 have:=(Yq (h₀ := by omega) (h₁ := hk) nd).mp (ei.trans e2)
 omega
theorem Joins.snoc {ws:List Wy} {ns:List Int} {n:Int} (J:Joins ws ns) (c:¬ aG (d7 ws ns) (aD ws n).1 (aD ws n).2.1):Joins ws (ns ++ [n]):=by
 intro k hk
 rw[My,W6] at hk
 by_cases e:k < ns.length
 ·rw[List.take_append_of_le_length (by omega)]
  have:(ns ++ [n]).getD k 0=ns.getD k 0:=by rw[rG,rG,Wu e]
  rw[this]
  exact J k e
 ·have e:k=ns.length:=by omega
  subst e
  have:(ns ++ [n]).getD ns.length 0=n:=by rw[rG,Ww (we _),XB];rfl
  rw[this,List.take_left]
  exact c
theorem Sm (n:Nat):(List.replicate n [D.int 0]).flatten=(List.replicate n (0:Int)).map D.int:=by
 induction n with
 | zero=>rfl
 | succ n ih=>rw[Xv,Xv,X9,WH,ih];rfl
theorem Sn {m:Int} {ws:List Wy} (W:dJ m ws) (ns:List Int):cJ m ws ns 0 (aN m.toNat) (List.replicate m.toNat 0):=by
 have m1:=W.m1
 have e:d7 ws (ns.take 0)=fun _=>False:=funext fun v=>propext (by unfold d7;simp)
 have r0:∀ h,h < m.toNat->(List.replicate m.toNat (0:Int)).getD h 0=0:=fun h hh=>by
  rw[rG,YT,VY hh];rfl
 refine⟨by rw[e];exact aL.start _,fun h hh => ?_,by simp,fun h hh => ?_,?_⟩
 ·rw[vE hh]
  refine⟨by omega,?_⟩
  rw[MB,vE hh]
 ·rw[r0 h hh]
  refine⟨by omega,?_⟩
  show 1 <= bN _ _
  unfold bN
  refine List.countP_pos_iff.mpr ⟨(h:Int),bh.mpr (by omega),?_⟩
  rw[vE hh];simp
 ·simp
noncomputable def vK:GD:=fun ys ar K=>∃ (m:Int) (ws:List (Int × Int × Int)) (ns:List Int),dJ m ws/\Nums ws ns/\ns.Nodup/\ns.length <= 900/\Joins ws ns/\ys=[.p (aR m ws),.p (a9 ns)]/\ar=[]/\∀ fs tk,cJ m ws ns ns.length fs tk->K (.p (.tup [a9 fs,a9 tk])) []
noncomputable def CF:WS:=(au (j6 (av 2 qQ (ah (aa 0) (ah (aa 1) ag)))) (au (aC 2 (sg (ah (d2 (aa 0) (dC (.int 0)) aP) ag))) (au (aC 3 (d2 (fM (ah (dC (.int 0)) ag)) (d2 (aa 0) (dC (.int 0)) aP) fR)) (au (bS (ju (ah (aa 1) ag)) (ly 2 (ig (bA 4) (ig (bA 5) kA))) (au (aC 6 (d2 (d2 (aa 0) (dC (.int 1)) aP) (aa 5) aP)) (au (bE (dT (d2 (d2 (aa 2) (d2 (aa 6) (dC (.int 0)) aP) aP) (d2 (aa 2) (d2 (aa 6) (dC (.int 1)) aP) aP) oEq)) rQ ft) (au (aC 7 (av 3 vI (ah (aa 2) (ah (d2 (aa 6) (dC (.int 0)) aP) (ah (d2 (aa 6) (dC (.int 1)) aP) ag))))) (au (aC 3 (fZ (ju (ah (aa 7) ag)) [none,none,some 3,some 2] (ly 2 (ig (bA 0) (ig (bA 1) kA))) dE (qc (dT (d2 (d2 (aa 3) (aa 0) aP) (aa 1) oEq)) (d2 (aa 2) (aa 0) aP) (d2 (d2 (aa 2) (aa 0) aP) (dC (.int 1)) e7)))) (aC 2 (aa 7))))))) (aW (gi (ah (aa 2) (ah (aa 3) ag))))))))
theorem So:∀ ys ar K',ys.length=2->vK ys ar K'->CF (dX ar.length K') ⟨ys.map some ++ List.replicate 6 none,ar.map some⟩:=by
 rintro ys ar K' - ⟨m,ws,ns,W,hn,nd,hl,J,rfl,rfl,k⟩
 have m1:=W.m1
 have gX:=W.gX
 unfold CF
 refine a8 fun N hN => ?_
 simp? only []
 refine⟨m,ws,ns,W,hn,nd,hl,rfl,rfl,?_⟩
 show N _
 subst hN
 refine a8 fun N hN => ?_
 simp? only [f7,aR]
 refine⟨⟨by omega,by omega⟩,?_⟩
 rw[lB]
 subst hN
 refine a8 fun N hN => ?_
 simp? only [f7]
 refine⟨⟨by omega,by omega,by omega⟩,?_⟩
 rw[Sm]
 subst hN
 refine a8 fun N hN => ?_
 have il:∀ (j:Nat) (d:D),(j9 0 (ns.map D.int))[j]? = some d->∃ n:Int,ns[j]? = some n/\d=D.tup [.int (j:Int),.int n]:=fun j d hd=>by
  obtain⟨e,h1,h2⟩:=ql hd
  rw[E7] at h1
  obtain⟨n,h3,rfl⟩:=VV.mp h1
  exact⟨n,h3,by rw[h2,Xi]⟩
 rw[show a9 ns = .lst (ns.map D.int) from rfl]
 simp only[bS,ju,ah,aa,ag,WY,WR,mY]
 refine jy (fun i δ => ∃ fs tk,cJ m ws ns i fs tk /\ δ = ⟨[some (.p (.tup [.int m,.tup (ws.map bM)])),some (.p (.lst (ns.map D.int))),some (.p (.lst (fs.map D.int))),some (.p (.lst (tk.map D.int))),none,none,none,none],[]⟩) ⟨_,_,Sn W ns,rfl⟩ ?_ ?_
 ·rintro j d δ L hj ⟨fs,tk,M,rfl⟩ hL
  obtain⟨n,jM,rfl⟩:=il j d hj
  have xx:=(pV.mp jM).1
  have en:ns.getD j 0=n:=by rw[rG,jM];rfl
  obtain⟨n0,n1⟩:=hn n (WN jM)
  obtain⟨y,ey,hy,ea,i,k2,e1,e2,h1,h2,_⟩:=oH W n0 n1
  have fl:=M.mo.1
  obtain⟨ne,st⟩:=M.step W hn J xx (i:=i) (j:=k2) (by rw[en];unfold aD;rw[ey];exact e1) (by rw[en];unfold aD;rw[ey];exact e2) h1 h2
  have ai:=jf (ns:=fs) (i:=i) (by omega)
  have aj:=jf (ns:=fs) (i:=k2) (by omega)
  refine⟨trivial,?_⟩
  simp only[ly,ig,kA,bA,dM,Xb,Xc,Mx,Ym]
  refine⟨trivial,?_⟩
  refine a8 fun N2 cG => ?_
  simp? only [g8,ea]
  subst cG
  refine a8 fun N2 cG => ?_
  simp? only [bM,f7,g8,e1,e2,ai,aj]
  rw[oV,Wz ne]
  simp? only []
  subst cG
  refine a8 fun N2 cG => ?_
  simp? only [f7,g8,e1,e2]
  refine⟨fs,i,k2,rfl,rfl,by omega,by omega,by omega,fun p q pq le => ?_⟩
  have M2:=st p q pq le
  show N2 _
  subst cG
  have gl:(f9 p q fs).length=fs.length:=by unfold f9;rw[pU]
  have mj:∀ (h:Nat),h < fs.length->eB (fs.map D.int) (h:Int)=some (.int (fs.getD h 0)):=fun h hh=>jf hh
  have tj:∀ (h:Nat),h < fs.length->eB (tk.map D.int) (h:Int)=some (.int (tk.getD h 0)):=fun h hh=>jf (by rw[M.tl,<-fl];exact hh)
  have gd:∀ (h:Nat) (x:Int),(f9 p q fs)[h]? = some x->(f9 p q fs).getD h 0=x:=fun h x e=>by rw[rG,e];rfl
  generalize f9 p q fs=gs at M2 gl gd
  refine a8 fun N2 cG => ?_
  rw[show a9 gs = .lst (gs.map D.int) from rfl]
  simp? only []
  refine l6 (fun d=>match d with
   | .tup [.int h,.int x] => .int (if fs.getD h.toNat 0=x then tk.getD h.toNat 0 else tk.getD h.toNat 0 + 1)
   | _ => .non) (by rw[oq,pU];omega) trivial ?_ ?_
  ·intro d hd acc L' ha h
   obtain⟨z,hz⟩:=V0.mp hd
   obtain⟨e,z1,z2⟩:=ql hz
   rw[E7] at z1
   obtain⟨x,z3,rfl⟩:=VV.mp z1
   rw[Xi] at z2
   subst z2
   have zl:z < fs.length:=by rw[<-gl];exact (pV.mp z3).1
   dsimp only at h
   rw[MB] at h
   simp? only [mj z zl,tj z zl]
   rw[oV]
   by_cases c:fs.getD z 0=x
   ·rw[WC c]
    rw[VY c] at h
    simp? only []
    exact⟨ha,h⟩
   ·rw[Wz c]
    rw[MC c] at h
    simp? only []
    exact⟨ha,h⟩
  have et:(j9 0 (gs.map D.int)).map (fun d=>match d with
   | .tup [.int h,.int x] => .int (if fs.getD h.toNat 0=x then tk.getD h.toNat 0 else tk.getD h.toNat 0 + 1)
   | _ => .non)=(ki fs gs tk).map D.int:=by
   refine Yt fun h => ?_
   rw[E7,E7]
   by_cases hh:h < fs.length
   ·have nR:h < (j9 0 (gs.map D.int)).length:=by rw[oq,pU,gl];exact hh
    obtain⟨e,z1,z2⟩:=ql (mM nR)
    rw[E7] at z1
    obtain⟨x,z3,rfl⟩:=VV.mp z1
    rw[Xi] at z2
    rw[mM nR,z2]
    have:(ki fs gs tk)[h]? = some (if fs.getD h 0=gs.getD h 0 then tk.getD h 0 else tk.getD h 0 + 1):=by
     unfold ki
     rw[E7,Xg hh];rfl
    rw[this,gd h x z3]
    simp only[Zk,MB]
   ·rw[Xt (by rw[oq,pU,gl];omega),Xt (by unfold ki;rw[pU,Xl];omega)]
    rfl
  rw[et]
  subst cG
  simp? only []
  exact hL _ ⟨gs,ki fs gs tk,M2,rfl⟩
 ·rintro δ ⟨fs,tk,M,rfl⟩
  refine⟨trivial,?_⟩
  rw[oq,pU] at M
  subst hN
  dsimp only
  simp? only []
  exact gQ (k fs tk M)
theorem Sq {m:Int} {ws:List Wy} (W:dJ m ws) {ns:List Int} (hn:Nums ws ns) {n:Int} (h0:0 <= n) (h1:n < (ws.length:Int)) (c:aG (d7 ws ns) (aD ws n).1 (aD ws n).2.1):dU m ws (ns ++ [n])=dU m ws ns:=by
 obtain⟨i,k,e,e1,e2,l1,l2⟩:=Cw W h0 h1
 have M:=Ih W hn
 rw[e1,e2] at c
 have eq:=(M.2 i k l1 l2).mpr c
 have st:∀ fs:List Int,fs.getD i 0=fs.getD k 0->fw fs i k=fs:=fun fs e=>by
  unfold fw
  rw[e]
  refine (W8 fun x _ => ?_).trans (YU _)
  show (if x=max _ _ then min _ _ else x)=x
  split<;>omega
 have e3:dU m ws (ns ++ [n])=fw (dU m ws ns) i k:=by
  unfold dU gn
  rw[Y5]
  show fw _ (bQ ws n).1 (bQ ws n).2=_
  rw[e]
 rw[e3,st _ eq]
noncomputable def vL:GD:=fun ys ar K=>∃ (n m:Int) (ws:List (Int × Int × Int)) (o:OV),dJ m ws/\ys=[.o 0,.p (aR m ws)]/\ar=[o]/\a7 n o/\n + 100 < 2 ^ 30 ∧
 ∀ us o',Nums ws us->us.Nodup->us.length <= 30->Joins ws us->a7 (n + 31) o'->K (.n (us.map D.int)) [o']
noncomputable def CG:WS:=(au (aC 2 (mQ ag)) (au (bS (bP (av 3 vh (ah (aa 0) (ah (aa 1) (ah (dC (.int 30)) ag))))) (bA 3) (bE (dT (d2 (av 2 sy (ah (aa 1) (ah (aa 2) ag))) (av 2 sy (ah (aa 1) (ah (d2 (aa 2) (fM (ah (aa 3) ag)) e7) ag))) l5)) (j6 (iX (aa 2) (ah (aa 3) ag))) ft)) (aW (aa 2))))
theorem Sr:∀ ys ar K',ys.length=2->vL ys ar K'->CG (dX ar.length K') ⟨ys.map some ++ List.replicate 2 none,ar.map some⟩:=by
 rintro ys ar K' - ⟨n,m,ws,o,W,rfl,rfl,P,hn,fin⟩
 have xJ:=W.kj
 unfold CG
 refine a8 fun N hN => ?_
 simp? only []
 subst hN
 refine a8 fun N hN=>qE fun g' b' K2 hg d8 hK => ?_
 simp? only []
 refine⟨n,m,30,ws,o,W,rfl,rfl,P,hn,by omega,by omega,fun us o1 nu nd ul _ P1 => ?_⟩
 simp? only []
 subst hg d8 hK
 refine jy (fun i δ => ∃ fs:List Int,fs.Sublist (us.take i)/\Joins ws fs /\ δ = ⟨[some (.o 0),some (.p (aR m ws)),some (.o 1),none],[some o1,some (.lst (fs.map D.int))]⟩) ⟨[],List.nil_sublist _,fun k hk=>by simp at hk,rfl⟩ ?_ ?_
 ·rintro j d δ L hj ⟨fs,sub,J,rfl⟩ hL
  rw[E7] at hj
  obtain⟨x,hx,rfl⟩:=VV.mp hj
  have xx:=(pV.mp hx).1
  have et:us.take (j + 1)=us.take j ++ [x]:=by rw[Yb,hx];rfl
  obtain⟨x0,x1⟩:=nu x (WN hx)
  have fl:=sub.length_le
  rw[WQ] at fl
  have fu:Nums ws fs:=fun z hz=>nu z (Y6 (sub.subset hz))
  have Ss:Nums ws (fs ++ [x]):=fun z hz=>by
   rcases Xa.mp hz with h | h
   ·exact fu z h
   ·rw[Wr.mp h];exact⟨x0,x1⟩
  refine⟨trivial,?_⟩
  simp only[bA,Xb,Xc]
  refine uX fun A1 B1 hA hB => ?_
  simp? only []
  refine⟨m,ws,fs,W,fu,.inr ⟨rfl,rfl,?_⟩⟩
  simp? only []
  refine⟨by omega,?_⟩
  rw[show fs.map D.int ++ [D.int x]=(fs ++ [x]).map D.int by rw[WK];rfl]
  refine⟨m,ws,fs ++ [x],W,Ss,.inl ⟨rfl,rfl,?_⟩⟩
  simp only[j8,fQ,dM,l5,mS]
  refine⟨by have:=yf (oK (dU m ws fs));unfold kK;simp only[dep];omega,?_⟩
  cases q:az (kK (oK (dU m ws fs))) (kK (oK (dU m ws (fs ++ [x])))) with
  | true =>
   simp? only []
   subst hB
   simp? only []
   exact hL _ ⟨fs,by rw[et];exact sub.trans (q0v _ _),J,rfl⟩
  | false =>
   simp? only []
   subst hA
   have nc:¬ aG (d7 ws fs) (aD ws x).1 (aD ws x).2.1:=fun c=>by
    rw[Sq W fu x0 x1 c,jK] at q;cases q
   simp? only []
   refine⟨by omega,hL _ ⟨fs ++ [x],by rw[et];exact sub.append (q0r _),J.snoc nc,?_⟩⟩
   rw[WK];rfl
 ·rintro δ ⟨fs,sub,J,rfl⟩
  refine⟨trivial,?_⟩
  rw[pU,Y_] at sub
  subst hN
  have fl:=sub.length_le
  simp? only []
  exact⟨[o1],rfl,rfl,.inl (fin fs o1 (fun z hz=>nu z (sub.subset hz)) (sub.nodup nd) (by omega) J P1)⟩
theorem IA (L:List (List Int)):dep (kK L) <= 60:=by
 have:=yf L
 unfold kK
 simp only[dep]
 omega
theorem Su {m:Int} {ws:List Wy} (W:dJ m ws) {ns:List Int} (hn:Nums ws ns):(iy m ws ns).length <= 12/\(iy m ws ns).flatten.length <= 12:=by
 have gX:=W.gX
 obtain⟨h,_⟩:=vG W hn
 have e:=Sd h
 have fl:(iy m ws ns).flatten.length=m.toNat:=by
  have:=Bc (iy m ws ns).flatten
  rw[e,qS] at this
  exact this.symm
 refine⟨?_,by omega⟩
 have key:∀ L:List (List Int),(∀ l∈L,l≠[])->L.length <= L.flatten.length:=by
  intro L
  induction L with
  | nil=>intro _;simp
  | cons l r ih =>
   intro h
   have h1:=ih fun x hx=>h x (E9 _ hx)
   have h2:l≠[]:=h l E6
   have h3:0 < l.length:=List.length_pos_iff.mpr h2
   rw[X9,My,Mx];omega
 have:=key (iy m ws ns) fun l hl=>by
  obtain⟨a,ha,rfl⟩:=(h.mem l).mp hl
  exact List.ne_nil_of_mem (Cz ha)
 omega
end LJ
namespace PySem
open Sem (wp)
section
variable {prog:Program} {w:World} {A:Around} {E:Value->Shared->Prop} {s:Shared} {z TI TO i j:Addr} {fp gp:List Addr} {n m k:Nat} {P P':Nat->Value->Prop} {St Wq:Nat->Heap->Prop} {a b:Value}
end
section
variable {prog:Program} {w:World} {A:Around} {E:Value->Shared->Prop} {s:Shared}
end
end PySem
namespace L2
open PySem PySem.Spec PyProof.Rows
section
variable {X:Cx} {pins:List (Addr × Obj)} {σ : St} {H:Hp} {s:Shared}
end
section
variable {X:Cx} {elts:List Expr} {x1:Nat} {tp:Pos}
end
section
variable [aJ] {X:Cx} {a b:Expr} {fa:WA}
end
end L2
namespace LJ
open PySem L2
variable [aJ]
theorem Sv {ds:List D} {t:Nat} (h:t <= ds.length):cutD ds none (some (t:Int))=ds.take t:=by
 unfold cutD
 rw[HT.EE,HT.wa ds.length ds.length t,Nat.min_eq_left h,Zu,q0H]
theorem Sw {n:Nat} {S:Wy->Prop} {L:List (List Int)} (h:bG n S L) {e:Int} (he:0 <= e/\e < n):L.filter (fun l=>decide (e∈l))=[cls n S e]:=by
 have nd:(L.filter (fun l=>decide (e∈l))).Nodup:=h.nd.filter _
 have mem:∀ l,l∈L.filter (fun l=>decide (e∈l))↔l=cls n S e:=fun l=>by
  rw[Xm,W5]
  constructor
  ·rintro ⟨h1,h2⟩
   obtain⟨a,ha,rfl⟩:=(h.mem l).mp h1
   exact Cy (bt.mp h2).2
  ·rintro rfl
   exact⟨(h.mem _).mpr ⟨e,he,rfl⟩,Cz he⟩
 match q:L.filter (fun l=>decide (e∈l)),nd,mem with
 | [],_,mem=>exact absurd ((mem _).mpr rfl) (by simp)
 | [l],_,mem=>rw[(mem l).mp E6]
 | l :: l' :: r,nd,mem =>
  have e1:=(mem l).mp E6
  have e2:=(mem l').mp (E9 _ E6)
  rw[YJ] at nd
  exact absurd (by rw[e1,e2];exact E6) nd.1
theorem Sx {n:Nat} {fs:List Int} {S:Wy->Prop} (M:aL n fs S) {h:Nat} (hh:h < n):(aN n).filter (fun x=>decide (fs.getD x.toNat 0=fs.getD h 0))=cls n S h:=by
 refine sD ((vF n).filter _) (oX _ _ _) fun x => ?_
 rw[bt,Xm,bh,W5]
 constructor
 ·rintro ⟨hx,c⟩
  obtain⟨k,rfl⟩:∃ k:Nat,x=k:=⟨x.toNat,by omega⟩
  rw[MB] at c
  exact⟨hx,(M.2 h k hh (by omega)).mp c.symm⟩
 ·rintro ⟨hx,c⟩
  obtain⟨k,rfl⟩:∃ k:Nat,x=k:=⟨x.toNat,by omega⟩
  exact⟨hx,by rw[MB];exact ((M.2 h k hh (by omega)).mpr c).symm⟩
noncomputable def vM:GD:=fun ys ar K=>∃ (m:Int) (ws:List (Int × Int × Int)) (ns:List Int),dJ m ws/\Nums ws ns/\ns.Nodup/\ns.length <= 30/\Joins ws ns/\ys=[.p (aR m ws),.p (a9 ns)]/\ar=[]/\K (.p (.bl true)) []
noncomputable def CH:WS:=(au (j7 (av 2 vK (ah (aa 0) (ah (dN (ah (aa 1) ag) r_) ag))) (ly 2 (ig (bA 2) (ig (bA 3) kA)))) (au (aC 4 (mQ ag)) (au (bS (iB (ah (d2 (aa 0) (dC (.int 0)) aP) ag)) (bA 5) (au (aC 6 (fZ (iB (ah (d2 (aa 0) (dC (.int 0)) aP) ag)) [none,some 2,some 5] (bA 0) (dT (d2 (d2 (aa 1) (aa 0) aP) (d2 (aa 1) (aa 2) aP) oEq)) (aa 0))) (au (bE (dT (d2 (aa 6) (aa 4) (oy true))) (j6 (iX (aa 4) (ah (aa 6) ag))) ft) (au (bE (qb (dT (d2 (d2 (aa 2) (aa 5) aP) (aa 6) (oy true))) (dT (d2 (d2 (aa 2) (d2 (aa 2) (aa 5) aP) aP) (d2 (aa 2) (aa 5) aP) l5))) (aW (dC (.bl false))) ft) (au (aC 7 (dC (.int 1))) (au (bS (iB (ah (d2 (aa 3) (aa 5) aP) ag)) (bA 8) (aC 7 (d2 (dC (.int 2)) (aa 7) fR))) (bE (qb (dT (d2 (aa 7) (dN (ah (aa 6) ag) cf) (oI fun i j => .bl (decide (j < i))))) (j5 (dT (d2 (d2 (aa 3) (d2 (aa 2) (aa 5) aP) aP) (dC (.int 0)) (oI fun i j => .bl (decide (j < i))))) (dT (d2 (aa 6) (fM (ah (d2 (aa 2) (aa 5) aP) ag)) oEq)))) (aW (dC (.bl false))) ft))))))) (au (bE (dT (d2 (dN (ah (aa 4) ag) xX) (av 2 oT (ah (aa 0) (ah (dN (ah (aa 1) ag) r_) ag))) l5)) (aW (dC (.bl false))) ft) (au (aC 9 (dC (.int 0))) (au (bS (iB (ah (dN (ah (aa 1) ag) cf) ag)) (bA 10) (au (aC 11 (mQ ag)) (au (bS (bP (iY (d2 (d2 (aa 0) (dC (.int 1)) aP) (d2 (aa 1) (aa 10) aP) aP) iW (oz (dC (.int 2))))) (bA 12) (j6 (iX (aa 11) (ah (d2 (fZ (bP (av 2 oT (ah (aa 0) (ah (iY (aa 1) iW (oz (aa 10))) ag)))) [none,some 12] (bA 0) (dT (d2 (aa 1) (aa 0) (oy false))) (dN (ah (aa 0) ag) cf)) (dC (.int 0)) aP) ag)))) (aC 9 (d2 (aa 9) (dN (ah (aa 11) ag) yg) e7))))) (aW (d2 (dN (ah (aa 3) ag) m_) (aa 9) oEq))))))))
theorem Sy {a k:Nat} (h:2 ^ a <= k) (hk:k <= 12):a <= 3:=by
 rcases Nat.lt_or_ge a 4 with c | c
 ·omega
 ·have:=ZZ (show 0 < 2 by decide) c
  have e:(2:Nat) ^ 4=16:=rfl
  omega
theorem Sz {n:Nat} {S:Wy->Prop} {h:Int}:(cls n S h).length <= n:=by
 unfold cls
 have:=List.length_filter_le (fun x=>@decide (aG S h x) (Classical.propDecidable _)) (aN n)
 rw[qS] at this
 exact this
theorem SA:∀ ys ar K',ys.length=2->vM ys ar K'->CH (dX ar.length K') ⟨ys.map some ++ List.replicate 11 none,ar.map some⟩:=by
 rintro ys ar K' - ⟨m,ws,ns,W,hn,nd,hl,J,rfl,rfl,k⟩
 have m1:=W.m1
 have gX:=W.gX
 unfold CH
 refine a8 fun N hN => ?_
 rw[show a9 ns = .lst (ns.map D.int) from rfl]
 simp? only []
 refine⟨m,ws,ns,W,hn,nd,by omega,J,rfl,rfl,fun fs tk M => ?_⟩
 simp? only []
 subst hN
 have fl:=M.mo.1
 have tl:=M.tl
 have eS:d7 ws (ns.take ns.length)=d7 ws ns:=by rw[Y_]
 have MO:=M.mo
 rw[eS] at MO
 have mj:∀ (h:Nat),h < m.toNat->eB (fs.map D.int) (h:Int)=some (.int (fs.getD h 0)):=fun h hh=>jf (by omega)
 have tj:∀ (h:Nat),h < m.toNat->eB (tk.map D.int) (h:Int)=some (.int (tk.getD h 0)):=fun h hh=>jf (by omega)
 refine a8 fun N hN => ?_
 simp? only []
 subst hN
 refine a8 fun N hN => ?_
 rw[show a9 fs = .lst (fs.map D.int) from rfl,show a9 tk = .lst (tk.map D.int) from rfl]
 simp only[bS,iB,ah,d2,dC,aa,ag,dM,WY,WR,aP,f7,aR]
 refine⟨by omega,?_⟩
 refine jy (fun i δ => ∃ ls:List (List Int),ls.Nodup/\ls.length <= i/\(∀ l,l∈ls↔∃ h:Nat,h < i/\l=cls m.toNat (d7 ws ns) h) ∧
  δ = ⟨[some (.p (.tup [.int m,.tup (ws.map bM)])),some (.p (.lst (ns.map D.int))),some (.p (.lst (fs.map D.int))),some (.p (.lst (tk.map D.int))),some (.o 0),none,none,none,none,none,none,none,none],[some (.lst (ls.map a9))]⟩) ⟨[],YB,we _,fun l=>by simp,rfl⟩ ?_ ?_
 ·rintro h d δ L hj ⟨ls,yi,IB,lm,rfl⟩ hL
  obtain⟨hh,rfl⟩:=jw hj
  have e0:(0 + (h:Int))=h:=by omega
  rw[e0]
  have hh:h < m.toNat:=hh
  refine⟨trivial,?_⟩
  simp only[bA,Xb,Xc]
  refine a8 fun N2 cG => ?_
  simp? only [f7]
  refine⟨by omega,?_⟩
  refine uO (fun d=>match d with
   | .int x=>decide (fs.getD x.toNat 0=fs.getD h 0)
   | _=>false) id (by rw[jc];omega) trivial ?_ ?_
  ·intro d hd acc L' ha h1 h2
   obtain⟨z,hz⟩:=V0.mp hd
   obtain⟨zl,rfl⟩:=jw hz
   have z0:(0 + (z:Int))=z:=by omega
   rw[z0] at h1 h2 ⊢
   dsimp only at h1 h2
   rw[MB] at h1 h2
   simp? only [mj z zl,mj h hh]
   rw[oV]
   by_cases c:fs.getD z 0=fs.getD h 0
   ·rw[WC c]
    simp? only []
    exact⟨ha,h1 (WC c)⟩
   ·rw[Wz c]
    simp? only []
    exact h2 (Wz c)
  have el:((bY 0 m.toNat).filter fun d=>match d with
   | .int x=>decide (fs.getD x.toNat 0=fs.getD h 0)
   | _=>false).map id=(cls m.toNat (d7 ws ns) h).map D.int:=by
   rw[YU,lB,Z4,<-Sx MO hh];rfl
  rw[el]
  have cn:=CD MO hh
  have SD:=Sz (n:=m.toNat) (S:=d7 ws ns) (h:=(h:Int))
  have own:=M.own h hh
  have pw:=M.pw h hh
  obtain⟨r,er⟩:∃ r:Nat,fs.getD h 0=r:=⟨(fs.getD h 0).toNat,by omega⟩
  have hr:r < m.toNat:=by omega
  have fr:fs.getD r 0=r:=by have:=own.2;rw[er,MB] at this;exact this
  have rc:aG (d7 ws ns) (h:Int) (r:Int):=(MO.2 h r hh hr).mp (by rw[er,fr])
  have IC:(r:Int)∈cls m.toNat (d7 ws ns) h:=bt.mpr ⟨by omega,rc⟩
  have pr:=M.pw r hr
  rw[fr,<-er,cn] at pr
  rw[cn] at pw
  subst cG
  generalize hC:cls m.toNat (d7 ws ns) (h:Int)=C at cn SD IC pr pw
  refine a8 fun N2 cG => ?_
  have rest:∀ qU:List (List Int),qU.Nodup->qU.length <= h + 1->(∀ l,l∈qU↔∃ h':Nat,h' < h + 1/\l=cls m.toNat (d7 ws ns) h')->N2 ⟨[some (.p (.tup [.int m,.tup (ws.map bM)])),some (.p (.lst (ns.map D.int))),some (.p (.lst (fs.map D.int))),some (.p (.lst (tk.map D.int))),some (.o 0),some (.p (.int h)),some (.p (.lst (C.map D.int))),none,none,none,none,none,none],[some (.lst (qU.map a9))]⟩:=by
   intro qU p1 p2 p3
   have jO:=hL _ ⟨qU,p1,p2,p3,rfl⟩
   subst cG
   refine a8 fun N2 cG => ?_
   simp? only [mj h hh,er,mj r hr,fr]
   refine⟨by rw[vH];decide,?_⟩
   rw[Ip,WC IC]
   simp? only []
   rw[jK]
   simp? only []
   subst cG
   refine a8 fun N2 cG => ?_
   simp? only []
   subst cG
   refine a8 fun N2 cG => ?_
   have t3:=Sy pw.2 (by omega)
   simp only[bS,iB,ah,d2,dC,aa,ag,dM,WY,WR,aP,tj h hh]
   refine⟨by omega,?_⟩
   refine jy (fun i δ => δ = ⟨[some (.p (.tup [.int m,.tup (ws.map bM)])),some (.p (.lst (ns.map D.int))),some (.p (.lst (fs.map D.int))),some (.p (.lst (tk.map D.int))),some (.o 0),some (.p (.int h)),some (.p (.lst (C.map D.int))),some (.p (.int ((2 ^ i:Nat):Int))),none,none,none,none,none],[some (.lst (qU.map a9))]⟩) rfl ?_ ?_
   ·rintro i d δ L2 hi rfl i7
    obtain⟨hi,rfl⟩:=jw hi
    have i3:i < 3:=by omega
    refine⟨trivial,?_⟩
    have p4:(2:Nat) ^ i <= 2 ^ 3:=ZZ (by decide) (by omega)
    have e8:(2:Nat) ^ 3=8:=rfl
    simp? only []
    refine⟨.inl ⟨by omega,by omega⟩,?_⟩
    have:=i7 _ rfl
    rw[Nat.pow_succ] at this
    have e:(2:Int) * ((2 ^ i:Nat):Int)=((2 ^ i * 2:Nat):Int):=by omega
    rw[e]
    exact this
   ·rintro δ rfl
    refine⟨trivial,?_⟩
    rw[jc]
    subst cG
    dsimp only
    have c1:decide ((C.length:Int) < ((2 ^ (tk.getD h 0).toNat:Nat):Int))=false:=Wz (by have:=pw.2;omega)
    simp? only [mj h hh,er,tj r hr,c1]
    cases q:decide (0 < tk.getD r 0) with
    | false=>simp? only [];exact jO
    | true =>
     have c2:C≠[(r:Int)]:=fun e=>by
      have q:=XD q
      have p1:=pr.2
      rw[e] at p1
      have p1:2 ^ (tk.getD r 0).toNat <= 1:=p1
      have h2:2 ^ 1 <= 2 ^ (tk.getD r 0).toNat:=ZZ (by decide) (by omega)
      have h3:(2:Nat) ^ 1=2:=rfl
      omega
     simp? only []
     refine⟨by rw[vH];decide,?_⟩
     rw[show ([D.int (r:Int)]:List D)=[(r:Int)].map D.int from rfl]
     simp only[az,CA,Wz c2]
     simp? only []
     exact jO
  have dl:=yf ls
  simp? only []
  refine⟨by omega,?_⟩
  rw[show D.lst (C.map D.int)=a9 C from rfl,Sf]
  by_cases c:C∈ls
  ·rw[WC c]
   simp? only []
   refine rest ls yi (by omega) fun l => ?_
   rw[lm]
   constructor
   ·rintro ⟨h',a,b⟩;exact⟨h',by omega,b⟩
   ·rintro ⟨h',a,b⟩
    by_cases e:h'=h
    ·subst e
     obtain⟨h2,a2,b2⟩:=(lm C).mp c
     exact⟨h2,a2,by rw[b,hC,<-b2]⟩
    ·exact⟨h',by omega,b⟩
  ·rw[Wz c]
   simp? only []
   refine⟨by omega,?_⟩
   have:=rest (ls ++ [C]) (by
    rw[Xr]
    exact⟨yi,by simp,fun a ha b hb e=>by subst e;rw[Wr.mp hb] at ha;exact c ha⟩) (by rw[My];simp;omega) fun l=>by
    rw[Xa,lm,Wr]
    constructor
    ·rintro (⟨h',a,b⟩ | rfl)
     ·exact⟨h',by omega,b⟩
     ·exact⟨h,by omega,hC.symm⟩
    ·rintro ⟨h',a,b⟩
     by_cases e:h'=h
     ·subst e;exact .inr (by rw[b,hC])
     ·exact .inl ⟨h',by omega,b⟩
   rw[WK] at this
   exact this
 ·rintro δ ⟨ls,yi,IB,lm,rfl⟩
  refine⟨trivial,?_⟩
  rw[jc] at IB lm
  subst hN
  dsimp only
  have li:bG m.toNat (d7 ws ns) ls:=⟨yi,fun l=>by
   rw[lm]
   constructor
   ·rintro ⟨h,a,b⟩;exact⟨h,by omega,b⟩
   ·rintro ⟨h,a,b⟩
    obtain⟨k,rfl⟩:∃ k:Nat,h=k:=⟨h.toNat,by omega⟩
    exact⟨k,by omega,b⟩⟩
  refine a8 fun N hN => ?_
  simp only[bE,dT,d2,dN,ah,aa,ag,fg,dM,WY,WR,xX,pU]
  refine⟨by omega,ls,rfl,fun out op ou => ?_⟩
  simp only[av,ah,aa,ag,dN,fg,dM,WY,WR,r_,passes,kF,Mx,Ym,Ye]
  refine⟨by simp,m,ws,ns,W,hn,nd,by omega,rfl,rfl,?_⟩
  obtain⟨la,lb⟩:=vG W hn
  have eo:out=iy m ws ns:=Il (li.perm op) la ou lb
  rw[show ((cV (dU m ws ns) m.toNat).map (·.2))=iy m ws ns from rfl,<-eo]
  simp only[j8,fQ,dM,l5,mS]
  rw[show D.lst (out.map fun k=>D.lst (k.map D.int))=kK out from rfl,jK]
  refine⟨IA _,?_⟩
  simp? only []
  subst hN
  refine a8 fun N hN => ?_
  simp? only []
  subst hN
  refine a8 fun N hN => ?_
  simp only[bS,iB,ah,dN,ag,aa,fg,dM,WY,WR,cf,pU]
  refine⟨by omega,?_⟩
  refine jy (fun i δ => δ = ⟨[some (.p (.tup [.int m,.tup (ws.map bM)])),some (.p (.lst (ns.map D.int))),some (.p (.lst (fs.map D.int))),some (.p (.lst (tk.map D.int))),some (.o 0),none,none,none,none,some (.p (.int (((List.range i).map (oY m.toNat ws ns)).sum))),none,none,none],[some (.lst (ls.map a9))]⟩) rfl ?_ ?_
  ·rintro i d δ L hi rfl hL
   obtain⟨bX,rfl⟩:=jw hi
   have e0:(0 + (i:Int))=i:=by omega
   rw[e0]
   have hi:i < ns.length:=by simpa using bX
   refine⟨trivial,?_⟩
   simp only[bA,Xb,Xc]
   refine a8 fun N2 cG => ?_
   simp? only []
   subst cG
   have SE:=jf (ns:=ns) (i:=i) hi
   have SF:ns.getD i 0∈ns:=by rw[rG,mM hi];exact X0 hi
   obtain⟨n0,n1⟩:=hn _ SF
   obtain⟨y,ey,hy,ea,a,b,e1,e2,h1,h2,_⟩:=oH W n0 n1
   have nt:Nums ws (ns.take i):=fun x hx=>hn x (Y6 hx)
   have SG:(ns.take i).Nodup:=(q0l i ns).nodup nd
   have ct:=Sv (ds:=ns.map D.int) (t:=i) (by rw[pU];omega)
   rw[<-List.map_take] at ct
   have c2:cutD [D.int y.1,D.int y.2.1,D.int y.2.2] none (some 2)=[y.1,y.2.1].map D.int:=rfl
   obtain⟨ID,_⟩:=vG W nt
   obtain⟨SH,SI⟩:=Su W nt
   have yr:∀ e∈[y.1,y.2.1],0 <= e/\e < (m.toNat:Int):=fun e he=>by
    rcases MA.mp he with rfl | he
    ·omega
    ·rw[Wr.mp he];omega
   refine a8 fun N2 cG => ?_
   simp only[bS,bP,iY,iW,oz,d2,dC,aa,dM,WY,WR,aP,g8,SE,ea,bM,nr,c2,mY]
   refine jy (fun j δ => δ = ⟨[some (.p (.tup [.int m,.tup (ws.map bM)])),some (.p (.lst (ns.map D.int))),some (.p (.lst (fs.map D.int))),some (.p (.lst (tk.map D.int))),some (.o 0),none,none,none,none,some (.p (.int (((List.range i).map (oY m.toNat ws ns)).sum))),some (.p (.int i)),some (.o 1),none],[some (.lst (ls.map a9)),some (.lst (([y.1,y.2.1].take j).map fun e=>D.int ((cls m.toNat (d7 ws (ns.take i)) e).length:Int)))]⟩) rfl ?_ ?_
   ·rintro j d δ L2 hj rfl i7
    rw[E7] at hj
    obtain⟨e,CI,rfl⟩:=VV.mp hj
    have er:=yr e (WN CI)
    have j2:j < 2:=(pV.mp CI).1
    have et:[y.1,y.2.1].take (j + 1)=[y.1,y.2.1].take j ++ [e]:=by rw[Yb,CI];rfl
    have i7:=i7 _ rfl
    rw[et,WK] at i7
    refine⟨trivial,?_⟩
    simp only[bA,Xb,Xc]
    simp? only [ct]
    refine⟨m,ws,ns.take i,W,nt,SG,by rw[WQ];omega,rfl,rfl,?_⟩
    rw[show ((cV (dU m ws (ns.take i)) m.toNat).map (·.2))=iy m ws (ns.take i) from rfl,show kK (iy m ws (ns.take i)) = .lst ((iy m ws (ns.take i)).map a9) from rfl]
    generalize iy m ws (ns.take i)=LT at ID SH SI
    simp? only []
    refine uO (fun d=>match d with
     | .lst es=>es.any fun z=>az z (.int e)
     | _=>false) (fun d=>match d with
     | .lst es => .int (es.length:Nat)
     | _ => .non) (by rw[pU];omega) trivial ?_ ?_
    ·intro d hd acc L' ha h1 h2
     obtain⟨l,gZ,rfl⟩:=Wt.mp hd
     rw[show a9 l = .lst (l.map D.int) from rfl] at h1 h2 ⊢
     dsimp only at h1 h2
     simp? only []
     refine⟨by rw[vH];decide,?_⟩
     cases q:((l.map D.int).any fun z=>az z (.int e)) with
     | true =>
      simp? only []
      refine⟨ha,?_⟩
      have:=h1 q
      rw[pU] at this
      exact this
     | false=>simp? only [];exact h2 q
    ·have ef:((LT.map a9).filter fun d=>match d with
      | .lst es=>es.any fun z=>az z (.int e)
      | _=>false)=[a9 (cls m.toNat (d7 ws (ns.take i)) e)]:=by
      rw[Z4]
      have:=Sw ID er
      rw[show ((fun d:D=>match d with
       | .lst es=>es.any fun z=>az z (.int e)
       | _=>false) ∘ a9)=fun l:List Int=>decide (e∈l) from funext fun l=>Ip l e,this]
      rfl
     rw[ef]
     have a0:eB [D.int ((cls m.toNat (d7 ws (ns.take i)) e).length:Nat)] 0=some (.int ((cls m.toNat (d7 ws (ns.take i)) e).length:Nat)):=f7
     simp? only [a9,a0]
     refine⟨by rw[WQ];omega,?_⟩
     exact i7
   ·rintro δ rfl
    refine⟨trivial,?_⟩
    subst cG
    dsimp only
    have im:intsOf ([y.1,y.2.1].map fun e=>D.int ((cls m.toNat (d7 ws (ns.take i)) e).length:Int))=some [((cls m.toNat (d7 ws (ns.take i)) y.1).length:Int),((cls m.toNat (d7 ws (ns.take i)) y.2.1).length:Int)]:=rfl
    have et:([y.1,y.2.1].take (([y.1,y.2.1].map D.int).length))=[y.1,y.2.1]:=rfl
    rw[et]
    simp only[aC,d2,dN,ah,aa,ag,fg,dM,WY,WR,yg,im]
    refine⟨by simp,fun x hx hm => ?_⟩
    have ex:x=oY m.toNat ws ns i:=by
     have g1:=hm _ E6
     have g2:=hm _ (E9 _ E6)
     have ew:aD ws (ns.getD i 0)=y:=ey
     unfold oY
     rw[ew]
     rcases MA.mp hx with z | z
     ·omega
     ·have z:=Wr.mp z;omega
    simp? only []
    have:=hL _ rfl
    rw[Y0,WK,q0X] at this
    simp only[WH,Ye,ZU,List.sum_nil,Int.add_zero] at this
    rw[ex]
    exact this
  ·rintro δ rfl
   refine⟨trivial,?_⟩
   rw[jc]
   subst hN
   dsimp only
   have it:intsOf (tk.map D.int)=some tk:=uz _
   simp only[aW,d2,dN,ah,aa,ag,fg,dM,WY,WR,m_,it]
   refine⟨⟨fun x hx => ?_,by omega⟩,?_⟩
   ·obtain⟨j,hj,rfl⟩:=W0.mp hx
    have:=(M.pw j (by omega)).1
    rw[show tk.getD j 0=tk[j] by rw[rG,mM hj];rfl] at this
    omega
   ·have es:=M.sum
    rw[show ((ns.length:Int)).toNat=ns.length from MB _,<-es]
    simp only[oEq]
    rw[jK]
    exact⟨by simp[dep],gQ k⟩
noncomputable def CJ:WS:=(au (bS (iB (ah (dC (.int 3)) ag)) (bA 2) (au (aC 3 (av 3 u6 (ah (av 1 u4 (ah (aa 1) ag)) (ah (dC (.int 12)) (ah (dC (.int 30)) ag))))) (au (aC 4 (ur 1 vD (ah (aa 3) ag))) (au (aC 5 (fZ (iB (ah (dN (ah (aa 4) ag) cf) ag)) [none,some 4,some 1] (bA 0) dE (uI (aa 1) (ah (av 2 gz (ah (aa 2) (ah (dN (ah (aa 1) ag) cf) ag))) ag)))) (au (bE (dT (d2 (av 2 oT (ah (aa 3) (ah (aa 5) ag))) (av 2 oT (ah (aa 3) (ah (sg (ah (dN (ah (d2 (aa 3) (dC (.int 1)) aP) ag) cf) ag)) ag))) l5)) (aW (dC (.bl false))) ft) (bS (bP (fM (ah (av 2 vL (ah (aa 1) (ah (aa 3) ag))) (ah (aa 5) (ah (dN (ah (aa 5) ag) qr) ag))))) (bA 6) (bE (gN (dT (av 2 vM (ah (aa 3) (ah (aa 6) ag))))) (aW (dC (.bl false))) ft))))))) (aW (dC (.bl true))))
noncomputable abbrev KL:KS:=⟨fun _=>False,fun x _=>x = .p (.bl true),fun _=>False,fun _=>False⟩
theorem SJ {n:Nat} {S S':Wy->Prop} {L:List (List Int)} (h:bG n S L) (c:∀ a b,aG S a b↔aG S' a b):bG n S' L:=by
 have e:∀ a,cls n S a=cls n S' a:=fun a=>sD (oX _ _ _) (oX _ _ _) fun x=>by rw[bt,bt,c]
 exact⟨h.nd,fun l=>(h.mem l).trans ⟨fun ⟨a,b,d⟩=>⟨a,b,by rw[d,e]⟩,fun ⟨a,b,d⟩=>⟨a,b,by rw[d,e]⟩⟩⟩
theorem SK {m:Int} {ws:List Wy} (W:dJ m ws) {ns:List Int} (hn:Nums ws ns) (h:∀ n:Int,n∈ns↔(0 <= n/\n < (ws.length:Int))/\kL ws (aD ws n)):iy m ws ns=iy m ws (aN ws.length):=by
 have ha:Nums ws (aN ws.length):=fun n gu=>by have:=bh.mp gu;omega
 obtain⟨a,b⟩:=vG W hn
 obtain⟨c,d⟩:=vG W ha
 refine Il (SJ a fun x y=>⟨fun z=>z.mono fun v hv => ?_,fun z=>z.bind fun v hv => ?_⟩) c b d
 ·obtain⟨k,hk,rfl⟩:=hv
  exact⟨k,bh.mpr (by have:=((h k).mp hk).1;omega),rfl⟩
 ·obtain⟨k,hk,rfl⟩:=hv
  have hk:=bh.mp hk
  have hm:=Cv (ws:=ws) hk.1 hk.2
  refine (Ic (lJ ws (aD ws k)) _ hm (we _)).mono fun u hu => ?_
  obtain⟨j,hj,rfl⟩:=H_ hu.1.1
  exact⟨j,(h j).mpr ⟨hj,hu.1⟩,rfl⟩
theorem SM (ns:List Int) (hn:ns.length <= 63):CJ KL ⟨none :: some (.o 0) :: List.replicate 5 none,[some (jz ns 0 0)]⟩:=by
 unfold CJ
 refine a8 fun N hN => ?_
 simp? only []
 refine⟨by decide,?_⟩
 refine jy (fun i δ => ∃ o,a7 (1000 * i) o /\ δ = ⟨none :: some (.o 0) :: List.replicate 5 none,[some o]⟩) ⟨jz ns 0 0,⟨ns,0,0,rfl,hn,by omega,by omega⟩,rfl⟩ ?_ ?_
 ·rintro j d δ L hj ⟨o,P,rfl⟩ hL
  obtain⟨IE,rfl⟩:=jw hj
  have IE:j < 3:=IE
  refine⟨trivial,?_⟩
  simp only[bA,Xv,List.replicate_zero,Xb,Xc]
  generalize (0 + (j:Int))=jt
  refine a8 fun N2 cG => ?_
  simp? only []
  refine⟨1000 * j,o,rfl,rfl,P,fun o1 P1 => ?_⟩
  simp? only []
  refine⟨1000 * j,12,30,o1,rfl,rfl,P1,by omega,by omega,by omega,by omega,by omega,fun m ws o2 W _ _ P2 => ?_⟩
  have m1:=W.m1
  have gX:=W.gX
  have xJ:=W.kj
  simp? only []
  subst cG
  refine a8 fun N2 cG => ?_
  simp? only []
  refine⟨m,ws,W,rfl,rfl,fun os ho => ?_⟩
  have fm:=fun n=>RX W ho (n:=n)
  have CK:=RZ (m:=m) ho
  generalize sC m ws os=F0 at fm CK
  have fl:F0.length <= 30:=by
   have:=CK.length_le_of_subset (l₂ := aN ws.length) fun x hx=>bh.mpr (by have:=((fm x).mp hx).1;omega)
   rw[qS] at this
   omega
  simp? only []
  subst cG
  refine a8 fun N2 cG => ?_
  simp? only []
  refine⟨by omega,?_⟩
  rw[MB]
  refine xm (fun i acc δ => ∃ (ls fs:List Int) (o':OV),acc=fs.map D.int/\ls.length + i=F0.length/\fs.length=i/\(fs ++ ls).Perm F0/\a7 (1000 * j + 300 + i) o' /\ δ = ⟨[none,some (.o 1),some (.o 0)],[some o',some (.lst (ls.map D.int))]⟩) ⟨F0,[],o2,rfl,by omega,rfl,Yz _,P2.mono (by omega),rfl⟩ ?_ ?_
  ·rintro i d acc δ L2 hi ⟨ls,fs,o',rfl,oa,fJ,pm,P',rfl⟩ i7
   obtain⟨hi,rfl⟩:=jw hi
   have q0:0 < ls.length:=by omega
   simp? only []
   refine⟨1000 * j + 300 + i,ls.length,o',rfl,rfl,P',by omega,by omega,by omega,fun z j_ z0 z1 lF => ?_⟩
   obtain⟨z,rfl⟩:∃ zn:Nat,z=zn:=⟨z.toNat,by omega⟩
   have hz:z < ls.length:=by omega
   have ix:seqIndex? (z:Int) ls.length=some z:=Ax hz
   have eq:(ls.map D.int)[z]? = some (.int ls[z]):=by rw[E7,mM hz];rfl
   simp? only [ix,eq]
   refine⟨⟨by omega,by omega⟩,by omega,i7 _ _ ⟨ls.eraseIdx z,fs ++ [ls[z]],j_,by rw[WK];rfl,by rw[YA hz];omega,by rw[My,fJ];rfl,?_,lF.mono (by omega),by rw[xC]⟩⟩
   rw[X8]
   exact (Y3 _ (xB hz)).trans pm
  rintro acc δ ⟨ls,dr,o3,rfl,oa,fJ,pm,P3,rfl⟩
  rw[jc] at oa fJ P3
  have e0:ls=[]:=YR.mp (by omega)
  subst e0
  rw[Yw] at pm
  have dm:∀ n:Int,n∈dr↔(0 <= n/\n < (ws.length:Int))/\kL ws (aD ws n):=fun n=>pm.mem_iff.trans (fm n)
  have vN:dr.Nodup:=pm.nodup_iff.mpr CK
  have sE:Nums ws dr:=fun n gu=>((dm n).mp gu).1
  have dl:dr.length <= 30:=by omega
  have dj:Joins ws dr:=Iz W (Iy W) sE vN fun n gu=>((dm n).mp gu).2
  have sm:∀ n,n∈sortI dr↔n∈dr:=fun n=>(sortI_perm dr).mem_iff
  have sj:Joins ws (sortI dr):=Iz W (Iy W) (fun n gu=>sE n ((sm n).mp gu)) ((sortI_perm dr).nodup_iff.mpr vN) fun n gu=>((dm n).mp ((sm n).mp gu)).2
  have lt:=SK W sE dm
  subst cG
  refine⟨trivial,?_⟩
  have ra:Nums ws (aN ws.length):=fun n gu=>by have:=bh.mp gu;omega
  have rn:(aN ws.length).Nodup:=Io (vF _)
  refine a8 fun N2 cG => ?_
  simp only[bE,dT,d2,av,ah,aa,ag,fg,dM,WY,WR,Xb,Xc,passes,kF,Mx,Ym,Ye]
  refine⟨by simp,m,ws,dr,W,sE,vN,by omega,rfl,rfl,?_⟩
  simp? only [g8,aR]
  refine⟨by omega,?_⟩
  rw[MB,lB]
  refine⟨m,ws,aN ws.length,W,ra,rn,by rw[qS];omega,rfl,rfl,?_⟩
  rw[show ((cV (dU m ws dr) m.toNat).map (·.2))=iy m ws dr from rfl,show ((cV (dU m ws (aN ws.length)) m.toNat).map (·.2))=iy m ws (aN ws.length) from rfl,lt]
  simp only[j8,fQ,dM,l5,mS]
  rw[jK]
  refine⟨IA _,?_⟩
  simp? only []
  subst cG
  have io:intsOf (dr.map D.int)=some dr:=uz _
  simp only[bS,bP,fM]
  simp? only []
  refine⟨1000 * j + 330,m,ws,o3,W,rfl,rfl,P3.mono (by omega),by omega,fun us o4 uu SN ul uj P4 => ?_⟩
  simp? only [qr,io]
  refine⟨by omega,?_⟩
  refine jy (fun i δ => δ = ⟨[none,some (.o 0),some (.p (.int jt)),some (.p (.tup [.int m,.tup (ws.map bM)])),some (.o 1),some (.p (.lst (dr.map D.int))),none],[some o4,some (.lst [])]⟩) rfl ?_ ?_
  ·rintro i d δ L2 hi rfl i7
   have i7:=i7 _ rfl
   obtain⟨xs,rfl,x1,x2,x3,x4⟩:∃ xs:List Int,d = .lst (xs.map D.int)/\Nums ws xs/\xs.Nodup/\xs.length <= 30/\Joins ws xs:=by
    have hm:=WN hi
    rcases MA.mp hm with z | z
    ·exact⟨us,z,uu,SN,ul,uj⟩
    ·rcases MA.mp z with z | z
     ·exact⟨dr,z,sE,vN,dl,dj⟩
     ·exact⟨sortI dr,Wr.mp z,fun n gu=>sE n ((sm n).mp gu),(sortI_perm dr).nodup_iff.mpr vN,by rw[Bc];exact dl,sj⟩
   refine⟨trivial,?_⟩
   simp? only []
   refine⟨m,ws,xs,W,x1,x2,x3,x4,rfl,rfl,?_⟩
   simp? only []
   exact i7
  ·rintro δ rfl
   refine⟨trivial,?_⟩
   simp? only []
   exact hL _ ⟨o4,P4.mono (by omega),rfl⟩
 ·rintro δ ⟨o,P,rfl⟩
  refine⟨trivial,?_⟩
  subst hN
  rfl
end LJ
namespace LJ
open PySem L2
noncomputable def top (i:Nat):Stmt:=PySem.Challenge.pw_lotjoin_k42_whole_marks_and_lots.main.body.getD i (.Pass ⟨0,0,0,0⟩)
section
variable [aJ] {P:Program} {w:World} {K:PySem.W.Frag} {mg:Str->Option Value} {base:Heap}
noncomputable abbrev CL:Stmt:=top 9
theorem fz:dz ["thing"] ["thing"] (bW CL):=⟨rfl,rfl,rfl,by decide +kernel,rfl,by decide +kernel,by decide +kernel⟩
theorem SO {f:Addr} {fd:FuncData} (F:cI K "is_whole" "is_whole" CL f fd) (B:BT mg):aY P w K mg base cm 1 f fd ["thing"] (aU u7 1):=by
 refine F.f6 (k:=0) fz fun bo A outer s H E hr => ?_
 have nd:=fz.nd
 have hu:=hr.units
 exact⟨BC,(bw (cM (rP (uG OJ (by rfl) B.isinstance (by rfl) B.int NS (dv 0)) (rO (N5 (uG OK (by rfl) B.isinstance (by rfl) B.bool NR (dv 0))))))),P8⟩
noncomputable abbrev CM:Stmt:=top 10
theorem eN:dz ["thing", "least", "most"] ["thing", "least", "most"] (bW CM):=⟨rfl,rfl,rfl,by decide +kernel,rfl,by decide +kernel,by decide +kernel⟩
theorem SQ {f SS:Addr} {fd SU:FuncData} (F:cI K "is_within" "is_within" CM f fd) (B:BT mg) (cW:Fn P w K mg base 1 "is_whole" ["thing"] (aU u7 1) SS SU):aY P w K mg base cm 2 f fd ["thing", "least", "most"] (aU kJ 3):=by
 refine F.f6 (k:=1) eN fun bo A outer s H E hr => ?_
 have nd:=eN.nd
 have hu:=hr.units
 exact⟨BE,(bw (cM (rP (bT cW.ok (hr.mono (by decide)) (by rfl) cW.bL cW.kp cW.bd (ao (dv 0) ay)) (rO (Oz Gr Gr (dv 1) (dv 0) (dv 2)))))),P9⟩
noncomputable abbrev CN:Stmt:=top 11
theorem dH:dz ["thing", "size"] ["thing", "size"] (bW CN):=⟨rfl,rfl,rfl,by decide +kernel,rfl,by decide +kernel,by decide +kernel⟩
theorem SV {f:Addr} {fd:FuncData} (F:cI K "is_tuple_of" "is_tuple_of" CN f fd) (B:BT mg):aY P w K mg base cm 1 f fd ["thing", "size"] (aU qH 2):=by
 refine F.f6 (k:=0) dH fun bo A outer s H E hr => ?_
 have nd:=dH.nd
 have hu:=hr.units
 exact⟨BF,(bw (cM (rP (uG GH (by rfl) B.isinstance (by rfl) B.tuple Av (dv 0)) (rO (uh (g6 hu) (eF ik (by rfl) B.len Xd (ao (dv 0) ay)) (dv 1) (by rfl)))))),P_⟩
noncomputable abbrev CO:Stmt:=top 12
theorem fA:dz ["many", "one", "other"] ["many", "one", "other"] (bW CO):=⟨rfl,rfl,rfl,by decide +kernel,rfl,by decide +kernel,by decide +kernel⟩
theorem SW {f qV:Addr} {fd qW:FuncData} (F:cI K "are_ends" "are_ends" CO f fd) (B:BT mg) (aq:Fn P w K mg base 2 "is_within" ["thing", "least", "most"] (aU kJ 3) qV qW):aY P w K mg base cm 3 f fd ["many", "one", "other"] (aU va 3):=by
 refine F.f6 (k:=2) fA fun bo A outer s H E hr => ?_
 have nd:=fA.nd
 have hu:=hr.units
 exact⟨BG,(bw (cM (rP (bT aq.ok (hr.mono (by decide)) (by rfl) aq.bL aq.kp aq.bd (ao (dv 1) (br ax (ja (bF rY (dv 0) ax) ay)))) (rO (bT aq.ok (hr.mono (by decide)) (by rfl) aq.bL aq.kp aq.bd (ao (dv 2) (ja (bF fS (dv 1) ax) (ja (bF rY (dv 0) ax) ay)))))))),Qa⟩
noncomputable abbrev CP:Stmt:=top 13
theorem hU:dz ["many", "thing"] ["many", "thing"] (bW CP):=⟨rfl,rfl,rfl,by decide +kernel,rfl,by decide +kernel,by decide +kernel⟩
theorem SX {f CQ SY qV:Addr} {fd CS S7 qW:FuncData} (F:cI K "is_way" "is_way" CP f fd) (B:BT mg) {IF:Value} (IG:RelV (.int 1000000000) IF/\mg "MOST_PRICE" = some IF) (aK:Fn P w K mg base 1 "is_tuple_of" ["thing", "size"] (aU qH 2) CQ CS) (cX:Fn P w K mg base 3 "are_ends" ["many", "one", "other"] (aU va 3) SY S7) (aq:Fn P w K mg base 2 "is_within" ["thing", "least", "most"] (aU kJ 3) qV qW):aY P w K mg base cm 4 f fd ["many", "thing"] (aU vb 2):=by
 refine F.f6 (k:=3) hU fun bo A outer s H E hr => ?_
 have nd:=hU.nd
 have hu:=hr.units
 exact⟨BH,(aZ (fP (om (oj (bT aK.ok (hr.mono (by decide)) (by rfl) aK.bL aK.kp aK.bd (ao (dv 1) (br ax ay))))) (bw (cM lh)) fY) (bw (cM (rP (bT cX.ok (hr.mono (by decide)) (by rfl) cX.bL cX.kp cX.bd (ao (dv 0) (bf (a5 a6 (dv 1) ax (fun _ _=>rfl)) (bf (a5 a6 (dv 1) ax (fun _ _=>rfl)) ay)))) (rO (bT aq.ok (hr.mono (by decide)) (by rfl) aq.bL aq.kp aq.bd (bf (a5 a6 (dv 1) ax (fun _ _=>rfl)) (br ax (ao (AG (i:=1000000000) (by rfl) IG.2 IG.1) ay))))))))),Qc⟩
noncomputable abbrev CT:Stmt:=top 14
theorem fB:dz ["many", "thing"] ["many", "thing"] (bW CT):=⟨rfl,rfl,rfl,by decide +kernel,rfl,by decide +kernel,by decide +kernel⟩
theorem S8 {f S9:Addr} {fd S_:FuncData} (F:cI K "are_ways" "are_ways" CT f fd) (B:BT mg) {IH:Value} (II:RelV (.int 30) IH/\mg "MOST_WAYS" = some IH) (eO:Fn P w K mg base 4 "is_way" ["many", "thing"] (aU vb 2) S9 S_):aY P w K mg base cm 5 f fd ["many", "thing"] (aU vc 2):=by
 refine F.f6 (k:=4) fB fun bo A outer s H E hr => ?_
 have nd:=fB.nd
 have hu:=hr.units
 exact⟨BK,(aZ (fP (JW.jt (wH (om (oj (uG GH (by rfl) B.isinstance (by rfl) B.tuple Av (dv 1)))) (wG (dO rZ (eF ik (by rfl) B.len Xd (ao (dv 1) ay)) (AG (i:=30) (by rfl) II.2 II.1) (by rfl))))) (bw (cM lh)) fY) (aZ (fP (om (oj (eF (OE rfl) (by rfl) B.all NT (ja (kE [none,some 0] ["way", "many"] rfl (iC (dv 1)) (fun d=>(cF (i:=0) (show (["way", "many"]:List Str).Nodup by decide +kernel) rfl (by trivial))) (fun d=>kD) (fun d=>(bT eO.ok (hr.mono (by decide)) (by rfl) eO.bL eO.kp eO.bd (ao (dv 1) (ao (dv 0) ay))))) ay)))) (bw (cM lh)) fY) (bw (cM (uh (g6 hu) (P7 rfl hu (by rfl) B.len Xd (by rfl) B.set FH (ja (kE [none] ["way"] rfl (iC (dv 1)) (fun d=>(cF (i:=0) (show (["way"]:List Str).Nodup by decide +kernel) rfl (by trivial))) (fun d=>kD) (fun d=>(xy (dv 0) xa (xb ax)))) ay)) (eF ik (by rfl) B.len Xd (ao (dv 1) ay)) (by rfl)))))),Qd⟩
noncomputable abbrev CU:Stmt:=top 15
theorem hV:dz ["thing"] ["thing"] (bW CU):=⟨rfl,rfl,rfl,by decide +kernel,rfl,by decide +kernel,by decide +kernel⟩
theorem Ta {f CQ qV Tb:Addr} {fd CS qW Tc:FuncData} (F:cI K "is_web" "is_web" CU f fd) (B:BT mg) {IJ:Value} (IK:RelV (.int 12) IJ/\mg "MOST_HOUSES" = some IJ) (aK:Fn P w K mg base 1 "is_tuple_of" ["thing", "size"] (aU qH 2) CQ CS) (aq:Fn P w K mg base 2 "is_within" ["thing", "least", "most"] (aU kJ 3) qV qW) (cY:Fn P w K mg base 5 "are_ways" ["many", "thing"] (aU vc 2) Tb Tc):aY P w K mg base cm 6 f fd ["thing"] (aU ve 1):=by
 refine F.f6 (k:=5) hV fun bo A outer s H E hr => ?_
 have nd:=hV.nd
 have hu:=hr.units
 exact⟨BL,(aZ (fP (om (oj (bT aK.ok (hr.mono (by decide)) (by rfl) aK.bL aK.kp aK.bd (ao (dv 0) (br ax ay))))) (bw (cM lh)) fY) (bw (cM (rP (bT aq.ok (hr.mono (by decide)) (by rfl) aq.bL aq.kp aq.bd (bf (a5 a6 (dv 0) ax (fun _ _=>rfl)) (br ax (ao (AG (i:=12) (by rfl) IK.2 IK.1) ay)))) (rO (bT cY.ok (hr.mono (by decide)) (by rfl) cY.bL cY.kp cY.bd (bf (a5 a6 (dv 0) ax (fun _ _=>rfl)) (bf (a5 a6 (dv 0) ax (fun _ _=>rfl)) ay)))))))),Qf⟩
noncomputable abbrev CV:Stmt:=top 16
theorem fD:dz ["web"] ["web"] (bW CV):=⟨rfl,rfl,rfl,by decide +kernel,rfl,by decide +kernel,by decide +kernel⟩
theorem Td {f Te:Addr} {fd Tf:FuncData} (F:cI K "need_web" "need_web" CV f fd) (B:BT mg) (eQ:Fn P w K mg base 6 "is_web" ["thing"] (aU ve 1) Te Tf):aY P w K mg base cm 7 f fd ["web"] (aU qP 1):=by
 refine F.f6 (k:=6) fD fun bo A outer s H E hr => ?_
 have nd:=fD.nd
 have hu:=hr.units
 exact⟨Cc,(bw (fP (om (oj (bT eQ.ok (hr.mono (by decide)) (by rfl) eQ.bL eQ.kp eQ.bd (ao (dv 0) ay)))) (bw xr) fY)),Q_⟩
noncomputable abbrev CW:Stmt:=top 17
theorem gq:dz ["way"] ["way"] (bW CW):=⟨rfl,rfl,rfl,by decide +kernel,rfl,by decide +kernel,by decide +kernel⟩
theorem Tg {f:Addr} {fd:FuncData} (F:cI K "rank_of" "rank_of" CW f fd) (B:BT mg):aY P w K mg base cm 1 f fd ["way"] (aU vx 1):=by
 refine F.f6 (k:=0) gq fun bo A outer s H E hr => ?_
 have nd:=gq.nd
 have hu:=hr.units
 exact⟨Cd,(bw (cM (mR (bf (a5 a6 (dv 0) ax (fun _ _=>rfl)) (bf (a5 a6 (dv 0) ax (fun _ _=>rfl)) (bf (a5 a6 (dv 0) ax (fun _ _=>rfl)) ay)))))),Ra⟩
noncomputable abbrev yj:Stmt:=top 18
theorem fE:dz ["web", "ways"] ["web"] (bW yj):=⟨rfl,rfl,rfl,by decide +kernel,rfl,by decide +kernel,by decide +kernel⟩
theorem Th {f CY Ti:Addr} {fd CZ Tj:FuncData} {T:Addr} (F:cI K "order_of" "order_of" yj f fd) (B:BT mg) (LD:HL mg base fd T ⟨48,40,48,76⟩ ((("order_of" : Str) ++ ".<locals>.") ++ "<lambda>")) (bc:Fn P w K mg base 7 "need_web" ["web"] (aU qP 1) CY CZ) (dP:Fn P w K mg base 1 "rank_of" ["way"] (aU vx 1) Ti Tj):aY P w K mg base cm 11 f fd ["web"] (aU vy 1):=by
 refine F.vt (k:=10) fE fun bo A outer s H E hc hr => ?_
 have nd:=fE.nd
 have hu:=hr.units
 exact⟨Ce,(aZ (lq (bT bc.ok (hr.mono (by decide)) (by rfl) bc.bL bc.kp bc.bd (ao (dv 0) ay))) (aZ (bR (i:=1) nd rfl (by trivial) (a5 a6 (dv 0) ax (fun _ _=>rfl))) (bw (cM (QZ (g_.mk (x := "number") (Nb:=["ways"]) (cp:=[some 1]) (T:=T) ⟨(let ⟨cc,e1,e2⟩:=LD.code; ⟨cc,hc.symm.trans e1,e2⟩),LD.ng,LD.blt⟩ LD.tbl rfl rfl (by first | rfl | kernel_rfl) rfl rfl (fun _ _ _ _ _=>rfl) ⟨1,hr.mono (by decide),fun d hr=>(bT dP.ok (hr.mono (by decide)) (by rfl) dP.bL dP.kp dP.bd (bf (a5 a6 (dv 1) (dv 0) (fun _ _=>rfl)) ay))⟩) rfl (by rfl) B.sorted qA (by rfl) B.range so (bJ (eF ik (by rfl) B.len Xd (ao (dv 1) ay)) ay)))))),Rc⟩
noncomputable abbrev C0:Stmt:=top 20
theorem eR:dz ["web", "ways", "last", "seen", "place", "number"] ["web", "ways"] (bW C0):=⟨rfl,rfl,rfl,by decide +kernel,rfl,by decide +kernel,by decide +kernel⟩
theorem Tn {f CY qV:Addr} {fd CZ qW:FuncData} (F:cI K "need_ways" "need_ways" C0 f fd) (B:BT mg) (bc:Fn P w K mg base 7 "need_web" ["web"] (aU qP 1) CY CZ) (aq:Fn P w K mg base 2 "is_within" ["thing", "least", "most"] (aU kJ 3) qV qW):aY P w K mg base cm 8 f fd ["web", "ways"] (aU qQ 2):=by
 refine F.f6 (k:=7) eR fun bo A outer s H E hr => ?_
 have nd:=eR.nd
 have hu:=hr.units
 exact⟨Ci,(aZ (lq (bT bc.ok (hr.mono (by decide)) (by rfl) bc.bL bc.kp bc.bd (ao (dv 0) ay))) (aZ (fP (om (oj (uG OL (by rfl) B.isinstance (by rfl) B.list mO (dv 1)))) (bw xr) fY) (aZ (bR (i:=2) nd rfl (by trivial) (bF rY (eF ik (by rfl) B.len Xd (bf (a5 a6 (dv 0) ax (fun _ _=>rfl)) ay)) ax)) (aZ (bR (i:=3) nd rfl (by trivial) Rf) (bw (jr Xh rfl (A4 (by rfl) B.enumerate (ao (dv 1) ay)) (rS rfl (kB (cF (i:=4) nd rfl (by trivial)) (kB (cF (i:=5) nd rfl (by trivial)) rR))) (aZ (fP (JW.jt (wH (om (oj (bT aq.ok (hr.mono (by decide)) (by rfl) aq.bL aq.kp aq.bd (ao (dv 5) (br ax (ao (dv 2) ay)))))) (wG (Ri hu (dv 5) (dv 3))))) (bw xr) fY) (bw (Rj hu (dv 3) (dv 5) lh))))))))),Rm⟩
noncomputable abbrev C1:Stmt:=top 21
theorem hW:dz ["firsts", "one", "other", "gone", "kept"] ["firsts", "one", "other"] (bW C1):=⟨rfl,rfl,rfl,by decide +kernel,rfl,by decide +kernel,by decide +kernel⟩
theorem To {f:Addr} {fd:FuncData} (F:cI K "joined" "joined" C1 f fd) (B:BT mg):aY P w K mg base cm 1 f fd ["firsts", "one", "other"] (aU oG 3):=by
 refine F.f6 (k:=0) hW fun bo A outer s H E hr => ?_
 have nd:=hW.nd
 have hu:=hr.units
 exact⟨BM,(aZ (bR (i:=3) nd rfl (by trivial) (eF (OF rfl) (by rfl) B.max OW (bf (a5 a6 (dv 0) (dv 1) (fun _ _=>rfl)) (bf (a5 a6 (dv 0) (dv 2) (fun _ _=>rfl)) ay)))) (aZ (bR (i:=4) nd rfl (by trivial) (eF (Bd rfl) (by rfl) B.min xn (bf (a5 a6 (dv 0) (dv 1) (fun _ _=>rfl)) (bf (a5 a6 (dv 0) (dv 2) (fun _ _=>rfl)) ay)))) (bw (cM (kE [none,some 4,some 3] ["first", "kept", "gone"] rfl (iC (dv 0)) (fun d=>(cF (i:=0) (show (["first", "kept", "gone"]:List Str).Nodup by decide +kernel) rfl (by trivial))) (fun d=>kD) (fun d=>(wI (dO (g6 hu) (dv 0) (dv 2) (by rfl)) (dv 1) (dv 0)))))))),Qg⟩
noncomputable abbrev C2:Stmt:=top 22
theorem eT:dz ["web", "ways", "firsts", "number", "way"] ["web", "ways"] (bW C2):=⟨rfl,rfl,rfl,by decide +kernel,rfl,by decide +kernel,by decide +kernel⟩
theorem Tp {f C3:Addr} {fd C4:FuncData} (F:cI K "firsts_of" "firsts_of" C2 f fd) (B:BT mg) (bH:Fn P w K mg base 1 "joined" ["firsts", "one", "other"] (aU oG 3) C3 C4):aY P w K mg base cm 2 f fd ["web", "ways"] (aU oJ 2):=by
 refine F.f6 (k:=1) eT fun bo A outer s H E hr => ?_
 have nd:=eT.nd
 have hu:=hr.units
 exact⟨xG,(aZ (bR (i:=2) nd rfl (by trivial) (xg rfl (by rfl) B.list mO (by rfl) B.range so (bf (a5 a6 (dv 0) ax (fun _ _=>rfl)) ay))) (aZ (jr Xh rfl (iC (dv 1)) (cF (i:=3) nd rfl (by trivial)) (aZ (bR (i:=4) nd rfl (by trivial) (a5 a6 (a5 a6 (dv 0) ax (fun _ _=>rfl)) (dv 3) (fun _ _=>rfl))) (bw (bR (i:=2) nd rfl (by trivial) (bT bH.ok (hr.mono (by decide)) (by rfl) bH.bL bH.kp bH.bd (ao (dv 2) (bf (a5 a6 (dv 4) ax (fun _ _=>rfl)) (bf (a5 a6 (dv 4) ax (fun _ _=>rfl)) ay)))))))) (bw (cM (dv 2))))),Qh⟩
noncomputable abbrev yk:Stmt:=top 25
theorem df:dz ["marks", "one", "other", "pair"] ["marks", "one", "other"] (bW yk):=⟨rfl,rfl,rfl,by decide +kernel,rfl,by decide +kernel,by decide +kernel⟩
theorem Tq {f:Addr} {fd:FuncData} {T:Addr} (F:cI K "joined_marks" "joined_marks" yk f fd) (B:BT mg) (LD:HL mg base fd T ⟨78,50,78,89⟩ ((("joined_marks" : Str) ++ ".<locals>.") ++ "<lambda>")):aY P w K mg base cm 4 f fd ["marks", "one", "other"] (aU vI 3):=by
 refine F.vt (k:=3) df fun bo A outer s H E hc hr => ?_
 have nd:=df.nd
 have hu:=hr.units
 exact⟨CB,(aZ (bR (i:=3) nd rfl (by trivial) (Q0 (g_.mk (x := "mark") (Nb:=["marks"]) (cp:=[some 0]) (T:=T) ⟨(let ⟨cc,e1,e2⟩:=LD.code; ⟨cc,hc.symm.trans e1,e2⟩),LD.ng,LD.blt⟩ LD.tbl rfl rfl (by first | rfl | kernel_rfl) rfl rfl (fun _ _ _ _ _=>rfl) ⟨0,hr.mono (by decide),fun d hr=>(mR (bJ ((jZ W_ PySem.F.slot_list_count PySem.F.type_list_count M4 (dv 1) (ao (dv 0) ay)).weak OQ) (ja (Oy (dv 0)) ay)))⟩) (by rfl) B.sorted qA (AH (oe (bf (a5 a6 (dv 0) (dv 1) (fun _ _=>rfl)) (bf (a5 a6 (dv 0) (dv 2) (fun _ _=>rfl)) ay))) ay))) (bw (cM (kE [none,some 3] ["mark", "pair"] rfl (iC (dv 0)) (fun d=>(cF (i:=0) (show (["mark", "pair"]:List Str).Nodup by decide +kernel) rfl (by trivial))) (fun d=>kD) (fun d=>(wI (dO (g6 hu) (dv 0) (a5 a6 (dv 1) ax (fun _ _=>rfl)) (by rfl)) (a5 a6 (dv 1) ax (fun _ _=>rfl)) (dv 0))))))),Sj⟩
noncomputable abbrev C5:Stmt:=top 26
theorem fG:dz ["web", "ways", "marks", "taken", "place", "number", "way", "later"] ["web", "ways"] (bW C5):=⟨rfl,rfl,rfl,by decide +kernel,rfl,by decide +kernel,by decide +kernel⟩
theorem Tr {f Tt Tu:Addr} {fd Tv Tw:FuncData} (F:cI K "marks_of" "marks_of" C5 f fd) (B:BT mg) (cA:Fn P w K mg base 8 "need_ways" ["web", "ways"] (aU qQ 2) Tt Tv) (bI:Fn P w K mg base 4 "joined_marks" ["marks", "one", "other"] (aU vI 3) Tu Tw):aY P w K mg base cm 9 f fd ["web", "ways"] (aU vK 2):=by
 refine F.f6 (k:=8) fG fun bo A outer s H E hr => ?_
 have nd:=fG.nd
 have hu:=hr.units
 exact⟨CF,(aZ (lq (bT cA.ok (hr.mono (by decide)) (by rfl) cA.bL cA.kp cA.bd (ao (dv 0) (ao (dv 1) ay)))) (aZ (bR (i:=2) nd rfl (by trivial) (xg rfl (by rfl) B.list mO (by rfl) B.range so (bf (a5 a6 (dv 0) ax (fun _ _=>rfl)) ay))) (aZ (bR (i:=3) nd rfl (by trivial) (bF m8 (oe (br ax ay)) (a5 a6 (dv 0) ax (fun _ _=>rfl)))) (aZ (jr Xh rfl (A4 (by rfl) B.enumerate (ao (dv 1) ay)) (rS rfl (kB (cF (i:=4) nd rfl (by trivial)) (kB (cF (i:=5) nd rfl (by trivial)) rR))) (aZ (bR (i:=6) nd rfl (by trivial) (a5 a6 (a5 a6 (dv 0) ax (fun _ _=>rfl)) (dv 5) (fun _ _=>rfl))) (aZ (fP (dO (g6 hu) (a5 a6 (dv 2) (a5 a6 (dv 6) ax (fun _ _=>rfl)) (fun _ _=>rfl)) (a5 a6 (dv 2) (a5 a6 (dv 6) ax (fun _ _=>rfl)) (fun _ _=>rfl)) (by rfl)) (bw xr) fY) (aZ (bR (i:=7) nd rfl (by trivial) (bT bI.ok (hr.mono (by decide)) (by rfl) bI.bL bI.kp bI.bd (ao (dv 2) (bf (a5 a6 (dv 6) ax (fun _ _=>rfl)) (bf (a5 a6 (dv 6) ax (fun _ _=>rfl)) ay))))) (aZ (bR (i:=3) nd rfl (by trivial) (kE [none,none,some 3,some 2] ["house", "mark", "taken", "marks"] rfl (A4 (by rfl) B.enumerate (ao (dv 7) ay)) (fun d=>(rS rfl (kB (cF (i:=0) (show (["house", "mark", "taken", "marks"]:List Str).Nodup by decide +kernel) rfl (by trivial)) (kB (cF (i:=1) (show (["house", "mark", "taken", "marks"]:List Str).Nodup by decide +kernel) rfl (by trivial)) rR)))) (fun d=>kD) (fun d=>(wI (dO (g6 hu) (a5 a6 (dv 3) (dv 0) (fun _ _=>rfl)) (dv 1) (by rfl)) (a5 a6 (dv 2) (dv 0) (fun _ _=>rfl)) (bF fS (a5 a6 (dv 2) (dv 0) (fun _ _=>rfl)) ax))))) (bw (bR (i:=2) nd rfl (by trivial) (dv 7)))))))) (bw (cM (mR (ao (dv 2) (ao (dv 3) ay))))))))),So⟩
noncomputable abbrev C6:Stmt:=top 28
theorem eU:dz ["web", "order", "forest", "firsts", "number", "way"] ["web"] (bW C6):=⟨rfl,rfl,rfl,by decide +kernel,rfl,by decide +kernel,by decide +kernel⟩
theorem Tx {f Tz TB C3:Addr} {fd TC TF C4:FuncData} (F:cI K "forest_of" "forest_of" C6 f fd) (B:BT mg) (cZ:Fn P w K mg base 11 "order_of" ["web"] (aU vy 1) Tz TC) (cB:Fn P w K mg base 2 "firsts_of" ["web", "ways"] (aU oJ 2) TB TF) (bH:Fn P w K mg base 1 "joined" ["firsts", "one", "other"] (aU oG 3) C3 C4):aY P w K mg base cm 12 f fd ["web"] (aU vD 1):=by
 refine F.f6 (k:=11) eU fun bo A outer s H E hr => ?_
 have nd:=eU.nd
 have hu:=hr.units
 exact⟨Cu,(aZ (bR (i:=1) nd rfl (by trivial) (bT cZ.ok (hr.mono (by decide)) (by rfl) cZ.bL cZ.kp cZ.bd (ao (dv 0) ay))) (aZ (bR (i:=2) nd rfl (by trivial) (qa ay)) (aZ (bR (i:=3) nd rfl (by trivial) (bT cB.ok (hr.mono (by decide)) (by rfl) cB.bL cB.kp cB.bd (ao (dv 0) (ao (dv 2) ay)))) (aZ (jr Xh rfl (iC (dv 1)) (cF (i:=4) nd rfl (by trivial)) (aZ (bR (i:=5) nd rfl (by trivial) (a5 a6 (a5 a6 (dv 0) ax (fun _ _=>rfl)) (dv 4) (fun _ _=>rfl))) (bw (fP (dO (uB hu) (a5 a6 (dv 3) (a5 a6 (dv 5) ax (fun _ _=>rfl)) (fun _ _=>rfl)) (a5 a6 (dv 3) (a5 a6 (dv 5) ax (fun _ _=>rfl)) (fun _ _=>rfl)) (by rfl)) (aZ (lq ((jZ W_ XN XO n6 (dv 2) (ao (dv 4) ay)).weak si)) (bw (bR (i:=3) nd rfl (by trivial) (bT bH.ok (hr.mono (by decide)) (by rfl) bH.bL bH.kp bH.bd (ao (dv 3) (bf (a5 a6 (dv 5) ax (fun _ _=>rfl)) (bf (a5 a6 (dv 5) ax (fun _ _=>rfl)) ay))))))) fY)))) (bw (cM (OY OZ (by rfl) B.sorted qA (ao (dv 2) ay)))))))),RT⟩
noncomputable abbrev C7:Stmt:=top 30
theorem dI:dz ["cell", "at", "primes", "one", "two", "three"] ["cell", "at"] (bW C7):=⟨rfl,rfl,rfl,by decide +kernel,rfl,by decide +kernel,by decide +kernel⟩
theorem TH {f:Addr} {fd:FuncData} (F:cI K "_law_spread" "_law_spread" C7 f fd) (B:BT mg):aY P w K mg base cm 1 f fd ["cell", "at"] (aU uY 2):=by
 refine F.f6 (k:=0) dI fun bo A outer s H E hr => ?_
 have nd:=dI.nd
 have hu:=hr.units
 exact⟨Bv,(aZ (fP (dO Ov (dv 0) (bF qq ax ax) (by rfl)) (bw (cM (dv 0))) fY) (aZ (bR (i:=2) nd rfl (by trivial) (oe (br ax (br ax (br ax (br ax (br ax (br ax (br ax (br ax ay)))))))))) (aZ (bR (i:=2) nd rfl (by trivial) (bF fS (dv 2) (oe (br ax (br ax (br ax (br ax (br ax ay)))))))) (aZ (bR (i:=3) nd rfl (by trivial) (bF kH (bF qq (bF fS (bF fS (bF m8 (bF kH (dv 0) ax) (bF fS (bF m8 ax (dv 1)) ax)) (bF m8 (dv 1) ax)) ax) ax) (a5 a6 (dv 2) (bF kH (dv 1) ax) (fun _ _=>rfl)))) (aZ (bR (i:=4) nd rfl (by trivial) (bF kH (bF qq (bF fS (bF fS (bF m8 (dv 3) (bF fS (dv 1) ax)) (bF kH (dv 0) ax)) ax) ax) (a5 a6 (dv 2) (bF kH (bF fS (dv 1) ax) ax) (fun _ _=>rfl)))) (aZ (bR (i:=5) nd rfl (by trivial) (bF kH (bF qq (bF fS (bF fS (dv 4) (bF kH (dv 3) ax)) (dv 1)) ax) (a5 a6 (dv 2) (bF kH (bF fS (dv 1) ax) ax) (fun _ _=>rfl)))) (bw (cM (bF fS (bF m8 (bF fS (bF m8 (dv 3) ax) (dv 4)) ax) (dv 5)))))))))),PM⟩
noncomputable abbrev C8:Stmt:=top 32
theorem eV:dz ["pen"] ["pen"] (bW C8):=⟨rfl,rfl,rfl,by decide +kernel,rfl,by decide +kernel,by decide +kernel⟩
theorem TJ {f:Addr} {fd:FuncData} (F:cI K "_law_anew" "_law_anew" C8 f fd) (B:BT mg):aY P w K mg base cm 1 f fd ["pen"] (aU u4 1):=by
 refine F.f6 (k:=0) eV fun bo A outer s H E hr => ?_
 have nd:=eV.nd
 have hu:=hr.units
 exact⟨Bw,(aZ ((rK ax (ua (dv 0) ax set_list)).weak xh) (bw (cM (dv 0)))),PN⟩
noncomputable abbrev C9:Stmt:=top 33
theorem eW:dz ["pen", "many", "at", "cell", "found"] ["pen", "many"] (bW C9):=⟨rfl,rfl,rfl,by decide +kernel,rfl,by decide +kernel,by decide +kernel⟩
theorem TK {f TL:Addr} {fd TM:FuncData} (F:cI K "_law_take" "_law_take" C9 f fd) (B:BT mg) (bO:Fn P w K mg base 1 "_law_spread" ["cell", "at"] (aU uY 2) TL TM):aY P w K mg base cm 2 f fd ["pen", "many"] (aU gz 2):=by
 refine F.f6 (k:=1) eW fun bo A outer s H E hr => ?_
 have nd:=eW.nd
 have hu:=hr.units
 exact⟨Bx,(aZ (fP (dO (wZ hu) (a5 a6 (dv 0) ax (fun _ _=>rfl)) (dv 1) (by rfl)) (aZ (bR (i:=2) nd rfl (by trivial) (a5 a6 (dv 0) ax (fun _ _=>rfl))) (aZ (bR (i:=3) nd rfl (by trivial) ax) (aZ (fP (dO (wZ hu) (dv 2) (eF ik (by rfl) B.len Xd (bf (a5 a6 (dv 0) ax (fun _ _=>rfl)) ay)) (by rfl)) (bw (bR (i:=3) nd rfl (by trivial) (a5 a6 (a5 a6 (dv 0) ax (fun _ _=>rfl)) (dv 2) (fun _ _=>rfl)))) (bw (fP (dO rZ (eF ik (by rfl) B.len Xd (bf (a5 a6 (dv 0) ax (fun _ _=>rfl)) ay)) ax (by rfl)) (bw (bR (i:=3) nd rfl (by trivial) (bF kH (a5 a6 (a5 a6 (dv 0) ax (fun _ _=>rfl)) (bF kH (bF fS (bF m8 (dv 2) ax) ax) (eF ik (by rfl) B.len Xd (bf (a5 a6 (dv 0) ax (fun _ _=>rfl)) ay))) (fun _ _=>rfl)) (bF fS (bF qq ax ax) (dv 2))))) fY))) (aZ ((rK (bF fS (dv 2) ax) (ua (dv 0) ax set_list)).weak xh) (bw ((rK (bT bO.ok (hr.mono (by decide)) (by rfl) bO.bL bO.kp bO.bd (ao (dv 3) (ao (dv 2) ay))) (ua (dv 0) ax set_list)).weak xh)))))) fY) (aZ (bR (i:=4) nd rfl (by trivial) (bF kH (a5 a6 (dv 0) ax (fun _ _=>rfl)) (dv 1))) (aZ ((rK (bF Ou (a5 a6 (dv 0) ax (fun _ _=>rfl)) (dv 1)) (ua (dv 0) ax set_list)).weak xh) (bw (cM (dv 4)))))),PQ⟩
noncomputable abbrev C_:Stmt:=top 34
theorem cK:dz ["pen", "kind", "many", "every", "other", "ring", "half"] ["pen", "kind", "many"] (bW C_):=⟨rfl,rfl,rfl,by decide +kernel,rfl,by decide +kernel,by decide +kernel⟩
theorem TN {f qX:Addr} {fd qY:FuncData} (F:cI K "_law_pairs_of" "_law_pairs_of" C_ f fd) (B:BT mg) (ae:Fn P w K mg base 2 "_law_take" ["pen", "many"] (aU gz 2) qX qY):aY P w K mg base cm 3 f fd ["pen", "kind", "many"] (aU u5 3):=by
 refine F.f6 (k:=2) cK fun bo A outer s H E hr => ?_
 have nd:=cK.nd
 have hu:=hr.units
 exact⟨By,(aZ (bR (i:=3) nd rfl (by trivial) (qa ay)) (aZ (jr Xh rfl (kG (by rfl) B.range (ao (dv 2) ay)) (cF (i:=4) nd rfl (by trivial)) (bw (lq ((jZ W_ PySem.F.slot_list_extend PySem.F.type_list_extend Mt (dv 3) (ja (kE [none,some 4] ["one", "other"] rfl (kG (by rfl) B.range (ao (dv 4) ay)) (fun d=>(cF (i:=0) (show (["one", "other"]:List Str).Nodup by decide +kernel) rfl (by trivial))) (fun d=>kD) (fun d=>(mR (ao (dv 0) (ao (dv 1) ay))))) ay)).weak OM)))) (aZ (fP (dO (g6 hu) (dv 1) ax (by rfl)) (bw (cM (wO [none,some 0] ["other", "pen"] rfl (Oq (by rfl) B.range (br ax (ao (dv 2) ay))) (fun d=>(cF (i:=0) (show (["other", "pen"]:List Str).Nodup by decide +kernel) rfl (by trivial))) (fun d=>kD) (fun d=>(mR (bJ (bT ae.ok (hr.mono (by decide)) (by rfl) ae.bL ae.kp ae.bd (ao (dv 1) (ao (dv 0) ay))) (ao (dv 0) ay))))))) fY) (aZ (fP (dO (g6 hu) (dv 1) ax (by rfl)) (aZ (AU [none] ["k"] (i:=5) nd rfl (by trivial) rfl (kG (by rfl) B.range (ja (bF rY (dv 2) ax) ay)) (fun d=>(cF (i:=0) (show (["k"]:List Str).Nodup by decide +kernel) rfl (by trivial))) (fun d=>kD) (fun d=>(mR (ao (dv 0) (ja (bF fS (dv 0) ax) ay))))) (bw (cM (O1 (dv 5) (kE [none,some 2] ["pair", "many"] rfl (iC (dv 3)) (fun d=>(cF (i:=0) (show (["pair", "many"]:List Str).Nodup by decide +kernel) rfl (by trivial))) (fun d=>(qh (JW.jt (AM (dO (g6 hu) (dv 0) (mR (br ax (ja (bF rY (dv 1) ax) ay))) (by rfl)) (AL (dO rZ (dv 1) ax (by rfl))))))) (fun d=>(dv 0))))))) fY) (aZ (fP (dO (g6 hu) (dv 1) ax (by rfl)) (bw (cM (dv 3))) fY) (aZ (fP (dO (g6 hu) (dv 1) ax (by rfl)) (bw (cM (wO [none,some 0] ["pair", "pen"] rfl (iC (dv 3)) (fun d=>(cF (i:=0) (show (["pair", "pen"]:List Str).Nodup by decide +kernel) rfl (by trivial))) (fun d=>(qh (dO (g6 hu) (bT ae.ok (hr.mono (by decide)) (by rfl) ae.bL ae.kp ae.bd (ao (dv 1) (br ax ay))) ax (by rfl)))) (fun d=>(dv 0))))) fY) (aZ (fP (dO (g6 hu) (dv 1) ax (by rfl)) (aZ (bR (i:=6) nd rfl (by trivial) (bT ae.ok (hr.mono (by decide)) (by rfl) ae.bL ae.kp ae.bd (ao (dv 0) (ja (bF fS (dv 2) ax) ay)))) (bw (cM (wO [none,some 6,some 0] ["pair", "half", "pen"] rfl (iC (dv 3)) (fun d=>(cF (i:=0) (show (["pair", "half", "pen"]:List Str).Nodup by decide +kernel) rfl (by trivial))) (fun d=>(qh (JW.jt (AM (dO (g6 hu) (uh (wZ hu) (a5 a6 (dv 0) ax (fun _ _=>rfl)) (dv 1) (by rfl)) (uh (wZ hu) (a5 a6 (dv 0) ax (fun _ _=>rfl)) (dv 1) (by rfl)) (by rfl)) (AL (dO rZ (bT ae.ok (hr.mono (by decide)) (by rfl) ae.bL ae.kp ae.bd (ao (dv 2) (br ax ay))) ax (by rfl))))))) (fun d=>(dv 0)))))) fY) (bw (cM (wO [none,some 0] ["pair", "pen"] rfl (iC (dv 3)) (fun d=>(cF (i:=0) (show (["pair", "pen"]:List Str).Nodup by decide +kernel) rfl (by trivial))) (fun d=>(qh (dO (g6 hu) (bT ae.ok (hr.mono (by decide)) (by rfl) ae.bL ae.kp ae.bd (ao (dv 1) (br ax ay))) ax (by rfl)))) (fun d=>(dv 0)))))))))))),PV⟩
noncomputable abbrev Dc:Stmt:=top 35
theorem fH:dz ["pen", "houses", "most", "kind", "prices", "many", "pairs", "ways", "k", "one", "other", "price"] ["pen", "houses", "most"] (bW Dc):=⟨rfl,rfl,rfl,by decide +kernel,rfl,by decide +kernel,by decide +kernel⟩
theorem TQ {f qX TR:Addr} {fd qY TU:FuncData} (F:cI K "_law_web" "_law_web" Dc f fd) (B:BT mg) (ae:Fn P w K mg base 2 "_law_take" ["pen", "many"] (aU gz 2) qX qY) (bB:Fn P w K mg base 3 "_law_pairs_of" ["pen", "kind", "many"] (aU u5 3) TR TU):aY P w K mg base cm 4 f fd ["pen", "houses", "most"] (aU u6 3):=by
 refine F.f6 (k:=3) fH fun bo A outer s H E hr => ?_
 have nd:=fH.nd
 have hu:=hr.units
 exact⟨BB,(aZ (bR (i:=3) nd rfl (by trivial) (bT ae.ok (hr.mono (by decide)) (by rfl) ae.bL ae.kp ae.bd (ao (dv 0) (br ax ay)))) (aZ (bR (i:=4) nd rfl (by trivial) (bT ae.ok (hr.mono (by decide)) (by rfl) ae.bL ae.kp ae.bd (ao (dv 0) (br ax ay)))) (aZ (bR (i:=5) nd rfl (by trivial) (bF fS ax (bT ae.ok (hr.mono (by decide)) (by rfl) ae.bL ae.kp ae.bd (ao (dv 0) (ao (dv 1) ay))))) (aZ (bR (i:=6) nd rfl (by trivial) (Gd bB.ok (hr.mono (by decide)) (by rfl) bB.bL bB.kp bB.bd (ao (dv 0) (ao (dv 3) (ao (dv 5) ay))))) (aZ (bR (i:=7) nd rfl (by trivial) (qa ay)) (aZ (jr Xh rfl (kG (by rfl) B.range (bJ (eF (Bd rfl) (by rfl) B.min xn (ao (dv 2) (bJ (eF ik (by rfl) B.len Xd (ao (dv 6) ay)) ay))) ay)) (cF (i:=8) nd rfl (by trivial)) (aZ (AN ((jZ W_ ZK ZL zK (dv 6) (bJ (bT ae.ok (hr.mono (by decide)) (by rfl) ae.bL ae.kp ae.bd (ao (dv 0) (bJ (eF ik (by rfl) B.len Xd (ao (dv 6) ay)) ay))) ay)).weak Be) (rS rfl (kB (cF (i:=9) nd rfl (by trivial)) (kB (cF (i:=10) nd rfl (by trivial)) rR)))) (aZ (bR (i:=11) nd rfl (by trivial) (a5 a6 (oe (br ax (bJ (bT ae.ok (hr.mono (by decide)) (by rfl) ae.bL ae.kp ae.bd (ao (dv 0) (br ax ay))) (ja (bF rY (bF qq ax ax) (bT ae.ok (hr.mono (by decide)) (by rfl) ae.bL ae.kp ae.bd (ao (dv 0) (br ax ay)))) (bJ (bT ae.ok (hr.mono (by decide)) (by rfl) ae.bL ae.kp ae.bd (ao (dv 0) (ja (bF fS (bF qq ax ax) ax) ay))) ay))))) (dv 4) (fun _ _=>rfl))) (bw (lq ((jZ W_ XN XO n6 (dv 7) (AI (mR (ao (dv 9) (ao (dv 10) (ao (dv 11) ay)))) ay)).weak si)))))) (bw (cM (mR (ao (dv 5) (bJ (AJ OC (by rfl) B.tuple Av (ao (dv 7) ay)) ay))))))))))),PX⟩
noncomputable abbrev De:Stmt:=top 36
theorem cL:dz ["web", "ways", "found", "number", "one", "other"] ["web", "ways"] (bW De):=⟨rfl,rfl,rfl,by decide +kernel,rfl,by decide +kernel,by decide +kernel⟩
theorem TV {f:Addr} {fd:FuncData} (F:cI K "_law_marks_by" "_law_marks_by" De f fd) (B:BT mg):aY P w K mg base cm 1 f fd ["web", "ways"] (aU vf 2):=by
 refine F.f6 (k:=0) cL fun bo A outer s H E hr => ?_
 have nd:=cL.nd
 have hu:=hr.units
 exact⟨xH,(aZ (bR (i:=2) nd rfl (by trivial) (xg rfl (by rfl) B.list mO (by rfl) B.range so (bf (a5 a6 (dv 0) ax (fun _ _=>rfl)) ay))) (aZ (jr Xh rfl (iC (dv 1)) (cF (i:=3) nd rfl (by trivial)) (aZ (AN (eF GG (by rfl) B.sorted qA (ja (kE [none,some 2] ["house", "found"] rfl (iC (xy (a5 a6 (a5 a6 (dv 0) ax (fun _ _=>rfl)) (dv 3) (fun _ _=>rfl)) xa (xb ax))) (fun d=>(cF (i:=0) (show (["house", "found"]:List Str).Nodup by decide +kernel) rfl (by trivial))) (fun d=>kD) (fun d=>(a5 a6 (dv 1) (dv 0) (fun _ _=>rfl)))) ay)) (rS rfl (kB (cF (i:=4) nd rfl (by trivial)) (kB (cF (i:=5) nd rfl (by trivial)) rR)))) (bw (bR (i:=2) nd rfl (by trivial) (kE [none,some 4,some 5] ["mark", "one", "other"] rfl (iC (dv 2)) (fun d=>(cF (i:=0) (show (["mark", "one", "other"]:List Str).Nodup by decide +kernel) rfl (by trivial))) (fun d=>kD) (fun d=>(wI (dO (g6 hu) (dv 0) (dv 2) (by rfl)) (dv 1) (dv 0)))))))) (bw (cM (dv 2))))),Qj⟩
noncomputable abbrev Df:Stmt:=top 37
theorem eX:dz ["web", "ways", "marks"] ["web", "ways"] (bW Df):=⟨rfl,rfl,rfl,by decide +kernel,rfl,by decide +kernel,by decide +kernel⟩
theorem TX {f TY:Addr} {fd TZ:FuncData} (F:cI K "_law_lots" "_law_lots" Df f fd) (B:BT mg) (bC:Fn P w K mg base 1 "_law_marks_by" ["web", "ways"] (aU vf 2) TY TZ):aY P w K mg base cm 2 f fd ["web", "ways"] (aU sy 2):=by
 refine F.f6 (k:=1) eX fun bo A outer s H E hr => ?_
 have nd:=eX.nd
 have hu:=hr.units
 exact⟨xI,(aZ (bR (i:=2) nd rfl (by trivial) (bT bC.ok (hr.mono (by decide)) (by rfl) bC.bL bC.kp bC.bd (ao (dv 0) (ao (dv 1) ay)))) (bw (cM (kE [none,some 0,some 2] ["first", "web", "marks"] rfl (iC (Pw rfl (by rfl) B.sorted qA (by rfl) B.set FH (ao (dv 2) ay))) (fun d=>(cF (i:=0) (show (["first", "web", "marks"]:List Str).Nodup by decide +kernel) rfl (by trivial))) (fun d=>kD) (fun d=>(kE [none,some 0,some 2] ["house", "first", "marks"] rfl (kG (by rfl) B.range (bf (a5 a6 (dv 1) ax (fun _ _=>rfl)) ay)) (fun d=>(cF (i:=0) (show (["house", "first", "marks"]:List Str).Nodup by decide +kernel) rfl (by trivial))) (fun d=>(qh (dO (g6 hu) (a5 a6 (dv 2) (dv 0) (fun _ _=>rfl)) (dv 1) (by rfl)))) (fun d=>(dv 0)))))))),Qk⟩
noncomputable abbrev Dg:Stmt:=top 38
theorem cC:dz ["pen", "web", "most", "left", "found", "k"] ["pen", "web", "most"] (bW Dg):=⟨rfl,rfl,rfl,by decide +kernel,rfl,by decide +kernel,by decide +kernel⟩
theorem T1 {f qX:Addr} {fd qY:FuncData} (F:cI K "_law_some_ways" "_law_some_ways" Dg f fd) (B:BT mg) (ae:Fn P w K mg base 2 "_law_take" ["pen", "many"] (aU gz 2) qX qY):aY P w K mg base cm 3 f fd ["pen", "web", "most"] (aU vh 3):=by
 refine F.f6 (k:=2) cC fun bo A outer s H E hr => ?_
 have nd:=cC.nd
 have hu:=hr.units
 exact⟨BO,(aZ (bR (i:=3) nd rfl (by trivial) (O0 rfl (by rfl) B.list mO (by rfl) B.range so (bJ (eF ik (by rfl) B.len Xd (bf (a5 a6 (dv 1) ax (fun _ _=>rfl)) ay)) ay))) (aZ (bR (i:=4) nd rfl (by trivial) (qa ay)) (aZ (jr Xh rfl (kG (by rfl) B.range (bJ (eF (Bd rfl) (by rfl) B.min xn (bJ (eF ik (by rfl) B.len Xd (ao (dv 3) ay)) (bJ (bT ae.ok (hr.mono (by decide)) (by rfl) ae.bL ae.kp ae.bd (ao (dv 0) (ja (bF fS (dv 2) ax) ay))) ay))) ay)) (cF (i:=5) nd rfl (by trivial)) (bw (lq ((jZ W_ XN XO n6 (dv 4) (bJ ((jZ W_ ZK ZL zK (dv 3) (bJ (bT ae.ok (hr.mono (by decide)) (by rfl) ae.bL ae.kp ae.bd (ao (dv 0) (bJ (eF ik (by rfl) B.len Xd (ao (dv 3) ay)) ay))) ay)).weak Be) ay)).weak si)))) (bw (cM (dv 4)))))),Qm⟩
noncomputable abbrev Dh:Stmt:=top 23
theorem gr:dz ["web", "ways", "lots", "house", "first"] ["web", "ways"] (bW Dh):=⟨rfl,rfl,rfl,by decide +kernel,rfl,by decide +kernel,by decide +kernel⟩
theorem T2 {f fN fF:Addr} {fd T3 T4:FuncData} (F:cI K "lots_of" "lots_of" Dh f fd) (B:BT mg) (GN:Fn P w K mg base 8 "need_ways" ["web", "ways"] (aU qQ 2) fN T3) (GF:Fn P w K mg base 2 "firsts_of" ["web", "ways"] (aU oJ 2) fF T4):aY P w K mg base cm 9 f fd ["web", "ways"] (aU oT 2):=by
 refine F.wz gr (fun vs H Q E h=>h.1) (fun bo A outer s H vs Q E hr h => ?_)
 obtain⟨hl,F0,ad,ys,ar,K',S0,⟨m,ws,ns,W,hn,hd,Cm,rfl,rfl,hK⟩,kk⟩:=h
 have nd:=gr.nd
 have hu:=hr.units
 refine⟨_,pZ (lq (bT GN.ok (hr.mono (by decide)) (by rfl) GN.bL GN.kp GN.bd (ao (dv 0) (ao (dv 1) ay))))
  (pZ (wu (i:=2) nd rfl (Or.inl rfl) iP)
  (pZ (Ap Xh rfl (FC (by rfl) B.enumerate (iQ (wy GF.ok (hr.mono (by decide)) (by rfl) GF.bL GF.kp GF.bd .nil wj (jq (jv 0) (jq (jv 1) bp))) bp)) (Ao rfl (t_ (t9 (i:=3) nd rfl (Or.inl rfl)) (t_ (t9 (i:=4) nd rfl (Or.inl rfl)) ic)))
   (t8 (Fx (jZ W_ XN XO n6 (jZ PySem.F.plainAttrs_dict Z2 PySem.F.type_dict_setdefault NY (jv 2) (jq (jv 4) (ue (wx bp) bp))) (jq (jv 3) bp)))))
  (t8 (An (lZ (N0 rfl) (by rfl) B.list mO (iQ (NI PySem.F.plainAttrs_dict q0u PySem.F.type_dict_values NZ (jv 2)) bp)))))),?_⟩
 exact RI (Kf:=K) hl W hn hd Cm hK S0 (fun r ows h v F' H' P _=>kk r ows h v F' H' P) fun _ _ h=>h
noncomputable abbrev Di:Stmt:=top 39
theorem dZ:dz ["pen", "web", "found", "number"] ["pen", "web"] (bW Di):=⟨rfl,rfl,rfl,by decide +kernel,rfl,by decide +kernel,by decide +kernel⟩
theorem T5 {f T6 T7:Addr} {fd T8 T9:FuncData} (F:cI K "_law_joins" "_law_joins" Di f fd) (B:BT mg) (bu:Fn P w K mg base 3 "_law_some_ways" ["pen", "web", "most"] (aU vh 3) T6 T8) (a_:Fn P w K mg base 2 "_law_lots" ["web", "ways"] (aU sy 2) T7 T9):aY P w K mg base cm 4 f fd ["pen", "web"] (aU vL 2):=by
 refine F.f6 (k:=3) dZ fun bo A outer s H E hr => ?_
 have nd:=dZ.nd
 have hu:=hr.units
 exact⟨CG,(aZ (bR (i:=2) nd rfl (by trivial) (qa ay)) (aZ (jr Xh rfl (iC (bT bu.ok (hr.mono (by decide)) (by rfl) bu.bL bu.kp bu.bd (ao (dv 0) (ao (dv 1) (br ax ay))))) (cF (i:=3) nd rfl (by trivial)) (bw (fP (dO (uB hu) (bT a_.ok (hr.mono (by decide)) (by rfl) a_.bL a_.kp a_.bd (ao (dv 1) (ao (dv 2) ay))) (bT a_.ok (hr.mono (by decide)) (by rfl) a_.bL a_.kp a_.bd (ao (dv 1) (ja (bF fS (dv 2) (oe (ao (dv 3) ay))) ay))) (by rfl)) (bw (lq ((jZ W_ XN XO n6 (dv 2) (ao (dv 3) ay)).weak si))) fY))) (bw (cM (dv 2))))),Sr⟩
noncomputable abbrev Dj:Stmt:=top 40
theorem d4:dz ["web", "ways", "marks", "often", "lots", "house", "lot", "size", "turn", "total", "k", "sizes", "end"] ["web", "ways"] (bW Dj):=⟨rfl,rfl,rfl,by decide +kernel,rfl,by decide +kernel,by decide +kernel⟩
theorem T_ {f Ua Dk:Addr} {fd Ub Dl:FuncData} (F:cI K "_law_right" "_law_right" Dj f fd) (B:BT mg) (c5:Fn P w K mg base 9 "marks_of" ["web", "ways"] (aU vK 2) Ua Ub) (aE:Fn P w K mg base 9 "lots_of" ["web", "ways"] (aU oT 2) Dk Dl):aY P w K mg base cm 10 f fd ["web", "ways"] (aU vM 2):=by
 refine F.f6 (k:=9) d4 fun bo A outer s H E hr => ?_
 have nd:=d4.nd
 have hu:=hr.units
 exact⟨CH,(aZ (AN (bT c5.ok (hr.mono (by decide)) (by rfl) c5.bL c5.kp c5.bd (ao (dv 0) (bJ (AJ GC (by rfl) B.list mO (ao (dv 1) ay)) ay))) (rS rfl (kB (cF (i:=2) nd rfl (by trivial)) (kB (cF (i:=3) nd rfl (by trivial)) rR)))) (aZ (bR (i:=4) nd rfl (by trivial) (qa ay)) (aZ (jr Xh rfl (kG (by rfl) B.range (bf (a5 a6 (dv 0) ax (fun _ _=>rfl)) ay)) (cF (i:=5) nd rfl (by trivial)) (aZ (AU [none,some 2,some 5] ["other", "marks", "house"] (i:=6) nd rfl (by trivial) rfl (kG (by rfl) B.range (bf (a5 a6 (dv 0) ax (fun _ _=>rfl)) ay)) (fun d=>(cF (i:=0) (show (["other", "marks", "house"]:List Str).Nodup by decide +kernel) rfl (by trivial))) (fun d=>(qh (dO (g6 hu) (a5 a6 (dv 1) (dv 0) (fun _ _=>rfl)) (a5 a6 (dv 1) (dv 2) (fun _ _=>rfl)) (by rfl)))) (fun d=>(dv 0))) (aZ (fP (dO (Gu hu) (dv 6) (dv 4) (by rfl)) (bw (lq ((jZ W_ XN XO n6 (dv 4) (ao (dv 6) ay)).weak si))) fY) (aZ (fP (JW.jt (wH (dO (Gu hu) (a5 a6 (dv 2) (dv 5) (fun _ _=>rfl)) (dv 6) (by rfl)) (wG (dO (uB hu) (a5 a6 (dv 2) (a5 a6 (dv 2) (dv 5) (fun _ _=>rfl)) (fun _ _=>rfl)) (a5 a6 (dv 2) (dv 5) (fun _ _=>rfl)) (by rfl))))) (bw (cM lh)) fY) (aZ (bR (i:=7) nd rfl (by trivial) ax) (aZ (jr Xh rfl (kG (by rfl) B.range (bf (a5 a6 (dv 3) (dv 5) (fun _ _=>rfl)) ay)) (cF (i:=8) nd rfl (by trivial)) (bw (bR (i:=7) nd rfl (by trivial) (bF m8 ax (dv 7))))) (bw (fP (JW.jt (wH (dO rZ (dv 7) (eF ik (by rfl) B.len Xd (ao (dv 6) ay)) (by rfl)) (wG (JW.jt (AM (dO rZ (a5 a6 (dv 3) (a5 a6 (dv 2) (dv 5) (fun _ _=>rfl)) (fun _ _=>rfl)) ax (by rfl)) (AL (dO (g6 hu) (dv 6) (oe (bf (a5 a6 (dv 2) (dv 5) (fun _ _=>rfl)) ay)) (by rfl)))))))) (bw (cM lh)) fY)))))))) (aZ (fP (dO (uB hu) (eF (Ru hu) (by rfl) B.sorted qA (ao (dv 4) ay)) (bT aE.ok (hr.mono (by decide)) (by rfl) aE.bL aE.kp aE.bd (ao (dv 0) (bJ (AJ GC (by rfl) B.list mO (ao (dv 1) ay)) ay))) (by rfl)) (bw (cM lh)) fY) (aZ (bR (i:=9) nd rfl (by trivial) ax) (aZ (jr Xh rfl (kG (by rfl) B.range (bJ (eF ik (by rfl) B.len Xd (ao (dv 1) ay)) ay)) (cF (i:=10) nd rfl (by trivial)) (aZ (bR (i:=11) nd rfl (by trivial) (qa ay)) (aZ (jr Xh rfl (iC (xy (a5 a6 (a5 a6 (dv 0) ax (fun _ _=>rfl)) (a5 a6 (dv 1) (dv 10) (fun _ _=>rfl)) (fun _ _=>rfl)) xa (xb ax))) (cF (i:=12) nd rfl (by trivial)) (bw (lq ((jZ W_ XN XO n6 (dv 11) (bf (a5 a6 (kE [none,some 12] ["lot", "end"] rfl (iC (bT aE.ok (hr.mono (by decide)) (by rfl) aE.bL aE.kp aE.bd (ao (dv 0) (bf (xy (dv 1) xa (xb (dv 10))) ay)))) (fun d=>(cF (i:=0) (show (["lot", "end"]:List Str).Nodup by decide +kernel) rfl (by trivial))) (fun d=>(qh (dO (Ox hu) (dv 1) (dv 0) (by rfl)))) (fun d=>(eF ik (by rfl) B.len Xd (ao (dv 0) ay)))) ax (fun _ _=>rfl)) ay)).weak si)))) (bw (bR (i:=9) nd rfl (by trivial) (bF fS (dv 9) (eF (Sh rfl) (by rfl) B.min xn (ao (dv 11) ay)))))))) (bw (cM (uh (g6 hu) (eF (OD rfl) (by rfl) B.sum OU (ao (dv 3) ay)) (dv 9) (by rfl)))))))))),SA⟩
noncomputable abbrev Dm:Stmt:=top 31
theorem lM:dz ["script", "cells", "k", "cell"] ["script"] (bW Dm):=⟨rfl,rfl,rfl,by decide +kernel,rfl,by decide +kernel,by decide +kernel⟩
theorem Uc {f:Addr} {fd:FuncData} (F:cI K "_law_open" "_law_open" Dm f fd) (h1:mg "list" = none) (h2:mg "enumerate" = none):aY P w K mg base cm 1 f fd ["script"] (BP K):=by
 refine F.wz lM (fun vs H Q E h => ?_) (fun bo A outer s H vs Q E hr h => ?_)
 ·obtain⟨a,ns,rfl,_⟩:=h
  rfl
 ·obtain⟨a,ns,rfl,hS,hlen,fin⟩:=h
  have nd:=lM.nd
  refine⟨_,pZ (wu (i:=1) nd rfl (Or.inl rfl) (lZ zI (by rfl) h1 PyProof.Rows.boot_list (p8 (Aq h_ (jv 0) EI (wc dB.out)) bp)))
   (pZ (Ap Xh rfl (FC (by rfl) h2 (p8 (Aq h_ (jv 0) (wc dB.out) (wc dB.out)) bp)) (Ao rfl (t_ (t9 (i:=2) nd rfl (Or.inl rfl)) (t_ (t9 (i:=3) nd rfl (Or.inl rfl)) ic)))
    (t8 (rK (ub En (Fy EM (jv 1) (ub zp (jv 2) dB) (fun _ _=>rfl)) (jv 3)) (ua (jv 1) (ub zp (jv 2) dB) set_list))))
   (t8 (An (wx (p8 (jv 1) (p8 dB (p8 dB bp))))))),?_⟩
  refine⟨_,rfl,_,rfl,a,_,rfl,hS,fun l1 n1=>⟨l1,_,rfl,.inl (bj.of bK),fun c nc => ?_⟩⟩
  have s1:aA H (upd (upd H l1 (.lst (dA (ns.map V.int) none (some 12)))) c (.lst (dA (ns.map V.int) none (some 12)))):=(l7 n1).trans (l7 nc)
  refine⟨_,rfl,_,rfl,_,rfl,a,_,rfl,s1.seq hS,fun l2 n2=>⟨l2,rfl,⟨_,bj.of bK⟩,?_⟩⟩
  have Ud:H c=none:=(l7 n1).free nc
  have Ue:=n2
  have hcc:∃ ms:List Int,ms.length=min 12 ns.length/\dA (ns.map V.int) none (some 12)=ms.map V.int:=by
   refine⟨_,?_,BQ ns none (some 12)⟩
   rw[WQ,Yp]
   have e1:HT.ba ns.length 0 none=0:=HT.EE _ _
   have e2:HT.ba ns.length ns.length (some 12)=min 12 ns.length:=HT.wa ns.length ns.length 12
   rw[e1,e2];omega
  have oF:(dA (ns.map V.int) (some 12) (some 63)).length=ns.length - 12:=by
   rw[BQ,pU,WQ,Yp]
   have e1:HT.ba ns.length 0 (some 12)=min 12 ns.length:=HT.wa ns.length 0 12
   have e2:HT.ba ns.length ns.length (some 63)=min 63 ns.length:=HT.wa ns.length ns.length 63
   rw[e1,e2];omega
  have IL:∀ i x,(dA (ns.map V.int) (some 12) (some 63))[i]? = some x->∃ n:Int,x=V.int n:=fun i x e=>by
   rw[BQ,E7] at e
   cases q:((ns.drop (HT.ba ns.length 0 (some 12))).take (HT.ba ns.length ns.length (some 63) - HT.ba ns.length 0 (some 12)))[i]? with
   | none=>rw[q] at e;cases e
   | some n=>rw[q] at e;exact⟨n,(WW e).symm⟩
  generalize dA (ns.map V.int) (some 12) (some 63)=rest at oF IL n2 ⊢
  obtain⟨ms,Ug,Uh⟩:=hcc
  refine Fo (K:=K) (a:=l2) (xs:=rest) (fun i σ H2=>∃ (ks:List Int) (v1 v2:Option V),σ = [some (.ref a),some (.ref c),v1,v2]/\H2 c=some (.lst (ks.map V.int))/\ks.length=min 12 ns.length/\H2 l2=some (.lst rest)/\aA H H2)
   ⟨ms,none,none,rfl,?_,Ug,bK,?_⟩ (fun i σ H2 _ ⟨_,_,_,_,_,_,q,_⟩=>bj.of q) ?_ ?_
  ·rw[aQ (dq bK n2),bK,Uh]
  ·exact s1.trans (l7 n2)
  ·rintro i x T σ H2 hi ⟨ks,v1,v2,rfl,hc,hk,tQ,sm⟩ hT
   obtain⟨n,rfl⟩:=IL i x hi
   have qj:i < rest.length:=(pV.mp hi).1
   have Ui:ks.length=12:=by omega
   have cT:c≠T:=dq hc hT
   have kr:upd H2 T (.tup [.int i,.int n]) c=some (.lst (ks.map V.int)):=by rw[aQ cT];exact hc
   have j0:0 <= ((i:Int)) % 12:=Yc _ (by decide)
   have j1:((i:Int)) % 12 < 12:=XG _ (by decide)
   obtain⟨m,em⟩:=Qn (ns:=ks) j0 (by omega)
   have ix:jU (ks.map V.int).length ((i:Int) % 12)=some ((i:Int) % 12).toNat:=by
    unfold jU
    rw[VY j0,VY (by rw[pU];omega)]
   refine⟨T,_,rfl,bV.of bK,rfl,_,_,rfl,_,_,rfl,rfl,?_⟩
   refine⟨_,rfl,_,rfl,_,_,rfl,rfl,(show (0:Int) < 12 by decide),_,_,_,_,rfl,rfl,bj.of kr,em,_,rfl,_,_,rfl,rfl,_,rfl,_,rfl,_,_,rfl,rfl,(show (0:Int) < 12 by decide),_,_,_,_,rfl,rfl,kr,ix,?_⟩
   refine⟨ks.set ((i:Int) % 12).toNat (m + n),_,_,rfl,?_,by rw[Yn];exact hk,?_,?_⟩
   ·rw[bK,List.map_set]
   ·have Uj:l2≠c:=by
     intro z
     subst z
     exact absurd Ue (by rw[bK];intro y;cases y)
    rw[aQ Uj,aQ (dq tQ hT)];exact tQ
   ·intro b o e
    rw[aQ (dq e Ud)]
    exact l7 hT b o (sm b o e)
  ·rintro σ H2 ⟨ks,v1,v2,rfl,hc,hk,tQ,sm⟩
   refine⟨_,rfl,(by show 3 <= sizeLine;decide),fun p np => ?_⟩
   have Uk:H p=none:=sm.free np
   exact fin p c _ (sm.trans (l7 np)) Uk ⟨bK,⟨ks,by rw[aQ (dq hc np)];exact hc,by omega⟩,Int.le_refl 0⟩
noncomputable abbrev vO:Stmt:=top 41
theorem lN:dz ["script", "pen", "turn", "web", "forest", "drawn", "ways"] ["script"] (bW vO):=⟨rfl,rfl,rfl,by decide +kernel,rfl,by decide +kernel,by decide +kernel⟩
theorem Ul {f qZ Um Uo Uq qX Dk Ur Us:Addr} {fd nJ Ut Uu Uv qY Dl Uw Ux:FuncData} (F:cI K "law" "law" vO f fd) (B:BT mg) (GO:Fn P w K mg base 1 "_law_open" ["script"] (BP K) qZ nJ) (c6:Fn P w K mg base 4 "_law_web" ["pen", "houses", "most"] (aU u6 3) Um Ut) (cD:Fn P w K mg base 1 "_law_anew" ["pen"] (aU u4 1) Uo Uu) (cE:Fn P w K mg base 12 "forest_of" ["web"] (aU vD 1) Uq Uv) (ae:Fn P w K mg base 2 "_law_take" ["pen", "many"] (aU gz 2) qX qY) (aE:Fn P w K mg base 9 "lots_of" ["web", "ways"] (aU oT 2) Dk Dl) (b7:Fn P w K mg base 4 "_law_joins" ["pen", "web"] (aU vL 2) Ur Uw) (b8:Fn P w K mg base 10 "_law_right" ["web", "ways"] (aU vM 2) Us Ux):aY P w K mg base cm 19 f fd ["script"] (xM K):=by
 refine F.wz (k:=18) lN (fun vs H Q E h => ?_) (fun bo A outer s H vs Q E hr h => ?_)
 ·obtain⟨a,ns,rfl,_⟩:=h
  rfl
 obtain⟨a,ns,rfl,hS,hlen,hT,fin⟩:=h
 have nd:=lN.nd
 have hu:=hr.units
 have rest:gK (gJ cm P w K mg base ["script", "pen", "turn", "web", "forest", "drawn", "ways"] "law" (bW vO) f bo A outer s H E).mx ((jX vO).drop 1) (fO CJ):=(aZ (jr Xh rfl (kG (by rfl) B.range (br ax ay)) (cF (i:=2) nd rfl (by trivial)) (aZ (bR (i:=3) nd rfl (by trivial) (bT c6.ok (hr.mono (by decide)) (by rfl) c6.bL c6.kp c6.bd (bJ (bT cD.ok (hr.mono (by decide)) (by rfl) cD.bL cD.kp cD.bd (ao (dv 1) ay)) (br ax (br ax ay))))) (aZ (bR (i:=4) nd rfl (by trivial) (Gd cE.ok (hr.mono (by decide)) (by rfl) cE.bL cE.kp cE.bd (ao (dv 3) ay))) (aZ (AU [none,some 4,some 1] ["k", "forest", "pen"] (i:=5) nd rfl (by trivial) rfl (kG (by rfl) B.range (bJ (eF ik (by rfl) B.len Xd (ao (dv 4) ay)) ay)) (fun d=>(cF (i:=0) (show (["k", "forest", "pen"]:List Str).Nodup by decide +kernel) rfl (by trivial))) (fun d=>kD) (fun d=>((jZ W_ ZK ZL zK (dv 1) (bJ (bT ae.ok (hr.mono (by decide)) (by rfl) ae.bL ae.kp ae.bd (ao (dv 2) (bJ (eF ik (by rfl) B.len Xd (ao (dv 1) ay)) ay))) ay)).weak Be))) (aZ (fP (dO (uB hu) (bT aE.ok (hr.mono (by decide)) (by rfl) aE.bL aE.kp aE.bd (ao (dv 3) (ao (dv 5) ay))) (bT aE.ok (hr.mono (by decide)) (by rfl) aE.bL aE.kp aE.bd (ao (dv 3) (bJ (xg rfl (by rfl) B.list mO (by rfl) B.range so (bJ (eF ik (by rfl) B.len Xd (bf (a5 a6 (dv 3) ax (fun _ _=>rfl)) ay)) ay)) ay))) (by rfl)) (bw (cM lh)) fY) (bw (jr Xh rfl (iC (oe (bJ (bT b7.ok (hr.mono (by decide)) (by rfl) b7.bL b7.kp b7.bd (ao (dv 1) (ao (dv 3) ay))) (ao (dv 5) (bJ (eF GG (by rfl) B.sorted qA (ao (dv 5) ay)) ay))))) (cF (i:=6) nd rfl (by trivial)) (bw (fP (om (oj (bT b8.ok (hr.mono (by decide)) (by rfl) b8.bL b8.kp b8.bd (ao (dv 3) (ao (dv 6) ay))))) (bw (cM lh)) fY))))))))) (bw (cM lh)))
 refine⟨_,pZ (wu (i:=1) nd rfl (by trivial) (wy GO.ok (hr.mono (by decide)) (by rfl) GO.bL GO.kp GO.bd .nil wj (jq (jv 0) bp))) rest,?_⟩
 refine⟨_,rfl,a,ns,rfl,hS,hlen,fun p c H1 sm hp N1 => ?_⟩
 obtain⟨F',ms,hm,S⟩:=Qo (a:=a) (n:=5) (aJ.same hT sm) N1
 exact Qp S (SM ms hm) fin
end
noncomputable def jB:List oP:=[⟨173,⟨78,50,78,89⟩,(("joined_marks" : Str) ++ ".<locals>.") ++ "<lambda>"⟩,⟨140,⟨48,40,48,76⟩,(("order_of" : Str) ++ ".<locals>.") ++ "<lambda>"⟩]
theorem IM:∀ a∈jB,∀ b∈jB,a.T=b.T->a=b:=by
 unfold jB
 intro a ha b hb h
 simp only[MA,WV,YC] at ha hb
 rcases ha with rfl | rfl<;>rcases hb with rfl | rfl<;>first | rfl | exact absurd h (by decide)
theorem nK {us:List Value} (h:us.length=1):∃ a,us=[a]:=List.length_eq_one_iff.mp h
theorem jP {us:List Value} (h:us.length=2):∃ a b,us=[a,b]:=by
 cases us with
 | nil=>cases h
 | cons a r=>obtain⟨b,e⟩:=nK (YZ h);exact⟨a,b,by rw[e]⟩
theorem q9 {us:List Value} (h:us.length=3):∃ a b c,us=[a,b,c]:=by
 cases us with
 | nil=>cases h
 | cons a r=>obtain⟨b,c,e⟩:=jP (YZ h);exact⟨a,b,c,by rw[e]⟩
structure eY (K:PySem.W.Frag) (x:Str) (st:Stmt) (f:Addr) (fd:FuncData):Prop where
 a:PySem.W.nsIn K mainGlobals x=some (some (.ref f))
 F:cI K x x st f fd
 k:PySem.W.keepIn K (.ref f)=true
theorem defAt {K:PySem.W.Frag} {x:Str} {st:Stmt} {f:Addr} {od an:Option Addr} {sl:Array (Option Value)} {oc kV dc pm cd ct:Value} (a:PySem.W.nsIn K mainGlobals x=some (some (.ref f))) (l:K.lookup f=some ⟨oc,od,.func (PySem.W.fnOf x x (n8 st) (jX st) (bW st) .none kV dc pm an cd ct),sl⟩) (q:PySem.W.codeIn K cd x=true) (k:PySem.W.keepIn K (.ref f)=true) :
  eY K x st f (PySem.W.fnOf x x (n8 st) (jX st) (bW st) .none kV dc pm an cd ct):=⟨a,MD l q k,k⟩
structure vP (K:PySem.W.Frag) (x:Str) (st:Stmt) (f:Addr) (fd:FuncData) (T:Addr):Prop extends eY K x st f fd where
 cd:∃ cc,fd.code = .ref cc/\PySem.W.codeHdIn K cc T=true
theorem ym {K:PySem.W.Frag} {x:Str} {st:Stmt} {f T cc:Addr} {od an:Option Addr} {sl:Array (Option Value)} {oc kV dc pm ct:Value} (a:PySem.W.nsIn K mainGlobals x=some (some (.ref f))) (l:K.lookup f=some ⟨oc,od,.func (PySem.W.fnOf x x (n8 st) (jX st) (bW st) .none kV dc pm an (.ref cc) ct),sl⟩) (q:PySem.W.codeIn K (.ref cc) x=true) (k:PySem.W.keepIn K (.ref f)=true) (h:PySem.W.codeHdIn K cc T=true) :
  vP K x st f (PySem.W.fnOf x x (n8 st) (jX st) (bW st) .none kV dc pm an (.ref cc) ct) T:=⟨defAt a l q k,cc,rfl,h⟩
theorem Uy {l:PySem.W.OpenLaw} {w:World} {K:PySem.W.Frag} {h:Heap} {mg:Str->Option Value} {fa IP IQ IS IT IU IV IW IX IY yn IZ I0 I_ Ja yo Jb Jc Jd Je Jf Jg Jh Ji Jj Jk Jl Jm Jn Dp:Addr} (X:K.In h) (G:h.Ns mainGlobals mg) (Uz:mg "law" = some (.ref fa))
  {UA UB UC UD UE UG UH UI UJ Dq UK UL UM UN Dr UO UP UQ UR US UT UU UW UX UY UZ U0 U1 vQ:FuncData}
  {Jo:Value}
  {Jp:Value}
  {Jq:Value}
  (Dis_whole:eY K "is_whole" CL IP UA)
  (Dis_within:eY K "is_within" CM IQ UB)
  (Dis_tuple_of:eY K "is_tuple_of" CN IS UC)
  (Dare_ends:eY K "are_ends" CO IT UD)
  (Dis_way:eY K "is_way" CP IU UE)
  (Dare_ways:eY K "are_ways" CT IV UG)
  (Dis_web:eY K "is_web" CU IW UH)
  (Dneed_web:eY K "need_web" CV IX UI)
  (Drank_of:eY K "rank_of" CW IY UJ)
  (Dorder_of:vP K "order_of" yj yn Dq 140)
  (Dneed_ways:eY K "need_ways" C0 IZ UK)
  (Djoined:eY K "joined" C1 I0 UL)
  (Dfirsts_of:eY K "firsts_of" C2 I_ UM)
  (Dlots_of:eY K "lots_of" Dh Ja UN)
  (Djoined_marks:vP K "joined_marks" yk yo Dr 173)
  (Dmarks_of:eY K "marks_of" C5 Jb UO)
  (Dforest_of:eY K "forest_of" C6 Jc UP)
  (D_law_spread:eY K "_law_spread" C7 Jd UQ)
  (D_law_open:eY K "_law_open" Dm Je UR)
  (D_law_anew:eY K "_law_anew" C8 Jf US)
  (D_law_take:eY K "_law_take" C9 Jg UT)
  (D_law_pairs_of:eY K "_law_pairs_of" C_ Jh UU)
  (D_law_web:eY K "_law_web" Dc Ji UW)
  (D_law_marks_by:eY K "_law_marks_by" De Jj UX)
  (D_law_lots:eY K "_law_lots" Df Jk UY)
  (D_law_some_ways:eY K "_law_some_ways" Dg Jl UZ)
  (D_law_joins:eY K "_law_joins" Di Jm U0)
  (D_law_right:eY K "_law_right" Dj Jn U1)
  (Dlaw:eY K "law" vO Dp vQ)
  (q2S:PySem.W.nsIn K mainGlobals "MOST_HOUSES" = some (some Jo)) (q2F:RelV (.int 12) Jo)
  (q4G:PySem.W.nsIn K mainGlobals "MOST_WAYS" = some (some Jp)) (q4r:RelV (.int 30) Jp)
  (q3C:PySem.W.nsIn K mainGlobals "MOST_PRICE" = some (some Jq)) (q3p:RelV (.int 1000000000) Jq)
  (zlen:PySem.W.nsIn K mainGlobals "len" = some none)
  (zrange:PySem.W.nsIn K mainGlobals "range" = some none)
  (zlist:PySem.W.nsIn K mainGlobals "list" = some none)
  (ztuple:PySem.W.nsIn K mainGlobals "tuple" = some none)
  (zset:PySem.W.nsIn K mainGlobals "set" = some none)
  (zsorted:PySem.W.nsIn K mainGlobals "sorted" = some none)
  (zmin:PySem.W.nsIn K mainGlobals "min" = some none)
  (zmax:PySem.W.nsIn K mainGlobals "max" = some none)
  (zsum:PySem.W.nsIn K mainGlobals "sum" = some none)
  (zall:PySem.W.nsIn K mainGlobals "all" = some none)
  (zany:PySem.W.nsIn K mainGlobals "any" = some none)
  (zenumerate:PySem.W.nsIn K mainGlobals "enumerate" = some none)
  (zzip:PySem.W.nsIn K mainGlobals "zip" = some none)
  (zisinstance:PySem.W.nsIn K mainGlobals "isinstance" = some none)
  (zint:PySem.W.nsIn K mainGlobals "int" = some none)
  (zbool:PySem.W.nsIn K mainGlobals "bool" = some none)
  (zstr:PySem.W.nsIn K mainGlobals "str" = some none)
  : ∃ fd:FuncData,(∀ (s:Shared) (v:Value),BindsTo s fd ⟨[v],[]⟩ [("script",v)])/\∀ base:Heap,K.In base->base.Ns mainGlobals mg->(∀ t∈jB,base.BuiltinsAt mg t.T)->aY l.prog w K mg base cm 19 fa fd ["script"] (@xM (qO jB) K):=by
 have e:=Uz.symm.trans (WM X G Dlaw.a)
 cases e
 letI:aJ:=qO jB
 have B:BT mg:=⟨WZ X G zlen,WZ X G zrange,WZ X G zlist,WZ X G ztuple,WZ X G zset,WZ X G zsorted,WZ X G zmin,WZ X G zmax,WZ X G zsum,WZ X G zall,WZ X G zany,WZ X G zenumerate,WZ X G zzip,WZ X G zisinstance,WZ X G zint,WZ X G zbool,WZ X G zstr⟩
 have U2:=Dis_whole.F.binds (ps:=["thing"]) fun _ _ _ _ _ _ us hl=>by obtain⟨_,rfl⟩:=nK hl;rfl
 have U3:=Dis_within.F.binds (ps:=["thing", "least", "most"]) fun _ _ _ _ _ _ us hl=>by obtain⟨_,_,_,rfl⟩:=q9 hl;rfl
 have U4:=Dis_tuple_of.F.binds (ps:=["thing", "size"]) fun _ _ _ _ _ _ us hl=>by obtain⟨_,_,rfl⟩:=jP hl;rfl
 have U5:=Dare_ends.F.binds (ps:=["many", "one", "other"]) fun _ _ _ _ _ _ us hl=>by obtain⟨_,_,_,rfl⟩:=q9 hl;rfl
 have U6:=Dis_way.F.binds (ps:=["many", "thing"]) fun _ _ _ _ _ _ us hl=>by obtain⟨_,_,rfl⟩:=jP hl;rfl
 have U7:=Dare_ways.F.binds (ps:=["many", "thing"]) fun _ _ _ _ _ _ us hl=>by obtain⟨_,_,rfl⟩:=jP hl;rfl
 have U8:=Dis_web.F.binds (ps:=["thing"]) fun _ _ _ _ _ _ us hl=>by obtain⟨_,rfl⟩:=nK hl;rfl
 have U9:=Dneed_web.F.binds (ps:=["web"]) fun _ _ _ _ _ _ us hl=>by obtain⟨_,rfl⟩:=nK hl;rfl
 have U_:=Drank_of.F.binds (ps:=["way"]) fun _ _ _ _ _ _ us hl=>by obtain⟨_,rfl⟩:=nK hl;rfl
 have Va:=Dorder_of.F.binds (ps:=["web"]) fun _ _ _ _ _ _ us hl=>by obtain⟨_,rfl⟩:=nK hl;rfl
 have Vb:=Dneed_ways.F.binds (ps:=["web", "ways"]) fun _ _ _ _ _ _ us hl=>by obtain⟨_,_,rfl⟩:=jP hl;rfl
 have Vc:=Djoined.F.binds (ps:=["firsts", "one", "other"]) fun _ _ _ _ _ _ us hl=>by obtain⟨_,_,_,rfl⟩:=q9 hl;rfl
 have Vd:=Dfirsts_of.F.binds (ps:=["web", "ways"]) fun _ _ _ _ _ _ us hl=>by obtain⟨_,_,rfl⟩:=jP hl;rfl
 have Ve:=Dlots_of.F.binds (ps:=["web", "ways"]) fun _ _ _ _ _ _ us hl=>by obtain⟨_,_,rfl⟩:=jP hl;rfl
 have Vf:=Djoined_marks.F.binds (ps:=["marks", "one", "other"]) fun _ _ _ _ _ _ us hl=>by obtain⟨_,_,_,rfl⟩:=q9 hl;rfl
 have Vg:=Dmarks_of.F.binds (ps:=["web", "ways"]) fun _ _ _ _ _ _ us hl=>by obtain⟨_,_,rfl⟩:=jP hl;rfl
 have Vh:=Dforest_of.F.binds (ps:=["web"]) fun _ _ _ _ _ _ us hl=>by obtain⟨_,rfl⟩:=nK hl;rfl
 have Vi:=D_law_spread.F.binds (ps:=["cell", "at"]) fun _ _ _ _ _ _ us hl=>by obtain⟨_,_,rfl⟩:=jP hl;rfl
 have Vj:=D_law_open.F.binds (ps:=["script"]) fun _ _ _ _ _ _ us hl=>by obtain⟨_,rfl⟩:=nK hl;rfl
 have Vk:=D_law_anew.F.binds (ps:=["pen"]) fun _ _ _ _ _ _ us hl=>by obtain⟨_,rfl⟩:=nK hl;rfl
 have Vl:=D_law_take.F.binds (ps:=["pen", "many"]) fun _ _ _ _ _ _ us hl=>by obtain⟨_,_,rfl⟩:=jP hl;rfl
 have Vm:=D_law_pairs_of.F.binds (ps:=["pen", "kind", "many"]) fun _ _ _ _ _ _ us hl=>by obtain⟨_,_,_,rfl⟩:=q9 hl;rfl
 have Vn:=D_law_web.F.binds (ps:=["pen", "houses", "most"]) fun _ _ _ _ _ _ us hl=>by obtain⟨_,_,_,rfl⟩:=q9 hl;rfl
 have Vo:=D_law_marks_by.F.binds (ps:=["web", "ways"]) fun _ _ _ _ _ _ us hl=>by obtain⟨_,_,rfl⟩:=jP hl;rfl
 have Vp:=D_law_lots.F.binds (ps:=["web", "ways"]) fun _ _ _ _ _ _ us hl=>by obtain⟨_,_,rfl⟩:=jP hl;rfl
 have Vq:=D_law_some_ways.F.binds (ps:=["pen", "web", "most"]) fun _ _ _ _ _ _ us hl=>by obtain⟨_,_,_,rfl⟩:=q9 hl;rfl
 have Vr:=D_law_joins.F.binds (ps:=["pen", "web"]) fun _ _ _ _ _ _ us hl=>by obtain⟨_,_,rfl⟩:=jP hl;rfl
 have Vs:=D_law_right.F.binds (ps:=["web", "ways"]) fun _ _ _ _ _ _ us hl=>by obtain⟨_,_,rfl⟩:=jP hl;rfl
 refine⟨vQ,fun s v=>by obtain⟨_,_,_,_,_,_,_,_,_,rfl,_⟩:=Dlaw.F.ex;exact .of_eq rfl,fun base KB _ hB => ?_⟩
 have Vt:Fn l.prog w K mg base 1 "is_whole" ["thing"] (aU u7 1) IP _:=⟨SO Dis_whole.F B,WM X G Dis_whole.a,Dis_whole.k,U2⟩
 have yp:Fn l.prog w K mg base 2 "is_within" ["thing", "least", "most"] (aU kJ 3) IQ _:=⟨SQ Dis_within.F B Vt,WM X G Dis_within.a,Dis_within.k,U3⟩
 have Jr:Fn l.prog w K mg base 1 "is_tuple_of" ["thing", "size"] (aU qH 2) IS _:=⟨SV Dis_tuple_of.F B,WM X G Dis_tuple_of.a,Dis_tuple_of.k,U4⟩
 have Vu:Fn l.prog w K mg base 3 "are_ends" ["many", "one", "other"] (aU va 3) IT _:=⟨SW Dare_ends.F B yp,WM X G Dare_ends.a,Dare_ends.k,U5⟩
 have Vv:Fn l.prog w K mg base 4 "is_way" ["many", "thing"] (aU vb 2) IU _:=⟨SX Dis_way.F B ⟨q3p,WM X G q3C⟩ Jr Vu yp,WM X G Dis_way.a,Dis_way.k,U6⟩
 have Vw:Fn l.prog w K mg base 5 "are_ways" ["many", "thing"] (aU vc 2) IV _:=⟨S8 Dare_ways.F B ⟨q4r,WM X G q4G⟩ Vv,WM X G Dare_ways.a,Dare_ways.k,U7⟩
 have Vx:Fn l.prog w K mg base 6 "is_web" ["thing"] (aU ve 1) IW _:=⟨Ta Dis_web.F B ⟨q2F,WM X G q2S⟩ Jr yp Vw,WM X G Dis_web.a,Dis_web.k,U8⟩
 have Js:Fn l.prog w K mg base 7 "need_web" ["web"] (aU qP 1) IX _:=⟨Td Dneed_web.F B Vx,WM X G Dneed_web.a,Dneed_web.k,U9⟩
 have Vy:Fn l.prog w K mg base 1 "rank_of" ["way"] (aU vx 1) IY _:=⟨Tg Drank_of.F B,WM X G Drank_of.a,Drank_of.k,U_⟩
 have Vz:Fn l.prog w K mg base 11 "order_of" ["web"] (aU vy 1) yn _:=⟨Th Dorder_of.F B (⟨(let ⟨cc,e1,e2⟩:=Dorder_of.cd; ⟨cc,e1,Zd KB e2⟩),by decide,hB ⟨140,⟨48,40,48,76⟩,(("order_of" : Str) ++ ".<locals>.") ++ "<lambda>"⟩ (by unfold jB;simp),HJ (ls:=jB) (l:=⟨140,⟨48,40,48,76⟩,(("order_of" : Str) ++ ".<locals>.") ++ "<lambda>"⟩) (by unfold jB;simp) IM⟩) Js Vy,WM X G Dorder_of.a,Dorder_of.k,Va⟩
 have Jt:Fn l.prog w K mg base 8 "need_ways" ["web", "ways"] (aU qQ 2) IZ _:=⟨Tn Dneed_ways.F B Js yp,WM X G Dneed_ways.a,Dneed_ways.k,Vb⟩
 have Ju:Fn l.prog w K mg base 1 "joined" ["firsts", "one", "other"] (aU oG 3) I0 _:=⟨To Djoined.F B,WM X G Djoined.a,Djoined.k,Vc⟩
 have Jv:Fn l.prog w K mg base 2 "firsts_of" ["web", "ways"] (aU oJ 2) I_ _:=⟨Tp Dfirsts_of.F B Ju,WM X G Dfirsts_of.a,Dfirsts_of.k,Vd⟩
 have Jw:Fn l.prog w K mg base 9 "lots_of" ["web", "ways"] (aU oT 2) Ja _:=⟨T2 Dlots_of.F B Jt Jv,WM X G Dlots_of.a,Dlots_of.k,Ve⟩
 have VA:Fn l.prog w K mg base 4 "joined_marks" ["marks", "one", "other"] (aU vI 3) yo _:=⟨Tq Djoined_marks.F B (⟨(let ⟨cc,e1,e2⟩:=Djoined_marks.cd; ⟨cc,e1,Zd KB e2⟩),by decide,hB ⟨173,⟨78,50,78,89⟩,(("joined_marks" : Str) ++ ".<locals>.") ++ "<lambda>"⟩ (by unfold jB;simp),HJ (ls:=jB) (l:=⟨173,⟨78,50,78,89⟩,(("joined_marks" : Str) ++ ".<locals>.") ++ "<lambda>"⟩) (by unfold jB;simp) IM⟩),WM X G Djoined_marks.a,Djoined_marks.k,Vf⟩
 have VB:Fn l.prog w K mg base 9 "marks_of" ["web", "ways"] (aU vK 2) Jb _:=⟨Tr Dmarks_of.F B Jt VA,WM X G Dmarks_of.a,Dmarks_of.k,Vg⟩
 have VC:Fn l.prog w K mg base 12 "forest_of" ["web"] (aU vD 1) Jc _:=⟨Tx Dforest_of.F B Vz Jv Ju,WM X G Dforest_of.a,Dforest_of.k,Vh⟩
 have VD:Fn l.prog w K mg base 1 "_law_spread" ["cell", "at"] (aU uY 2) Jd _:=⟨TH D_law_spread.F B,WM X G D_law_spread.a,D_law_spread.k,Vi⟩
 have VE:Fn l.prog w K mg base 1 "_law_open" ["script"] (BP K) Je _:=⟨Uc D_law_open.F B.list B.enumerate,WM X G D_law_open.a,D_law_open.k,Vj⟩
 have VF:Fn l.prog w K mg base 1 "_law_anew" ["pen"] (aU u4 1) Jf _:=⟨TJ D_law_anew.F B,WM X G D_law_anew.a,D_law_anew.k,Vk⟩
 have yq:Fn l.prog w K mg base 2 "_law_take" ["pen", "many"] (aU gz 2) Jg _:=⟨TK D_law_take.F B VD,WM X G D_law_take.a,D_law_take.k,Vl⟩
 have VG:Fn l.prog w K mg base 3 "_law_pairs_of" ["pen", "kind", "many"] (aU u5 3) Jh _:=⟨TN D_law_pairs_of.F B yq,WM X G D_law_pairs_of.a,D_law_pairs_of.k,Vm⟩
 have VH:Fn l.prog w K mg base 4 "_law_web" ["pen", "houses", "most"] (aU u6 3) Ji _:=⟨TQ D_law_web.F B yq VG,WM X G D_law_web.a,D_law_web.k,Vn⟩
 have VI:Fn l.prog w K mg base 1 "_law_marks_by" ["web", "ways"] (aU vf 2) Jj _:=⟨TV D_law_marks_by.F B,WM X G D_law_marks_by.a,D_law_marks_by.k,Vo⟩
 have VJ:Fn l.prog w K mg base 2 "_law_lots" ["web", "ways"] (aU sy 2) Jk _:=⟨TX D_law_lots.F B VI,WM X G D_law_lots.a,D_law_lots.k,Vp⟩
 have VL:Fn l.prog w K mg base 3 "_law_some_ways" ["pen", "web", "most"] (aU vh 3) Jl _:=⟨T1 D_law_some_ways.F B yq,WM X G D_law_some_ways.a,D_law_some_ways.k,Vq⟩
 have VM:Fn l.prog w K mg base 4 "_law_joins" ["pen", "web"] (aU vL 2) Jm _:=⟨T5 D_law_joins.F B VL VJ,WM X G D_law_joins.a,D_law_joins.k,Vr⟩
 have VN:Fn l.prog w K mg base 10 "_law_right" ["web", "ways"] (aU vM 2) Jn _:=⟨T_ D_law_right.F B VB Jw,WM X G D_law_right.a,D_law_right.k,Vs⟩
 exact Ul Dlaw.F B VE VH VF VC yq Jw VM VN
theorem VO {K:PySem.W.Frag} {h:Heap} {yo yn:Addr} {Dr Dq:FuncData} (X:K.In h) (Djoined_marks:vP K "joined_marks" yk yo Dr 173) (Dorder_of:vP K "order_of" yj yn Dq 140):∀ t∈jB,∃ cc,PySem.W.CodeHd h cc t.T:=by
 unfold jB
 intro t ht
 simp only[MA,WV,YC] at ht
 rcases ht with rfl | rfl
 ·exact let ⟨cc,_,e2⟩:=Djoined_marks.cd; ⟨cc,Zd X e2⟩
 ·exact let ⟨cc,_,e2⟩:=Dorder_of.cd; ⟨cc,Zd X e2⟩
end LJ
open PySem PySem.W PyProof.Rows
theorem PySem.W.Fast.tw2496480084082843113:True:=trivial
theorem PySem.W.Fast.tw10188283904866123445:True:=trivial
theorem PySem.W.Fast.tw14408228152133121860:True:=trivial
theorem PySem.W.Fast.tw467338113832375276:True:=trivial
theorem PySem.W.Fast.tw1715662505401166194:True:=trivial
theorem PySem.W.Fast.tw14064032897217057747:True:=trivial
theorem PySem.W.Fast.tw8730147950914835120:True:=trivial
theorem PySem.W.Fast.tw7186012092625058715:True:=trivial
theorem PySem.W.Fast.tw8643715500408274695:True:=trivial
set_option maxRecDepth 100000 in
set_option maxHeartbeats 0 in
theorem PySem.Challenge.cw_lotjoin_k42_whole_marks_and_lots_holds : PySem.Challenge.rw_lotjoin_k42_whole_marks_and_lots.Holds := by
 w_on;o_law;k_head; (case hw=>w_witness2)
 k_fill
 refine LJ.Q6 (l:=PySem.Challenge.rw_lotjoin_k42_whole_marks_and_lots) (kk:=19) LJ.jB rfl rfl rfl ⟨rfl,by decide,by decide⟩ ?C (fun P=>by kernel_rfl) ?F
 case C =>
  intro w h KX
  refine' LJ.VO KX ?Djoined_marks ?Dorder_of
  (case Djoined_marks=>(refine' LJ.ym ?wc0 ?xc0 ?yc0 ?zc0 ?vc0; (case wc0=>k_is); (case xc0=>k_is); (case yc0=>k_is); (case zc0=>k_is); (case vc0=>kernel_rfl)))
  (case Dorder_of=>(refine' LJ.ym ?wc1 ?xc1 ?yc1 ?zc1 ?vc1; (case wc1=>k_is); (case xc1=>k_is); (case yc1=>k_is); (case zc1=>k_is); (case vc1=>kernel_rfl)))
 case F =>
  intro w mg fa h KX G mL
  refine' LJ.Uy KX G mL ?Dis_whole ?Dis_within ?Dis_tuple_of ?Dare_ends ?Dis_way ?Dare_ways ?Dis_web ?Dneed_web ?Drank_of ?Dorder_of ?Dneed_ways ?Djoined ?Dfirsts_of ?Dlots_of ?Djoined_marks ?Dmarks_of ?Dforest_of ?D_law_spread ?D_law_open ?D_law_anew ?D_law_take ?D_law_pairs_of ?D_law_web ?D_law_marks_by ?D_law_lots ?D_law_some_ways ?D_law_joins ?D_law_right ?Dlaw ?q2S ?q2F ?q4G ?q4r ?q3C ?q3p ?zlen ?zrange ?zlist ?ztuple ?zset ?zsorted ?zmin ?zmax ?zsum ?zall ?zany ?zenumerate ?zzip ?zisinstance ?zint ?zbool ?zstr
  (case Dis_whole=>(refine' LJ.defAt ?w0 ?x0 ?y0 ?z0; (case w0=>k_is); (case x0=>k_is); (case y0=>k_is); (case z0=>k_is)))
  (case Dis_within=>(refine' LJ.defAt ?w1 ?x1 ?y1 ?z1; (case w1=>k_is); (case x1=>k_is); (case y1=>k_is); (case z1=>k_is)))
  (case Dis_tuple_of=>(refine' LJ.defAt ?w2 ?x2 ?y2 ?z2; (case w2=>k_is); (case x2=>k_is); (case y2=>k_is); (case z2=>k_is)))
  (case Dare_ends=>(refine' LJ.defAt ?w3 ?x3 ?y3 ?z3; (case w3=>k_is); (case x3=>k_is); (case y3=>k_is); (case z3=>k_is)))
  (case Dis_way=>(refine' LJ.defAt ?w4 ?x4 ?y4 ?z4; (case w4=>k_is); (case x4=>k_is); (case y4=>k_is); (case z4=>k_is)))
  (case Dare_ways=>(refine' LJ.defAt ?w5 ?x5 ?y5 ?z5; (case w5=>k_is); (case x5=>k_is); (case y5=>k_is); (case z5=>k_is)))
  (case Dis_web=>(refine' LJ.defAt ?w6 ?x6 ?y6 ?z6; (case w6=>k_is); (case x6=>k_is); (case y6=>k_is); (case z6=>k_is)))
  (case Dneed_web=>(refine' LJ.defAt ?w7 ?x7 ?y7 ?z7; (case w7=>k_is); (case x7=>k_is); (case y7=>k_is); (case z7=>k_is)))
  (case Drank_of=>(refine' LJ.defAt ?w8 ?x8 ?y8 ?z8; (case w8=>k_is); (case x8=>k_is); (case y8=>k_is); (case z8=>k_is)))
  (case Dneed_ways=>(refine' LJ.defAt ?w9 ?x9 ?y9 ?z9; (case w9=>k_is); (case x9=>k_is); (case y9=>k_is); (case z9=>k_is)))
  (case Djoined=>(refine' LJ.defAt ?w10 ?x10 ?y10 ?z10; (case w10=>k_is); (case x10=>k_is); (case y10=>k_is); (case z10=>k_is)))
  (case Dfirsts_of=>(refine' LJ.defAt ?w11 ?x11 ?y11 ?z11; (case w11=>k_is); (case x11=>k_is); (case y11=>k_is); (case z11=>k_is)))
  (case Dlots_of=>(refine' LJ.defAt ?w12 ?x12 ?y12 ?z12; (case w12=>k_is); (case x12=>k_is); (case y12=>k_is); (case z12=>k_is)))
  (case Dmarks_of=>(refine' LJ.defAt ?w13 ?x13 ?y13 ?z13; (case w13=>k_is); (case x13=>k_is); (case y13=>k_is); (case z13=>k_is)))
  (case Dforest_of=>(refine' LJ.defAt ?w14 ?x14 ?y14 ?z14; (case w14=>k_is); (case x14=>k_is); (case y14=>k_is); (case z14=>k_is)))
  (case D_law_spread=>(refine' LJ.defAt ?w15 ?x15 ?y15 ?z15; (case w15=>k_is); (case x15=>k_is); (case y15=>k_is); (case z15=>k_is)))
  (case D_law_open=>(refine' LJ.defAt ?w16 ?x16 ?y16 ?z16; (case w16=>k_is); (case x16=>k_is); (case y16=>k_is); (case z16=>k_is)))
  (case D_law_anew=>(refine' LJ.defAt ?w17 ?x17 ?y17 ?z17; (case w17=>k_is); (case x17=>k_is); (case y17=>k_is); (case z17=>k_is)))
  (case D_law_take=>(refine' LJ.defAt ?w18 ?x18 ?y18 ?z18; (case w18=>k_is); (case x18=>k_is); (case y18=>k_is); (case z18=>k_is)))
  (case D_law_pairs_of=>(refine' LJ.defAt ?w19 ?x19 ?y19 ?z19; (case w19=>k_is); (case x19=>k_is); (case y19=>k_is); (case z19=>k_is)))
  (case D_law_web=>(refine' LJ.defAt ?w20 ?x20 ?y20 ?z20; (case w20=>k_is); (case x20=>k_is); (case y20=>k_is); (case z20=>k_is)))
  (case D_law_marks_by=>(refine' LJ.defAt ?w21 ?x21 ?y21 ?z21; (case w21=>k_is); (case x21=>k_is); (case y21=>k_is); (case z21=>k_is)))
  (case D_law_lots=>(refine' LJ.defAt ?w22 ?x22 ?y22 ?z22; (case w22=>k_is); (case x22=>k_is); (case y22=>k_is); (case z22=>k_is)))
  (case D_law_some_ways=>(refine' LJ.defAt ?w23 ?x23 ?y23 ?z23; (case w23=>k_is); (case x23=>k_is); (case y23=>k_is); (case z23=>k_is)))
  (case D_law_joins=>(refine' LJ.defAt ?w24 ?x24 ?y24 ?z24; (case w24=>k_is); (case x24=>k_is); (case y24=>k_is); (case z24=>k_is)))
  (case D_law_right=>(refine' LJ.defAt ?w25 ?x25 ?y25 ?z25; (case w25=>k_is); (case x25=>k_is); (case y25=>k_is); (case z25=>k_is)))
  (case Dlaw=>(refine' LJ.defAt ?w26 ?x26 ?y26 ?z26; (case w26=>k_is); (case x26=>k_is); (case y26=>k_is); (case z26=>k_is)))
  (case Dorder_of=>(refine' LJ.ym ?wm0 ?xm0 ?ym0 ?zm0 ?vm0; (case wm0=>k_is); (case xm0=>k_is); (case ym0=>k_is); (case zm0=>k_is); (case vm0=>kernel_rfl)))
  (case Djoined_marks=>(refine' LJ.ym ?wm1 ?xm1 ?ym1 ?zm1 ?vm1; (case wm1=>k_is); (case xm1=>k_is); (case ym1=>k_is); (case zm1=>k_is); (case vm1=>kernel_rfl)))
  (case q2S | q4G | q3C | zlen | zrange | zlist | ztuple | zset | zsorted | zmin | zmax | zsum | zall | zany | zenumerate | zzip | zisinstance | zint | zbool | zstr=>k_is)
  (case q2F=>exact⟨_,rfl⟩)
  (case q4r=>exact⟨_,rfl⟩)
  (case q3p=>exact⟨_,rfl⟩)
