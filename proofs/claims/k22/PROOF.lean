import PyProof.Rows.All
import Wide.All
import OpenK.AllK
import Wide.FinOn
import Lean
import PyProof.Rows.SetFrom
import PyProof.TupleKey
import PyProof.SetRoads
import PySem.SetOps
import PyProof.EqAt
import PyProof.EqKinds
import PyProof.TupleCall
import KE.KDictList
import KE.KDictLaws
import PyProof.NeKinds
import PyProof.Draws
import KE.KSortTup
import KE.KLam
import PyProof.ListRange
import PyProof.TupleOfSeq
import KE.KNestM
import KE.KMinKey
import PyProof.MinMaxWalk
import PySem.Challenge.RW_lotjoin_k22_whole_rounds_and_lots
set_option Elab.async false
set_option linter.all false
set_option maxRecDepth 100000
local macro_rules | `(tactic| trivial) => `(tactic| first | exact Or.inl rfl | exact Or.inr rfl)
abbrev l8:=@PySem.wpAny_bind
abbrev pb:=@List.getElem?_eq_getElem
abbrev pd:=@List.length_map
abbrev pe:=@List.getElem?_eq_some_iff
abbrev qU:=@Nat.le_refl
abbrev sW:=@PySem.Heap.get?_push_of_some
abbrev vW:=@PySem.wpAny_pure
abbrev vX:=@List.mem_cons_self
abbrev zJ:=@List.size_toArray
abbrev EZ:=@List.length_append
abbrev E5:=@List.getD_eq_getElem?_getD
abbrev E6:=@List.mem_cons_of_mem
abbrev E7:=@Array.length_toList
abbrev My:=@List.length_cons
abbrev MJ:=@List.getElem?_map
abbrev MK:=@PySem.Heap.lt_size
abbrev ML:=@List.mem_cons
abbrev MM:=@PySem.Heap.get?_push_size
abbrev MN:=@Array.getElem?_eq_getElem
abbrev VZ:=@List.mem_append_right
abbrev V0:=@if_neg
abbrev V6:=@List.mem_map
abbrev V7:=@Option.map_eq_some_iff
abbrev V8:=@if_pos
abbrev V9:=@List.getElem?_append_left
abbrev Ww:=@Nat.ne_of_lt
abbrev Wx:=@List.getElem?_append_right
abbrev Wz:=@decide_eq_true
abbrev WB:=@List.mem_iff_getElem?
abbrev WC:=@Bool.false_eq_true
abbrev WD:=@Nat.lt_of_lt_of_le
abbrev WH:=@Bool.false_ne_true
abbrev WJ:=@Array.getElem?_toList
abbrev WK:=@decide_eq_false
abbrev WL:=@List.mem_range
abbrev WM:=@List.length_singleton
abbrev WN:=@PySem.W.mg_of
abbrev WQ:=@Int.toNat_natCast
abbrev WR:=@List.map_append
abbrev WU:=@List.map_map
abbrev WV:=@List.lookup_cons
abbrev WW:=@List.map_cons
abbrev WX:=@List.mem_append
abbrev WY:=@Option.some.inj
abbrev WZ:=@List.mem_singleton
abbrev W0:=@PySem.W.mg_none_of
abbrev W5:=@List.length_take
abbrev W6:=@PySem.wpAny_holding
abbrev W7:=@PySem.Heap.SameBut.update
abbrev W8:=@decide_eq_true_eq
abbrev W9:=@List.mem_filter
abbrev W_:=@List.not_mem_nil
abbrev Xa:=@List.mem_iff_getElem
abbrev Xb:=@List.mem_of_getElem?
abbrev Xc:=@List.map_congr_left
abbrev Xd:=@Nat.zero_add
abbrev Xe:=@PySem.Around.under_plainId
abbrev Xf:=@List.mem_append_left
abbrev Xg:=@List.getElem?_take_of_lt
abbrev Xh:=@Nat.lt_succ_of_lt
abbrev Xi:=@List.nodup_append
abbrev Xj:=@PySem.boot_len
abbrev Xk:=@PySem.Heap.get?_update_self
abbrev Xl:=@Nat.zero_le
abbrev Xm:=@List.take_of_length_le
abbrev Xn:=@PySem.wpAny_newObj_type
abbrev Xo:=@Nat.sub_self
abbrev Xp:=@Array.getD_eq_getD_getElem?
abbrev Xq:=@PyProof.Rows.slot_tuple_getitem
abbrev Xr:=@List.getElem?_range
abbrev Xs:=@PySem.codeAny_builtin
abbrev Xt:=@Nat.lt_succ_self
abbrev Xu:=@Bool.and_eq_true
abbrev Xv:=@List.length_range
abbrev Xw:=@List.flatten_cons
abbrev Xx:=@if_false
abbrev Xy:=@List.getElem?_set_ne
abbrev Xz:=@Int.emod_lt_of_pos
abbrev XA:=@List.set_cons_zero
abbrev XB:=@List.set_cons_succ
abbrev XC:=@List.pairwise_cons
abbrev XD:=@PySem.F.called_set
abbrev XE:=@PySem.Heap.get?_update_other
abbrev XF:=@List.getElem?_set_self
abbrev XG:=@PySem.mem_of_lookup
abbrev XH:=@List.replicate_succ
abbrev XI:=@List.getElem?_eq_none
abbrev XJ:=@List.append_assoc
abbrev XM:=@List.pairwise_map
abbrev XN:=@PySem.wpAny_setState_of
abbrev XO:=@Nat.le_trans
abbrev XQ:=@Array.getElem?_eq_some_iff
abbrev XR:=@List.nodup_nil
abbrev XS:=@List.append_nil
abbrev XT:=@PySem.W.kia_one
abbrev XU:=@PySem.PassesOwn.never
abbrev XW:=@List.all_eq_true
abbrev XX:=@Array.getElem?_eq_none
abbrev XY:=@Nat.le_of_lt
abbrev XZ:=@List.exists_cons_of_length_eq_add_one
abbrev X0:=@of_decide_eq_true
abbrev X1:=@PySem.sizeLine_eq
abbrev X7:=@LawfulBEq.eq_of_beq
abbrev X8:=@Int.emod_nonneg
abbrev X9:=@PyProof.Rows.F.plain_set_update_loop
abbrev X_:=@PySem.wpAny_callSpecial?_slot
abbrev Ya:=@PySem.wpAny_call_entry
abbrev Yb:=@List.getElem_map
abbrev Yc:=@PySem.F.plainAttrs_list
abbrev Yd:=@PyProof.Rows.callWith_type1
abbrev Ye:=@PySem.plainId_quiet
abbrev Yf:=@Nat.lt_irrefl
abbrev Yg:=@Array.toList_setIfInBounds
abbrev Yh:=@List.pairwise_lt_range
abbrev Yi:=@PySem.wpAny_truthy_bool
abbrev Yj:=@List.take_succ
abbrev Yk:=@PySem.F.plain_min_loop
abbrev Yl:=@List.nodup_cons
abbrev Ym:=@PySem.wpAny_loadPart'
abbrev Yn:=@List.length_set
abbrev Yo:=@List.length_drop
abbrev Yp:=@List.getElem_mem
abbrev Yq:=@PySem.wpAny_mono
abbrev Yr:=@Nat.ne_of_gt
abbrev Ys:=@Ne.symm
abbrev Yt:=@PySem.Heap.size_push
abbrev Yu:=@PySem.wpAny_pyIter_enum
abbrev Yv:=@List.getElem?_cons_succ
abbrev Yw:=@List.getElem_inj
abbrev Yx:=@List.mem_filterMap
abbrev Yy:=@PySem.Obj.data_mapFields
abbrev Yz:=@PySem.F.slot_tuple_iterator_next
abbrev YA:=@List.length_replicate
abbrev YB:=@List.drop_eq_getElem_cons
abbrev YC:=@PySem.wpAny_ite_split
abbrev YD:=@PySem.wpAny_passesOwn
abbrev YE:=@List.ext_getElem?
abbrev YF:=@Array.toList_push
abbrev YG:=@PySem.wpAny_pyIter_list
abbrev YH:=@Bool.not_true
abbrev YI:=@List.any_cons
abbrev YJ:=@PySem.F.slot_list_append
abbrev YK:=@PySem.F.type_list_append
abbrev YL:=@if_true
abbrev YM:=@List.countP_cons
abbrev YN:=@List.length_eq_zero_iff
abbrev YO:=@List.Perm.refl
abbrev YQ:=@PyProof.Rows.F.entry_set_update_loop
abbrev YR:=@List.Nodup.length_le_of_subset
abbrev YS:=@Array.toList_filterMap
abbrev YT:=@PySem.wpAny_Call_Name_kw
abbrev YU:=@List.map_nil
abbrev YV:=@List.filter_append
abbrev YW:=@Nat.succ.inj
abbrev YX:=@or_false
abbrev YY:=@List.length_nil
abbrev YZ:=@List.find?_cons
abbrev Y0:=@Array.getElem?_setIfInBounds
abbrev Y1:=@PySem.wpAny_standAt
abbrev Y2:=@List.getElem?_toArray
abbrev Y3:=@Nat.le_of_lt_succ
abbrev Y4:=@List.any_eq_false
abbrev Y5:=@PySem.wpAny_seqItems
abbrev Y6:=@PySem.wpAny_askSetting
abbrev Y7:=@PySem.codeAny_mono
abbrev Y8:=@List.take_length
abbrev Y9:=@Classical.byContradiction
abbrev Y_:=@List.pairwise_iff_getElem
abbrev Za:=@List.mem_of_find?_eq_some
abbrev Zb:=@List.filterMap_cons
abbrev Zc:=@List.mem_map_of_mem
abbrev Zd:=@PySem.W.codeHd_of_K
abbrev Ze:=@List.eq_of_mem_replicate
abbrev Zf:=@Option.isSome_iff_exists
abbrev Zg:=@PySem.F.args_tuple_add_2
abbrev Zh:=@List.find?_some
abbrev Zi:=@PySem.wpAny_updateSeq
abbrev Zj:=@List.find?_eq_none
abbrev Zk:=@Nat.lt_of_le_of_lt
abbrev Zl:=@Array.forIn_toList
abbrev Zm:=@PySem.Around.in1_handled
abbrev Zn:=@PySem.wpAny_pyIter_tuple
abbrev Zo:=@List.getElem?_replicate
abbrev Zp:=@PySem.F.entry_tuple_add
abbrev Zq:=@PySem.wpAny_field
abbrev Zr:=@List.getElem?_cons_zero
abbrev Zs:=@Array.toList_replicate
abbrev Zt:=@PySem.SetTable.insertAt_perm
abbrev Zu:=@PySem.wpAny_storeSet_of
abbrev Zv:=@Array.size_map
abbrev Zw:=@PySem.wpAny_setField
abbrev Zx:=@PySem.wpAny_typeOf
abbrev Zy:=@PySem.F.plain_list_iadd
abbrev Zz:=@PySem.W.cellsFrom_some
abbrev ZA:=@PySem.F.slot_tuple_add
abbrev ZC:=@List.take_zero
abbrev ZD:=@List.Sublist.refl
abbrev ZE:=@List.length_filterMap_eq_countP
abbrev ZF:=@PySem.Obj.isFreed_of_fields
abbrev ZG:=@List.length_filter_le
abbrev ZH:=@List.nodup_range
abbrev ZI:=@Nat.le_of_not_lt
abbrev ZJ:=@PySem.putSet_of
abbrev ZK:=@PySem.wpAny_forIn_list
abbrev ZL:=@Nat.le_add_right
abbrev ZM:=@Option.getD_none
abbrev ZN:=@Bool.true_and
abbrev ZO:=@Array.mem_toList_iff
abbrev ZP:=@List.reverse_reverse
abbrev ZQ:=@List.range_succ
abbrev ZR:=@List.foldl_cons
abbrev ZS:=@PySem.wpAny_execs_nil
abbrev ZT:=@PySem.F.slot_dict_setdefault
abbrev ZU:=@PySem.F.args_tuple_iterator_next_1
abbrev ZV:=@List.filter_map
abbrev ZW:=@PyProof.Rows.get?_update_seq
abbrev ZX:=@PySem.wpAny_setEntries_of
abbrev ZY:=@List.take_succ_cons
abbrev ZZ:=@Nat.succ_pos
abbrev Z1:=@of_decide_eq_false
abbrev Z2:=@List.drop_zero
abbrev Z3:=@List.length_eraseIdx_of_lt
abbrev Z4:=@PySem.intKind_is
abbrev Z5:=@PySem.wpAny_rule
abbrev Z6:=@PySem.wpAny_runValue
abbrev Z7:=@PySem.Walks.list
abbrev Z9:=@List.zip_cons_cons
abbrev q0a:=@Array.perm_iff_toList_perm
abbrev q0b:=@PySem.wpAny_tryCatch
abbrev q0c:=@List.mem_or_eq_of_mem_set
abbrev q0d:=@List.extract_eq_take_drop
abbrev q0e:=@List.getElem_take
abbrev q0f:=@PySem.Obj.cls_mapFields
abbrev q0g:=@List.zip_nil_left
abbrev q0h:=@Nat.le_succ
abbrev q0i:=@Bool.not_eq_true'
abbrev q0j:=@List.foldl_append
abbrev q0k:=@PySem.wpAny_letGo
abbrev q0l:=@Array.getElem_mem_toList
abbrev q0m:=@Array.size_setIfInBounds
abbrev q0n:=@PySem.F.slot_dict_values
abbrev q0o:=@PySem.wpAny_newList
abbrev q0p:=@List.sublist_append_left
abbrev q0s:=@Nat.succ_ne_self
abbrev q0v:=@List.flatten_nil
abbrev q0x:=@Nat.lt_trans
abbrev q0A:=@PySem.call_meets
abbrev q0H:=@Option.map_some
abbrev q0I:=@Array.size_push
abbrev q0L:=@List.of_mem_zip
abbrev q0M:=@List.nil_append
abbrev q0Z:=@Bool.false_and
abbrev q00:=@Bool.not_false
theorem el7 {α β γ ε : Type} {A B C : α → β → γ → ε → Prop} {R : Prop} (h : ∃ F ad δ K, A F ad δ K ∧ B F ad δ K ∧ C F ad δ K) (k : ∀ F ad δ K, A F ad δ K → B F ad δ K → C F ad δ K → R) : R := h.elim fun F h => h.elim fun a h => h.elim fun d h => h.elim fun K h => k F a d K h.1 h.2.1 h.2.2
theorem el5 {α β : Type} {A B C : α → β → Prop} {R : Prop} (h : ∃ F ad, A F ad ∧ B F ad ∧ C F ad) (k : ∀ F ad, A F ad → B F ad → C F ad → R) : R := h.elim fun F h => h.elim fun a h => k F a h.1 h.2.1 h.2.2
theorem el3 {α : Type} {A B : α → Prop} {R : Prop} (h : ∃ F, A F ∧ B F) (k : ∀ F, A F → B F → R) : R := h.elim fun F h => k F h.1 h.2
set_option compiler.extract_closed false
local macro_rules | `(tactic| omega) => `(tactic| first | lia | omega (config := {}))
namespace LJS
open PySem PySem.SetTable
noncomputable def nx (m i:Nat):Nat:=(i * 5 + 1) % (m + 1)
noncomputable def lL (m:Nat):Nat->Nat->Nat
 | 0,i=>i
 | n + 1,i=>lL m n (nx m i)
theorem vG (m:Nat):∀ a b i,lL m (a + b) i=lL m b (lL m a i)
 | 0,b,i=>by rw[Xd];rfl
 | a + 1,b,i=>by rw[Nat.succ_add];exact vG m a b (nx m i)
noncomputable def yd (m:Nat):Nat->Nat->List Nat
 | 0,_=>[]
 | n + 1,i=>i :: yd m n (nx m i)
theorem Dy (m:Nat):∀ {n i e:Nat},e∈yd m n i->∃ k,k < n/\lL m k i=e
 | 0,_,_,h=>nomatch h
 | n + 1,i,e,h=>by
  rcases ML.mp h with rfl | h
  ·exact⟨0,ZZ _,rfl⟩
  ·obtain⟨k,hk,e⟩:=Dy m h
   exact⟨k + 1,Nat.succ_lt_succ hk,e⟩
noncomputable def Mk (m:Nat):Prop:=m=7\/m=31\/m=127
noncomputable def sd (m:Nat):Bool:=(List.range (m + 1)).all fun e=>(yd m (m + 1) 0).contains e
theorem Dz {m:Nat} (h:Mk m):sd m=true/\lL m (m + 1) 0=0:=by
 rcases h with rfl | rfl | rfl<;>exact⟨by decide +kernel,by decide +kernel⟩
theorem mT {m:Nat} (h:Mk m) {e:Nat} (he:e <= m):∃ k,k <= m/\lL m k 0=e:=by
 have:=XW.mp (Dz h).1 e (WL.mpr (Nat.lt_succ_of_le he))
 obtain⟨k,hk,q⟩:=Dy m (List.contains_iff_mem.mp this)
 exact⟨k,Y3 hk,q⟩
theorem JB {m:Nat} (h:Mk m) {i e:Nat} (hi:i <= m) (he:e <= m):∃ n,n <= m/\lL m n i=e:=by
 obtain⟨a,ha,rfl⟩:=mT h hi
 obtain⟨b,hb,rfl⟩:=mT h he
 by_cases vH:a <= b
 ·refine⟨b - a,by omega,?_⟩
  rw[<-vG];congr 1;omega
 ·refine⟨m + 1 - a + b,by omega,?_⟩
  rw[<-vG,show a + (m + 1 - a + b)=(m + 1) + b by omega,vG,(Dz h).2]
noncomputable def lp (m:Nat):Nat->Nat->Nat->Nat × Nat
 | 0,i,p=>(i,p)
 | n + 1,i,p=>lp m n (leap m i p).1 (leap m i p).2
theorem ye (m:Nat):∀ a b i p,lp m (a + b) i p=lp m b (lp m a i p).1 (lp m a i p).2
 | 0,b,i,p=>by rw[Xd];rfl
 | a + 1,b,i,p=>by rw[Nat.succ_add];exact ye m a b _ _
theorem DA (m:Nat):∀ n i,lp m n i 0=(lL m n i,0)
 | 0,i=>rfl
 | n + 1,i=>by
  show lp m n (leap m i 0).1 (leap m i 0).2=_
  have e:leap m i 0=(nx m i,0):=by unfold leap nx;simp
  rw[e];exact DA m n _
theorem DB (m i p:Nat):(leap m i p).1 <= m:=Y3 (Nat.mod_lt _ (ZZ _))
theorem DC (m:Nat):∀ n i p,(lp m n i p).2=p / 32 ^ n
 | 0,i,p=>by simp[lp]
 | n + 1,i,p=>by
  show (lp m n (leap m i p).1 (leap m i p).2).2=_
  rw[DC m n]
  show p / 32 / 32 ^ n=_
  rw[Nat.div_div_eq_div_mul,Nat.pow_succ,Nat.mul_comm]
theorem reach {m:Nat} (h:Mk m) {i p e:Nat} (hp:p < 2 ^ 64) (he:e <= m):∃ n,n <= 13 + m/\(lp m n i p).1=e:=by
 have z:(lp m 13 i p).2=0:=by
  rw[DC]
  exact Nat.div_eq_of_lt (q0x hp (by decide))
 have q:(lp m 13 i p).1 <= m:=by
  rw[ye m 12 1];exact DB _ _ _
 obtain⟨n,hn,en⟩:=JB h q he
 refine⟨13 + n,by omega,?_⟩
 rw[ye,z,DA];exact en
theorem DD (j:Nat):has #[] j=false:=by unfold has;simp
theorem sg {t:SetTable} (hd:t.dummies = #[]) (j:Nat):t.slot j = .empty\/∃ i,t.slot j = .live i/\i < t.place.size/\j∈t.place.toList:=by
 unfold slot
 rw[hd,DD]
 dsimp only
 by_cases c:(t.place[below t.place j]? == some j)=true
 ·right
  rw[V8 c]
  have e:=X7 c
  obtain⟨hl,ev⟩:=XQ.mp e
  exact⟨_,rfl,hl,by rw[<-ev];exact q0l hl⟩
 ·left
  rw[V0 c];rfl
theorem JD {t:SetTable} (hd:t.dummies = #[]) {j:Nat} (hj:j∉t.place.toList):t.slot j = .empty:=by
 rcases sg hd j with h | ⟨_,_,_,h⟩
 ·exact h
 ·exact absurd h hj
theorem DE:∀ {l l':List Nat},l.Nodup->(∀ x∈l,x∈l')->l.length <= l'.length
 | [],_,_,_=>Xl _
 | a :: l,l',hn,hs=>by
  have ha:a∈l':=hs a (vX ..)
  have iS:=Yl.mp hn
  have ih:=DE (l:=l) (l':=l'.erase a) iS.2 fun x hx=>(List.mem_erase_of_ne (fun z=>iS.1 (by rw[<-z];exact hx))).mpr (hs x (E6 _ hx))
  rw[List.length_erase_of_mem ha] at ih
  have:=List.length_pos_of_mem ha
  rw[My];omega
theorem JH {l:List Nat} {m:Nat} (h:l.length <= m):∃ e,e <= m/\e∉l:=by
 refine Y9 fun no => ?_
 have all:∀ e,e∈List.range (m + 1)->e∈l:=fun e he=>Y9 fun z=>no ⟨e,Y3 (WL.mp he),z⟩
 have:(List.range (m + 1)).length <= l.length:=DE ZH all
 rw[Xv] at this
 omega
noncomputable def stateOf (t:SetTable) (i p:Nat):Probe:=⟨i,runEnd t.mask i - i,i,p,none⟩
theorem DF (m i:Nat):runEnd m i - i <= 9:=by unfold runEnd;split<;>omega
section
variable {t:SetTable} {f:Nat->Int} {h:Int}
theorem ou (F:Nat) (p:Probe):probe.go t f h (F + 1) p=(match t.slot p.j with
  | .empty=>some (.empty p.j p.dummy)
  | .dummy=>probe.go t f h F (t.advance { p with dummy:=some p.j })
  | .live i=>if f i == h then some (.candidate p.j i (t.advance p)) else probe.go t f h F (t.advance p)):=rfl
theorem DG (hd:t.dummies = #[]) (hf:∀ i,i < t.place.size->f i≠h):∀ (k F:Nat) (p:Probe),p.more=k->p.dummy=none →
  (∃ j,probe.go t f h (F + k + 1) p=some (.empty j none))\/probe.go t f h (F + k + 1) p=probe.go t f h F (stateOf t (leap t.mask p.i p.perturb).1 (leap t.mask p.i p.perturb).2)
 | 0,F,p,hm,sh=>by
  show (∃ j,probe.go t f h (F + 1) p=_)\/probe.go t f h (F + 1) p=_
  rw[ou]
  rcases sg hd p.j with e | ⟨i,e,hi,_⟩
  ·left;rw[e];exact⟨p.j,by rw[sh]⟩
  ·right
   rw[e]
   show (if (f i == h)=true then _ else _)=_
   rw[V0 (by intro z;exact hf i hi (X7 z))]
   unfold advance
   rw[hm,V0 (by omega),sh]
   rfl
 | k + 1,F,p,hm,sh=>by
  have ih:=DG hd hf k F { p with j:=p.j + 1,more:=p.more - 1 } (by show p.more - 1=k;omega) sh
  rw[show F + (k + 1) + 1=(F + k + 1) + 1 by omega,ou]
  rcases sg hd p.j with e | ⟨i,e,hi,_⟩
  ·left;rw[e];exact⟨p.j,by rw[sh]⟩
  ·rw[e]
   show (∃ j,(if (f i == h)=true then _ else _)=_)\/(if (f i == h)=true then _ else _)=_
   rw[V0 (by intro z;exact hf i hi (X7 z))]
   have ea:t.advance p={ p with j:=p.j + 1,more:=p.more - 1 }:=by unfold advance;rw[V8 (by omega)]
   rw[ea]
   exact ih
theorem DH (hd:t.dummies = #[]) (hf:∀ i,i < t.place.size->f i≠h):∀ (n F i p:Nat),10 * (n + 1) <= F->t.slot (lp t.mask n i p).1 = .empty->∃ j,probe.go t f h F (stateOf t i p)=some (.empty j none)
 | 0,F,i,p,hF,hs=>by
  obtain⟨G,rfl⟩:∃ G,F=G + 1:=⟨F - 1,by omega⟩
  rw[ou]
  have e:t.slot (stateOf t i p).j = .empty:=hs
  rw[e]
  exact⟨i,rfl⟩
 | n + 1,F,i,p,hF,hs=>by
  have hr:=DF t.mask i
  obtain⟨G,hG⟩:∃ G,F=G + (runEnd t.mask i - i) + 1:=⟨F - (runEnd t.mask i - i) - 1,by omega⟩
  have:=DG (f:=f) (h:=h) hd hf (runEnd t.mask i - i) G (stateOf t i p) rfl rfl
  rw[<-hG] at this
  rcases this with h1 | h1
  ·exact h1
  ·rw[h1]
   exact DH hd hf n G _ _ (by omega) hs
theorem yf (h:Int):bits h < 2 ^ 64:=by
 unfold bits
 have:=Xz h (show (0:Int) < 2 ^ 64 by decide)
 have:=X8 h (show (2 ^ 64:Int)≠0 by decide)
 omega
theorem DI (hd:t.dummies = #[]) (hm:Mk t.mask) (hz:t.place.size <= t.mask) (hf:∀ i,i < t.place.size->f i≠h):∃ j,t.probe f h (t.probeStart h)=some (.empty j none):=by
 obtain⟨e,he,ne⟩:=JH (l:=t.place.toList) (m:=t.mask) (by rw[E7];exact hz)
 obtain⟨n,hn,en⟩:=reach hm (i:=bits h % (t.mask + 1)) (yf h) he
 exact DH hd hf n _ _ _ (by unfold turns;omega) (by rw[en];exact JD hd ne)
end
section
variable {m:Nat} {owner:Array (Option Nat)}
theorem yg (F i p:Nat):layClean.free m owner (F + 1) i p=(match (List.range (runEnd m i + 1 - i)).find? fun k=>(owner.getD (i + k) (some 0)).isNone with
   | some k=>some (i + k)
   | none=>layClean.free m owner F (leap m i p).1 (leap m i p).2):=rfl
theorem yh:∀ (n F i p:Nat),n + 1 <= F->(owner.getD (lp m n i p).1 (some 0)).isNone=true->∃ j,layClean.free m owner F i p=some j/\(owner.getD j (some 0)).isNone=true
 | 0,F,i,p,hF,hs=>by
  obtain⟨G,rfl⟩:∃ G,F=G + 1:=⟨F - 1,by omega⟩
  rw[yg]
  cases hc:(List.range (runEnd m i + 1 - i)).find? fun k=>(owner.getD (i + k) (some 0)).isNone with
  | some k =>
   have:=Zh hc
   exact⟨i + k,rfl,this⟩
  | none =>
   have:=Zj.mp hc 0 (WL.mpr (by unfold runEnd;split<;>omega))
   exact absurd hs this
 | n + 1,F,i,p,hF,hs=>by
  obtain⟨G,rfl⟩:∃ G,F=G + 1:=⟨F - 1,by omega⟩
  rw[yg]
  cases hc:(List.range (runEnd m i + 1 - i)).find? fun k=>(owner.getD (i + k) (some 0)).isNone with
  | some k =>
   have:=Zh hc
   exact⟨i + k,rfl,this⟩
  | none=>exact yh n G _ _ (by omega) hs
end
structure Ow (m:Nat) (owner:Array (Option Nat)) (k:Nat):Prop where
 size:owner.size=m + 1
 cnt:owner.toList.countP Option.isSome=k
 lt:∀ x,some x∈owner.toList->x < k
theorem yi:∀ {l:List (Option Nat)} {j k:Nat},l[j]? = some none->(l.set j (some k)).countP Option.isSome=l.countP Option.isSome + 1
 | [],j,k,h=>by simp at h
 | x :: l,0,k,h=>by
  simp at h;subst h
  rw[XA,YM,YM];rfl
 | x :: l,j + 1,k,h=>by
  simp at h
  rw[XB,YM,YM,yi h];omega
theorem getD_none {owner:Array (Option Nat)} {j:Nat} (h:(owner.getD j (some 0)).isNone=true):owner.toList[j]? = some none:=by
 rw[Xp] at h
 rw[WJ]
 cases e:owner[j]? with
 | none=>rw[e] at h;cases h
 | some x =>
  rw[e] at h
  cases x with
  | none=>rfl
  | some y=>cases h
theorem DJ {m:Nat} {owner:Array (Option Nat)} {k:Nat} (O:Ow m owner k) (hk:k <= m):∃ e,e <= m/\(owner.getD e (some 0)).isNone=true:=by
 refine Y9 fun no => ?_
 have all:∀ x∈owner.toList,x.isSome=true:=by
  intro x hx
  obtain⟨e,he⟩:=WB.mp hx
  cases x with
  | some y=>rfl
  | none =>
   have hl:=(pe.mp he).1
   rw[E7,O.size] at hl
   refine absurd ⟨e,Y3 hl,?_⟩ no
   rw[Xp,<-WJ,he];rfl
 have:=List.countP_eq_length.mpr all
 rw[O.cnt,E7,O.size] at this
 omega
theorem JJ {m:Nat} {owner:Array (Option Nat)} {k:Nat} (hm:Mk m) (O:Ow m owner k) (hk:k <= m) (h:Int):∃ j,layClean.free m owner (turns m) (bits h % (m + 1)) (bits h)=some j/\Ow m (owner.setIfInBounds j (some k)) (k + 1):=by
 obtain⟨e,he,hn⟩:=DJ O hk
 obtain⟨n,iS,en⟩:=reach hm (i:=bits h % (m + 1)) (yf h) he
 obtain⟨j,ej,hj⟩:=yh (m:=m) (owner:=owner) n (turns m) (bits h % (m + 1)) (bits h) (by unfold turns;omega) (by rw[en];exact hn)
 refine⟨j,ej,by rw[q0m];exact O.size,?_,fun x hx => ?_⟩
 ·rw[Yg,yi (getD_none hj),O.cnt]
 ·rw[Yg] at hx
  rcases q0c hx with h | h
  ·exact Xh (O.lt x h)
  ·cases h;exact Xt _
theorem DK (m:Nat):Ow m (Array.replicate (m + 1) none) 0:=by
 refine⟨by simp,?_,fun x hx => ?_⟩
 ·rw[Zs]
  exact List.countP_eq_zero.mpr fun x hx=>by rw[Ze hx];decide
 ·rw[Zs] at hx
  cases Ze hx
noncomputable def h9 (m:Nat) (owner:Array (Option Nat)):List (Nat × Nat):=(List.range (m + 1)).filterMap fun j=>(owner.getD j none).map (j,·)
theorem yj {m:Nat} {owner:Array (Option Nat)} {k:Nat} (O:Ow m owner k):(h9 m owner).length=k:=by
 unfold h9
 rw[ZE,<-O.cnt]
 have e:owner.toList=(List.range (m + 1)).map fun j=>owner.getD j none:=by
  refine YE fun i => ?_
  rw[WJ,MJ]
  by_cases hi:i < m + 1
  ·rw[Xr hi,q0H,MN (by rw[O.size];exact hi),Xp,MN (by rw[O.size];exact hi)];rfl
  ·rw[XX (by rw[O.size];omega),XI (by rw[Xv];omega)];rfl
 rw[e,List.countP_map]
 refine List.countP_congr fun j _ => ?_
 simp
theorem DL {α : Type} {es:Array α} {order:Array Nat} (h:∀ k∈order.toList,k < es.size):(order.filterMap (es[·]?)).size=order.size/\∀ e∈(order.filterMap (es[·]?)).toList,e∈es.toList:=by
 constructor
 ·rw[<-E7,YS,ZE,List.countP_eq_length.mpr fun k hk => ?_,E7]
  rw[MN (h k hk)];rfl
 ·intro e he
  rw[YS] at he
  obtain⟨k,_,q⟩:=Yx.mp he
  exact WB.mpr ⟨k,by rw[WJ];exact q⟩
theorem yk (t:SetTable) (hd:t.dummies = #[]) (j:Nat):(t.put j).1.dummies = #[]/\(t.put j).1.mask=t.mask/\(t.put j).1.place.size=t.place.size + 1/\(t.put j).1.led=t.led/\(t.put j).1.plain=t.plain/\(t.put j).1.moves=t.moves/\(t.put j).1.finger=t.finger:=by
 unfold put
 dsimp only
 rw[hd,DD]
 refine⟨rfl,rfl,?_,rfl,rfl,rfl,rfl⟩
 unfold insertAt
 simp only[Array.size_append,q0I,Array.size_extract]
 omega
theorem ym {α : Type} (xs:Array α) (p:Nat) (x : α):(insertAt xs p x).size=xs.size + 1:=by
 unfold insertAt
 simp only[Array.size_append,q0I,Array.size_extract]
 omega
end LJS
namespace LJS
open PySem PySem.SetTable PyProof.Rows
structure gb (t:SetTable) (es:Array (Int × Value)) (hs:List Int):Prop where
 k6:t.dummies = #[]
 k7:Mk t.mask
 hJ:t.place.size=es.size
 num:es.size=hs.length
 iT:t.tooFull=false
 ins:∀ e∈es.toList,e.1∈hs
noncomputable def j_ (h:Heap) (S:Addr) (hs:List Int):Prop:=∃ o es ep t,h.get? S=some o/\o.ExactSet/\o.data = .set es ep t/\gb t es hs
section
variable {t:SetTable} {es:Array (Int × Value)} {hs:List Int}
theorem gb.fill (T:gb t es hs):t.fill=es.size:=by
 unfold SetTable.fill
 rw[T.hJ,T.k6];rfl
theorem gb.lt (T:gb t es hs):es.size * 5 < t.mask * 3:=by
 have:=T.iT
 unfold tooFull at this
 rw[T.fill] at this
 have:=Z1 this
 omega
theorem gb.fits (T:gb t es hs):t.fits es.size=true:=by
 have:=T.lt
 unfold SetTable.fits
 rw[T.fill,T.hJ]
 simp
 omega
theorem gb.si (T:gb t es hs):t.gaveWay=false:=by
 unfold SetTable.gaveWay
 rcases T.k7 with h | h | h<;>rw[h]<;>rfl
end
theorem DM:sizeAbove (grown 5) - 1=31:=by decide +kernel
theorem DN:sizeAbove (grown 19) - 1=127:=by decide +kernel
section
variable {prog:Program} {w:World} {A:Around} {E:Value->Shared->Prop} {s:Shared}
end
end LJS
namespace LJS
open PySem PySem.SetTable
noncomputable def Up (xs:Array Nat):Prop:=xs.toList.Pairwise (· < ·)
theorem Up.lt {xs:Array Nat} (u:Up xs) {i k:Nat} (JK:i < k) (hk:k < xs.size):xs[i]'(by omega) < xs[k]:=by
 have:=Y_.mp u i k (by rw[E7];omega) (by rw[E7];exact hk) JK
 simpa using this
theorem yn {xs:Array Nat} (u:Up xs) (j:Nat):∀ (fuel lo hi:Nat),hi <= xs.size->lo <= hi->hi - lo <= fuel->(∀ i,(h:i < xs.size)->i < lo->xs[i] < j)->(∀ i,(h:i < xs.size)->hi <= i->j <= xs[i]) →
  below.go xs j fuel lo hi <= xs.size/\(∀ i,(h:i < xs.size)->i < below.go xs j fuel lo hi->xs[i] < j)/\(∀ i,(h:i < xs.size)->below.go xs j fuel lo hi <= i->j <= xs[i])
 | 0,lo,hi,h1,h2,h3,a,b=>by
  have:lo=hi:=by omega
  subst this
  exact⟨h1,a,b⟩
 | fuel + 1,lo,hi,h1,h2,h3,a,b=>by
  unfold below.go
  by_cases c:lo < hi
  ·rw[V8 c]
   have hm:(lo + hi) / 2 < xs.size:=by omega
   have em:xs.getD ((lo + hi) / 2) j=xs[(lo + hi) / 2]:=by rw[Xp,MN hm];rfl
   simp only[em]
   by_cases d:xs[(lo + hi) / 2] < j
   ·rw[V8 d]
    refine yn u j fuel _ hi h1 (by omega) (by omega) (fun i cg hl => ?_) b
    by_cases e:i < (lo + hi) / 2
    ·exact q0x (u.lt e hm) d
    ·have:i=(lo + hi) / 2:=by omega
     subst this;exact d
   ·rw[V0 d]
    refine yn u j fuel lo _ (by omega) (by omega) (by omega) a fun i cg hl => ?_
    by_cases e:(lo + hi) / 2 < i
    ·exact XY (Zk (ZI d) (u.lt e cg))
    ·have:i=(lo + hi) / 2:=by omega
     subst this;exact ZI d
  ·rw[V0 c]
   have:lo=hi:=by omega
   subst this
   exact⟨h1,a,b⟩
theorem qJ {xs:Array Nat} (u:Up xs) (j:Nat):below xs j <= xs.size/\(∀ i,(h:i < xs.size)->i < below xs j->xs[i] < j)/\(∀ i,(h:i < xs.size)->below xs j <= i->j <= xs[i]) :=
 yn u j xs.size 0 xs.size (qU _) (Xl _) (by omega) (fun i _ h=>by omega) (fun i h h'=>by omega)
theorem JL {xs:Array Nat} (u:Up xs) {i:Nat} (hi:i < xs.size):below xs (xs[i] + 1)=i + 1:=by
 obtain⟨h0,h1,h2⟩:=qJ u (xs[i] + 1)
 have a:i < below xs (xs[i] + 1):=by
  refine Nat.lt_of_not_le fun z => ?_
  have:=h2 i hi z
  omega
 have b:below xs (xs[i] + 1) <= i + 1:=by
  refine ZI fun z => ?_
  have hk:i + 1 < xs.size:=by omega
  have:=h1 (i + 1) hk z
  have:=u.lt (k:=i + 1) (Xt i) hk
  omega
 omega
theorem JM {xs:Array Nat} (u:Up xs):below xs 0=0:=by
 obtain⟨h0,h1,h2⟩:=qJ u 0
 refine Nat.eq_zero_of_not_pos fun z => ?_
 have:=h1 0 (by omega) z
 omega
theorem DO {t:SetTable} (u:Up t.place) {j:Nat} (hj:j∉t.place.toList):Up (t.put j).1.place:=by
 obtain⟨h0,h1,h2⟩:=qJ u j
 show Up (insertAt t.place (below t.place j) j)
 unfold Up insertAt
 generalize below t.place j=p at h0 h1 h2
 have eL:(((t.place.extract 0 p).push j) ++ t.place.extract p t.place.size).toList=t.place.toList.take p ++ ([j] ++ t.place.toList.drop p):=by
  simp only[Array.toList_append,YF,Array.toList_extract,q0d,Z2,Nat.sub_zero,XJ]
  have e2:List.take (t.place.size - p) (List.drop p t.place.toList)=List.drop p t.place.toList:=Xm (by rw[Yo,E7];exact qU _)
  rw[e2]
 rw[eL]
 have lo:∀ x∈t.place.toList.take p,x < j:=by
  intro x hx
  obtain⟨i,hi,e⟩:=Xa.mp hx
  rw[W5,E7] at hi
  rw[q0e] at e
  have:=h1 i (by omega) (by omega)
  rw[<-e];simpa using this
 have cg:∀ x∈t.place.toList.drop p,j < x:=by
  intro x hx
  obtain⟨i,hi,e⟩:=Xa.mp hx
  rw[Yo,E7] at hi
  rw[List.getElem_drop] at e
  have:=h2 (p + i) (by omega) (by omega)
  have JN:j <= x:=by rw[<-e];simpa using this
  refine Nat.lt_of_le_of_ne JN fun z=>hj ?_
  rw[z];exact List.mem_of_mem_drop hx
 refine List.pairwise_append.mpr ⟨u.sublist (List.take_sublist _ _),?_,fun a ha b hb => ?_⟩
 ·exact XC.mpr ⟨cg,u.sublist (List.drop_sublist _ _)⟩
 ·rcases ML.mp hb with rfl | hb
  ·exact lo a ha
  ·exact q0x (lo a ha) (cg b hb)
theorem JO (n:Nat) (f:Nat->Option Nat):(((List.range n).filterMap fun j=>(f j).map fun x=>(j,x)).map (·.1)).Pairwise (· < ·):=by
 rw[XM]
 refine List.Pairwise.filterMap _ (fun a a' cj b hb b' dD => ?_) (Yh (n:=n))
 obtain⟨x,_,rfl⟩:=V7.mp hb
 obtain⟨y,_,rfl⟩:=V7.mp dD
 exact cj
theorem DP (m:Nat) (owner:Array (Option Nat)):((h9 m owner).map (·.1)).Pairwise (· < ·):=JO (m + 1) fun j=>owner.getD j none
theorem DQ {α : Type} (next:Nat->Nat):∀ (fuel k:Nat) (left:List α) (out:Array α),left.length <= fuel->(pickOrder.go next fuel k left out).toList.Perm (out.toList ++ left)
 | 0,k,left,out,h=>by
  have:left=[]:=YN.mp (by omega)
  subst this
  rw[XS]
  exact YO _
 | fuel + 1,k,left,out,h=>by
  unfold pickOrder.go
  cases left with
  | nil=>simp
  | cons a l =>
   have cj:next k % (a :: l).length < (a :: l).length:=Nat.mod_lt _ (by rw[My];omega)
   rw[pb cj]
   refine (DQ next fuel (k + 1) _ _ ?_).trans ?_
   ·rw[Z3 cj];omega
   ·rw[YF,XJ]
    refine List.Perm.append_left _ ?_
    generalize next k % (a :: l).length=j at cj
    exact (jh cj).symm
where
 jh {α : Type}:∀ {l:List α} {j:Nat} (h:j < l.length),List.Perm l (l[j] :: l.eraseIdx j)
  | [],_,h=>by simp at h
  | a :: l,0,_=>YO _
  | a :: l,j + 1,h=>(List.Perm.cons a (jh (l:=l) (j:=j) (by simpa using h))).trans (List.Perm.swap _ _ _)
theorem JP {α : Type} (next:Nat->Nat) (xs:Array α):(pickOrder next xs).toList.Perm xs.toList:=by
 have:=DQ next xs.size 0 xs.toList #[] (by rw[E7];exact qU _)
 unfold pickOrder
 simpa using this
theorem vI {t:SetTable} {f:Nat->Int} {h:Int}:∀ {fuel:Nat} {p:Probe} {j:Nat} {d:Option Nat},probe.go t f h fuel p=some (.empty j d)->t.slot j = .empty
 | 0,_,_,_,e=>nomatch e
 | fuel + 1,p,j,d,e=>by
  rw[ou] at e
  cases q:t.slot p.j with
  | empty =>
   rw[q] at e
   cases e
   exact q
  | dummy =>
   rw[q] at e
   exact vI e
  | live i =>
   rw[q] at e
   by_cases c:(f i == h)=true
   ·simp only[c,YL] at e;cases e
   ·simp only[c,Xx] at e;exact vI e
theorem DR {t:SetTable} (u:Up t.place) {j:Nat} (e:t.slot j = .empty):j∉t.place.toList:=by
 intro hm
 obtain⟨i,hi,ei⟩:=Xa.mp hm
 have cg:i < t.place.size:=by rw[<-E7];exact hi
 have yo:t.place[i]=j:=by simpa using ei
 obtain⟨h0,h1,h2⟩:=qJ u j
 have a:¬ i < below t.place j:=fun z=>by have:=h1 i cg z;omega
 have b:¬ below t.place j < i:=fun z=>by
  have:=h2 (below t.place j) (by omega) (qU _)
  have:=u.lt z cg
  omega
 have eb:below t.place j=i:=by omega
 unfold slot at e
 rw[eb] at e
 have:(t.place[i]? == some j)=true:=by rw[MN cg,yo];simp
 simp only[this,YL] at e
 cases e
noncomputable def k8 (owner:Array (Option Nat)) (k:Nat):Prop:=(owner.toList.filterMap id).Perm (List.range k)
theorem yp:∀ {l:List (Option Nat)} {j k:Nat},l[j]? = some none->((l.set j (some k)).filterMap id).Perm (k :: l.filterMap id)
 | [],j,k,h=>by simp at h
 | x :: l,0,k,h=>by
  simp at h;subst h
  rw[XA]
  show (k :: l.filterMap id).Perm (k :: l.filterMap id)
  exact YO _
 | x :: l,j + 1,k,h=>by
  simp at h
  rw[XB]
  cases x with
  | none =>
   show ((l.set j (some k)).filterMap id).Perm (k :: l.filterMap id)
   exact yp h
  | some y =>
   show (y :: (l.set j (some k)).filterMap id).Perm (k :: y :: l.filterMap id)
   exact (List.Perm.cons y (yp h)).trans (List.Perm.swap _ _ _)
theorem JQ {owner:Array (Option Nat)} {j k:Nat} (P:k8 owner k) (h:owner.toList[j]? = some none):k8 (owner.setIfInBounds j (some k)) (k + 1):=by
 unfold k8 at P ⊢
 rw[Yg,ZQ]
 exact (yp h).trans ((List.Perm.cons k P).trans (List.perm_append_singleton k _).symm)
theorem JR {m:Nat} {owner:Array (Option Nat)} {k:Nat} (hm:Mk m) (O:Ow m owner k) (Pm:k8 owner k) (hk:k <= m) (h:Int):∃ j,layClean.free m owner (turns m) (bits h % (m + 1)) (bits h)=some j/\Ow m (owner.setIfInBounds j (some k)) (k + 1)/\k8 (owner.setIfInBounds j (some k)) (k + 1):=by
 obtain⟨e,he,hn⟩:=DJ O hk
 obtain⟨n,iS,en⟩:=reach hm (i:=bits h % (m + 1)) (yf h) he
 obtain⟨j,ej,hj⟩:=yh (m:=m) (owner:=owner) n (turns m) (bits h % (m + 1)) (bits h) (by unfold turns;omega) (by rw[en];exact hn)
 refine⟨j,ej,⟨by rw[q0m];exact O.size,?_,fun x hx => ?_⟩,JQ Pm (getD_none hj)⟩
 ·rw[Yg,yi (getD_none hj),O.cnt]
 ·rw[Yg] at hx
  rcases q0c hx with h | h
  ·exact Xh (O.lt x h)
  ·cases h;exact Xt _
theorem DS {m:Nat} (hm:Mk m):∀ (hs:List Int) (owner:Array (Option Nat)) (k:Nat),Ow m owner k->k8 owner k->k + hs.length <= m + 1 →
  ∃ aS,(hs.foldl (init:=some (owner,k)) fun acc h=>do
   let (owner,k) <- acc
   let j <- layClean.free m owner (turns m) (bits h % (m + 1)) (bits h)
   pure (owner.setIfInBounds j (some k),k + 1))=some (aS,k + hs.length)/\Ow m aS (k + hs.length)/\k8 aS (k + hs.length)
 | [],owner,k,O,Pm,_=>⟨owner,rfl,O,Pm⟩
 | h :: hs,owner,k,O,Pm,hl=>by
  rw[My] at hl ⊢
  obtain⟨j,ej,O',P'⟩:=JR hm O Pm (by omega) h
  obtain⟨o2,e2,O2,P2⟩:=DS hm hs _ (k + 1) O' P' (by omega)
  refine⟨o2,?_,by rw[show k + (hs.length + 1)=k + 1 + hs.length by omega];exact⟨O2,P2⟩⟩
  rw[ZR,show k + (hs.length + 1)=k + 1 + hs.length by omega,<-e2]
  congr 1
  show (do let j <- layClean.free m owner (turns m) (bits h % (m + 1)) (bits h);pure (owner.setIfInBounds j (some k),k + 1))=_
  rw[ej];rfl
theorem JU (m:Nat):k8 (Array.replicate (m + 1) none) 0:=by
 unfold k8
 rw[Zs,List.filterMap_eq_nil_iff.mpr fun x hx=>by rw[Ze hx];rfl]
 exact YO _
theorem DT {m:Nat} (hm:Mk m) (hs:Array Int) (hz:hs.size <= m + 1):∃ owner,layClean m hs=some owner/\Ow m owner hs.size/\k8 owner hs.size:=by
 obtain⟨o,e,O,Pm⟩:=DS hm hs.toList _ 0 (DK m) (JU m) (by rw[E7];omega)
 rw[Xd,E7] at O Pm
 refine⟨o,?_,O,Pm⟩
 unfold layClean
 rw[<-Array.foldl_toList,e];rfl
theorem DU {m:Nat} {owner:Array (Option Nat)} (hs:owner.size=m + 1):(h9 m owner).map (·.2)=owner.toList.filterMap id:=by
 unfold h9
 rw[List.map_filterMap]
 have e:owner.toList=(List.range (m + 1)).map fun j=>owner.getD j none:=by
  refine YE fun i => ?_
  rw[WJ,MJ]
  by_cases hi:i < m + 1
  ·rw[Xr hi,q0H,MN (by rw[hs];exact hi),Xp,MN (by rw[hs];exact hi)];rfl
  ·rw[XX (by rw[hs];omega),XI (by rw[Xv];omega)];rfl
 rw[e,List.filterMap_map]
 congr 1
 funext j
 show Option.map (fun x:Nat × Nat=>x.2) (Option.map (fun x=>(j,x)) (owner.getD j none))=owner.getD j none
 cases owner.getD j none<;>rfl
theorem JV {m:Nat} (hm:Mk m) (t:SetTable) (hs:Array Int) (wanted:Nat) (hw:sizeAbove wanted - 1=m) (hz:hs.size <= m + 1) :
  ∃ t' order,t.relaid hs wanted=some (t',order)/\t'.mask=m/\t'.dummies = #[]/\t'.place.size=hs.size/\t'.led=t.led/\t'.plain=t.plain/\Up t'.place/\order.toList.Perm (List.range hs.size):=by
 obtain⟨owner,e,O,Pm⟩:=DT hm hs hz
 refine⟨{ mask:=m,place:=((h9 m owner).map (·.1)).toArray,dummies := #[],finger:=t.finger,led:=t.led,moves:=t.movedTo m,plain:=t.plain },((h9 m owner).map (·.2)).toArray,?_,rfl,rfl,?_,rfl,rfl,?_,?_⟩
 ·unfold relaid laid
  rw[hw,e];rfl
 ·rw[zJ,pd,yj O]
 ·unfold Up
  exact DP m owner
 ·show ((h9 m owner).map (·.2)).Perm _
  rw[DU O.size];exact Pm
theorem JX {order:Array Nat} {n:Nat} (h:order.toList.Perm (List.range n)):coversAll order n=true:=by
 unfold coversAll
 exact List.isPerm_iff.mpr h
end LJS
namespace LJS
open PySem PySem.SetTable PyProof.Rows
noncomputable def keyOf (e:Int × Value):Int:=match e.2 with
 | .int k _=>k
 | _=>0
structure cG (t:SetTable) (es:Array (Int × Value)) (led:Bool) (ks:List Int):Prop where
 k6:t.dummies = #[]
 k7:Mk t.mask
 hJ:t.place.size=es.size
 iT:t.tooFull=false
 up:Up t.place
 sj:t.plain=true
 yq:t.led=led
 vJ:∀ e∈es.toList,∃ k tk,e=(hashInt k,Value.int k tk)
 keys:(es.toList.map keyOf).Perm ks
 lM:ks.Nodup
noncomputable def eR (h:Heap) (S:Addr) (led:Bool) (ks:List Int):Prop:=∃ o es ep t,h.get? S=some o/\o.ExactSet/\o.data = .set es ep t/\cG t es led ks
section
variable {t:SetTable} {es:Array (Int × Value)} {led:Bool} {ks:List Int}
theorem cG.num (T:cG t es led ks):es.size=ks.length:=by rw[<-T.keys.length_eq,pd,E7]
theorem cG.fill (T:cG t es led ks):t.fill=es.size:=by unfold SetTable.fill;rw[T.hJ,T.k6];rfl
theorem cG.lt (T:cG t es led ks):es.size * 5 < t.mask * 3:=by
 have:=T.iT
 unfold tooFull at this
 rw[T.fill] at this
 have:=Z1 this
 omega
theorem cG.fits (T:cG t es led ks):t.fits es.size=true:=by
 have:=T.lt
 unfold SetTable.fits
 rw[T.fill,T.hJ]
 simp
 omega
theorem cG.elems {prog:Program} {w:World} (T:cG t es led ks):ElemsOf (intKind prog w) es.toList:=fun e he=>by
 obtain⟨k,tk,rfl⟩:=T.vJ e he
 exact⟨⟨k,Z4 ..,rfl⟩,rfl⟩
theorem cG.lay (T:cG t es led ks) (k:Int) (tk:Tok):∃ j,j∉t.place.toList/\layNew t es (hashInt k) (.int k tk)=(insertAt es (t.put j).2 (hashInt k,.int k tk),(t.put j).1,false,false):=by
 have lt:=T.lt
 obtain⟨j,ej⟩:=DI (t:=t) (f:=fun _=>hashInt k + 1) (h:=hashInt k) T.k6 T.k7 (by rw[T.hJ];omega) (fun i _ z=>by omega)
 have hs:t.slot j = .empty:=vI ej
 obtain⟨p1,p2,p3,_⟩:=yk t T.k6 j
 refine⟨j,DR T.up hs,?_⟩
 have ff:(t.put j).1.fits (insertAt es (t.put j).2 (hashInt k,Value.int k tk)).size=true:=by
  unfold SetTable.fits SetTable.fill
  rw[p1,p2,p3,ym,T.hJ]
  simp
  omega
 unfold layNew freeSlot
 rw[ej]
 show (insertAt es (t.put j).2 (hashInt k,Value.int k tk),(t.put j).1.orStandIn (insertAt es (t.put j).2 (hashInt k,Value.int k tk)).size,false,!(t.put j).1.fits (insertAt es (t.put j).2 (hashInt k,Value.int k tk)).size)=_
 unfold SetTable.orStandIn
 rw[ff,V8 rfl];rfl
end
section
variable {prog:Program} {w:World} {A:Around} {E:Value->Shared->Prop} {s:Shared}
theorem add_int {S:Addr} {k:Int} {tk:Tok} {led:Bool} {ks:List Int} {Q:Bool->Shared->Prop} (hS:eR s.heap S led ks) (hl:ks.length < 60)
  (fin:∀ (b:Bool) h',Heap.SameBut S s.heap h'->eR h' S led (if k∈ks then ks else ks ++ [k])->Q b { s with heap:=h' }):wpAny (model prog w) A (setAddHashed S (.int k tk) (hashInt k)) Q E s:=by
 obtain⟨o,es,ep,t,ho,hex,hd,T⟩:=hS
 have hb:es.size < scanBound:=by rw[T.num];unfold scanBound;omega
 have el:=T.elems (prog:=prog) (w:=w)
 unfold setAddHashed
 refine W6 ?_
 show wpAny _ _ (setAddHashedIn S (.int k tk) (hashInt k) (99999 + 1)) _ _ _
 unfold setAddHashedIn
 refine l8 (XN ho hd T.fits ?_)
 dsimp only
 rw[byScan_of (knd:=intKind prog w) rfl hb el]
 simp only[↓reduceIte]
 unfold setAddByScan
 refine l8 ?_
 refine l8 (Z5 ?_)
 refine l8 (wpAny_setScan_of (knd:=intKind prog w) (k:=k) (Z4 ..) ho hd T.fits el ?_)
 have DW:∀ e∈es.toList,(intKind prog w).is k e.2=decide (k=keyOf e):=fun e he=>by
  obtain⟨k',k9,rfl⟩:=T.vJ e he
  exact KeyKind.is_eq_decide (Z4 ..) k
 cases hr:es.toList.findIdx? (fun e=>(intKind prog w).is k e.2) with
 | some j =>
  obtain⟨hj,DX,_⟩:=List.findIdx?_eq_some_iff_getElem.mp hr
  have hm:es.toList[j]∈es.toList:=Yp hj
  rw[DW _ hm] at DX
  have hk:k∈ks:=T.keys.mem_iff.mp (by rw[X0 DX];exact V6.mpr ⟨_,hm,rfl⟩)
  dsimp only
  refine vW (vW ?_)
  have e:s={ s with heap:=s.heap }:=by cases s;rfl
  rw[e]
  exact fin false s.heap (Heap.SameBut.refl S s.heap) (by rw[V8 hk];exact⟨o,es,ep,t,ho,hex,hd,T⟩)
 | none =>
  have hk:k∉ks:=fun z=>by
   obtain⟨e,he,ek⟩:=V6.mp (T.keys.mem_iff.mpr z)
   have:=List.findIdx?_eq_none_iff.mp hr e he
   rw[DW e he,<-ek,Wz rfl] at this
   cases this
  dsimp only
  obtain⟨j,nj,ej⟩:=T.lay k tk
  rw[ej]
  rw[V0 hk] at fin
  obtain⟨p1,p2,p3,p4,p5,p6,p7⟩:=yk t T.k6 j
  have up1:=DO T.up nj
  have gR:=ym es (t.put j).2 (hashInt k,Value.int k tk)
  have mU:(insertAt es (t.put j).2 (hashInt k,Value.int k tk)).toList.Perm (es.toList ++ [(hashInt k,Value.int k tk)]):=by
   have:=Zt es (t.put j).2 (hashInt k,Value.int k tk)
   rw[YF] at this
   exact this
  have lt:=T.lt
  have JY:es.size < 60:=by rw[T.num];exact hl
  generalize (t.put j).1=t2 at p1 p2 p3 p4 p5 up1 ⊢
  generalize insertAt es (t.put j).2 (hashInt k,Value.int k tk)=bK at gR mU ⊢
  have ints2:∀ e∈bK.toList,∃ k tk,e=(hashInt k,Value.int k tk):=fun e he=>by
   rcases WX.mp (mU.mem_iff.mp he) with q | q
   ·exact T.vJ e q
   ·exact⟨k,tk,WZ.mp q⟩
  have mV:(bK.toList.map keyOf).Perm (ks ++ [k]):=by
   refine (mU.map keyOf).trans ?_
   rw[WR]
   exact List.Perm.append_right _ T.keys
  have ka:(ks ++ [k]).Nodup:=Xi.mpr ⟨T.lM,by simp,fun a ha b hb z=>hk (by rw[<-WZ.mp hb,<-z];exact ha)⟩
  have yt:t2.place.size=bK.size:=by rw[p3,T.hJ,gR]
  have fl:t2.fill=es.size + 1:=by unfold SetTable.fill;rw[p1,p3,T.hJ];rfl
  have mW:t2.fits bK.size=true:=by
   unfold SetTable.fits
   rw[fl,p3,gR,p2,T.hJ]
   simp
   rcases T.k7 with e | e | e<;>rw[e] at lt ⊢ <;> omega
  refine l8 (vW ?_)
  dsimp only
  rw[p5,T.sj,V8 rfl]
  refine l8 ?_
  rw[hashByValue_scannable 8 rfl]
  refine vW ?_
  rw[V8 (show plainKind (Value.int k tk)=true from rfl)]
  refine l8 (Zu ho hd ?_ (by rw[gR,X1];omega))
  have gT:(s.heap.update S (Obj.putSet bK t2)).get? S=some { o with data := .set bK (ep + 1) t2 }:=by
   have:=Xk (Obj.putSet bK t2) ho (by rw[ZJ bK t2 hd];rfl)
   rw[ZJ bK t2 hd] at this;exact this
  by_cases tf:t2.tooFull=true
  ·rw[V8 (by rw[tf];rfl)]
   have oy:t.mask * 3 <= (es.size + 1) * 5:=by
    unfold tooFull at tf
    rw[fl,p2] at tf
    have:=X0 tf
    omega
   obtain⟨m,hm,hw,hsz⟩:∃ m,Mk m/\sizeAbove (grown bK.size) - 1=m/\(es.size + 1) * 5 < m * 3:=by
    rw[gR]
    rcases T.k7 with e | e | e
    ·rw[e] at lt oy
     have:es.size + 1=5:=by omega
     rw[this]
     exact⟨31,.inr (.inl rfl),DM,by omega⟩
    ·rw[e] at lt oy
     have:es.size + 1=19:=by omega
     rw[this]
     exact⟨127,.inr (.inr rfl),DN,by omega⟩
    ·rw[e] at oy;omega
   obtain⟨t3,order,er,r1,r2,r3,r4,r5,r6,r7⟩:=JV hm t2 (bK.map (·.1)) (grown bK.size) hw (by rw[Zv,gR];omega)
   rw[Zv] at r3 r7
   have sk:=relayAll_perm t2 bK (grown bK.size)
   have e3:relayAll t2 bK (grown bK.size)=(order.filterMap (bK[·]?),t3,false):=by
    have JZ:(order.filterMap (bK[·]?)).size=bK.size:=by
     have:=DL (es:=bK) (order:=order) fun x hx=>WL.mp (r7.mem_iff.mp hx)
     rw[this.1,<-E7,r7.length_eq,Xv]
    have ff:t3.fits (order.filterMap (bK[·]?)).size=true:=by
     unfold SetTable.fits SetTable.fill
     rw[JZ,r2,r3,r1,gR]
     simp
     omega
    unfold relayAll
    rw[er]
    show (if (coversAll order bK.size && t3.fits (order.filterMap (bK[·]?)).size)=true then _ else _)=_
    rw[JX r7,ff];rfl
   rw[e3] at sk ⊢
   refine l8 (vW ?_)
   dsimp only
   generalize order.filterMap (bK[·]?)=vK at sk ⊢
   have DY:vK.size=bK.size:=by rw[<-E7,sk.length_eq,E7]
   refine l8 (Zu gT rfl ?_ (by rw[DY,gR,X1];omega))
   have gC:((s.heap.update S (Obj.putSet bK t2)).update S (Obj.putSet vK t3)).get? S=some { o with data := .set vK (ep + 1 + 1) t3 }:=by
    have:=Xk (Obj.putSet vK t3) gT (by rw[ZJ _ t3 rfl];rfl)
    rw[ZJ _ t3 rfl] at this;exact this
   refine vW (vW (fin true _ ((W7 ..).trans (W7 ..)) ⟨_,_,_,_,gC,hex,rfl,r2,by rw[r1];exact hm,by rw[r3,DY],?_,r6,by rw[r5,p5];exact T.sj,by rw[r4,p4];exact T.yq,fun e he=>ints2 e (sk.mem_iff.mp he),(sk.map keyOf).trans mV,ka⟩))
   unfold tooFull SetTable.fill
   rw[r2,r3,r1,gR]
   simp
   omega
  ·have so:t2.tooFull=false:=by cases q:t2.tooFull<;>simp_all
   rw[V0 (by rw[so];decide)]
   refine vW (vW (fin true _ (W7 ..) ⟨_,_,_,_,gT,hex,rfl,p1,by rw[p2];exact T.k7,yt,so,up1,by rw[p5];exact T.sj,by rw[p4];exact T.yq,ints2,mV,ka⟩))
theorem DZ {ks:List Int}:∀ {vs:List Value},ItemsAre (intKind prog w) ks vs->∀ v∈vs,∃ i t,v = .int i t:=by
 induction ks with
 | nil=>intro vs h v hv;cases h;cases hv
 | cons k ks ih =>
  intro vs h v hv
  cases h with
  | cons h1 h2 =>
   rcases ML.mp hv with rfl | hv
   ·obtain⟨t,e⟩:=Value.isInt_shape (k:=k) (v:=v) (by first | exact h1 | simpa [intKind] using h1)
    exact⟨_,_,e⟩
   ·exact ih h2 v hv
theorem J0 {ks:List Int} {a:Addr} {Q:Bool->Shared->Prop} (hk:IsTupleKey (intKind prog w) s.heap ks a) (h:∀ b,Q b s):wpAny (model prog w) A (hashByValue 8 (.ref a)) Q E s:=by
 have hT:=hk.typeIs
 obtain⟨o,ah,n,ho,_,hd,hi⟩:=hk
 show wpAny _ _ (hashByValue (7 + 1) (.ref a)) _ _ _
 unfold hashByValue
 refine l8 (wpAny_specialOf hT F.slot_tuple_hash.lookup ?_)
 show wpAny _ _ (seqItems? (.ref a) >>= _) _ _ s
 refine l8 (Y5 ho hd ?_)
 refine l8 ?_
 show wpAny _ _ (forIn ah _ _) _ _ s
 rw[<-Zl]
 refine ZK _ (fun rest _ s'=>s'=s/\∀ v∈rest,∃ i t,v=Value.int i t) _ ?_ ?_ _ _ ⟨rfl,DZ hi⟩
 ·rintro v rest r s' ⟨rfl,gc⟩
  obtain⟨i,t,rfl⟩:=gc v vX
  have e:hashByValue 7 (.int i t)=pure true:=by unfold hashByValue;rfl
  rw[e]
  refine l8 (vW ?_)
  simp only[YH,WC,Xx]
  exact vW ⟨rfl,fun u hu=>gc u (E6 _ hu)⟩
 ·rintro ⟨r1,r2⟩ s' ⟨rfl,_⟩
  cases r1 with
  | none=>exact vW (h _)
  | some b=>exact vW (h _)
theorem yu {h h':Heap} {ks:List Int} {a:Addr} (x:IsTupleKey (intKind prog w) h ks a) (k:∀ o,h.get? a=some o->h'.get? a=some o):IsTupleKey (intKind prog w) h' ks a:=by
 obtain⟨o,ah,n,ho,r⟩:=x
 exact⟨o,ah,n,k o ho,r⟩
noncomputable abbrev hT (prog:Program) (w:World) (ks:List Int):Int:=tupleKeyHash (intKind prog w) ks
theorem J6 {h h':Heap} {S:Addr} {hs:List Int} (x:j_ h S hs) (k:∀ o,h.get? S=some o->h'.get? S=some o):j_ h' S hs:=by
 obtain⟨o,es,ep,t,ho,r⟩:=x
 exact⟨o,es,ep,t,k o ho,r⟩
end
section
variable {prog:Program} {w:World} {A:Around} {R:Result->Shared->Prop} {I S:Addr} {fp wr:List Addr} {G:Array GenState->Array GenState->Prop} {n:Nat} {P:Nat->Value->Prop} {St:Nat->Shared->Prop}
end
theorem yw {h h':Heap} {S:Addr} {led:Bool} {ks:List Int} (x:eR h S led ks) (k:∀ o,h.get? S=some o->h'.get? S=some o):eR h' S led ks:=by
 obtain⟨o,es,ep,t,ho,r⟩:=x
 exact⟨o,es,ep,t,k o ho,r⟩
noncomputable def once (ks:List Int) (n:Int):List Int:=if n∈ks then ks else ks ++ [n]
noncomputable def jY (ns:List Int):Nat->List Int
 | 0=>[]
 | i + 1=>once (jY ns i) (ns.getD i 0)
theorem yx (ns:List Int):∀ i,(jY ns i).length <= i
 | 0=>qU _
 | i + 1=>by
  have:=yx ns i
  show (once (jY ns i) (ns.getD i 0)).length <= i + 1
  unfold once
  split
  ·omega
  ·rw[EZ,WM];omega
section
variable {prog:Program} {w:World} {A:Around} {R:Result->Shared->Prop} {I S:Addr} {fp wr:List Addr} {G:Array GenState->Array GenState->Prop} {n:Nat} {P:Nat->Value->Prop} {St:Nat->Shared->Prop}
theorem J7 (W:WalksS prog w A.in1 I fp wr G n P St) (out:S∉fp) {led:Bool} (ns:List Int) (isInt:∀ i v,P i v->∃ t,v = .int (ns.getD i 0) t) (iU:n <= 40) :
  ∀ (left i:Nat) (s:Shared),i + left=n->St i s->eR s.heap S led (jY ns i)->(∀ s',Moved (S :: wr) G s s'->eR s'.heap S led (jY ns n)->R (.ok (.ret .none)) s') →
   codeAny (model prog w) A (.builtin "set.update.loop" ⟨[.ref S,.ref I],[]⟩) R s:=by
 have kc:S∉wr:=fun z=>out (W.sub _ z)
 have more:∀ b,b∈wr->b∈S :: wr:=fun b hb=>E6 _ hb
 intro left
 induction left with
 | zero =>
  intro i s hi st se fin
  obtain rfl:i=n:=by omega
  refine Xs YQ ?_
  rw[Xe X9 _]
  show wpAny _ A.in1 (pyNext (.ref I) >>= _) _ _ s
  refine l8 (W.done s _ _ st fun s' mv => ?_)
  show wpAny _ A.in1 (ret Value.none) _ _ s'
  exact vW (fin s' (mv.mono more) (yw se fun o e=>mv.heap S o kc e))
 | succ left ih =>
  intro i s hi st se fin
  have cj:i < n:=by omega
  refine Xs YQ ?_
  rw[Xe X9 _]
  show wpAny _ A.in1 (pyNext (.ref I) >>= _) _ _ s
  refine l8 (W.item i s _ _ cj st fun v s1 hP lN mv => ?_)
  obtain⟨t,rfl⟩:=isInt i v hP
  show wpAny _ A.in1 (holding [Value.int (ns.getD i 0) t] (setAdd S (.int (ns.getD i 0) t)) >>= _) _ _ s1
  refine l8 (W6 ?_)
  unfold setAdd
  refine W6 (l8 ((intKind prog w).pyHash (k:=ns.getD i 0) (Z4 _ _ _ _) ?_))
  have hlen:=yx ns i
  refine add_int (s:={ s1 with toks:=s1.toks + 1 }) (yw se fun o e=>mv.heap S o kc e) (by omega) fun b h2 sb yy => ?_
  have nS:∀ b,b∈fp->b≠S:=fun b hb z=>out (by rw[<-z];exact hb)
  refine vW ⟨Ye X9 _,ih (i + 1) _ (by omega) (W.frame _ s1 _ _ lN (ZL _ _) fun b hb o e=>by rw[sb.2 b (nS b hb)];exact e) yy fun s3 yz yA => ?_⟩
  refine fin s3 (Moved.trans W.gtrans ((mv.mono more).then_heap (ZL _ _) fun b o hb e => ?_) yz) yA
  rw[sb.2 b (fun z=>hb (by rw[z];exact vX))];exact e
end
noncomputable abbrev cH (led:Bool):Obj:={ cls := .type "set",dict:=none,data := .set #[] 0 (.fresh 0 0 led) }
section
variable {prog:Program} {w:World} {A:Around} {E:Value->Shared->Prop} {s:Shared}
end
noncomputable abbrev h_ (w:World):Bool := !w.params.followText "set-order"
theorem J8 {h:Heap} {S:Addr} {led:Bool} (e:h.get? S=some (cH led)):eR h S led [] :=
 ⟨_,#[],0,_,e,⟨rfl,rfl,rfl⟩,rfl,rfl,.inl rfl,rfl,by cases led<;>decide,List.Pairwise.nil,rfl,rfl,(fun _ h=>nomatch h),YO _,XR⟩
section
variable {prog:Program} {w:World} {A:Around} {E:Value->Shared->Prop} {s:Shared}
theorem J9 (a:Value) {Q₁ : Value->Shared->Prop} (h:Q₁ (.ref s.heap.objs.size) { s with heap:=s.heap.push (cH (h_ w)) }) :
  codeAny (model prog w) A (.call (.builtin "set.__new__") ⟨[.type "set",a],[]⟩) (wants Q₁ E) s:=by
 refine codeAny_of_tree ?_
 show wpAny _ A.in1 (checkBuiltinCall "set.__new__" ⟨[.type "set",a],[]⟩ >>= fun _=>again (.builtin "set.__new__" ⟨[.type "set",a],[]⟩)) _ _ s
 refine l8 (wpAny_of_eq (F.newCall_set_1 a) (vW ⟨Ye F.plain_set_new _,?_⟩))
 refine Xs F.entry_set_new ?_
 rw[Xe F.plain_set_new _]
 have x1:=sub_set_self
 unfold Builtin.«set.__new__» Builtin.Frozenset.newClass newSet setsByText
 obtain⟨hp,g,d,tk,os⟩:=s
 dsimp only
 wp_walk
 refine Y6 (vW ?_)
 dsimp only
 simp only[newObj]
 exact l8 (wpAny_alloc (vW (vW h)))
set_option maxHeartbeats 3200000 in
theorem J_ {l:Addr} {items:Array Value} {Q:Value->Shared->Prop} (ns:List Int) (hh:A.handled=none) (yB:s.heap.IsList l items) (isInt:∀ (i:Nat) (v:Value),items[i]? = some v->∃ t,v = .int (ns.getD i 0) t) (D0:items.size <= 40)
  (fin:∀ (h':Heap) (tk:Nat),eR h' s.heap.objs.size (h_ w) (jY ns items.size)->(∀ b o,b < s.heap.objs.size->s.heap.get? b=some o->h'.get? b=some o)->Q (.ref s.heap.objs.size) { s with heap:=h',toks:=tk }) :
  wpAny (model prog w) A (call (.type "set") [.ref l]) Q E s:=by
 obtain⟨c,tl,yC⟩:=XD.mro
 have m1:=XD.made
 have m2:=XD.sub
 have m3:=XD.notType
 have m4:=XD.canCreate
 have m5:=F.typeCall_set_1 (.ref l)
 refine wpAny_call (codeAny_of_tree ?_)
 show wpAny _ _ (callAny (.type "set") _) _ _ _
 refine vW ⟨Code.quiet_builtin _ (by decide +kernel),Xs F.entry_type_call ?_⟩
 rw[Around.under_plain (weight_type_call_type "set" [.ref l] []) rfl]
 repeat (any_goals (first | assumption | wp_step))
 refine Y7 (J9 (.ref l) (E:=E) (Q₁ := fun r s1=>r = .ref s.heap.objs.size/\s1={ s with heap:=s.heap.push (cH (h_ w)) }) ⟨rfl,rfl⟩) fun r s1 hr => ?_
 cases r with
 | error e=>exact hr
 | ok fl =>
  cases fl with
  | ret obj =>
   obtain⟨rfl,rfl⟩:=hr
   generalize Ka:h_ w=led at fin ⊢
   have gS:(s.heap.push (cH led)).get? s.heap.objs.size=some (cH led):=MM _ rfl
   have tS:Shared.TypeIs { s with heap:=s.heap.push (cH led) } (.ref s.heap.objs.size) "set" := ⟨_,gS,rfl⟩
   have m6:=XD.init.lookup
   have m7:=XD.init.bind (.ref s.heap.objs.size)
   repeat (any_goals (first | assumption | wp_step))
   refine Y7 (codeAny_call_builtin (R:=wants (fun r s2=>r = .none/\∃ h' tk,s2={ s with heap:=h',toks:=tk }/\eR h' s.heap.objs.size led (jY ns items.size) ∧
     ∀ b o,b < s.heap.objs.size->s.heap.get? b=some o->h'.get? b=some o) E) XD.init.plain F.entry_set_init (check_set_init_1 tS ?_)) fun r2 s2 ke => ?_
   ·obtain⟨ol,gl,cl,nl,dl⟩:=yB
    obtain⟨c0,d0,Kb,yD⟩:=ol
    simp only at cl dl
    subst cl
    subst dl
    have yE:(s.heap.push (cH led)).get? l=some { cls := .type "list",dict:=d0,data := .seq items nl,slots:=yD }:=sW _ gl
    have x1:=F.sub_list_set
    have x2:=F.sub_list_frozenset
    have x3:(Value.type "list" == Value.type "dict")=false:=by decide
    have kg:(s.heap.push (cH led)).IsList l items:=⟨_,yE,rfl,nl,rfl⟩
    have ll:l < s.heap.objs.size:=MK gl
    unfold Builtin.«set.__init__» noKeywords Builtin.Frozenset.updateFrom
    generalize yF:pyIter=PI
    wp_walk
    subst yF
    refine YG kg (l8 (Z6 ?_))
    have h3:A.in1.in1.in1.handled=none:=by simp[hh]
    have ez:(s.heap.push (cH led)).objs.size=s.heap.objs.size + 1:=Yt ..
    have nI:l≠(s.heap.push (cH led)).objs.size:=by rw[ez];exact Ww (Xh ll)
    refine J7 ((Z7 h3 _ l nI items).toS) (S:=s.heap.objs.size) ?out (led:=led) ns (fun i v hv=>isInt i v hv) D0 items.size 0 _ (Xd _)
     ⟨⟨_,MM _ rfl,rfl,rfl⟩,kg.push _⟩ ?fresh ?fin
    case out =>
     simp only[ML,W_,YX,not_or,ez]
     exact⟨Ww (Xt _),Yr ll⟩
    case fresh =>
     exact J8 (led:=led) (sW _ gS)
    case fin =>
     intro s' mv se
     obtain⟨h',g',d',k9,sq⟩:=s'
     obtain rfl:g'=s.gens:=mv.gens
     obtain rfl:d'=s.drawn:=mv.drawn
     obtain rfl:sq=s.os:=mv.os
     show wpAny _ _ _ _ _ _
     refine vW ?_
     show wpAny _ _ (ret Value.none) _ _ _
     refine vW ⟨rfl,h',k9,rfl,se,fun b o hb e => ?_⟩
     refine mv.heap b o ?_ (sW _ (sW _ e))
     simp only[ML,W_,YX,not_or,ez]
     exact⟨Ww hb,Ww (Xh hb)⟩
   ·cases r2 with
    | error e=>exact ke
    | ok yG =>
     cases yG with
     | ret r =>
      obtain⟨rfl,h',k9,rfl,se,kp⟩:=ke
      repeat (any_goals (first | assumption | wp_step))
      exact fin _ _ se kp
     | next=>exact ke
     | brk=>exact ke
     | cont=>exact ke
  | next=>exact hr
  | brk=>exact hr
  | cont=>exact hr
end
theorem aN:Slot "set_iterator" "__next__" "set_iterator.__next__" :=
 .of (owner := "set_iterator") (n := "__next__") (by rw[typeLookup_type,builtinLookup_eq_fast];kernel_rfl) (by decide +kernel) (by decide +kernel) (by decide +kernel)
  (by first | exact .inl (by decide +kernel) | exact .inr (by decide +kernel)) (by rw[isSubtype_type];kernel_rfl)
theorem D1:Slot "set_iterator" "__iter__" "set_iterator.__iter__" :=
 .of (owner := "set_iterator") (n := "__iter__") (by rw[typeLookup_type,builtinLookup_eq_fast];kernel_rfl) (by decide +kernel) (by decide +kernel) (by decide +kernel)
  (by first | exact .inl (by decide +kernel) | exact .inr (by decide +kernel)) (by rw[isSubtype_type];kernel_rfl)
theorem D2:entryFor table "set_iterator.__next__" = some Builtin.«set_iterator.__next__» := entryFor_of_fast (by kernel_rfl)
theorem Kc:entryFor table "set_iterator.__iter__" = some Builtin.«dict_keyiterator.__iter__» :=
 entryFor_alias (id' := "dict_keyiterator.__iter__") (by kernel_rfl) rfl (by decide +kernel) (by kernel_rfl)
theorem Kd:entryFor table "set.__iter__" = some Builtin.«frozenset.__iter__» :=
 entryFor_alias (id' := "frozenset.__iter__") (by kernel_rfl) rfl (by decide +kernel) (by kernel_rfl)
theorem D3 (a:Value):argsOk "set_iterator.__next__" ⟨[a],[]⟩:=by unfold argsOk;kernel_rfl
theorem Ke (a:Value):argsOk "set_iterator.__iter__" ⟨[a],[]⟩:=by unfold argsOk;kernel_rfl
noncomputable def bO (h:Heap) (I S:Addr) (first:Value) (i n ep:Nat):Prop:=∃ o,h.get? I=some o/\o.cls = .type "set_iterator" /\ o.data = .fields #[first,.int i 0,.ref S,.int n 0,.int ep 0]
theorem bO.typeIs {s:Shared} {I S:Addr} {f:Value} {i n ep:Nat} (x:bO s.heap I S f i n ep):s.TypeIs (.ref I) "set_iterator" := let ⟨o,ho,hc,_⟩:=x; ⟨o,ho,hc⟩
theorem bO.at {h h':Heap} {I S:Addr} {f:Value} {i n ep:Nat} (x:bO h I S f i n ep) (e:∀ o,h.get? I=some o->h'.get? I=some o):bO h' I S f i n ep:=let ⟨o,ho,r⟩:=x; ⟨o,e _ ho,r⟩
noncomputable def hU (w:World) (S:Addr) (ep:Nat) (es:Array (Int × Value)):Array (Int × Value):=if w.params.followText "set-order" = true then pickOrder (w.params.setOrder S ep) es else es
theorem yH (w:World) (S:Addr) (ep:Nat) (es:Array (Int × Value)):(hU w S ep es).toList.Perm es.toList:=by
 unfold hU
 split
 ·exact JP _ _
 ·exact YO _
theorem vL (w:World) (S:Addr) (ep:Nat) (es:Array (Int × Value)):(hU w S ep es).size=es.size:=by
 have:=(yH w S ep es).length_eq
 simpa using this
noncomputable def slotAt (t:SetTable) (i:Nat):Nat:=if i=0 then 0 else t.place.getD (i - 1) 0 + 1
structure yI (w:World) (I S:Addr) (o:Obj) (es:Array (Int × Value)) (ep:Nat) (t:SetTable) (i:Nat) (h:Heap):Prop where
 set:h.get? S=some o
 it:∃ slot:Nat,bO h I S (.int slot 0) i es.size ep/\(w.params.followText "set-order" = false->slot=slotAt t i)
section
variable {prog:Program} {w:World} {A:Around} {I S:Addr} {o:Obj} {es:Array (Int × Value)} {ep:Nat} {t:SetTable} {ks:List Int}
theorem Kg (T:cG t es (h_ w) ks) {i:Nat} (hi:i <= es.size):below t.place (slotAt t i)=i:=by
 unfold slotAt
 split
 ·rename_i h;subst h;exact JM T.up
 ·rename_i h
  have hl:i - 1 < t.place.size:=by rw[T.hJ];omega
  have e:t.place.getD (i - 1) 0=t.place[i - 1]:=by simp[Array.getD,hl]
  rw[e,JL T.up hl];omega
theorem D4 {E:Value->Shared->Prop} {s:Shared} {Q:Option (Value × Nat)->Shared->Prop} (ho:s.heap.get? S=some o) (hd:o.data = .set es ep t) (T:cG t es (h_ w) ks) {slot i:Nat} (hi:i <= es.size) (hs:w.params.followText "set-order" = false->slot=slotAt t i)
  (k:∀ oz:Nat,(w.params.followText "set-order" = false->i < es.size->oz=slotAt t (i + 1))->Q (((hU w S ep es)[i]?).map fun e=>(e.2,oz)) s):wpAny (model prog w) A (setNext S slot i ep) Q E s:=by
 unfold setNext
 refine l8 (XN ho hd T.fits ?_)
 dsimp only
 refine l8 ?_
 unfold setsByText
 refine l8 (Y6 (vW ?_))
 dsimp only
 have mw:(model prog w).w=w:=rfl
 cases q:w.params.followText "set-order" with
 | true =>
  rw[mw,q]
  simp only[bne_self_eq_false,WC,Xx,YL]
  refine l8 ?_
  unfold setWalk
  refine l8 (XN ho hd T.fits ?_)
  dsimp only
  refine l8 ?_
  unfold setsByText
  refine l8 (Y6 (vW ?_))
  dsimp only
  rw[mw,q,V8 rfl]
  refine l8 (Y6 (vW ?_))
  refine vW ?_
  have:=k slot fun z=>by rw[q] at z;cases z
  unfold hU at this
  rw[V8 q] at this
  exact this
 | false =>
  rw[mw,q,V0 (by decide)]
  have yJ:=hs q
  subst yJ
  have hb:=Kg T hi
  rw[hb]
  refine YC (fun h=>absurd (show (!t.plain && decide (es.size > 1))=true from h) (by rw[T.sj];simp)) (fun _ => ?_)
  refine l8 ?_
  refine YC (c:=(!t.led && !es.isEmpty)=true) (fun h=>absurd h (by rw[T.yq];unfold h_;rw[q];simp)) (fun _ => ?_)
  refine vW (vW ?_)
  have hk:=k (slotAt t (i + 1)) fun _ _=>rfl
  unfold hU at hk
  rw[V0 (by rw[q];decide)] at hk
  by_cases hl:i < es.size
  ·have hp:i < t.place.size:=by rw[T.hJ];exact hl
   rw[MN hl] at hk
   rw[MN hl,MN hp]
   have e:slotAt t (i + 1)=t.place[i] + 1:=by
    unfold slotAt
    rw[V0 (by omega),Nat.add_sub_cancel]
    simp[Array.getD,hp]
   rw[e] at hk
   exact hk
  ·rw[XX (by omega)] at hk
   rw[XX (by omega)]
   exact hk
theorem D5 {E:Value->Shared->Prop} {s:Shared} {a:Addr} {ob:Obj} {vs:Array Value} {Q:Array Value->Shared->Prop} (ho:s.heap.get? a=some ob) (hd:ob.data = .fields vs) (h:Q vs s):wpAny (model prog w) A (fieldsOf (.ref a)) Q E s:=by
 unfold fieldsOf
 refine l8 (wpAny_load ho ?_)
 rw[hd];exact vW h
theorem Kh (hh:A.handled=none) (gD:S≠I) (hex:o.ExactSet) (hd:o.data = .set es ep t) (T:cG t es (h_ w) ks) :
  Walks prog w A I [I,S] [I] es.size (fun i v=>∃ e,(hU w S ep es)[i]? = some e/\v=e.2) (yI w I S o es ep t) where
 sub:=fun b hb=>by simp at hb;simp[hb]
 frame:=fun i h h' st hk=>⟨hk S (by simp) _ st.set,let ⟨slot,x,y⟩:=st.it; ⟨slot,x.at fun o e=>hk I (by simp) o e,y⟩⟩
 item:=fun i s Q E hi st hQ=>by
  obtain⟨slot,hit,hs⟩:=st.it
  obtain⟨oi,qK,hc,oA⟩:=id hit
  unfold pyNext
  refine l8 (wpAny_attempt (X_ (name:=Str.ofString "__next__") hit.typeIs aN
   (Ya aN hit.typeIs D2 ?_ (D3 _))))
  unfold Builtin.«set_iterator.__next__»
  refine l8 (m:=slotArgs _ _ _) (vW ?_)
  refine l8 (D5 qK oA ?_)
  dsimp only
  refine l8 (ZX st.set hd T.fits ?_)
  rw[V0 (by simp)]
  refine l8 (D4 st.set hd T (slot:=slot) (i:=i) (by omega) hs fun oz hn => ?_)
  have ei:(hU w S ep es)[i]? = some ((hU w S ep es)[i]'(by rw[vL];exact hi)):=MN _
  rw[ei]
  dsimp only [Option.map]
  refine l8 (Zw qK oA (by simp) ?_)
  have gT:=Xk (Obj.mapFields (·.setIfInBounds 0 (rawInt oz))) qK (ZF (Yy oA _))
  have yK:=Yy oA (·.setIfInBounds 0 (rawInt (oz:Int)))
  refine l8 (Zw gT yK (by simp) ?_)
  have gC:=Xk (Obj.mapFields (·.setIfInBounds 1 (rawInt ((i:Int) + 1)))) gT (ZF (Yy yK _))
  have hd2:=Yy yK (·.setIfInBounds 1 (rawInt ((i:Int) + 1)))
  refine vW ⟨_,rfl,vW (hQ _ _ s.toks ⟨_,ei,rfl⟩ ⟨?_,oz,⟨_,gC,?_,?_⟩,fun z=>hn z hi⟩ fun b ob hb e => ?_)⟩
  ·rw[XE _ _ (Ys gD),XE _ _ (Ys gD)];exact st.set
  ·exact (q0f ..).trans ((q0f ..).trans hc)
  ·rw[hd2];simp[rawInt]
  ·have dD:I≠b:=fun z=>hb (by simp[z])
   rw[XE _ _ dD,XE _ _ dD];exact e
 done:=fun s Q E st hQ=>by
  obtain⟨slot,hit,hs⟩:=st.it
  obtain⟨oi,qK,hc,oA⟩:=id hit
  unfold pyNext
  refine l8 (wpAny_attempt (X_ (name:=Str.ofString "__next__") hit.typeIs aN
   (Ya aN hit.typeIs D2 ?_ (D3 _))))
  unfold Builtin.«set_iterator.__next__»
  refine l8 (m:=slotArgs _ _ _) (vW ?_)
  refine l8 (D5 qK oA ?_)
  dsimp only
  refine l8 (ZX st.set hd T.fits ?_)
  rw[V0 (by simp)]
  refine l8 (D4 st.set hd T (slot:=slot) (i:=es.size) (qU _) hs fun oz hn => ?_)
  rw[XX (by rw[vL];exact qU _)]
  dsimp only [Option.map]
  refine l8 (Zw qK oA (by simp) ?_)
  show wpAny _ _ (newExc (.type "StopIteration") [] >>= _) _ _ _
  refine l8 ?_
  simp only[newExc,newTuple]
  refine l8 (Xn ?_ (by size_fits))
  refine l8 (m:=firstArgMember _ _) (wpAny_of_eq (a:=Value.none) (by first | rfl | (simp only[firstArgMember];rfl)) ?_)
  refine Xn ?_ (by size_fits)
  simp only[raiseNew]
  refine l8 (wpAny_handled ?_)
  rw[show A.in1.handled=none from hh]
  refine l8 (vW (wpAny_throw ?_))
  refine l8 (wpAny_isInstance (T := "StopIteration") (b:=true) ⟨_,MM _ rfl,rfl⟩ isSubtype_stop ?_)
  refine vW (hQ _ s.toks fun b ob hb e => ?_)
  have dD:b≠I:=fun z=>hb (by simp[z])
  exact (((W7 ..).extBut.push _).push _) b ob dD e
 self:=fun i s Q E st hQ=>by
  obtain⟨slot,hit,_⟩:=st.it
  refine wpAny_pyIter_slot hit.typeIs D1 (Ya D1 hit.typeIs Kc ?_ (Ke _))
  show wpAny _ _ (ret (.ref I)) _ _ s
  exact vW ⟨_,rfl, "set_iterator",_,hit.typeIs,aN.lookup,hQ⟩
theorem Ki {E:Value->Shared->Prop} {s:Shared} {Q:Bool->Shared->Prop} (ho:s.heap.get? S=some o) (hd:o.data = .set es ep t) (T:cG t es (h_ w) ks) (k:Q false s):wpAny (model prog w) A (setDrawn S) Q E s:=by
 unfold setDrawn
 refine l8 (XN ho hd T.fits ?_)
 dsimp only
 refine l8 ?_
 unfold setsByText
 refine l8 (Y6 (vW ?_))
 refine vW ?_
 have e:(!(model prog w).w.params.followText "set-order" && (!t.plain && decide (es.size > 1)))=false:=by rw[T.sj];simp
 exact e ▸ k
theorem Kj {E:Value->Shared->Prop} {s:Shared} {Q:Value->Shared->Prop} (ho:s.heap.get? S=some o) (hex:o.ExactSet) (hd:o.data = .set es ep t) (T:cG t es (h_ w) ks)
  (k:∀ h',(∀ b ob,s.heap.get? b=some ob->h'.get? b=some ob)->yI w s.heap.objs.size S o es ep t 0 h'->Q (.ref s.heap.objs.size) { s with heap:=h' }):wpAny (model prog w) A (pyIter (.ref S)) Q E s:=by
 have tS:s.TypeIs (.ref S) "set" := ⟨o,ho,hex.1⟩
 refine wpAny_pyIter_slot tS F.slot_set_iter (Ya F.slot_set_iter tS Kd ?_ (F.args_set_iter_1 _))
 unfold Builtin.«frozenset.__iter__»
 refine l8 (m:=Builtin.Frozenset.slot0 _ _) (vW (a:=S) ?_)
 refine l8 (m:=Builtin.Frozenset.sizeOf _) ?_
 unfold Builtin.Frozenset.sizeOf
 refine l8 (ZX ho hd T.fits (vW ?_))
 refine l8 (Ki ho hd T ?_)
 simp only[WC,Xx]
 refine l8 (vW ?_)
 refine l8 (wpAny_setEpoch_of ho hd T.fits ?_)
 refine l8 (m:=newFields _ _) (Xn (vW ⟨_,rfl, "set_iterator",_,⟨_,MM _ rfl,rfl⟩,aN.lookup,?_⟩))
 refine k _ (fun b ob e=>sW _ e) ⟨sW _ ho,0,⟨_,MM _ rfl,rfl,rfl⟩,fun _=>rfl⟩
end
section
variable {prog:Program} {w:World} {A:Around} {S:Addr} {o:Obj} {es:Array (Int × Value)} {ep:Nat} {t:SetTable} {ks:List Int}
theorem Kk {E:Value->Shared->Prop} {s:Shared} {Q:Bool->Shared->Prop} (tS:s.TypeIs (.ref S) "set") (k:Q false s):wpAny (model prog w) A (Builtin.List.listLengthHint (.ref S)) Q E s:=by
 unfold Builtin.List.listLengthHint
 refine l8 (wpAny_specialOf tS F.slot_set_len.lookup ?_)
 generalize yL:("set.__len__" : String)=Kl
 wp_delta
 rw[show splitId Kl=some ("set", "__len__") from by subst yL;decide +kernel]
 subst yL
 refine l8 (wpAny_isInstance (T := "set") (b:=true) tS (by rw[isSubtype_type];kernel_rfl) ?_)
 refine YC (fun vH=>absurd vH (by decide)) (fun _ => ?_)
 refine YC (fun _ => ?_) (fun vH=>absurd (by decide +kernel) vH)
 refine l8 (Zx tS ?_)
 exact vW k
theorem Km {E:Value->Shared->Prop} {s:Shared} {Q:List Value->Shared->Prop} (hh:A.handled=none) (ho:s.heap.get? S=some o) (hex:o.ExactSet) (hd:o.data = .set es ep t) (T:cG t es (h_ w) ks) (hn:es.size <= 1000)
  (h:∀ (h':Heap) (tk:Nat),(∀ b ob,s.heap.get? b=some ob->h'.get? b=some ob)->s.heap.objs.size <= h'.objs.size->Q ((hU w S ep es).toList.map (·.2)) { s with heap:=h',toks:=tk }):wpAny (model prog w) A (collect (.ref S)) Q E s:=by
 have tS:s.TypeIs (.ref S) "set" := ⟨o,ho,hex.1⟩
 have lS:S < s.heap.objs.size:=MK ho
 unfold collect
 refine l8 (Z6 (Xs F.entry_proto_collect ?_))
 rw[Xe F.plain_proto_collect _]
 show wpAny _ A.in1 (newList [] >>= fun l=>again (.builtin "list.__iadd__" ⟨[l,.ref S],[]⟩)) _ _ s
 refine l8 (Xn ?_)
 refine vW ⟨Ye Zy _,Xs F.entry_list_iadd ?_⟩
 rw[Xe Zy _]
 generalize vM:({ s with heap:=s.heap.push { cls := .type "list",data := .seq ([]:List Value).toArray } }:Shared)=s1
 have gT:s1.heap.get? S=some o:=by rw[<-vM];exact sW _ ho
 have gL:s1.heap.get? s.heap.objs.size=some { cls := .type "list",data := .seq ([]:List Value).toArray }:=by rw[<-vM];exact MM _ rfl
 have z1:s1.heap.objs.size=s.heap.objs.size + 1:=by rw[<-vM];exact Yt ..
 show wpAny _ A.in1 (Builtin.List.listExtendWith (.ref s.heap.objs.size) (.ref S) (.ref s.heap.objs.size)) _ _ _
 unfold Builtin.List.listExtendWith
 refine l8 (Zx (T := "set") ⟨o,gT,hex.1⟩ ?_)
 have h1:Builtin.List.listSameRef (.ref s.heap.objs.size) (.ref S)=false:=by simp[Builtin.List.listSameRef];exact Yr lS
 have h2:(Value.type "set" == Value.type "list")=false:=by decide
 have h3:(Value.type "set" == Value.type "tuple")=false:=by decide
 simp only[h1,h2,h3,Bool.or_false,WC,Xx]
 refine l8 (Kj gT hex hd T fun gf oB jZ => ?_)
 refine l8 (W6 (Kk ⟨o,oB _ _ gT,hex.1⟩ ?_))
 have gD:S≠s1.heap.objs.size:=by rw[z1];exact Ww (Xh lS)
 have W:=(Kh (prog:=prog) (A:=A.in1) (I:=s1.heap.objs.size) (by simp[hh]) gD hex hd T).toS
 have Kn:s.heap.objs.size∉[s1.heap.objs.size,S]:=by
  simp only[ML,W_,YX,not_or,z1]
  exact⟨Ww (Xt _),Yr lS⟩
 have key:∀ (su:Heap) (c:Nat),yI w s1.heap.objs.size S o es ep t 0 su->su.get? s.heap.objs.size=some { cls := .type "list",data := .seq #[] c }->(∀ b ob,b≠s.heap.objs.size->gf.get? b=some ob->su.get? b=some ob) →
   codeAny (model prog w) A (.builtin "list.extend.loop" ⟨[.ref s.heap.objs.size,.ref s1.heap.objs.size,.ref s.heap.objs.size],[]⟩) (fun r s'=>match r with
    | .ok (.ret v)=>wpAny (model prog w) A (match v with
     | .ref a=>do match (<- load a).data with
      | .seq xs _=>pure xs.toList
      | _=>unsupported "internal:collect"
     | _=>unsupported "internal:collect") Q E s'
    | .ok _=>False
    | .error e=>E e s') { s1 with heap:=su }:=by
  intro su c st hL kp
  refine codeAny_extend_loopS W (by rw[X1];omega) _ Kn _ es.size 0 _ #[] c rfl (Xl _) st hL (ItemsOf.nil _) fun s' bR c' hm k_ iV => ?_
  show wpAny _ A (load s.heap.objs.size >>= _) _ _ s'
  refine l8 (wpAny_load k_ (vW ?_))
  have ea:bR.toList=(hU w S ep es).toList.map (·.2):=by
   refine YE fun i => ?_
   rw[MJ]
   by_cases hi:i < es.size
   ·have D6:i < bR.size:=by rw[iV.1];exact hi
    obtain⟨e,he,hv⟩:=iV.2 i _ (MN D6)
    rw[WJ,MN D6,WJ,he,hv];rfl
   ·rw[WJ,XX (by rw[iV.1];omega),WJ,XX (by rw[vL];omega)];rfl
  rw[ea]
  obtain⟨VT,g3,d3,VU,Ko⟩:=s'
  obtain rfl:g3=s1.gens:=hm.gens
  obtain rfl:d3=s1.drawn:=hm.drawn
  obtain rfl:Ko=s1.os:=hm.os
  subst vM
  refine h _ _ (fun b ob e => ?_) (XY (MK k_))
  have hb:b < s.heap.objs.size:=MK e
  refine hm.heap b ob ?_ (kp b ob (Ww hb) (oB b ob (sW _ e)))
  simp only[ML,W_,YX,not_or]
  exact⟨Ww hb,by show b≠(s.heap.push _).objs.size;rw[Yt];exact Ww (Xh hb)⟩
 have yM:=oB _ _ gL
 refine YC (fun _ => ?_) (fun _=>vW ⟨Ye F.plain_extend_loop _,key _ _ jZ yM (fun b ob _ e=>e)⟩)
 refine l8 (Z5 ?_)
 refine l8 ?_
 show wpAny _ _ (updateSeq s.heap.objs.size (·.push .none) >>= fun _=>updateSeq s.heap.objs.size (·.pop)) _ _ _
 refine l8 (Zi yM rfl ?_)
 have D7:=Xk (Obj.mapSeq (·.push Value.none)) yM rfl
 refine Zi (hz:=by seq_fits) D7 rfl ?_
 have Kp:=Xk (Obj.mapSeq (·.pop)) D7 rfl
 have yN:∀ b ob,b≠s.heap.objs.size->gf.get? b=some ob->((gf.update s.heap.objs.size (Obj.mapSeq (·.push Value.none))).update s.heap.objs.size (Obj.mapSeq (·.pop))).get? b=some ob :=
  fun b ob hb e=>(XE _ _ (Ys hb)).trans ((XE _ _ (Ys hb)).trans e)
 refine vW ⟨Ye F.plain_extend_loop _,key _ _ ?_ Kp yN⟩
 obtain⟨slot,it,sl⟩:=jZ.it
 exact⟨yN _ _ (Ww lS) jZ.set,slot,it.at fun ob e=>yN _ _ (by rw[z1];exact Yr (Xt _)) e,sl⟩
end
end LJS
namespace L2
open PySem PySem.Spec PyProof.Rows
noncomputable abbrev Key:=Sum Int Str
noncomputable def qL:Key->Value->Bool
 | .inl k,v=>Value.isInt k v
 | .inr x,v=>Value.isStrOf x v
noncomputable def yO (w:World):Key->Int
 | .inl k=>hashInt k
 | .inr x=>hashStr w x
theorem lO:∀ {k:Key} {v:Value},qL k v=true->(∃ i t,k=Sum.inl i/\v=Value.int i t)\/(∃ x t,k=Sum.inr x/\v=Value.str x t)
 | .inl i,v,h=>by
  obtain⟨t,e⟩:=Value.isInt_shape (k:=i) (v:=v) h
  exact .inl ⟨i,t,rfl,e⟩
 | .inr x,v,h=>by
  obtain⟨t,e⟩:=Value.isStrOf_shape (x:=x) (v:=v) h
  exact .inr ⟨x,t,rfl,e⟩
theorem Kq (i:Int) (t:Tok):qL (.inl i) (.int i t)=true:=by simp[qL,Value.isInt]
theorem Kr (x:Str) (t:Tok):qL (.inr x) (.str x t)=true:=by simp[qL,Value.isStrOf]
theorem Ks (a b:Int):decide ((Sum.inl a:Key)=Sum.inl b)=(a == b):=by
 by_cases e:a=b
 ·subst e;simp
 ·have h:¬ (Sum.inl a:Key)=Sum.inl b:=fun q=>e (Sum.inl.inj q)
  rw[WK h]
  exact (beq_eq_false_iff_ne.mpr e).symm
theorem Kt (a b:Str):decide ((Sum.inr a:Key)=Sum.inr b)=decide (a=b):=by
 by_cases e:a=b
 ·subst e;simp
 ·have h:¬ (Sum.inr a:Key)=Sum.inr b:=fun q=>e (Sum.inr.inj q)
  rw[WK h,WK e]
theorem Ku (a:Int) (b:Str):decide ((Sum.inl a:Key)=Sum.inr b)=false:=WK (fun q=>nomatch q)
theorem Kv (a:Str) (b:Int):decide ((Sum.inr a:Key)=Sum.inl b)=false:=WK (fun q=>nomatch q)
noncomputable def ib (prog:Program) (w:World):PySem.KeyKind prog w Key where
 is:=qL
 hash:=yO w
 inj:=fun v a b ha hb=>by
  rcases lO ha with⟨i,t,rfl,rfl⟩ | ⟨x,t,rfl,rfl⟩
  ·rcases lO hb with⟨j,u,rfl,e⟩ | ⟨y,u,rfl,e⟩
   ·injection e with e1 _;rw[e1]
   ·exact nomatch e
  ·rcases lO hb with⟨j,u,rfl,e⟩ | ⟨y,u,rfl,e⟩
   ·exact nomatch e
   ·injection e with e1 _;rw[e1]
 byValue:=fun k v h=>by
  rcases lO h with⟨i,t,rfl,rfl⟩ | ⟨x,t,rfl,rfl⟩<;>rfl
 pyHash:=fun hv h=>by
  rcases lO hv with⟨i,t,rfl,rfl⟩ | ⟨x,t,rfl,rfl⟩
  ·exact wpAny_pyHash_int h
  ·exact wpAny_pyHash_str h
 eqBool:=fun hu hv h=>by
  rcases lO hu with⟨i,t,rfl,rfl⟩ | ⟨x,t,rfl,rfl⟩
  ·rcases lO hv with⟨j,u,rfl,rfl⟩ | ⟨y,u,rfl,rfl⟩
   ·rw[Ks] at h;exact wpAny_eqBool_int h
   ·rw[Ku] at h;exact SeqAt.EqAt.int_str i t y u _ _ _ _ h
  ·rcases lO hv with⟨j,u,rfl,rfl⟩ | ⟨y,u,rfl,rfl⟩
   ·rw[Kv] at h;exact SeqAt.EqAt.str_int x t j u _ _ _ _ h
   ·rw[Kt] at h;exact wpAny_eqBool_str h
 «strs» := fun k x t v h=>by
  rcases lO h with⟨i,u,rfl,e⟩ | ⟨y,u,rfl,e⟩
  ·exact nomatch e
  ·injection e with e1 _
   subst e1
   cases v<;>rfl
theorem Kw (prog:Program) (w:World) (i:Int) (t:Tok):(ib prog w).is (.inl i) (.int i t)=true:=Kq i t
theorem Kx (prog:Program) (w:World) (x:Str) (t:Tok):(ib prog w).is (.inr x) (.str x t)=true:=Kr x t
inductive V where
 | non | bl (b:Bool) | int (i:Int) | str (x:Str) | byt (b:Array UInt8) | flt (b:UInt64) | ref (a:Addr) | ty (n:String)
 deriving DecidableEq
noncomputable def RelV:V->Value->Prop
 | .non,u=>u=Value.none
 | .bl b,u=>u=Value.bool b
 | .int i,u=>∃ t,u=Value.int i t
 | .str x,u=>∃ t,u=Value.str x t
 | .byt b,u=>∃ t,u=Value.bytes b t
 | .flt b,u=>∃ t,u=Value.float b t
 | .ref a,u=>u=Value.ref a
 | .ty n,u=>u=Value.type n
noncomputable abbrev Vals:List V->List Value->Prop:=Paired RelV
theorem Vals.length {xs:List V} {us:List Value} (r:Vals xs us):xs.length=us.length:=Paired.length r
theorem Vals.get:∀ {xs:List V} {us:List Value} {i:Nat} {x:V},Vals xs us->xs[i]? = some x->∃ u,us[i]? = some u/\RelV x u
 | _,_,_,_,.nil,e=>by simp at e
 | _,_,0,_,.cons r _,e=>by simp at e;subst e;exact⟨_,rfl,r⟩
 | _,_,i + 1,x,.cons _ t,e=>by
  obtain⟨u,h1,h2⟩:=Vals.get (i:=i) (x:=x) t (by simpa using e)
  exact⟨u,by simpa using h1,h2⟩
theorem Vals.set {x:V} {u:Value} (r:RelV x u):∀ {xs:List V} {us:List Value} (i:Nat),Vals xs us->Vals (xs.set i x) (us.set i u)
 | _,_,_,.nil => .nil
 | _,_,0,.cons _ t => .cons r t
 | _,_,i + 1,.cons q t => .cons q (Vals.set r i t)
theorem Vals.append:∀ {xs ys:List V} {us ws:List Value},Vals xs us->Vals ys ws->Vals (xs ++ ys) (us ++ ws)
 | _,_,_,_,.nil,s=>s
 | _,_,_,_,.cons r t,s => .cons r (Vals.append t s)
theorem Vals.take:∀ {xs:List V} {us:List Value} (n:Nat),Vals xs us->Vals (xs.take n) (us.take n)
 | _,_,0,_ => .nil
 | _,_,_ + 1,.nil => .nil
 | _,_,n + 1,.cons r t => .cons r (Vals.take n t)
theorem Vals.drop:∀ {xs:List V} {us:List Value} (n:Nat),Vals xs us->Vals (xs.drop n) (us.drop n)
 | _,_,0,r=>r
 | _,_,_ + 1,.nil => .nil
 | _,_,n + 1,.cons _ t=>Vals.drop n t
noncomputable def iW:Option V->Option Value->Prop
 | some v,some u=>RelV v u
 | none,none=>True
 | _,_=>False
noncomputable def KV {κ : Type}:List (κ × V)->List (κ × Value)->Prop:=Paired fun (p : κ × V) (q : κ × Value)=>p.1=q.1/\RelV p.2 q.2
noncomputable def kV:Key->V
 | .inl i => .int i
 | .inr x => .str x
inductive HO where
 | lst (xs:List V)
 | tup (xs:List V)
 | dK (kvs:List (Key × V)) | dT (kvs:List (List Key × V))
 | set (S:Int->Bool) (n:Nat)
 | ins (C dx:Addr) (fs:List (Str × V))
 | own (x:Addr)
 | xd (fs:List (Str × V))
 | met (f x:Addr)
 | rng (lo hi:Int)
 | frz (o:Obj) (u:HO)
 | tbl (ps:Array Value)
 | ext (φ : Heap->Prop)
noncomputable abbrev Hp:=Addr->Option HO
noncomputable def upd (H:Hp) (a:Addr) (o:HO):Hp:=fun b=>if b=a then some o else H b
theorem bw {H:Hp} {a:Addr} {o:HO}:upd H a o a=some o:=by unfold upd;rw[V8 rfl]
theorem aO {H:Hp} {a b:Addr} {o:HO} (h:b≠a):upd H a o b=H b:=by unfold upd;rw[V0 h]
theorem Ky {H:Hp} {a b:Addr} {o u:HO} (h:H a=some o) (h':H b=some u) (d:o≠u):a≠b:=by
 intro e;subst e;rw[h] at h';exact d (WY h')
theorem dg {H:Hp} {a b:Addr} {o:HO} (h:H a=some o) (h':H b=none):a≠b:=by
 intro e;subst e;rw[h] at h';cases h'
section
variable (P:Program) (w:World)
noncomputable def aI (H:Hp) (h:Heap) (a:Addr):HO->Prop
 | .lst xs=>xs.length <= sizeLine/\∃ (ah:List Value) (n:Nat),Vals xs ah/\h.get? a=some { cls := .type "list",data := .seq ah.toArray n }
 | .tup xs=>xs.length <= sizeLine/\∃ ah:List Value,Vals xs ah/\IsTup h a ah.toArray
 | .dK kvs=>kvs.length <= sizeLine/\(a == sysModules)=false/\∃ vs,KV kvs vs/\h.DictOf (ib P w) a vs
 | .dT kvs=>kvs.length <= sizeLine/\(a == sysModules)=false/\∃ xs:List (List Key × Addr × Value),
   Paired (fun (p:List Key × V) (q:List Key × Addr × Value)=>p.1=q.1/\H q.2.1=some (.tup (p.1.map kV))/\RelV p.2 q.2.2) kvs xs ∧
   ∃ o es ep,h.get? a=some o/\o.ExactDict/\o.data = .dict es ep/\es.toList=xs.map (entryOfKey (tupleKind (ib P w)))/\(xs.map (·.1)).Nodup
 | .set S n=>h.SetOf (intKind P w) a S n
 | .ins C dx fs=>H dx=some (.own a)/\fs.length <= 1000/\dx≠a/\h.get? a=some (PySem.W.instObj C dx) ∧
   ∃ mA,h.Ns1 dx mA/\(∀ f,iW (fs.lookup f) (mA f))/\PySem.Within mA (fs.map (·.1))
 | .own _=>∃ o,h.get? a=some o
 | .xd fs=>∃ mA,h.Ns1 a mA/\∀ f,iW (fs.lookup f) (mA f)
 | .rng lo hi=>∃ t u v,h.get? a=some { cls := .type "range",data := .fields #[.int lo t,.int hi u,.int 1 v] }
 | .frz o u=>h.get? a=some o/\aI H h a u
 | .tbl ps=>h.get? a=some { cls := .none,data := .fields ps }
 | .met f x=>h.get? a=some (PySem.W.methodObj (.ref f) (.ref x))
 | .ext φ => φ h/\(∃ o,h.get? a=some o)/\∀ h1 h2:Heap,φ h1->(∀ o,h1.get? a=some o->h2.get? a=some o) -> φ h2
noncomputable def dS (H:Hp) (h:Heap):Prop:=∀ a o,H a=some o->aI P w H h a o
end
section
variable {P:Program} {w:World} {H H':Hp} {h h':Heap} {a:Addr} {o:HO}
theorem aI.lt (x:aI P w H h a o):a < h.objs.size:=by
 cases o with
 | lst xs=>obtain⟨_,_,_,_,e⟩:=x;exact MK e
 | tup xs=>obtain⟨_,_,_,p⟩:=x;exact p.lt
 | dK kvs=>obtain⟨_,_,_,_,o,_,_,e,_⟩:=x;exact MK e
 | dT kvs=>obtain⟨_,_,_,_,o,_,_,e,_⟩:=x;exact MK e
 | set S n=>obtain⟨o,_,_,_,e,_⟩:=x;exact MK e
 | ins C dx fs=>obtain⟨_,_,_,e,_⟩:=x;exact MK e
 | own y=>obtain⟨_,e⟩:=x;exact MK e
 | xd fs=>obtain⟨_,⟨_,_,_,e,_⟩,_⟩:=x;exact MK e
 | rng lo hi=>obtain⟨_,_,_,e⟩:=x;exact MK e
 | frz ob u=>obtain⟨e,_⟩:=x;exact MK e
 | tbl ps=>exact MK (show h.get? a=some _ from x)
 | met f y=>exact MK (show h.get? a=some _ from x)
 | ext φ => obtain⟨_,⟨_,e⟩,_⟩:=x;exact MK e
theorem Paired.oC {α β : Type} {F G : α -> β -> Prop}:∀ {l₁ : List α} {l₂ : List β},Paired F l₁ l₂ -> (∀ a b,F a b->G a b)->Paired G l₁ l₂
 | _,_,.nil,_ => .nil
 | _,_,.cons r t,f => .cons (f _ _ r) (Paired.oC t f)
theorem aI.gg (x:aI P w H h a o) (k:∀ b u,(b=a\/H b=some (.own a))->h.get? b=some u->h'.get? b=some u)
  (ho:∀ b,H b=some (.own a)->H' b=some (.own a)) (ht:∀ b xs,H b=some (.tup xs)->H' b=some (.tup xs)):aI P w H' h' a o:=by
 induction o with
 | lst xs=>obtain⟨z,ah,n,r,e⟩:=x;exact⟨z,ah,n,r,k _ _ (.inl rfl) e⟩
 | tup xs=>obtain⟨z,ah,r,ob,e,c⟩:=x;exact⟨z,ah,r,ob,k _ _ (.inl rfl) e,c⟩
 | dK kvs=>obtain⟨z,y,vs,r,ob,es,ep,e,c⟩:=x;exact⟨z,y,vs,r,ob,es,ep,k _ _ (.inl rfl) e,c⟩
 | dT kvs =>
  obtain⟨z,y,xs,r,ob,es,ep,e,c⟩:=x
  exact⟨z,y,xs,Paired.oC r fun p q z=>⟨z.1,ht _ _ z.2.1,z.2.2⟩,ob,es,ep,k _ _ (.inl rfl) e,c⟩
 | set S n=>obtain⟨ob,es,ep,t,e,c⟩:=x;exact⟨ob,es,ep,t,k _ _ (.inl rfl) e,c⟩
 | ins C dx fs =>
  obtain⟨d,z,ne,e,mA,⟨od,es,ep,e2,c⟩,r⟩:=x
  exact⟨ho _ d,z,ne,k _ _ (.inl rfl) e,mA,⟨od,es,ep,k _ _ (.inr d) e2,c⟩,r⟩
 | own y=>obtain⟨ob,e⟩:=x;exact⟨ob,k _ _ (.inl rfl) e⟩
 | xd fs=>obtain⟨mA,⟨od,es,ep,e,c⟩,r⟩:=x;exact⟨mA,⟨od,es,ep,k _ _ (.inl rfl) e,c⟩,r⟩
 | rng lo hi=>obtain⟨t,u,v,e⟩:=x;exact⟨t,u,v,k _ _ (.inl rfl) e⟩
 | frz ob u ih=>obtain⟨e,q⟩:=x;exact⟨k _ _ (.inl rfl) e,ih q⟩
 | tbl ps =>
  have e:h.get? a=some { cls := .none,data := .fields ps }:=x
  show h'.get? a=some { cls := .none,data := .fields ps }
  exact k a _ (.inl rfl) e
 | met f y =>
  have e:h.get? a=some (PySem.W.methodObj (.ref f) (.ref y)):=x
  show h'.get? a=some (PySem.W.methodObj (.ref f) (.ref y))
  exact k a _ (.inl rfl) e
 | ext φ => obtain⟨p,⟨o,e⟩,st⟩:=x;exact⟨st _ _ p fun o q=>k _ _ (.inl rfl) q,⟨o,k _ _ (.inl rfl) e⟩,st⟩
theorem dS.lt (x:dS P w H h) (e:H a=some o):a < h.objs.size:=(x a o e).lt
theorem dS.fresh (x:dS P w H h) (e:h.objs.size <= a):H a=none:=by
 cases q:H a with
 | none=>rfl
 | some u=>exact absurd (WD (x.lt q) e) (Yf _)
theorem dS.kept (x:dS P w H h) (k:∀ b u,h.get? b=some u->h'.get? b=some u):dS P w H h':=fun a o e =>
 (x a o e).gg (fun b u _ q=>k b u q) (fun _ q=>q) fun _ _ q=>q
theorem dS.laid (x:dS P w H h) (k:∀ b u,h.get? b=some u->h'.get? b=some u) (hp:h.objs.size <= a) (new:aI P w (upd H a o) h' a o):dS P w (upd H a o) h':=fun b u e=>by
 have hn:=x.fresh hp
 by_cases hb:b=a
 ·subst hb;rw[bw] at e;cases e;exact new
 ·rw[aO hb] at e
  exact (x b u e).gg (fun c v _ q=>k c v q) (fun c q=>by rw[aO (dg q hn)];exact q) fun c xs q=>by rw[aO (dg q hn)];exact q
end
noncomputable def Rd (H:Hp) (a:Addr) (u:HO):Prop:=H a=some u\/∃ o,H a=some (.frz o u)
theorem Rd.ok {P:Program} {w:World} {H:Hp} {h:Heap} {a:Addr} {u:HO} (r:Rd H a u) (x:dS P w H h):aI P w H h a u:=by
 rcases r with r | ⟨o,r⟩
 ·exact x a u r
 ·obtain⟨_,q⟩:=x a _ r
  exact q
noncomputable def sv:Option HO->Prop
 | some (.lst _)=>True
 | some (.dK _)=>True
 | some (.dT _)=>True
 | some (.set _ _)=>True
 | some (.ins _ _ _)=>True
 | some (.ext _)=>True
 | _=>False
section
variable {P:Program} {w:World} {H:Hp} {h h':Heap} {x e:Addr} {o':HO}
theorem dS.write (ok:dS P w H h) (mu:sv (H x)) (he:e=x\/H e=some (.own x)) (k:∀ b u,b≠e->h.get? b=some u->h'.get? b=some u) (la:∃ u,h'.get? e=some u)
  (new:aI P w (upd H x o') h' x o'):dS P w (upd H x o') h':=fun b u q=>by
 have sx:∀ c y,H c=some (.own y)->c≠x:=fun c y r z=>by subst z;rw[r] at mu;exact mu
 have yP:∀ c xs,H c=some (.tup xs)->c≠x:=fun c xs r z=>by subst z;rw[r] at mu;exact mu
 by_cases hb:b=x
 ·subst hb;rw[bw] at q;cases q;exact new
 ·rw[aO hb] at q
  by_cases oD:b=e
  ·have q':H b=some (.own x):=by
    rcases he with z | z
    ·exact absurd (oD.trans z) hb
    ·rw[oD];exact z
   rw[q] at q';cases q'
   obtain⟨v,hv⟩:=la
   exact⟨v,by rw[oD];exact hv⟩
  ·refine (ok b u q).gg (fun c v hc r=>k c v ?_ r) (fun c r=>by rw[aO (sx c b r)];exact r) fun c xs r=>by rw[aO (yP c xs r)];exact r
   rcases hc with rfl | hc
   ·exact oD
   ·rintro rfl
    rcases he with z | z
    ·exact sx c b hc z
    ·rw[hc] at z;cases z;exact hb rfl
end
structure Un (fs ex:List Addr) (H H':Hp) (h h':Heap):Prop where
 keep:∀ b o,h.get? b=some o->H b=none->b∉fs->b∉ex->h'.get? b=some o
 slot:∀ b o,h.get? b=some o->H b=none->b∈fs->b∉ex->∃ sl,h'.get? b=some { o with slots:=sl }
 free:∀ b o,h.get? b=some o->H b=none->b∉ex->H' b=none
 there:∀ b o,h.get? b=some o->b∉ex->∃ o',h'.get? b=some o'
 fH:∀ b xs,H b=some (.tup xs)->H' b=some (.tup xs)
 gh:∀ b o u,H b=some (.frz o u)->H' b=some (.frz o u)
 gi:∀ b ps,H b=some (.tbl ps)->∃ more,H' b=some (.tbl (ps ++ more))
section
variable {fs Kz ex VV:List Addr} {H H1 H2:Hp} {h h1 h2 h':Heap} {a x e:Addr} {o:HO}
theorem Un.any (u:Un fs ex H H1 h h1) {b:Addr} {ob:Obj} (q:h.get? b=some ob) (n:H b=none) (hx:b∉ex):∃ sl,h1.get? b=some { ob with slots:=sl }:=by
 by_cases hb:b∈fs
 ·exact u.slot b ob q n hb hx
 ·exact⟨ob.slots,u.keep b ob q n hb hx⟩
theorem Un.kept (k:∀ b u,h.get? b=some u->h'.get? b=some u):Un fs ex H H h h' :=
 ⟨fun b ob q _ _ _=>k b ob q,fun b ob q _ _ _=>⟨ob.slots,k b ob q⟩,fun _ _ _ n _=>n,fun b ob q _=>⟨ob,k b ob q⟩,fun _ _ q=>q,fun _ _ _ q=>q,fun _ ps q=>⟨#[],by rw[q];simp⟩⟩
theorem Un.refl:Un fs ex H H h h:=Un.kept fun _ _ q=>q
theorem Un.laid (k:∀ b u,h.get? b=some u->h'.get? b=some u) (hp:h.objs.size <= a) (hn:H a=none):Un fs ex H (upd H a o) h h' where
 keep:=fun b u q _ _ _=>k b u q
 slot:=fun b u q _ _ _=>⟨u.slots,k b u q⟩
 free:=fun b u q n _=>by rw[aO (Ww (WD (MK q) hp))];exact n
 there:=fun b u q _=>⟨u,k b u q⟩
 fH:=fun b xs q=>by rw[aO (dg q hn)];exact q
 gh:=fun b u xs q=>by rw[aO (dg q hn)];exact q
 gi:=fun b ps q=>⟨#[],by rw[aO (dg q hn),q];simp⟩
theorem Un.write (mu:sv (H x)) (he:e=x\/H e=some (.own x)) (k:∀ b u,b≠e->h.get? b=some u->h'.get? b=some u) (la:∃ u,h'.get? e=some u):Un fs ex H (upd H x o) h h':=by
 have hx:∀ b,H b=none->b≠x:=fun b n z=>by subst z;rw[n] at mu;exact mu
 have hb:∀ b,H b=none->b≠e:=fun b n z=>by
  subst z
  rcases he with r | r
  ·exact hx b n r
  ·rw[n] at r;cases r
 have hm:∀ b u,H b=some u->¬ sv (some u)->b≠x:=fun b u q nm z=>by subst z;rw[q] at mu;exact nm mu
 refine⟨fun b u q n _ _=>k b u (hb b n) q,fun b u q n _ _=>⟨u.slots,k b u (hb b n) q⟩,fun b u q n _=>by rw[aO (hx b n)];exact n,fun b u q _ => ?_,
  fun b xs q=>by rw[aO (hm b _ q fun z=>z)];exact q,fun b u xs q=>by rw[aO (hm b _ q fun z=>z)];exact q,fun b ps q=>⟨#[],by rw[aO (hm b _ q fun z=>z),q];simp⟩⟩
 by_cases oD:b=e
 ·subst oD;exact la
 ·exact⟨u,k b u oD q⟩
end
noncomputable def vN (h:Heap) (H:Hp):List Addr:=(List.range h.objs.size).filter fun a=>(H a).isSome
noncomputable def gj (h:Heap) (H:Hp):Heap:=PySem.W.hideAll h (vN h H)
theorem KC (h:Heap) (H:Hp):(gj h H).objs.size=h.objs.size:=PySem.W.hideAll_size _ _
theorem KD {h:Heap} {H:Hp} {b:Addr} {o:Obj} (e:h.get? b=some o) (n:H b=none):(gj h H).get? b=some o :=
 PySem.W.hideAll_get _ e fun hm=>by
  have q:(H b).isSome=true:=(W9.mp hm).2
  rw[n] at q;simp at q
theorem KG {h:Heap} {H:Hp} {b:Addr} {o:Obj} (e:(gj h H).get? b=some o):h.get? b=some o/\H b=none:=by
 have e':h.get? b=some o:=PySem.W.of_hideAll (vN h H) e
 refine⟨e',?_⟩
 cases q:H b with
 | none=>rfl
 | some x =>
  have hm:b∈vN h H:=W9.mpr ⟨WL.mpr (MK e'),by simp[q]⟩
  have z:(gj h H).get? b=none:=PySem.W.hideAll_none (vN h H) hm
  rw[z] at e;cases e
structure Mod (K:PySem.W.Frag) (mg:Str->Option Value) (base:Heap):Prop where
 mX:K.In base
 glob:base.Ns mainGlobals mg
 blt:∃ mb,base.Ns builtinsNs mb/\∀ x:Str,x ≠ "__name__" -> mb x=bootBuiltins x
 nolimit:base.NoLimit
structure Cx where
 prog:Program
 w:World
 K:PySem.W.Frag
 mg:Str->Option Value
 base:Heap
 A:Around
 N:List Str
 s₀ : Shared
 H₀ : Hp
 env:Env
 outer:List Env
 stack:List Env
 ex:List Addr
 fn:Str->Bool
 calm:Bool
 pn:List (Addr × Obj)
 xe:Value->Shared->Prop
noncomputable def j2 (l:List Env):List Addr:=l.filterMap (·.frame)
noncomputable abbrev Cx.fs (X:Cx):List Addr:=j2 X.outer
noncomputable def oE (sc:Scope) (x:Str):Prop:=sc.names.lookup x=some .local\/sc.names.lookup x=some .cell\/sc.names.lookup x=some .free
noncomputable def Loc (sc:Scope) (x:Str):Prop:=sc.names.lookup x=some .local\/sc.names.lookup x=some .cell
noncomputable def Look (env:Env) (h:Heap) (m:Str->Option Value) (x:Str) (u:Value):Prop :=
 (env.kindOf x=some .local/\m x=some u)\/((env.kindOf x=some .cell\/env.kindOf x=some .free)/\∃ c,env.cells.lookup x=some c/\h.IsCell c (some u))
structure Cx.Ok (X:Cx):Prop where
 mod:Mod X.K X.mg X.base
 kind:X.env.scope.kind = .function
 glob:X.env.globals=mainGlobals
 blt:X.env.builtins=builtinsNs
 above:X.s₀.heap.objs.size <= X.env.locals
 inj:∀ x y c,X.env.cells.lookup x=some c->X.env.cells.lookup y=some c->x=y
 has:∀ x,(X.env.kindOf x=some .cell\/X.env.kindOf x=some .free)->∃ c,X.env.cells.lookup x=some c
 sy:∀ x c,X.fn x=true->X.env.cells.lookup x=some c->X.s₀.heap.objs.size <= c
 hd:X.calm=true->X.A.handled=none
 frames:X.A.frames=some X.stack
 vO:X.stack=X.outer\/(X.stack=X.env :: X.outer/\X.env.frame=some X.env.locals)
 D8:∀ b∈X.ex,b≠X.env.locals/\∀ x c,X.env.cells.lookup x=some c->c≠b
 bs:∀ b o,X.base.get? b=some o->X.s₀.heap.get? b=some o/\X.H₀ b=none
 mY:X.base.objs.size <= X.s₀.heap.objs.size
 kh:∀ b o,X.base.get? b=some o->b∉X.ex
 lP:∀ b∈X.ex,b∉X.fs
 fu:X.s₀.heap.FunFrames X.base X.outer
 oF:∀ b∈X.fs,X.H₀ b=none
structure Inv (X:Cx) (pins:List (Addr × Obj)) (σ : List (Option V)) (H:Hp) (s:Shared):Prop where
 ok:X.Ok
 os:s.os=X.s₀.os
 bare:AllBare s.gens
 base:Un X.fs X.ex X.H₀ H X.s₀.heap s.heap
 loc:∃ m,s.heap.Ns X.env.locals m/\∀ (i:Nat) (x:Str) (v:V),X.N[i]? = some x -> σ[i]? = some (some v)->oE X.env.scope x->∃ u,RelV v u/\Look X.env s.heap m x u
 cell:∀ x c,X.env.cells.lookup x=some c->∃ v,s.heap.IsCell c v
 free:H X.env.locals=none
 c6:∀ x c,X.env.cells.lookup x=some c->H c=none
 pin:∀ p∈X.pn ++ pins,s.heap.get? p.1=some p.2/\H p.1=none/\p.1≠X.env.locals/\p.1∉X.fs/\∀ v,p.2.data ≠ .cell v
 aM:dS X.prog X.w H s.heap
 len : σ.length=X.N.length
section
variable {X:Cx} {pins:List (Addr × Obj)} {σ : List (Option V)} {H H':Hp} {s:Shared} {h':Heap}
theorem Cx.Ok.yQ (ok:X.Ok) {b:Addr} {o:Obj} (e:X.base.get? b=some o):b∉X.fs:=fun hb=>by
 have:=(ok.fu.mem hb).1
 rw[e] at this;cases this
theorem Inv.bs (I:Inv X pins σ H s):∀ b o,X.base.get? b=some o->s.heap.get? b=some o/\H b=none:=fun b o e =>
 ⟨I.base.keep b o (I.ok.bs b o e).1 (I.ok.bs b o e).2 (I.ok.yQ e) (I.ok.kh b o e),I.base.free b o (I.ok.bs b o e).1 (I.ok.bs b o e).2 (I.ok.kh b o e)⟩
theorem Inv.bk (I:Inv X pins σ H s):∀ b o,X.base.get? b=some o->s.heap.get? b=some o:=fun b o e=>(I.bs b o e).1
theorem Inv.mod (I:Inv X pins σ H s):Mod X.K X.mg X.base:=I.ok.mod
theorem Inv.ic (I:Inv X pins σ H s):X.K.In s.heap:=I.ok.mod.mX.keeps I.bk
theorem Inv.nolimit (I:Inv X pins σ H s):s.heap.NoLimit:=I.ok.mod.nolimit.keeps I.bk
theorem Inv.lt (I:Inv X pins σ H s):X.env.locals < s.heap.objs.size:=let ⟨_,hn,_⟩:=I.loc;hn.lt
theorem Inv.sz (I:Inv X pins σ H s):X.s₀.heap.objs.size <= s.heap.objs.size:=XO I.ok.above (XY I.lt)
theorem Inv.yR (I:Inv X pins σ H s) {a:Addr} (h:s.heap.objs.size <= a):a∉X.fs:=fun hb=>by
 obtain⟨_,o,ho,_⟩:=I.ok.fu.mem hb
 exact absurd (WD (MK ho) (XO I.sz h)) (Yf _)
theorem Inv.oG (I:Inv X pins σ H s):∀ x c,X.env.cells.lookup x=some c->c≠X.env.locals:=fun x c e z=>by
 obtain⟨v,o,ho,hd⟩:=I.cell x c e
 obtain⟨m,⟨o',es,ep,jD,KH,_⟩,_⟩:=I.loc
 rw[z,jD] at ho;cases ho;rw[KH] at hd;cases hd
theorem Inv.fu (I:Inv X pins σ H s):s.heap.FunFrames X.base X.outer:=by
 have all:∀ (l:List Env),(∀ b∈j2 l,b∈X.fs)->X.s₀.heap.FunFrames X.base l->s.heap.FunFrames X.base l:=by
  intro l
  induction l with
  | nil=>intro _ _;trivial
  | cons env r ih =>
   intro hs hl
   obtain⟨hk,⟨L,o,hf,hn,ho,hd⟩,hr⟩:=hl
   have hL:L∈X.fs:=hs L (by unfold j2;rw[Zb,hf];exact vX)
   obtain⟨sl,e⟩:=I.base.slot L o ho (I.ok.oF L hL) hL fun z=>I.ok.lP L z hL
   exact⟨hk,⟨L,_,hf,hn,e,hd⟩,ih (fun b hb=>hs b (by unfold j2;rw[Zb,hf];exact E6 _ hb)) hr⟩
 exact all X.outer (fun _ hb=>hb) I.ok.fu
theorem Inv.stack (I:Inv X pins σ H s):s.heap.FunFrames X.base X.stack:=by
 rcases I.ok.vO with e | ⟨e,hf⟩
 ·rw[e];exact I.fu
 ·rw[e]
  obtain⟨m,hn,_⟩:=I.loc
  refine .cons (by rw[I.ok.kind];decide) hf hn ?_ I.fu
  exact Heap.get?_none_of_le (XO I.ok.mY I.ok.above)
theorem Inv.gU (I:Inv X pins σ H s):∀ b∈j2 X.stack,b∈X.env.locals :: X.fs:=fun b hb=>by
 rcases I.ok.vO with e | ⟨e,hf⟩
 ·rw[e] at hb;exact E6 _ hb
 ·rw[e] at hb
  unfold j2 at hb
  rw[Zb,hf] at hb
  exact hb
theorem Inv.ji (I:Inv X pins σ H s):∀ b∈j2 X.stack,H b=none:=fun b hb=>by
 rcases ML.mp (I.gU b hb) with e | hb
 ·rw[e];exact I.free
 ·obtain⟨_,o,ho,_⟩:=I.ok.fu.mem hb
  exact I.base.free b o ho (I.ok.oF b hb) fun z=>I.ok.lP b z hb
theorem Inv.step {g':Array GenState} {t':Nat} {d':Drawn} {ch:List Addr} (I:Inv X pins σ H s)
  (lb:∀ b∈ch,(b∈X.ex\/X.s₀.heap.objs.size <= b)/\b≠X.env.locals/\(∀ x c,X.env.cells.lookup x=some c->c≠b)/\∀ p∈X.pn ++ pins,p.1≠b)
  (keep:∀ b o,b≠X.env.locals->b∉X.fs->b∉ch->s.heap.get? b=some o->H b=none->h'.get? b=some o)
  (slot:∀ b o,b≠X.env.locals->b∈X.fs->b∉ch->s.heap.get? b=some o->H b=none->∃ sl,h'.get? b=some { o with slots:=sl }) (free:∀ b o,b∉ch->s.heap.get? b=some o->H b=none->H' b=none)
  (there:∀ b o,b∉ch->s.heap.get? b=some o->∃ o',h'.get? b=some o')
  (fH:∀ b xs,H b=some (.tup xs)->H' b=some (.tup xs)) (gh:∀ b o u,H b=some (.frz o u)->H' b=some (.frz o u)) (gi:∀ b ps,H b=some (.tbl ps)->∃ more,H' b=some (.tbl (ps ++ more)))
  (ns:∀ m,s.heap.Ns X.env.locals m->h'.Ns X.env.locals m) (aM:dS X.prog X.w H' h') (hg:AllBare g') :
  Inv X pins σ H' { s with heap:=h',gens:=g',drawn:=d',toks:=t' }:=by
 have D9:∀ b o,X.s₀.heap.get? b=some o->b≠X.env.locals:=fun b o e=>Ww (WD (MK e) I.ok.above)
 have vP:∀ b o,X.s₀.heap.get? b=some o->b∉X.ex->b∉ch:=fun b o e hx hb=>by
  rcases (lb b hb).1 with z | z
  ·exact hx z
  ·exact absurd (WD (MK e) z) (Yf _)
 have cellK:∀ x c,X.env.cells.lookup x=some c->∀ v,s.heap.IsCell c v->h'.IsCell c v:=fun x c e v ⟨o,ho,hd⟩=>by
  have mZ:c∉ch:=fun z=>(lb c z).2.2.1 x c e rfl
  by_cases hc:c∈X.fs
  ·obtain⟨sl,q⟩:=slot c o (I.oG x c e) hc mZ ho (I.c6 x c e)
   exact⟨_,q,hd⟩
  ·exact⟨o,keep c o (I.oG x c e) hc mZ ho (I.c6 x c e),hd⟩
 refine⟨I.ok,I.os,hg,⟨fun b o e n hb hx => ?_,fun b o e n hb hx => ?_,fun b o e n hx => ?_,fun b o e hx => ?_,fun b xs e=>fH b xs (I.base.fH b xs e),fun b o xs e=>gh b o xs (I.base.gh b o xs e),fun b ps e => ?_⟩,?_,fun x c e => ?_,?_,fun x c e => ?_,fun p hp => ?_,aM,I.len⟩
 ·exact keep b o (D9 b o e) hb (vP b o e hx) (I.base.keep b o e n hb hx) (I.base.free b o e n hx)
 ·obtain⟨sl,e1⟩:=I.base.slot b o e n hb hx
  obtain⟨yS,e2⟩:=slot b _ (D9 b o e) hb (vP b o e hx) e1 (I.base.free b o e n hx)
  exact⟨yS,e2⟩
 ·obtain⟨o',e1⟩:=I.base.there b o e hx
  exact free b o' (vP b o e hx) e1 (I.base.free b o e n hx)
 ·obtain⟨o',e1⟩:=I.base.there b o e hx
  exact there b o' (vP b o e hx) e1
 ·obtain⟨m1,e1⟩:=I.base.gi b ps e
  obtain⟨m2,e2⟩:=gi b _ e1
  exact⟨m1 ++ m2,by rw[e2,Array.append_assoc]⟩
 ·obtain⟨m,hn,hl⟩:=I.loc
  refine⟨m,ns m hn,fun i x v e1 e2 e3 => ?_⟩
  obtain⟨u,r,l⟩:=hl i x v e1 e2 e3
  refine⟨u,r,?_⟩
  rcases l with l | ⟨k,c,e,z⟩
  ·exact .inl l
  ·exact .inr ⟨k,c,e,cellK x c e _ z⟩
 ·obtain⟨v,z⟩:=I.cell x c e
  exact⟨v,cellK x c e v z⟩
 ·obtain⟨m,⟨o,_,_,ho,_⟩,_⟩:=I.loc
  exact free _ o (fun z=>(lb _ z).2.1 rfl) ho I.free
 ·obtain⟨v,o,ho,hd⟩:=I.cell x c e
  exact free c o (fun z=>(lb c z).2.2.1 x c e rfl) ho (I.c6 x c e)
 ·obtain⟨e,n,ne,nf,d⟩:=I.pin p hp
  have mZ:p.1∉ch:=fun z=>(lb p.1 z).2.2.2 p hp rfl
  exact⟨keep p.1 p.2 ne nf mZ e n,free p.1 p.2 mZ e n,ne,nf,d⟩
theorem Inv.un {t':Nat} (I:Inv X pins σ H s) (u:Un X.fs [] H H' s.heap h') (aM:dS X.prog X.w H' h'):Inv X pins σ H' { s with heap:=h',toks:=t' }:=by
 obtain⟨m,⟨o,es,ep,ho,r⟩,_⟩:=id I.loc
 obtain⟨sl,hL⟩:=u.any ho I.free (by simp)
 exact I.step (g':=s.gens) (d':=s.drawn) (ch:=[]) (fun _ z=>nomatch z) (fun b o _ hb _ e n=>u.keep b o e n hb (by simp)) (fun b o _ hb _ e n=>u.slot b o e n hb (by simp)) (fun b o _ e n=>u.free b o e n (by simp)) (fun b o _ e=>u.there b o e (by simp)) u.fH u.gh u.gi (fun m' hm=>by
  obtain⟨o',sA,yT,jD,r'⟩:=hm
  rw[ho] at jD;cases jD
  exact⟨_,sA,yT,hL,r'⟩) aM I.bare
theorem Inv.call {g':Array GenState} {t':Nat} {d':Drawn} {ch:List Addr} (I:Inv X pins σ H s) (u:Un (j2 X.stack) ch H H' s.heap h') (aM:dS X.prog X.w H' h') (hg:AllBare g')
  (lb:∀ b∈ch,(b∈X.ex\/X.s₀.heap.objs.size <= b)/\b≠X.env.locals/\(∀ x c,X.env.cells.lookup x=some c->c≠b)/\∀ p∈X.pn ++ pins,p.1≠b) :
  Inv X pins σ H' { s with heap:=h',gens:=g',drawn:=d',toks:=t' }:=by
 obtain⟨m,⟨o,es,ep,ho,r⟩,_⟩:=id I.loc
 obtain⟨sl,hL⟩:=u.any ho I.free fun z=>(lb _ z).2.1 rfl
 exact I.step (ch:=ch) lb (fun b o hL hb hc e n=>u.keep b o e n (fun z=>(ML.mp (I.gU b z)).elim hL hb) hc) (fun b o _ _ hc e n=>u.any e n hc) (fun b o hc e n=>u.free b o e n hc) (fun b o hc e=>u.there b o e hc) u.fH u.gh u.gi (fun m' hm=>by
  obtain⟨o',sA,yT,jD,r'⟩:=hm
  rw[ho] at jD;cases jD
  exact⟨_,sA,yT,hL,r'⟩) aM hg
theorem Inv.turned {t':Nat} {it:Addr} (I:Inv X pins σ H s) (k:∀ b o,b≠it->s.heap.get? b=some o->h'.get? b=some o) (hn:H it=none) (hL:it≠X.env.locals)
  (h1:it∈X.ex\/X.s₀.heap.objs.size <= it) (h2:∀ x c,X.env.cells.lookup x=some c->c≠it) (h3:∀ p∈X.pn ++ pins,p.1≠it):Inv X pins σ H { s with heap:=h',toks:=t' }:=by
 have D_:∀ b u,H b=some u->b≠it:=fun b u e z=>by rw[z,hn] at e;cases e
 refine I.step (g':=s.gens) (d':=s.drawn) (ch:=[it]) (fun b hb => ?_) (fun b o _ _ hc e _=>k b o (fun z=>hc (by simp[z])) e) (fun b o _ _ hc e _=>⟨o.slots,k b o (fun z=>hc (by simp[z])) e⟩) (fun _ _ _ _ n=>n)
  (fun b o hc e=>⟨o,k b o (fun z=>hc (by simp[z])) e⟩) (fun _ _ e=>e) (fun _ _ _ e=>e) (fun b ps e=>⟨#[],by rw[e];simp⟩) (fun m hm => ?_) (fun b u e => ?_) I.bare
 ·have e:b=it:=by simpa using hb
  subst e
  exact⟨h1,hL,h2,h3⟩
 ·obtain⟨o,es,ep,ho,r⟩:=hm
  exact⟨o,es,ep,k _ o (Ys hL) ho,r⟩
 ·refine (I.aM b u e).gg (fun c v hc q=>k c v ?_ q) (fun _ q=>q) fun _ _ q=>q
  rcases hc with z | z
  ·rw[z];exact D_ b u e
  ·exact D_ c _ z
theorem Inv.tok (I:Inv X pins σ H s) (t:Nat):Inv X pins σ H { s with toks:=t }:=I.un (h':=s.heap) (t':=t) Un.refl I.aM
theorem Inv.kept {t':Nat} (I:Inv X pins σ H s) (k:∀ b u,s.heap.get? b=some u->h'.get? b=some u):Inv X pins σ H { s with heap:=h',toks:=t' }:=I.un (Un.kept k) (I.aM.kept k)
theorem Inv.laid {a:Addr} {o:HO} {t':Nat} (I:Inv X pins σ H s) (k:∀ b u,s.heap.get? b=some u->h'.get? b=some u) (hp:s.heap.objs.size <= a) (new:aI X.prog X.w (upd H a o) h' a o) :
  Inv X pins σ (upd H a o) { s with heap:=h',toks:=t' }:=I.un (Un.laid k hp (I.aM.fresh hp)) (I.aM.laid k hp new)
theorem Inv.write {x e:Addr} {o:HO} {t':Nat} (I:Inv X pins σ H s) (mu:sv (H x)) (he:e=x\/H e=some (.own x)) (k:∀ b u,b≠e->s.heap.get? b=some u->h'.get? b=some u) (la:∃ u,h'.get? e=some u)
  (new:aI X.prog X.w (upd H x o) h' x o):Inv X pins σ (upd H x o) { s with heap:=h',toks:=t' }:=I.un (Un.write mu he k la) (I.aM.write mu he k la new)
theorem Inv.fz {bx:List (Addr × Obj)} (I:Inv X pins σ H s) (h:∀ p∈bx,s.heap.get? p.1=some p.2/\H p.1=none/\p.1≠X.env.locals/\p.1∉X.fs/\∀ v,p.2.data ≠ .cell v):Inv X bx σ H s :=
 ⟨I.ok,I.os,I.bare,I.base,I.loc,I.cell,I.free,I.c6,fun p hp=>(WX.mp hp).elim (fun z=>I.pin p (Xf _ z)) (h p),I.aM,I.len⟩
theorem Ea {N:List Str} (hN:N.Nodup) {i j:Nat} {x:Str} (a:N[i]? = some x) (b:N[j]? = some x):i=j:=by
 obtain⟨h1,e1⟩:=pe.mp a
 obtain⟨h2,e2⟩:=pe.mp b
 exact (Yw hN).mp (e1.trans e2.symm)
theorem Eb {M:Model} {A:Around} {E:Value->Shared->Prop} {i:Nat} {x:Str} {v:V} {u:Value} {Q:Unit->Shared->Prop} (I:Inv X pins σ H s) (hN:X.N.Nodup) (hi:X.N[i]? = some x) (hx:Loc X.env.scope x) (r:RelV v u)
  (h:∀ s',Inv X pins (σ.set i (some v)) H s'->(∃ a,Heap.SameBut a s.heap s'.heap/\(a=X.env.locals\/X.env.cells.lookup x=some a))->Q () s') (hf:X.fn x=true\/X.env.scope.names.lookup x=some .local:=by first | exact .inl rfl | exact .inr rfl | assumption):wpAny M A (storeName X.env x u) Q E s:=by
 obtain⟨m,hn,hl⟩:=id I.loc
 have yU:(X.env.scope.kind == .class || (X.env.scope.kind == .module && X.env.locals != X.env.globals))=false:=by rw[I.ok.kind];rfl
 have Ec:i < σ.length:=by rw[I.len];exact (pe.mp hi).1
 have oG:=I.oG
 have tracked:∀ {a:Addr} {h':Heap},(∃ o,s.heap.get? a=some o/\H a=none)->Heap.SameBut a s.heap h'->dS X.prog X.w H h':=fun {a h'} ha hs b ob e=>by
  obtain⟨_,_,m8⟩:=ha
  refine (I.aM b ob e).gg (fun c w' hc q=>(hs.2 c ?_).trans q) (fun _ q=>q) fun _ _ q=>q
  rintro rfl
  rcases hc with rfl | hc
  ·rw[m8] at e;cases e
  ·rw[m8] at hc;cases hc
 rcases hx with hk | hk
 ·refine wpAny_storeName_local hk hn (fun h' iS hs => ?_) yU
  obtain⟨oL,_,_,m9,_⟩:=id hn
  refine h _ ⟨I.ok,I.os,I.bare,⟨fun b o e n hb hx => ?_,fun b o e n hb hx => ?_,I.base.free,fun b o e hx => ?_,I.base.fH,I.base.gh,I.base.gi⟩,⟨_,iS,fun j y v' e1 e2 e3 => ?_⟩,fun y c e => ?_,I.free,I.c6,fun p hp => ?_,tracked ⟨oL,m9,I.free⟩ hs,by simpa using I.len⟩ ⟨_,hs,.inl rfl⟩
  ·exact (hs.2 b (Ww (WD (MK e) I.ok.above))).trans (I.base.keep b o e n hb hx)
  ·obtain⟨sl,e1⟩:=I.base.slot b o e n hb hx
   exact⟨sl,(hs.2 b (Ww (WD (MK e) I.ok.above))).trans e1⟩
  ·obtain⟨o',e1⟩:=I.base.there b o e hx
   exact⟨o',(hs.2 b (Ww (WD (MK e) I.ok.above))).trans e1⟩
  ·by_cases hj:j=i
   ·subst hj
    rw[hi] at e1;cases e1
    rw[XF Ec] at e2
    cases e2
    exact⟨u,r,.inl ⟨hk,by simp⟩⟩
   ·rw[Xy (Ys hj)] at e2
    obtain⟨u',r',q⟩:=hl j y v' e1 e2 e3
    refine⟨u',r',?_⟩
    rcases q with⟨k,e⟩ | ⟨k,c,e,z⟩
    ·refine .inl ⟨k,?_⟩
     have:y≠x:=fun e=>hj (Ea hN e1 (e ▸ hi))
     simp[this,e]
    ·exact .inr ⟨k,c,e,z.sameBut hs (oG y c e)⟩
  ·obtain⟨w',z⟩:=I.cell y c e
   exact⟨w',z.sameBut hs (oG y c e)⟩
  ·obtain⟨e,n,ne,nf,d⟩:=I.pin p hp
   exact⟨(hs.2 p.1 ne).trans e,n,ne,nf,d⟩
 ·have lQ:X.fn x=true:=by
   rcases hf with z | z
   ·exact z
   ·rw[z] at hk;cases hk
  obtain⟨c,hc⟩:=I.ok.has x (.inl hk)
  obtain⟨w',z⟩:=I.cell x c hc
  refine wpAny_storeName_cell I.ok.kind hk hc z (fun h' ie hs => ?_)
  obtain⟨oc,qM,yV⟩:=id z
  refine h { s with heap:=h' } ⟨I.ok,I.os,I.bare,⟨fun b o e n hb hx => ?_,fun b o e n hb hx => ?_,I.base.free,fun b o e hx => ?_,I.base.fH,I.base.gh,I.base.gi⟩,⟨m,hn.sameBut hs (Ys (oG x c hc)),fun j y v' e1 e2 e3 => ?_⟩,fun y c' e => ?_,I.free,I.c6,fun p hp => ?_,tracked ⟨oc,qM,I.c6 x c hc⟩ hs,by simpa using I.len⟩ ⟨c,hs,.inr hc⟩
  ·exact (hs.2 b (Ww (WD (MK e) (I.ok.sy x c lQ hc)))).trans (I.base.keep b o e n hb hx)
  ·obtain⟨sl,e1⟩:=I.base.slot b o e n hb hx
   exact⟨sl,(hs.2 b (Ww (WD (MK e) (I.ok.sy x c lQ hc)))).trans e1⟩
  ·obtain⟨o',e1⟩:=I.base.there b o e hx
   exact⟨o',(hs.2 b (Ww (WD (MK e) (I.ok.sy x c lQ hc)))).trans e1⟩
  ·by_cases hj:j=i
   ·subst hj
    rw[hi] at e1;cases e1
    rw[XF Ec] at e2
    cases e2
    exact⟨u,r,.inr ⟨.inl hk,c,hc,ie⟩⟩
   ·rw[Xy (Ys hj)] at e2
    obtain⟨u',r',q⟩:=hl j y v' e1 e2 e3
    refine⟨u',r',?_⟩
    rcases q with q | ⟨k,c',e,z'⟩
    ·exact .inl q
    ·refine .inr ⟨k,c',e,z'.sameBut hs ?_⟩
     rintro rfl
     exact hj (Ea hN e1 (I.ok.inj _ _ _ e hc ▸ hi))
  ·by_cases hcc:c'=c
   ·subst hcc;exact⟨_,ie⟩
   ·obtain⟨w2,z2⟩:=I.cell y c' e
    exact⟨w2,z2.sameBut hs hcc⟩
  ·obtain⟨e,n,ne,nf,d⟩:=I.pin p hp
   refine⟨(hs.2 p.1 ?_).trans e,n,ne,nf,d⟩
   intro q
   rw[q,qM] at e
   have q':oc=p.2:=WY e
   exact d w' (by rw[<-q'];exact yV)
theorem Ed {M:Model} {A:Around} {E:Value->Shared->Prop} {i:Nat} {x:Str} {v:V} {u:Value} {Q:Unit->Shared->Prop} (I:Inv X pins σ H s) (hN:X.N.Nodup) (hi:X.N[i]? = some x) (hx:Loc X.env.scope x) (r:RelV v u)
  (h:∀ s',Inv X pins (σ.set i (some v)) H s'->Q () s') (hf:X.fn x=true\/X.env.scope.names.lookup x=some .local:=by first | exact .inl rfl | exact .inr rfl | assumption):wpAny M A (storeName X.env x u) Q E s :=
 Eb I hN hi hx r (fun s' I' _=>h s' I') hf
theorem Inv.sC {s':Shared} {ch:List Addr} (I:Inv X pins σ H s) (ho:s'.os=s.os) (u:Un (j2 X.stack) ch H H' s.heap s'.heap) (aM:dS X.prog X.w H' s'.heap) (hg:AllBare s'.gens)
  (lb:∀ b∈ch,(b∈X.ex\/X.s₀.heap.objs.size <= b)/\b≠X.env.locals/\(∀ x c,X.env.cells.lookup x=some c->c≠b)/\∀ p∈X.pn ++ pins,p.1≠b):Inv X pins σ H' s':=by
 obtain⟨h',g',d',t',o'⟩:=s'
 have e:o'=s.os:=ho
 subst e
 exact I.call (g':=g') (t':=t') (d':=d') u aM hg lb
end
noncomputable abbrev XK:=Value->Option Addr->Hp->Prop
noncomputable abbrev St:=List (Option V)
noncomputable abbrev VK:=V->Hp->Prop
noncomputable abbrev TE:=St->Hp->VK->Prop
noncomputable abbrev TT:=St->Hp->(Bool->Hp->Prop)->Prop
noncomputable abbrev TA:=St->Hp->(List V->Hp->Prop)->Prop
structure Ends where
 nx:St->Hp->Prop
 rt:VK
 bk:St->Hp->Prop:=fun _ _=>False
 ct:St->Hp->Prop:=fun _ _=>False
noncomputable abbrev TS:=Ends->St->Hp->Prop
noncomputable def EP (X:Cx) (pins:List (Addr × Obj)) (σ : St) (Q:VK) (u:Value) (s':Shared):Prop:=∃ v H',Inv X pins σ H' s'/\RelV v u/\Q v H'
noncomputable def TP (X:Cx) (pins:List (Addr × Obj)) (σ : St) (Q:Bool->Hp->Prop) (b:Bool) (s':Shared):Prop:=∃ H',Inv X pins σ H' s'/\Q b H'
noncomputable def AP (X:Cx) (pins:List (Addr × Obj)) (σ : St) (Q:List V->Hp->Prop) (us:List Value) (s':Shared):Prop:=∃ vs H',Inv X pins σ H' s'/\Vals vs us/\Q vs H'
noncomputable def SP (X:Cx) (pins:List (Addr × Obj)) (D:Ends) (f:Flow) (s':Shared):Prop :=
 match f with
 | .next=>∃ σ' H',Inv X pins σ' H' s'/\D.nx σ' H'
 | .brk=>∃ σ' H',Inv X pins σ' H' s'/\D.bk σ' H'
 | .cont=>∃ σ' H',Inv X pins σ' H' s'/\D.ct σ' H'
 | .ret u=>∃ v σ' H',Inv X pins σ' H' s'/\RelV v u/\D.rt v H'
noncomputable def PE (X:Cx) (e:Expr) (t:TE):Prop :=
 ∀ (pins:List (Addr × Obj)) (s:Shared) (σ : St) (H:Hp) (Q:VK),Inv X pins σ H s->t σ H Q->wpAny (model X.prog X.w) X.A (eval e X.env) (EP X pins σ Q) X.xe s
noncomputable def PT (X:Cx) (e:Expr) (t:TT):Prop :=
 ∀ (pins:List (Addr × Obj)) (s:Shared) (σ : St) (H:Hp) (Q:Bool->Hp->Prop),Inv X pins σ H s->t σ H Q->wpAny (model X.prog X.w) X.A (isTrue e X.env (eval e X.env)) (TP X pins σ Q) X.xe s
noncomputable def PW (X:Cx) (e:Expr) (t:TT):Prop :=
 ∀ (whole:Sem Value) (pins:List (Addr × Obj)) (s:Shared) (σ : St) (H:Hp) (Q:Bool->Hp->Prop),Inv X pins σ H s->t σ H Q->wpAny (model X.prog X.w) X.A (isTrue e X.env whole) (TP X pins σ Q) X.xe s
theorem PW.pt {X:Cx} {e:Expr} {t:TT} (h:PW X e t):PT X e t:=h _
noncomputable def PA (X:Cx) (es:List Expr) (t:TA):Prop :=
 ∀ (pos:Pos) (pins:List (Addr × Obj)) (s:Shared) (σ : St) (H:Hp) (Q:List V->Hp->Prop),Inv X pins σ H s->t σ H Q->wpAny (model X.prog X.w) X.A (spliced (backTo pos (starEach es X.env))) (AP X pins σ Q) X.xe s
noncomputable def PS (X:Cx) (st:Stmt) (t:TS):Prop :=
 ∀ (pins:List (Addr × Obj)) (s:Shared) (σ : St) (H:Hp) (D:Ends),Inv X pins σ H s->t D σ H->wpAny (model X.prog X.w) X.A (exec st X.env) (SP X pins D) X.xe s
noncomputable def hV (X:Cx) (st:List Stmt) (t:TS):Prop :=
 ∀ (pins:List (Addr × Obj)) (s:Shared) (σ : St) (H:Hp) (D:Ends),Inv X pins σ H s->t D σ H->wpAny (model X.prog X.w) X.A (execs st X.env) (SP X pins D) X.xe s
theorem a0 {α : Type} {t:Sem α} {Q Q' : α -> Shared->Prop} {M:Model} {A:Around} {E:Value->Shared->Prop} {s:Shared} (h:wpAny M A t Q E s) (hQ:∀ a s,Q a s->Q' a s):wpAny M A t Q' E s:=Yq h hQ fun _ _ x=>x
section
variable {X:Cx}
noncomputable def gm (i:Nat):TE:=fun σ H Q=>∃ v,σ[i]? = some (some v)/\Q v H
noncomputable def tC (v:V):TE:=fun _ H Q=>Q v H
theorem Ee {i:Nat} {x:Str} {pos:Pos} (hN:X.N[i]? = some x) (hv:oE X.env.scope x) (hd:(x == ("__debug__" : Str))=false:=by decide) (fJ:(x == ("__classdict__" : Str))=false:=by decide):PE X (.Name x pos) (gm i):=by
 intro pins s σ H Q I h
 obtain⟨v,e,h⟩:=h
 obtain⟨m,hn,hl⟩:=I.loc
 obtain⟨u,r,l⟩:=hl i x v hN e hv
 have fin:EP X pins σ Q u s:=⟨v,H,I,r,h⟩
 rcases l with⟨hk,hm⟩ | ⟨hk,c,hc,m_⟩
 ·exact wpAny_Name (wpAny_loadName_local I.ok.kind hk hn hm fin) hd
 ·rcases hk with hk | hk
  ·exact wpAny_Name (wpAny_loadName_cell I.ok.kind hk hc m_ fin) hd
  ·exact wpAny_Name (wpAny_loadName_free I.ok.kind hk hc m_ fin fJ) hd
theorem KI {i j pos}:PE X (.Constant (.int i) j pos) (tC (.int i)):=fun _ _ _ H _ I h=>wpAny_Constant_int ⟨.int i,H,I.tok _,⟨_,rfl⟩,h⟩
theorem KJ {b j pos}:PE X (.Constant (.bool b) j pos) (tC (.bl b)):=fun _ _ _ H _ I h=>Constant_bool ⟨.bl b,H,I,rfl,h⟩
noncomputable def Gl (X:Cx) (x:Str):Prop:=X.env.kindOf x=some .globalImplicit
theorem Ef {E:Value->Shared->Prop} {pins:List (Addr × Obj)} {s:Shared} {σ : St} {H:Hp} {x:Str} {u:Value} {pos:Pos} {Q:Value->Shared->Prop} (I:Inv X pins σ H s) (hg:Gl X x) (hm:X.mg x=some u) (h:Q u s)
  (hd:(x == ("__debug__" : Str))=false:=by decide):wpAny (model X.prog X.w) X.A (eval (.Name x pos) X.env) Q E s :=
 Calls.Name_function_global I.ok.kind hg (Calls.loadGlobal_global (by rw[I.ok.glob];exact I.mod.glob.keeps I.bk) hm h) hd
theorem lR {E:Value->Shared->Prop} {pins:List (Addr × Obj)} {s:Shared} {σ : St} {H:Hp} {x:Str} {u:Value} {pos:Pos} {Q:Value->Shared->Prop} (I:Inv X pins σ H s) (hg:Gl X x) (hm:X.mg x=none) (hv:bootBuiltins x=some u) (h:Q u s)
  (hn:x ≠ "__name__" := by decide) (hd:(x == ("__debug__" : Str))=false:=by decide):wpAny (model X.prog X.w) X.A (eval (.Name x pos) X.env) Q E s:=by
 obtain⟨mb,h1,h2⟩:=I.mod.blt
 exact Calls.Name_function_global I.ok.kind hg (Calls.loadGlobal_builtin (by rw[I.ok.glob];exact I.mod.glob.keeps I.bk) hm (by rw[I.ok.blt];exact h1.keeps I.bk) ((h2 x hn).trans hv) h) hd
theorem KN {x:Str} {v:V} {u:Value} {pos:Pos} (hg:Gl X x) (hm:X.mg x=some u) (r:RelV v u) (hd:(x == ("__debug__" : Str))=false:=by decide):PE X (.Name x pos) (tC v) :=
 fun _ _ _ H _ I h=>Ef I hg hm ⟨v,H,I,r,h⟩ hd
theorem KO {x:Str} {v:V} {u:Value} {pos:Pos} (hg:Gl X x) (hm:X.mg x=none) (hv:bootBuiltins x=some u) (r:RelV v u) (hn:x ≠ "__name__" := by decide) (hd:(x == ("__debug__" : Str))=false:=by decide):PE X (.Name x pos) (tC v) :=
 fun _ _ _ H _ I h=>lR I hg hm hv ⟨v,H,I,r,h⟩ hn hd
variable {a b:Expr} {ta tb:TE} {pos:Pos}
noncomputable def PC (X:Cx) (op:CmpOp) (a b:Expr) (t:TE):Prop :=
 ∀ (pins:List (Addr × Obj)) (s:Shared) (σ : St) (H:Hp) (Q:VK),Inv X pins σ H s->t σ H Q →
  wpAny (model X.prog X.w) X.A (eval a X.env) (fun v s₁ => wpAny (model X.prog X.w) X.A (eval b X.env) (fun u s₂ => wpAny (model X.prog X.w) X.A (compareOp op v u) (EP X pins σ Q) X.xe s₂) X.xe s₁) X.xe s
noncomputable def tB (t:TE):TT:=fun σ H Q=>t σ H fun x H1=>∃ c,x = .bl c/\Q c H1
theorem KP {op:CmpOp} {t:TE} (h:PC X op a b t) (h1:behindInMarks op b=false:=by first | exact KQ _ (by decide) (by decide) | rfl):PT X (.Compare a [op] [b] pos) (tB t):=by
 intro pins s σ H Q I hw
 refine wpAny_isTrue_Compare1 (a0 (h pins s σ H _ I hw) fun v s1 h1=>a0 h1 fun u s2 h2=>a0 h2 fun c s3 h0_ => el5 h0_ fun x H1 I1 r1 q1 => ?_) h1
 obtain⟨d,rfl,q⟩:=q1
 cases r1
 exact Yi ⟨H1,I1,q⟩
theorem KR {e:Expr} {t:TE} (h:PE X e t) (he:∀ whole,isTrue e X.env whole=(do let v <- whole;standAt e.pos;holding [v] (truthy v)):=by intro _;rfl):PT X e (tB t):=by
 intro pins s σ H Q I hw
 refine isTrue_plain (a0 (h pins s σ H _ I hw) fun v s1 h0_ => el5 h0_ fun x H1 I1 r1 q1 => ?_) (he _)
 obtain⟨d,rfl,q⟩:=q1
 cases r1
 exact Yi ⟨H1,I1,q⟩
variable {tA lg:TT} {rest:List Expr}
noncomputable def oH (t u:TT):TT:=fun σ H Q=>t σ H fun c H1=>if c=true then u σ H1 Q else Q false H1
noncomputable def yW (t u:TT):TT:=fun σ H Q=>t σ H fun c H1=>if c=true then Q true H1 else u σ H1 Q
noncomputable def sD (t:TT):TT:=fun σ H Q=>t σ H fun c H1=>Q (!c) H1
theorem KU (ha:PT X a tA):PW X (.BoolOp .And [a] pos) tA:=by
 intro wh pins s σ H Q I h
 refine isTrue_and (a0 (ha pins s σ H Q I h) fun c s1 e => ?_)
 cases c with
 | true=>exact isTrue_and_nil e
 | false=>exact e
theorem KW (ha:PT X a tA):PW X (.BoolOp .Or [a] pos) tA:=by
 intro wh pins s σ H Q I h
 refine isTrue_or (a0 (ha pins s σ H Q I h) fun c s1 e => ?_)
 cases c with
 | false=>exact isTrue_or_nil e
 | true=>exact e
theorem KY (ha:PT X a tA) (hb:PW X (.BoolOp .And (b :: rest) pos) lg):PW X (.BoolOp .And (a :: b :: rest) pos) (oH tA lg):=by
 intro wh pins s σ H Q I h
 refine isTrue_and (a0 (ha pins s σ H _ I h) fun c s1 h0_ => el3 h0_ fun H1 I1 q1 => ?_)
 cases c with
 | true=>exact hb wh pins s1 σ H1 Q I1 q1
 | false=>exact⟨H1,I1,q1⟩
theorem KZ (ha:PT X a tA) (hb:PW X (.BoolOp .Or (b :: rest) pos) lg):PW X (.BoolOp .Or (a :: b :: rest) pos) (yW tA lg):=by
 intro wh pins s σ H Q I h
 refine isTrue_or (a0 (ha pins s σ H _ I h) fun c s1 h0_ => el3 h0_ fun H1 I1 q1 => ?_)
 cases c with
 | true=>exact⟨H1,I1,q1⟩
 | false=>exact hb wh pins s1 σ H1 Q I1 q1
theorem K1 (ha:PT X a tA):PT X (.UnaryOp .Not a pos) (sD tA):=by
 intro pins s σ H Q I h
 exact isTrue_not (ha pins s σ H (fun c H1=>Q (!c) H1) I h)
noncomputable def Eg (ta tb:TE):TE:=fun σ H Q=>ta σ H fun x H1=>∃ c,x = .bl c/\if c=true then tb σ H1 Q else Q (.bl false) H1
noncomputable def Eh (ta:TE):TE:=fun σ H Q=>ta σ H fun x H1=>∃ c,x = .bl c/\Q (.bl (!c)) H1
theorem K4 {op} {t:TE} (h:PE X a t):PE X (.BoolOp op [a] pos) t:=fun pins s σ H Q I hw=>BoolOp_one (h pins s σ H Q I hw)
theorem K5 (ha:PE X a ta) (hb:PE X (.BoolOp .And (b :: rest) pos) tb):PE X (.BoolOp .And (a :: b :: rest) pos) (Eg ta tb):=by
 intro pins s σ H Q I h
 refine BoolOp_and (a0 (ha pins s σ H _ I h) fun v s1 h0_ => el5 h0_ fun x H1 I1 r1 q1 => ?_)
 obtain⟨c,rfl,q1⟩:=q1
 cases r1
 refine Yi ?_
 cases c with
 | true=>exact hb pins s1 σ H1 Q I1 q1
 | false=>exact⟨.bl false,H1,I1,rfl,q1⟩
theorem K6 (ha:PE X a ta):PE X (.UnaryOp .Not a pos) (Eh ta):=by
 intro pins s σ H Q I h
 refine UnaryOp_ (a0 (ha pins s σ H _ I h) fun v s1 h0_ => el5 h0_ fun x H1 I1 r1 q1 => ?_)
 obtain⟨c,rfl,q1⟩:=q1
 cases r1
 exact not_of (Yi ⟨.bl (!c),H1,I1,rfl,q1⟩)
noncomputable def Ei (t:TT) (ta tb:TE):TE:=fun σ H Q=>t σ H fun c H1=>if c=true then ta σ H1 Q else tb σ H1 Q
theorem K7 {c:Expr} (hc:PT X c tA) (ha:PE X a ta) (hb:PE X b tb):PE X (.IfExp c a b pos) (Ei tA ta tb):=by
 intro pins s σ H Q I h
 refine wpAny_IfExp (a0 (hc pins s σ H _ I h) fun d s1 h0_ => el3 h0_ fun H1 I1 q1 => ?_)
 cases d with
 | true=>exact ha pins s1 σ H1 Q I1 q1
 | false=>exact hb pins s1 σ H1 Q I1 q1
end
noncomputable def bh (K:PySem.W.Frag) (H:Hp) (a:Addr) (xs:List V):Prop :=
 Rd H a (.lst xs) ∨
  ∃ (o:Obj) (ah:Array Value) (n:Nat),K.lookup a=some o/\o.cls = .type "list" /\ o.dict=none/\o.data = .seq ah n/\ah.size <= sizeLine/\Vals xs ah.toList
noncomputable def bI (K:PySem.W.Frag) (H:Hp) (a:Addr) (xs:List V):Prop :=
 Rd H a (.tup xs) ∨
  ∃ (o:Obj) (ah:Array Value) (n:Nat),K.lookup a=some o/\o.cls = .type "tuple" /\ o.data = .seq ah n/\ah.size <= sizeLine/\Vals xs ah.toList
noncomputable def yX:Value->Option V
 | .none=>some .non
 | .bool b=>some (.bl b)
 | .int i _=>some (.int i)
 | .str x _=>some (.str x)
 | .bytes b _=>some (.byt b)
 | .float b _=>some (.flt b)
 | .ref a=>some (.ref a)
 | .type n=>some (.ty n)
 | _=>none
theorem RelV.abs {x:V} {u:Value} (r:RelV x u):yX u=some x:=by
 cases x with
 | non=>cases r;rfl
 | bl _=>cases r;rfl
 | int _=>obtain⟨t,rfl⟩:=r;rfl
 | str _=>obtain⟨t,rfl⟩:=r;rfl
 | byt _=>obtain⟨t,rfl⟩:=r;rfl
 | flt _=>obtain⟨t,rfl⟩:=r;rfl
 | ref _=>cases r;rfl
 | ty _=>cases r;rfl
theorem RelV.inj {x y:V} {u:Value} (r:RelV x u) (q:RelV y u):x=y:=WY (r.abs.symm.trans q.abs)
theorem Vals.inj:∀ {xs ys:List V} {us:List Value},Vals xs us->Vals ys us->xs=ys
 | _,_,_,.nil,.nil=>rfl
 | _,_,_,.cons r t,.cons r' t'=>by rw[r.inj r',Vals.inj t t']
section
variable {X:Cx} {pins:List (Addr × Obj)} {σ : St} {H:Hp} {s:Shared} {a:Addr} {xs ys:List V}
theorem bh.of {K:PySem.W.Frag} (h:H a=some (.lst xs)):bh K H a xs := .inl (.inl h)
theorem bI.of {K:PySem.W.Frag} (h:H a=some (.tup xs)):bI K H a xs := .inl (.inl h)
theorem Inv.list (I:Inv X pins σ H s) (h:bh X.K H a xs):∃ ah:List Value,Vals xs ah/\PlainL s.heap a ah.toArray/\xs.length <= sizeLine:=by
 rcases h with h | ⟨o,ah,n,hk,hc,hd,hs,hz,r⟩
 ·obtain⟨z,ah,n,r,e⟩:=h.ok I.aM
  exact⟨ah,r,⟨_,n,e,rfl,rfl,rfl⟩,z⟩
 ·refine⟨ah.toList,r,⟨o,n,I.ic a o hk,hc,hd,by simpa using hs⟩,?_⟩
  have e:=r.length
  simp only[E7] at e
  omega
theorem Inv.tuple (I:Inv X pins σ H s) (h:bI X.K H a xs):∃ ah:List Value,Vals xs ah/\IsTup s.heap a ah.toArray/\xs.length <= sizeLine:=by
 rcases h with h | ⟨o,ah,n,hk,hc,hs,hz,r⟩
 ·obtain⟨z,ah,r,p⟩:=h.ok I.aM
  exact⟨ah,r,p,z⟩
 ·refine⟨ah.toList,r,⟨o,I.ic a o hk,hc,n,by simpa using hs⟩,?_⟩
  have e:=r.length
  simp only[E7] at e
  omega
theorem Inv.ig (I:Inv X pins σ H s) (h:bh X.K H a xs) (h':bh X.K H a ys):xs=ys:=by
 obtain⟨ah,r,⟨o,n,e,_,_,d⟩,_⟩:=I.list h
 obtain⟨its',r',⟨o',n',e',_,_,d'⟩,_⟩:=I.list h'
 rw[e] at e';cases e'
 rw[d] at d'
 injection d' with d1 _
 have:ah=its':=by simpa using congrArg Array.toList d1
 subst this
 exact r.inj r'
theorem Inv.gE (I:Inv X pins σ H s) (h:bI X.K H a xs) (h':bI X.K H a ys):xs=ys:=by
 obtain⟨ah,r,⟨o,e,_,n,d⟩,_⟩:=I.tuple h
 obtain⟨its',r',⟨o',e',_,n',d'⟩,_⟩:=I.tuple h'
 rw[e] at e';cases e'
 rw[d] at d'
 injection d' with d1 _
 have:ah=its':=by simpa using congrArg Array.toList d1
 subst this
 exact r.inj r'
end
noncomputable abbrev Cx.gn (X:Cx) (E:Value->Shared->Prop):Cx:={ X with xe:=E }
noncomputable abbrev Cx.lT (X:Cx):Cx:=X.gn fun _ _=>False
theorem Cx.Ok.gn {X:Cx} (ok:X.Ok) (E:Value->Shared->Prop):(X.gn E).Ok :=
 ⟨ok.mod,ok.kind,ok.glob,ok.blt,ok.above,ok.inj,ok.has,ok.sy,ok.hd,ok.frames,ok.vO,ok.D8,ok.bs,ok.mY,ok.kh,ok.lP,ok.fu,ok.oF⟩
theorem Cx.Ok.dh {X:Cx} {E:Value->Shared->Prop} (ok:(X.gn E).Ok):X.Ok :=
 ⟨ok.mod,ok.kind,ok.glob,ok.blt,ok.above,ok.inj,ok.has,ok.sy,ok.hd,ok.frames,ok.vO,ok.D8,ok.bs,ok.mY,ok.kh,ok.lP,ok.fu,ok.oF⟩
section
variable {X:Cx} {pins:List (Addr × Obj)} {σ : St} {H:Hp} {s:Shared} {E:Value->Shared->Prop}
theorem Inv.gn (I:Inv X pins σ H s) (E:Value->Shared->Prop):Inv (X.gn E) pins σ H s:=⟨I.ok.gn E,I.os,I.bare,I.base,I.loc,I.cell,I.free,I.c6,I.pin,I.aM,I.len⟩
theorem Inv.dh (I:Inv (X.gn E) pins σ H s):Inv X pins σ H s:=⟨I.ok.dh,I.os,I.bare,I.base,I.loc,I.cell,I.free,I.c6,I.pin,I.aM,I.len⟩
theorem SP.dh {D:Ends} {f:Flow} {s':Shared} (h:SP (X.gn E) pins D f s'):SP X pins D f s':=by
 cases f with
 | next=>obtain⟨σ',H',I,q⟩:=h;exact⟨σ',H',I.dh,q⟩
 | brk=>obtain⟨σ',H',I,q⟩:=h;exact⟨σ',H',I.dh,q⟩
 | cont=>obtain⟨σ',H',I,q⟩:=h;exact⟨σ',H',I.dh,q⟩
 | ret u=>obtain⟨v,σ',H',I,r,q⟩:=h;exact⟨v,σ',H',I.dh,r,q⟩
theorem hV.lT {st:List Stmt} {t:TS} (h:hV X.lT st t):hV X st t:=fun pins s σ H D I hw =>
 Yq (h pins s σ H D (I.gn _) hw) (fun _ _ q=>q.dh) fun _ _ z=>False.elim z
end
section
variable {X:Cx} {st:Stmt} {rest:List Stmt} {t u:TS} {e:Expr} {te:TE} {pos:Pos}
noncomputable def Ej:TS:=fun D σ H=>D.nx σ H
noncomputable def ki (t u:TS):TS:=fun D σ H=>t { D with nx:=u D } σ H
theorem K8:hV X [] Ej:=fun _ _ σ H _ I h=>ZS ⟨σ,H,I,h⟩
theorem K9 (h1:PS X st t) (h2:hV X rest u):hV X (st :: rest) (ki t u):=by
 intro pins s σ H D I h
 refine wpAny_execs_cons (a0 (h1 pins s σ H { D with nx:=u D } I h) fun f s1 q => ?_)
 cases f with
 | next =>
  obtain⟨σ',H',I',q⟩:=q
  exact h2 pins s1 σ' H' D I' q
 | ret v=>exact q
 | brk=>exact q
 | cont=>exact q
theorem K_ (h1:PS X st t):hV X [st] t:=by
 intro pins s σ H D I h
 refine wpAny_execs_cons (a0 (h1 pins s σ H D I h) fun f s1 q => ?_)
 cases f with
 | next=>exact ZS q
 | ret v=>exact q
 | brk=>exact q
 | cont=>exact q
theorem Inv.quiet {pins:List (Addr × Obj)} {σ : St} {H:Hp} {s:Shared} (I:Inv X pins σ H s):interactive X.env=false:=by simp[interactive,I.ok.kind]
noncomputable def yY (te:TE):TS:=fun D σ H=>te σ H fun _ H1=>D.nx σ H1
theorem La (he:PE X e te) (hs:swapsWith e none pos.line X.env=pure false:=by rfl):PS X (.Expr e pos) (yY te):=by
 intro pins s σ H D I h
 exact wpAny_Expr_any (a0 (he pins s σ H _ I h) fun v s1 h0_ => el5 h0_ fun x H1 I1 r1 q1 =>⟨σ,H1,I1,q1⟩) I.quiet hs
noncomputable def oJ (te:TE):TS:=fun D σ H=>te σ H D.rt
theorem Lb (he:PE X e te):PS X (.Return (some e) pos) (oJ te):=by
 intro pins s σ H D I h
 exact wpAny_Return_some (a0 (he pins s σ H _ I h) fun v s1 h0_ => el5 h0_ fun x H1 I1 r1 q1 =>⟨x,σ,H1,I1,r1,q1⟩)
noncomputable def sE (c:TT) (t u:TS):TS:=fun D σ H=>c σ H fun b H1=>if b=true then t D σ H1 else u D σ H1
theorem Lc {c:Expr} {a b:List Stmt} {tc:TT} (hc:PT X c tc) (ha:hV X a t) (hb:hV X b u):PS X (.If c a b pos) (sE tc t u):=by
 intro pins s σ H D I h
 refine wpAny_If (a0 (hc pins s σ H _ I h) fun d s1 h0_ => el3 h0_ fun H1 I1 q1 => ?_)
 cases d with
 | true=>exact ha pins s1 σ H1 D I1 q1
 | false=>exact hb pins s1 σ H1 D I1 q1
end
noncomputable abbrev TG:=V->St->Hp->(St->Hp->Prop)->Prop
noncomputable abbrev jj:=List V->St->Hp->(St->Hp->Prop)->Prop
noncomputable def PG (X:Cx) (target:Expr) (t:TG):Prop :=
 ∀ (pins:List (Addr × Obj)) (s:Shared) (σ : St) (H:Hp) (v:V) (u:Value) (Q:St->Hp->Prop),Inv X pins σ H s->RelV v u->t v σ H Q →
  wpAny (model X.prog X.w) X.A (assign target X.env u) (fun _ s'=>∃ σ' H',Inv X pins σ' H' s'/\Q σ' H') X.xe s
noncomputable def sF (X:Cx) (ts:List Expr) (t:jj):Prop :=
 ∀ (pins:List (Addr × Obj)) (s:Shared) (σ : St) (H:Hp) (vs:List V) (us:List Value) (Q:St->Hp->Prop),Inv X pins σ H s->Vals vs us->t vs σ H Q →
  wpAny (model X.prog X.w) X.A (assignInOrder ((assignEach ts X.env).map (·.2)) us) (fun _ s'=>∃ σ' H',Inv X pins σ' H' s'/\Q σ' H') X.xe s
noncomputable abbrev lU:=V->V->V->Hp->(Hp->Prop)->Prop
noncomputable def oK (X:Cx) (t:lU):Prop :=
 ∀ (pins:List (Addr × Obj)) (s:Shared) (σ : St) (H:Hp) (o i v:V) (ov iv u:Value) (Q:Hp->Prop),Inv X pins σ H s->RelV o ov->RelV i iv->RelV v u->t o i v H Q →
  wpAny (model X.prog X.w) X.A (setItem ov iv u) (fun _ s'=>∃ H',Inv X pins σ H' s'/\Q H') X.xe s
section
variable {X:Cx} {pos:Pos}
noncomputable def lh (i:Nat):TG:=fun v σ H Q=>Q (σ.set i (some v)) H
theorem Ld {i:Nat} {x:Str} (hN:X.N.Nodup) (hi:X.N[i]? = some x) (hx:Loc X.env.scope x) (hf:X.fn x=true\/X.env.scope.names.lookup x=some .local:=by first | exact .inl rfl | exact .inr rfl | assumption):PG X (.Name x pos) (lh i):=by
 intro pins s σ H v u Q I r h
 exact wpAny_assign_Name (Ed I hN hi hx r (fun s' I'=>⟨_,H,I',h⟩) hf)
noncomputable def oM:jj:=fun vs σ H Q=>vs=[]/\Q σ H
noncomputable def vQ (t:TG) (u:jj):jj:=fun vs σ H Q=>∃ v r,vs=v :: r/\t v σ H fun σ' H'=>u r σ' H' Q
theorem Le:sF X [] oM:=by
 intro pins s σ H vs us Q I r h
 obtain⟨e,h⟩:=h
 subst e
 cases r
 exact assignInOrder_nil ⟨σ,H,I,h⟩
theorem Lf {e:Expr} {es:List Expr} {t:TG} {u:jj} (h1:PG X e t) (h2:sF X es u)
  (hs:(assignEach (e :: es) X.env).map (·.2)=assign e X.env :: (assignEach es X.env).map (·.2):=by rfl):sF X (e :: es) (vQ t u):=by
 intro pins s σ H vs us Q I r h
 obtain⟨v,vr,e1,h⟩:=h
 subst e1
 cases r with
 | cons r rr =>
  rw[hs]
  refine assignInOrder_cons (a0 (h1 pins s σ H _ _ _ I r h) fun _ s1 ⟨σ1,H1,I1,q1⟩ => ?_)
  exact h2 pins s1 σ1 H1 _ _ Q I1 rr q1
noncomputable def oN (K:PySem.W.Frag) (n:Nat) (t:jj):TG:=fun v σ H Q=>∃ a xs,v = .ref a/\bI K H a xs/\xs.length=n/\t xs σ H Q
theorem Lg {es:List Expr} {k:Nat} {t:jj} {n:Nat} (hc:X.calm=true) (h:sF X es t)
  (hn:(assignEach es X.env).length=n:=by rfl) (kj:(assignEach es X.env).findIdx? (·.1)=none:=by rfl):PG X (.Tuple es k pos) (oN X.K n t):=by
 intro pins s σ H v u Q I r hw
 obtain⟨a,xs,e1,hq,hl,hw⟩:=hw
 subst e1
 cases r
 obtain⟨ah,rv,ht,hz⟩:=I.tuple hq
 refine assign_Tuple_tuple (I.ok.hd hc) ht (by simp[hn,<-hl,rv.length]) kj fun h' hx => ?_
 have I1:Inv X pins σ H { s with heap:=h' }:=I.kept (t':=s.toks) fun b o e=>hx b o (Ww (MK e)) e
 exact h pins _ σ H xs _ Q I1 (by simpa using rv) hw
noncomputable def oO (to ti:TE) (t:lU):TG:=fun v σ H Q=>to σ H fun o H1=>ti σ H1 fun i H2=>t o i v H2 fun H3=>Q σ H3
theorem Lh {o i:Expr} {to ti:TE} {t:lU} (ho:PE X o to) (hi:PE X i ti) (hs:oK X t)
  (ha:∀ v,assign (.Subscript o i pos) X.env v=(do
   let ov <- holding [v] (eval o X.env)
   let iv <- holding [v,ov] (eval i X.env)
   standAt pos
   holding [v,ov,iv] (setItem ov iv v)
   release [v,ov,iv] []):=by intro _;rfl):PG X (.Subscript o i pos) (oO to ti t):=by
 intro pins s σ H v u Q I r h
 rw[ha]
 refine l8 (W6 (a0 (ho pins s σ H _ I h) fun ov s1 h0_ => el5 h0_ fun x H1 I1 r1 q1 => ?_))
 refine l8 (W6 (a0 (hi pins s1 σ H1 _ I1 q1) fun iv s2 h0_ => el5 h0_ fun y H2 I2 r2 q2 => ?_))
 refine l8 (Y1 (l8 (W6 (a0 (hs pins s2 σ H2 x y v ov iv u _ I2 r1 r2 r q2) fun _ s3 h0_ => el3 h0_ fun H3 I3 q3 => ?_))))
 exact wpAny_release ⟨σ,H3,I3,q3⟩
noncomputable def gW (te:TE) (g:TG):TS:=fun D σ H=>te σ H fun x H1=>g x σ H1 D.nx
theorem Li {tg e:Expr} {te:TE} {g:TG} (he:PE X e te) (hg:PG X tg g) (hs:swapsWithSole [tg] e pos.line X.env=pure false:=by rfl) (hw:swappedStores [tg] e X.env=pure none:=by rfl)
  (h1:(assignEach [tg] X.env).map (·.2)=[assign tg X.env]:=by rfl):PS X (.Assign [tg] e pos) (gW te g):=by
 intro pins s σ H D I h
 refine wpAny_Assign_stores (a0 (he pins s σ H _ I h) fun v s1 h0_ => el5 h0_ fun x H1 I1 r1 q1 => ?_) hs hw
 rw[h1]
 exact a0 (hg pins s1 σ H1 x v _ I1 r1 q1) fun _ s2 q=>q
theorem Lj {i:Nat} {x:Str} {e:Expr} {te:TE} {pos':Pos} (hN:X.N.Nodup) (hi:X.N[i]? = some x) (hx:Loc X.env.scope x) (he:PE X e te) (hs:swapsWith e (some (.Name x pos')) pos.line X.env=pure false:=by rfl) (hf:X.fn x=true\/X.env.scope.names.lookup x=some .local:=by first | exact .inl rfl | exact .inr rfl | assumption) :
  PS X (.Assign [.Name x pos'] e pos) (gW te (lh i)):=by
 intro pins s σ H D I h
 refine wpAny_Assign_Name (a0 (he pins s σ H _ I h) fun v s1 h0_ => el5 h0_ fun y H1 I1 r1 q1 => ?_) hs
 exact Ed I1 hN hi hx r1 (fun s2 I2=>⟨_,H1,I2,q1⟩) hf
noncomputable def Ek (c:TT) (tb:TS):TS:=fun D σ H=>∃ W:Nat->St->Hp->Prop,(∃ m,W m σ H)/\∀ m σ H,W m σ H →
 c σ H fun b H1=>if b=true then ∃ N:St->Hp->Prop,(∀ σ' H',N σ' H'->∃ m',m' < m/\W m' σ' H')/\tb { D with nx:=N,ct:=N,bk:=D.nx } σ H1 else D.nx σ H1
theorem Lk {c:Expr} {body:List Stmt} {tc:TT} {tb:TS} (hp:PassesOwn (model X.prog X.w) X.A X.env X.xe) (hc:PT X c tc) (hb:hV X body tb):PS X (.While c body [] pos) (Ek tc tb):=by
 intro pins s σ H D I h
 obtain⟨W,⟨m0,w0⟩,turn⟩:=h
 refine wpAny_While (codeAny_whileLoop (fun n s'=>∃ σ' H',Inv X pins σ' H' s'/\W n σ' H') ?_ m0 ⟨σ,H,I,w0⟩)
 rintro n s1 ⟨σ1,H1,I1,w1⟩
 refine YD hp (a0 (hc pins s1 σ1 H1 _ I1 (turn n σ1 H1 w1)) fun b s2 h0_ => el3 h0_ fun H2 I2 q2 => ?_)
 cases b with
 | true =>
  obtain⟨N,hN,q2⟩:=q2
  rw[V8 rfl]
  refine YD hp (a0 (hb pins s2 σ1 H2 _ I2 q2) fun f s3 q3 => ?_)
  cases f with
  | next =>
   obtain⟨σ3,H3,I3,n3⟩:=q3
   obtain⟨m',hm,w3⟩:=hN σ3 H3 n3
   exact⟨m',hm,σ3,H3,I3,w3⟩
  | cont =>
   obtain⟨σ3,H3,I3,n3⟩:=q3
   obtain⟨m',hm,w3⟩:=hN σ3 H3 n3
   exact⟨m',hm,σ3,H3,I3,w3⟩
  | brk=>exact q3
  | ret v=>exact q3
 | false =>
  rw[V0 WH]
  exact ZS ⟨σ1,H2,I2,q2⟩
end
structure It where
 go:Nat->Hp->Prop
 qN:Nat->Hp->V->Hp->Prop
 stop:Nat->Hp->Prop
noncomputable def ba (X:Cx) (pins:List (Addr × Obj)) (H:Hp) (b:Addr):Prop :=
 H b=none/\b≠X.env.locals/\b∉X.fs/\(b∈X.ex\/X.s₀.heap.objs.size <= b)/\(∀ x c,X.env.cells.lookup x=some c->c≠b)/\∀ p∈X.pn ++ pins,p.1≠b
theorem Inv.gX {X:Cx} {pins:List (Addr × Obj)} {σ : St} {H H':Hp} {s:Shared} {b:Addr} (I:Inv X pins σ H s) (hb:s.heap.objs.size <= b) (hn:H' b=none):ba X pins H' b:=by
 refine⟨hn,Yr (WD I.lt hb),I.yR hb,.inr (XO I.sz hb),fun x c e z => ?_,fun p hp z => ?_⟩
 ·obtain⟨v,q⟩:=I.cell x c e
  exact absurd (WD q.lt (by rw[z];exact hb)) (Yf _)
 ·exact absurd (WD (MK (I.pin p hp).1) (by rw[z];exact hb)) (Yf _)
structure Turn (P:Program) (w:World) (K:PySem.W.Frag) (tg:Expr) (J:It) (fp:List Addr) (it:Addr) (tn:Nat->Heap->Prop):Prop where
 mem:it∈fp
 obj:∀ i h,tn i h->∀ b∈fp,∃ o,h.get? b=some o/\∀ v,o.data ≠ .cell v
 keep:∀ i h h',tn i h->(∀ b∈fp,∀ o,h.get? b=some o->h'.get? b=some o)->tn i h'
 item:∀ (X:Cx),X.prog=P->X.w=w->X.K=K->X.calm=true->∀ (i:Nat) (pins:List (Addr × Obj)) (s:Shared) (σ : St) (H:Hp) (E:Value->Shared->Prop),Inv X pins σ H s->(∀ b∈fp,ba X pins H b)->tn i s.heap->J.go i H →
  wpAny (model P w) X.A (pyNext (.ref it)) (fun r s1=>∃ u,r=some u ∧
   wpAny (model P w) X.A (letOwnedTupleGo tg (.ref it) u) (fun _ s2=>∃ x H',Inv X pins σ H' s2/\RelV x u/\J.qN i H x H'/\tn (i + 1) s2.heap/\∀ b∈fp,H' b=none) E s1) E s
 done:∀ (X:Cx),X.prog=P->X.w=w->X.K=K->X.calm=true->∀ (i:Nat) (pins:List (Addr × Obj)) (s:Shared) (σ : St) (H:Hp) (E:Value->Shared->Prop),Inv X pins σ H s->(∀ b∈fp,ba X pins H b)->tn i s.heap->J.stop i H →
  wpAny (model P w) X.A (pyNext (.ref it)) (fun r s1=>r=none/\Inv X pins σ H s1) E s
 self:∀ (A:Around) (i:Nat) (s:Shared) (Q:Value->Shared->Prop) (E:Value->Shared->Prop),tn i s.heap->Q (.ref it) s->wpAny (model P w) A (pyIter (.ref it)) Q E s
noncomputable abbrev TI:=St->Hp->(It->Hp->Prop)->Prop
noncomputable def El (X:Cx) (pins:List (Addr × Obj)) (σ : St) (tg:Expr) (R:It->Hp->Prop) (yZ:Value) (s2:Shared):Prop :=
 ∃ (it:Addr) (fp:List Addr) (tn:Nat->Heap->Prop) (J:It) (H':Hp),yZ = .ref it/\Inv X pins σ H' s2/\Turn X.prog X.w X.K tg J fp it tn/\tn 0 s2.heap/\(∀ b∈fp,ba X pins H' b)/\R J H'
noncomputable def PI (X:Cx) (tg iter:Expr) (wi:TI):Prop :=
 ∀ (pins:List (Addr × Obj)) (s:Shared) (σ : St) (H:Hp) (R:It->Hp->Prop),Inv X pins σ H s->wi σ H R →
  wpAny (model X.prog X.w) X.A (eval iter X.env) (fun v s1=>wpAny (model X.prog X.w) X.A (pyIter v) (El X pins σ tg R) X.xe s1) X.xe s
theorem y_ {M:Model} {A:Around} {E:Value->Shared->Prop} {s:Shared} {tg:Expr} {it:Addr} {u:Value} {o:Obj} {n:String} {vs:Array Value} {Q:Unit->Shared->Prop} (ho:s.heap.get? it=some o) (hc:o.cls = .type n) (hd:o.data = .fields vs)
  (hn:["enumerate", "zip", "dict_itemiterator", "dict_reverseitemiterator", "odict_iterator", "itertools.zip_longest", "itertools.pairwise"].contains n=false) (hQ:Q () s):wpAny M A (letOwnedTupleGo tg (.ref it) u) Q E s:=by
 unfold letOwnedTupleGo
 cases tg<;>first
  | exact vW hQ
  | (cases u<;>first
    | exact vW hQ
    | (refine l8 (wpAny_load ho ?_)
       rw[hc,hd]
       show wpAny M A (if (["enumerate", "zip", "dict_itemiterator", "dict_reverseitemiterator", "odict_iterator", "itertools.zip_longest", "itertools.pairwise"].contains n && vs[0]? == some (rawInt _))=true then _ else _) Q E s
       rw[V0 (by intro h;rw[hn,q0Z] at h;cases h)]
       exact vW hQ))
noncomputable def Em (K:PySem.W.Frag) (a:Addr):It :=
 ⟨fun i H=>∃ xs x,bh K H a xs/\xs[i]? = some x,fun i H x H'=>H'=H/\∀ xs,bh K H a xs->xs[i]? = some x,fun i H=>∃ xs,bh K H a xs/\xs.length <= i⟩
noncomputable def En (K:PySem.W.Frag) (a:Addr):It :=
 ⟨fun i H=>∃ xs x,bI K H a xs/\xs[i]? = some x,fun i H x H'=>H'=H/\∀ xs,bI K H a xs->xs[i]? = some x,fun i H=>∃ xs,bI K H a xs/\xs.length <= i⟩
noncomputable def sG (lo:Int) (n:Nat):It:=⟨fun i _=>i < n,fun i H x H'=>H'=H/\x = .int (lo + i),fun i _=>n <= i⟩
theorem Ll {P:Program} {w:World} {K:PySem.W.Frag} {tg:Expr} (a it:Addr):Turn P w K tg (Em K a) [it] it (fun i h=>h.IsListIter it a i) where
 mem:=by simp
 obj:=fun i h st b hb=>by
  have e:b=it:=by simpa using hb
  subst e
  obtain⟨o,e,c,d⟩:=st
  exact⟨o,e,fun v z=>by rw[d] at z;cases z⟩
 keep:=fun i h h' st k=>st.at fun o e=>k it (by simp) o e
 item:=by
  intro X hP hw hK hc i pins s σ H E I hf st hg
  subst hP hw hK
  obtain⟨xs,x,hq,hx⟩:=hg
  obtain⟨ah,rv,p,hz⟩:=I.list hq
  obtain⟨u,hu,ru⟩:=rv.get hx
  obtain⟨f0,f1,f2,f3,f4,f5⟩:=hf it (by simp)
  refine wpAny_pyNext_list_item st p.isList (x:=u) (by simpa using hu) fun h' jk sb => ?_
  have I1:Inv X pins σ H { s with heap:=h' }:=I.turned (t':=s.toks) (fun b o hb e=>(sb.2 b hb).trans e) f0 f1 f3 f4 f5
  obtain⟨o,e,c,d⟩:=id jk
  exact⟨u,rfl,y_ (s:={ s with heap:=h' }) e c d (by decide) ⟨x,H,I1,ru,⟨rfl,fun ys hy=>by rw[I.ig hy hq];exact hx⟩,jk,fun b hb=>(hf b hb).1⟩⟩
 done:=by
  intro X hP hw hK hc i pins s σ H E I hf st hg
  subst hP hw hK
  obtain⟨xs,hq,hx⟩:=hg
  obtain⟨ah,rv,p,hz⟩:=I.list hq
  obtain⟨f0,f1,f2,f3,f4,f5⟩:=hf it (by simp)
  have hl:=rv.length
  exact wpAny_pyNext_list_end (I.ok.hd hc) st p.isList (by simp;omega) fun h' eb=>⟨rfl,I.turned (t':=s.toks) (fun b o hb e=>eb b o hb e) f0 f1 f3 f4 f5⟩
 self:=fun _ _ _ _ _ st h=>wpAny_pyIter_listiter st h
theorem Lm {P:Program} {w:World} {K:PySem.W.Frag} {tg:Expr} (a it:Addr):Turn P w K tg (En K a) [it] it (fun i h=>h.IsTupleIter it a i) where
 mem:=by simp
 obj:=fun i h st b hb=>by
  have e:b=it:=by simpa using hb
  subst e
  obtain⟨o,e,c,d⟩:=st
  exact⟨o,e,fun v z=>by rw[d] at z;cases z⟩
 keep:=fun i h h' st k=>st.at fun o e=>k it (by simp) o e
 item:=by
  intro X hP hw hK hc i pins s σ H E I hf st hg
  subst hP hw hK
  obtain⟨xs,x,hq,hx⟩:=hg
  obtain⟨ah,rv,p,hz⟩:=I.tuple hq
  obtain⟨u,hu,ru⟩:=rv.get hx
  obtain⟨f0,f1,f2,f3,f4,f5⟩:=hf it (by simp)
  refine wpAny_pyNext_tuple_item st (show s.heap.IsTuple a ah.toArray from p) (x:=u) (by simpa using hu) fun h' jk sb => ?_
  have I1:Inv X pins σ H { s with heap:=h' }:=I.turned (t':=s.toks) (fun b o hb e=>(sb.2 b hb).trans e) f0 f1 f3 f4 f5
  obtain⟨o,e,c,d⟩:=id jk
  exact⟨u,rfl,y_ (s:={ s with heap:=h' }) e c d (by decide) ⟨x,H,I1,ru,⟨rfl,fun ys hy=>by rw[I.gE hy hq];exact hx⟩,jk,fun b hb=>(hf b hb).1⟩⟩
 done:=by
  intro X hP hw hK hc i pins s σ H E I hf st hg
  subst hP hw hK
  obtain⟨xs,hq,hx⟩:=hg
  obtain⟨ah,rv,p,hz⟩:=I.tuple hq
  obtain⟨f0,f1,f2,f3,f4,f5⟩:=hf it (by simp)
  have hl:=rv.length
  exact wpAny_pyNext_tuple_end (I.ok.hd hc) st (show s.heap.IsTuple a ah.toArray from p) (by simp;omega) fun h' eb=>⟨rfl,I.turned (t':=s.toks) (fun b o hb e=>eb b o hb e) f0 f1 f3 f4 f5⟩
 self:=fun _ _ _ _ _ st h=>wpAny_pyIter_tupleiter st h
theorem Ln {P:Program} {w:World} {K:PySem.W.Frag} {tg:Expr} (it:Addr) (lo:Int) (n:Nat):Turn P w K tg (sG lo n) [it] it (fun i h=>IsRangeIter h it (lo + (i:Nat) * 1) ((n:Int) - (i:Nat)) 1) where
 mem:=by simp
 obj:=fun i h st b hb=>by
  have e:b=it:=by simpa using hb
  subst e
  exact⟨_,st,fun v z=>by
   have z':Data.fields _=Data.cell v:=z
   cases z'⟩
 keep:=fun i h h' st k=>k it (by simp) _ st
 item:=by
  intro X hP hw hK hc i pins s σ H E I hf st hg
  subst hP hw hK
  obtain⟨f0,f1,f2,f3,f4,f5⟩:=hf it (by simp)
  have W:=Walks.range (prog:=X.prog) (w:=X.w) (I.ok.hd hc) it lo 1 n
  refine W.item i s _ _ hg st fun v h' tk hv jk kk => ?_
  obtain⟨t,rfl⟩:=hv
  have I1:Inv X pins σ H { s with heap:=h',toks:=tk }:=I.turned (fun b o hb e=>kk b o (by simpa using hb) e) f0 f1 f3 f4 f5
  refine⟨_,rfl,y_ (s:={ s with heap:=h',toks:=tk }) (n := "range_iterator") jk rfl rfl (by decide) ⟨.int (lo + i),H,I1,⟨t,?_⟩,⟨rfl,rfl⟩,jk,fun b hb=>(hf b hb).1⟩⟩
  rw[Int.mul_one]
 done:=by
  intro X hP hw hK hc i pins s σ H E I hf st hg
  subst hP hw hK
  obtain⟨f0,f1,f2,f3,f4,f5⟩:=hf it (by simp)
  exact wpAny_pyNext_range_end (I.ok.hd hc) st (by have:n <= i:=hg;omega) fun h' eb=>⟨rfl,I.turned (t':=s.toks) (fun b o hb e=>eb b o hb e) f0 f1 f3 f4 f5⟩
 self:=fun _ _ _ _ _ st h=>wpAny_pyIter_rangeiter st h
section
variable {X:Cx} {tg:Expr}
theorem Eo {pins:List (Addr × Obj)} {σ : St} {H:Hp} {s:Shared} {R:It->Hp->Prop} {E:Value->Shared->Prop} {lo hi:Int} {t u v:Tok} {tk:Nat} (I:Inv X pins σ H s) (h1 : -(2 ^ 62) <= lo) (h2:lo < 2 ^ 62) (h3 : -(2 ^ 62) <= hi) (h4:hi < 2 ^ 62)
  (q:R (sG lo (hi - lo).toNat) H):wpAny (model X.prog X.w) X.A (pyIter (.ref s.heap.objs.size)) (El X pins σ tg R) E { s with heap:=s.heap.push { cls := .type "range",data := .fields #[.int lo t,.int hi u,.int 1 v] },toks:=tk }:=by
 refine wpAny_pyIter_range (IsRange.new ..) (small_one h1 h2 h3 h4) ?_
 have I1:Inv X pins σ H { s with heap:=s.heap.push { cls := .type "range",data := .fields #[.int lo t,.int hi u,.int 1 v] },toks:=tk }:=I.kept fun b o e=>sW _ e
 refine⟨(s.heap.push { cls := .type "range",data := .fields #[.int lo t,.int hi u,.int 1 v] }).objs.size,[(s.heap.push { cls := .type "range",data := .fields #[.int lo t,.int hi u,.int 1 v] }).objs.size],_,_,H,rfl,
  I1.kept (t':=tk) fun b o e=>sW _ e,Ln _ lo (hi - lo).toNat,?_,fun b hb => ?_,q⟩
 ·have e1:lo + ((0:Nat):Int) * 1=lo:=by simp
  have e2:(((hi - lo).toNat:Nat):Int) - ((0:Nat):Int)=Builtin.Range.rangeSize lo hi 1:=by rw[rangeSize_one];split<;>omega
  show IsRangeIter _ _ (lo + ((0:Nat):Int) * 1) ((((hi - lo).toNat:Nat):Int) - ((0:Nat):Int)) 1
  rw[e1,e2]
  exact MM _ rfl
 ·have e:b=(s.heap.push { cls := .type "range",data := .fields #[.int lo t,.int hi u,.int 1 v] }).objs.size:=by simpa using hb
  subst e
  exact I1.gX (qU _) (I1.aM.fresh (qU _))
noncomputable def Ep (ta:TA):TI:=fun σ H R=>ta σ H fun vs H1=>∃ j:Int,vs=[.int j] /\ -(2 ^ 62) <= j/\j < 2 ^ 62/\R (sG 0 j.toNat) H1
noncomputable def Er (ta:TA):TI:=fun σ H R=>ta σ H fun vs H1=>∃ i j:Int,vs=[.int i,.int j]/\(-(2 ^ 62) <= i/\i < 2 ^ 62 /\ -(2 ^ 62) <= j/\j < 2 ^ 62)/\R (sG i (j - i).toNat) H1
theorem Lo {a:Expr} {ta:TA} {p pos:Pos} (hg:Gl X "range") (hm:X.mg "range" = none) (ha:PA X [a] ta) (hs:starEach [a] X.env=[(false,eval a X.env)]:=by rfl):PI X tg (.Call (.Name "range" p) [a] [] pos) (Ep ta):=by
 intro pins s σ H R I h
 refine Call_ (lR I hg hm boot_range (Yd (a0 (ha pos pins s σ H _ I h) fun us s1 h0_ => el5 h0_ fun vs H1 I1 r1 q1 => ?_) hs rfl))
 obtain⟨j,e,q1,q2,q⟩:=q1
 subst e
 cases r1 with
 | cons r rr =>
  cases rr
  obtain⟨t,rfl⟩:=r
  exact call_range_1 (Eo I1 (by omega) (by omega) q1 q2 (by simpa using q))
theorem Lp {a b:Expr} {ta:TA} {p pos:Pos} (hg:Gl X "range") (hm:X.mg "range" = none) (ha:PA X [a,b] ta) (hs:starEach [a,b] X.env=[(false,eval a X.env),(false,eval b X.env)]:=by rfl) (jm:starEach [b] X.env=[(false,eval b X.env)]:=by rfl) :
  PI X tg (.Call (.Name "range" p) [a,b] [] pos) (Er ta):=by
 intro pins s σ H R I h
 refine Call_ (lR I hg hm boot_range (Yd (a0 (ha pos pins s σ H _ I h) fun us s1 h0_ => el5 h0_ fun vs H1 I1 r1 q1 => ?_) (by rw[hs,jm]) (by rw[jm];rfl)))
 obtain⟨i,j,e,⟨q1,q2,q3,q4⟩,q⟩:=q1
 subst e
 cases r1 with
 | cons r rr =>
  cases rr with
  | cons r' rr =>
   cases rr
   obtain⟨t,rfl⟩:=r
   obtain⟨t',rfl⟩:=r'
   exact call_range_2 (Eo I1 q1 q2 q3 q4 q)
noncomputable def oP (wi:TI) (g:TG) (tb:TS):TS:=fun D σ H=>wi σ H fun J H1=>∃ W:Nat->Nat->St->Hp->Prop,(∃ m,W 0 m σ H1)/\∀ i m σ H,W i m σ H →
 (J.stop i H/\D.nx σ H)\/(J.go i H/\∃ N:St->Hp->Prop,(∀ σ' H',N σ' H'->∃ m',m' < m/\W (i + 1) m' σ' H')/\∀ x H',J.qN i H x H'->g x σ H' fun σ2 H2=>tb { D with nx:=N,ct:=N,bk:=D.nx } σ2 H2)
noncomputable def sH (fp:List Addr) (h:Heap):List (Addr × Obj):=fp.filterMap fun b=>(h.get? b).map fun o=>(b,o)
theorem vR {fp:List Addr} {h:Heap} {b:Addr} {o:Obj} (hb:b∈fp) (e:h.get? b=some o):(b,o)∈sH fp h:=Yx.mpr ⟨b,hb,by rw[e];rfl⟩
theorem Lq {fp:List Addr} {h:Heap} {p:Addr × Obj} (hp:p∈sH fp h):p.1∈fp/\h.get? p.1=some p.2:=by
 obtain⟨b,hb,e⟩:=Yx.mp hp
 cases q:h.get? b with
 | none=>rw[q] at e;cases e
 | some o =>
  rw[q] at e
  have e':(b,o)=p:=WY e
  subst e'
  exact⟨hb,q⟩
theorem Inv.pinned {pins:List (Addr × Obj)} {σ : St} {H:Hp} {s:Shared} {fp:List Addr} (I:Inv X pins σ H s) (hf:∀ b∈fp,ba X pins H b) (ho:∀ b∈fp,∃ o,s.heap.get? b=some o/\∀ v,o.data ≠ .cell v):Inv X (pins ++ sH fp s.heap) σ H s :=
 I.fz fun p hp=>(WX.mp hp).elim (fun z=>I.pin p (VZ _ z)) fun z=>by
  obtain⟨hb,e⟩:=Lq z
  obtain⟨f0,f1,f2,_⟩:=hf p.1 hb
  obtain⟨o,e',d⟩:=ho p.1 hb
  rw[e] at e';cases e'
  exact⟨e,f0,f1,f2,d⟩
theorem Inv.dW {pins pl:List (Addr × Obj)} {σ : St} {H:Hp} {s:Shared} (I:Inv X (pins ++ pl) σ H s):Inv X pins σ H s:=I.fz fun p hp=>I.pin p (VZ _ (Xf _ hp))
theorem Lr {iter:Expr} {body:List Stmt} {wi:TI} {g:TG} {tb:TS} {pos:Pos} (hp:PassesOwn (model X.prog X.w) X.A X.env X.xe) (hc:X.calm=true) (hi:PI X tg iter wi) (hg:PG X tg g) (hb:hV X body tb)
  (hs:∀ x,foldedSetIterable iter X.env x=pure x:=by intro _;rfl):PS X (.For tg iter body [] pos) (oP wi g tb):=by
 intro pins s σ H D I h
 refine wpAny_For (a0 (hi pins s σ H _ I h) fun v s1 h1=>a0 h1 fun yZ s2 h2 => ?_) hs
 obtain⟨it,fp,tn,J,H2,e,I2,T,jZ,f2,W,⟨m0,w0⟩,turn⟩:=h2
 subst e
 have iX:∀ {H':Hp},(∀ b∈fp,H' b=none)->∀ b∈fp,ba X pins H' b:=fun hn b hb=>⟨hn b hb,(f2 b hb).2⟩
 refine codeAny_forLoop_any (fun n s'=>∃ i σ' H',Inv X pins σ' H' s'/\tn i s'.heap/\(∀ b∈fp,H' b=none)/\W i n σ' H') ?_ m0 ⟨0,σ,H2,I2,jZ,fun b hb=>(f2 b hb).1,w0⟩
 rintro n s3 ⟨i,σ3,H3,I3,qO,sI,w3⟩
 rcases turn i n σ3 H3 w3 with⟨stop,qn⟩ | ⟨go,N,hN,step⟩
 ·refine YD hp (a0 (T.done X rfl rfl rfl hc i pins s3 σ3 H3 X.xe I3 (iX sI) qO stop) fun r s4 ⟨hr,I4⟩ => ?_)
  subst hr
  exact ZS ⟨σ3,H3,I4,qn⟩
 ·refine YD hp (a0 (T.item X rfl rfl rfl hc i pins s3 σ3 H3 X.xe I3 (iX sI) qO go) fun r s4 ⟨u,hr,h4⟩ => ?_)
  subst hr
  refine YD hp (a0 h4 fun _ s5 ⟨x,H5,I5,r5,y5,oQ,za⟩ => ?_)
  have zb:=I5.pinned (iX za) (T.obj _ _ oQ)
  refine YD hp (a0 (hg _ s5 σ3 H5 x u _ zb r5 (step x H5 y5)) fun _ s6 ⟨σ6,H6,I6,q6⟩ => ?_)
  refine YD hp (a0 (hb _ s6 σ6 H6 _ I6 q6) fun f s7 q7 => ?_)
  have again:∀ {σ7:St} {H7:Hp},Inv X (pins ++ sH fp s5.heap) σ7 H7 s7->N σ7 H7->∃ m,m < n/\∃ i σ' H',Inv X pins σ' H' s7/\tn i s7.heap/\(∀ b∈fp,H' b=none)/\W i m σ' H':=fun {σ7 H7} I7 n7=>by
   obtain⟨m',hm,w7⟩:=hN σ7 H7 n7
   refine⟨m',hm,i + 1,σ7,H7,I7.dW,T.keep _ _ _ oQ fun b hb o e=>(I7.pin (b,o) (VZ _ (VZ _ (vR hb e)))).1,fun b hb => ?_,w7⟩
   obtain⟨o,e,d⟩:=T.obj _ _ oQ b hb
   exact (I7.pin (b,o) (VZ _ (VZ _ (vR hb e)))).2.1
  cases f with
  | next=>obtain⟨σ7,H7,I7,n7⟩:=q7;exact again I7 n7
  | cont=>obtain⟨σ7,H7,I7,n7⟩:=q7;exact again I7 n7
  | brk=>obtain⟨σ7,H7,I7,q7⟩:=q7;exact⟨σ7,H7,I7.dW,q7⟩
  | ret v=>obtain⟨x7,σ7,H7,I7,r7,q7⟩:=q7;exact⟨x7,σ7,H7,I7.dW,r7,q7⟩
end
noncomputable abbrev R2:=V->V->Hp->VK->Prop
noncomputable def dO (X:Cx) (f:Value->Value->Sem Value) (r:R2):Prop :=
 ∀ (pins:List (Addr × Obj)) (s:Shared) (σ : St) (H:Hp) (x y:V) (v u:Value) (Q:VK),Inv X pins σ H s->RelV x v->RelV y u->r x y H Q →
  wpAny (model X.prog X.w) X.A (f v u) (EP X pins σ Q) X.xe s
noncomputable def fY (X:Cx) (f:Value) (r:List V->Hp->VK->Prop):Prop :=
 ∀ (pins:List (Addr × Obj)) (s:Shared) (σ : St) (H:Hp) (xs:List V) (us:List Value) (Q:VK),Inv X pins σ H s->Vals xs us->r xs H Q →
  wpAny (model X.prog X.w) X.A (call f us) (EP X pins σ Q) X.xe s
noncomputable def lV (r:R2) (ta tb:TE):TE:=fun σ H Q=>ta σ H fun x H1=>tb σ H1 fun y H2=>r x y H2 Q
noncomputable def rI (C:Int->Int->Prop) (g:Int->Int->V):R2:=fun x y H Q=>∃ i j,x = .int i/\y = .int j/\C i j/\Q (g i j) H
noncomputable def lW (g:Int->Int->V):R2:=fun x y H Q=>∃ i j,x = .int i/\y = .int j/\Q (g i j) H
section
variable {X:Cx} {a b c:Expr} {ta tb tc:TE} {pos:Pos}
theorem oR (ha:PE X a ta) (hb:PE X b tb) {pins:List (Addr × Obj)} {s:Shared} {σ : St} {H:Hp} {R:V->V->Hp->Prop} (I:Inv X pins σ H s)
  (h:ta σ H fun x H1=>tb σ H1 fun y H2=>R x y H2) {Q:Value->Shared->Prop} {f:Value->Value->Sem Value}
  (hf:∀ v u s2 x y H2,Inv X pins σ H2 s2->RelV x v->RelV y u->R x y H2->wpAny (model X.prog X.w) X.A (f v u) Q X.xe s2) :
  wpAny (model X.prog X.w) X.A (eval a X.env) (fun v s₁ => wpAny (model X.prog X.w) X.A (eval b X.env) (fun u s₂ => wpAny (model X.prog X.w) X.A (f v u) Q X.xe s₂) X.xe s₁) X.xe s:=by
 refine a0 (ha pins s σ H _ I h) fun v s1 h0_ => el5 h0_ fun x H1 I1 r1 q1 => ?_
 refine a0 (hb pins s1 σ H1 _ I1 q1) fun u s2 h0_ => el5 h0_ fun y H2 I2 r2 q2 => ?_
 exact hf v u s2 x y H2 I2 r1 r2 q2
theorem Ls {op:Operator} {r:R2} (ho:dO X (binaryOp op) r) (ha:PE X a ta) (hb:PE X b tb):PE X (.BinOp a op b pos) (lV r ta tb):=by
 intro pins s σ H Q I h
 exact wpAny_BinOp (oR ha hb I h fun v u s2 x y H2 I2 rx ry q=>ho pins s2 σ H2 x y v u Q I2 rx ry q)
theorem vS {f:Value->Value->Sem Value} {C:Int->Int->Prop} {g:Int->Int->Int}
  (rule:∀ (i j:Int) (t u:Tok) (s:Shared) (Q:Value->Shared->Prop) (E:Value->Shared->Prop),C i j->Q (.int (g i j) s.toks) { s with toks:=s.toks + 1 }->wpAny (model X.prog X.w) X.A (f (.int i t) (.int j u)) Q E s) :
  dO X f (rI C fun i j => .int (g i j)):=by
 intro pins s σ H x y v u Q I rx ry h
 obtain⟨i,j,rfl,rfl,hc,q⟩:=h
 obtain⟨t,rfl⟩:=rx
 obtain⟨t',rfl⟩:=ry
 exact rule i j t t' s _ _ hc ⟨.int (g i j),H,I.tok _,⟨_,rfl⟩,q⟩
theorem sJ {f:Value->Value->Sem Value} {g:Int->Int->Int}
  (rule:∀ (i j:Int) (t u:Tok) (s:Shared) (Q:Value->Shared->Prop) (E:Value->Shared->Prop),Q (.int (g i j) s.toks) { s with toks:=s.toks + 1 }->wpAny (model X.prog X.w) X.A (f (.int i t) (.int j u)) Q E s) :
  dO X f (lW fun i j => .int (g i j)):=by
 intro pins s σ H x y v u Q I rx ry h
 obtain⟨i,j,rfl,rfl,q⟩:=h
 obtain⟨t,rfl⟩:=rx
 obtain⟨t',rfl⟩:=ry
 exact rule i j t t' s _ _ ⟨.int (g i j),H,I.tok _,⟨_,rfl⟩,q⟩
theorem lX {f:Value->Value->Sem Value} {g:Int->Int->Bool}
  (rule:∀ (i j:Int) (t u:Tok) (s:Shared) (Q:Value->Shared->Prop) (E:Value->Shared->Prop),Q (.bool (g i j)) s->wpAny (model X.prog X.w) X.A (f (.int i t) (.int j u)) Q E s) :
  dO X f (lW fun i j => .bl (g i j)):=by
 intro pins s σ H x y v u Q I rx ry h
 obtain⟨i,j,rfl,rfl,q⟩:=h
 obtain⟨t,rfl⟩:=rx
 obtain⟨t',rfl⟩:=ry
 exact rule i j t t' s _ _ ⟨.bl (g i j),H,I,rfl,q⟩
noncomputable def sL (i j:Int):Prop:=j≠0/\j.natAbs < 1073741824
noncomputable def gY (i j:Int):Prop:=0 <= j/\j <= 1000000/\i.natAbs < 2 ^ 64
noncomputable def lY (i j:Int):Prop:=(-(2 ^ 64) < i/\i < 2 ^ 64)\/(-(2 ^ 64) < j/\j < 2 ^ 64)
theorem lY.ok {i j:Int} (h:lY i j):IntMulOk i j:=by
 rcases h with⟨h1,h2⟩ | ⟨h1,h2⟩
 ·exact .of_left (intBits_le_64 h1 h2)
 ·exact .of_right (intBits_le_64 h1 h2)
theorem Es:dO X (binaryOp .Add) (lW fun i j => .int (i + j)):=sJ fun _ _ _ _ _ _ _ q=>add_int q
theorem Lu:dO X (binaryOp .Sub) (lW fun i j => .int (i - j)):=sJ fun _ _ _ _ _ _ _ q=>sub_int q
theorem Lw:dO X (binaryOp .Mult) (rI lY fun i j => .int (i * j)):=vS fun _ _ _ _ _ _ _ hc q=>mul_int q hc.ok
theorem Lx:dO X (binaryOp .FloorDiv) (rI sL fun i j => .int (i.fdiv j)):=vS fun _ _ _ _ _ _ _ hc q=>floordiv_int hc.1 q (.inl (PyProof.noPylong_small hc.2))
theorem zc:dO X (binaryOp .Mod) (rI (fun _ j=>0 < j) fun i j => .int (i % j)):=vS fun i j _ _ _ _ _ hc q=>by
 have h1:(0:Int) < j:=hc
 exact mod_int' (by omega) (by rw[Int.fmod_eq_emod_of_nonneg i (by omega)];exact q)
theorem Ly:dO X (binaryOp .Pow) (rI gY fun i j => .int (i ^ j.toNat)):=vS fun _ _ _ _ _ _ _ hc q=>pow_int_small hc.1 hc.2.1 hc.2.2 q
theorem Lz:dO X (compareOp .Lt) (lW fun i j => .bl (decide (i < j))):=lX fun _ _ _ _ _ _ _ q=>lt_int q
theorem LF:dO X (compareOp .LtE) (lW fun i j => .bl (decide (i <= j))):=lX fun _ _ _ _ _ _ _ q=>le_int q
theorem LG:dO X (compareOp .Gt) (lW fun i j => .bl (decide (j < i))):=lX fun _ _ _ _ _ _ _ q=>gt_int q
theorem LH:dO X (compareOp .GtE) (lW fun i j => .bl (decide (j <= i))):=lX fun _ _ _ _ _ _ _ q=>ge_int q
theorem ze (b:Expr) {op:CmpOp} (h:op ≠ .In:=by decide) (h2:op ≠ .NotIn:=by decide):behindInMarks op b=false:=by
 have e1:(op == CmpOp.In)=false:=by cases op<;>first | rfl | exact absurd rfl h
 have e2:(op == CmpOp.NotIn)=false:=by cases op<;>first | rfl | exact absurd rfl h2
 cases b<;>simp[behindInMarks,e1,e2]
theorem LI {op:CmpOp} {r:R2} (ho:dO X (compareOp op) r) (ha:PE X a ta) (hb:PE X b tb) (hm:behindInMarks op b=false):PE X (.Compare a [op] [b] pos) (lV r ta tb):=by
 intro pins s σ H Q I h
 exact wpAny_Compare1 (oR ha hb I h fun v u s2 x y H2 I2 rx ry q=>ho pins s2 σ H2 x y v u Q I2 rx ry q) hm
noncomputable def Et (t:TE):TT:=fun σ H Q=>t σ H fun x H'=>∃ k,x = .bl k/\Q k H'
theorem LL {op:CmpOp} {r:R2} (ho:dO X (compareOp op) r) (ha:PE X a ta) (hb:PE X b tb) (hm:behindInMarks op b=false):PT X (.Compare a [op] [b] pos) (Et (lV r ta tb)):=by
 intro pins s σ H Q I h
 refine wpAny_isTrue_Compare1 (a0 (ha pins s σ H _ I h) fun v s1 h0_ => el5 h0_ fun x H1 I1 r1 q1 =>a0 (hb pins s1 σ H1 _ I1 q1) fun u s2 h0_ => el5 h0_ fun y H2 I2 r2 q2 =>
  a0 (ho pins s2 σ H2 x y v u _ I2 r1 r2 q2) fun c s3 ⟨z,H3,I3,r3,k,e,q3⟩ => ?_) hm
 subst e
 cases r3
 exact Yi ⟨H3,I3,q3⟩
noncomputable def Eu (r r':R2) (ta tb tc:TE):TE:=fun σ H Q=>ta σ H fun x H1=>tb σ H1 fun y H2=>r x y H2 fun z H3=>∃ k,z = .bl k ∧
 (if k=true then tc σ H3 fun w' H4=>r' y w' H4 Q else Q (.bl false) H3)
theorem LM {op km:CmpOp} {r r':R2} (ho:dO X (compareOp op) r) (jD:dO X (compareOp km) r') (ha:PE X a ta) (hb:PE X b tb) (hc:PE X c tc)
  (hm:lastMarks [op,km] [b,c]=false:=by with_unfolding_all rfl):PE X (.Compare a [op,km] [b,c] pos) (Eu r r' ta tb tc):=by
 intro pins s σ H Q I h
 refine Compare_chain (a0 (ha pins s σ H _ I h) fun v s1 h0_ => el5 h0_ fun x H1 I1 r1 q1 =>chain_link (a0 (hb pins s1 σ H1 _ I1 q1) fun u s2 h0_ => el5 h0_ fun y H2 I2 r2 q2 =>
  a0 (ho pins s2 σ H2 x y v u _ I2 r1 r2 q2) fun d s3 ⟨z,H3,I3,r3,k,e,q3⟩ => ?_)) hm
 subst e
 cases r3
 refine Yi ?_
 cases k with
 | false=>exact ite_ff ⟨.bl false,H3,I3,rfl,q3⟩
 | true=>exact ite_tt (chain_last (a0 (hc pins s3 σ H3 _ I3 q3) fun w' s4 ⟨z',H4,I4,r4,q4⟩=>jD pins s4 σ H4 y z' u w' Q I4 r2 r4 q4))
theorem qP:(sizeLine:Nat) < 2 ^ 63:=by rw[X1];decide
theorem LN:dO X (binaryOp .Add) (fun x y H Q=>∃ i j,x = .str i/\y = .str j/\i.length + j.length <= sizeLine/\Q (.str (i ++ j)) H):=by
 intro pins s σ H x y v u Q I rx ry h
 obtain⟨i,j,rfl,rfl,hz,q⟩:=h
 obtain⟨t,rfl⟩:=rx
 obtain⟨t',rfl⟩:=ry
 exact add_str (fun t' tk=>⟨.str (i ++ j),H,I.tok _,⟨_,rfl⟩,q⟩) hz
theorem vals1 {x:V} {us:List Value} (r:Vals [x] us):∃ u,us=[u]/\RelV x u:=by
 cases r with
 | cons r1 r2=>cases r2;exact⟨_,rfl,r1⟩
theorem vals2 {x y:V} {us:List Value} (r:Vals [x,y] us):∃ u w',us=[u,w']/\RelV x u/\RelV y w':=by
 cases r with
 | cons r1 r2 =>
  cases r2 with
  | cons r3 r4=>cases r4;exact⟨_,_,rfl,r1,r3⟩
theorem LO (hc:X.calm=true):fY X (.builtin "max") (fun xs H Q=>∃ i j,xs=[.int i,.int j]/\Q (.int (if j > i then j else i)) H):=by
 intro pins s σ H xs us Q I r h
 obtain⟨i,j,rfl,q⟩:=h
 obtain⟨u,w',rfl,⟨t,rfl⟩,⟨t',rfl⟩⟩:=vals2 r
 refine max_two_ints (I.ok.hd hc) fun h' tk k=>⟨_,H,I.kept k,?_,q⟩
 by_cases hj:j > i
 ·rw[V8 hj,V8 hj];exact⟨_,rfl⟩
 ·rw[V0 hj,V0 hj];exact⟨_,rfl⟩
theorem LP (hc:X.calm=true):fY X (.builtin "min") (fun xs H Q=>∃ i j,xs=[.int i,.int j]/\Q (.int (if j < i then j else i)) H):=by
 intro pins s σ H xs us Q I r h
 obtain⟨i,j,rfl,q⟩:=h
 obtain⟨u,w',rfl,⟨t,rfl⟩,⟨t',rfl⟩⟩:=vals2 r
 refine min_two_ints (I.ok.hd hc) fun h' tk k=>⟨_,H,I.kept k,?_,q⟩
 by_cases hj:j < i
 ·rw[V8 hj,V8 hj];exact⟨_,rfl⟩
 ·rw[V0 hj,V0 hj];exact⟨_,rfl⟩
end
structure oS (h:Heap) (x dx C:Addr) (mA:Str->Option Value):Prop where
 obj:h.get? x=some (PySem.W.instObj C dx)
 ns:h.Ns1 dx mA
 ne:dx≠x
theorem LQ {h:Heap} {dx:Addr} {mA:Str->Option Value} (n:h.Ns1 dx mA):∃ od,h.get? dx=some od/\∀ name,PySem.W.lookIn name od=some (mA name):=by
 obtain⟨o,es,ep,ho,hd,hk,_,hm⟩:=n
 refine⟨o,ho,fun name => ?_⟩
 have e:=hm name
 unfold nsFind findBy at e
 rw[<-Array.find?_toList] at e
 unfold PySem.W.lookIn
 rw[hd]
 dsimp only
 split
 ·rename_i y q
  rw[q] at e
  exact congrArg some e
 ·rename_i q
  rw[q] at e
  have a:es.toList.any (·.refKey)=false:=by
   rw[Y4]
   intro y hy
   obtain⟨z,t,zf⟩:=hk y (ZO.mp hy)
   simp[DictEntry.refKey,zf]
  have a':¬ es.toList.any (·.refKey)=true:=by rw[a];exact WH
  rw[V0 a']
  exact congrArg some e
theorem oS.look {h:Heap} {x dx C:Addr} {mA:Str->Option Value} (I:oS h x dx C mA):∃ od,PySem.W.InstAt h x (PySem.W.instObj C dx) C (some od)/\∀ name,PySem.W.lookIn name od=some (mA name) :=
 let ⟨od,ho,hl⟩:=LQ I.ns
 ⟨od,⟨I.obj,rfl,rfl,ho⟩,hl⟩
section
variable {prog:Program} {w:World} {A:Around} {E:Value->Shared->Prop} {s:Shared} {K:PySem.W.Frag} {x dx C f:Addr} {mA:Str->Option Value} {name:Str} {v:Value}
end
section
variable {P:Program} {w:World} {H H':Hp} {h h':Heap} {a C dx:Addr} {fs Kz:List (Str × V)}
theorem LR (aM:dS P w H h) (e:H a=some (.ins C dx fs)):∃ mA,oS h a dx C mA/\(∀ f,iW (fs.lookup f) (mA f))/\PySem.Within mA (fs.map (·.1))/\fs.length <= 1000/\H dx=some (.own a):=by
 obtain⟨d,z,ne,ob,mA,n,r,q⟩:=(show aI P w H h a (.ins C dx fs) from aM a _ e)
 exact⟨mA,⟨ob,n,ne⟩,r,q,z,d⟩
end
structure zg (K:PySem.W.Frag) (C:Addr):Prop where
 pg:PySem.W.plainGet K C Str.empty=true
 hd:PySem.W.hasDictIn K C=true
 po:PySem.W.plainOver K C=true
 sa:PySem.W.findIn K (.ref C) "__setattr__" = some (some (.builtin "object.__setattr__"))
theorem zg.get {K:PySem.W.Frag} {C:Addr} (c:zg K C) (f:Str):PySem.W.plainGet K C f=true:=c.pg
section
variable {X:Cx} {pins:List (Addr × Obj)} {σ : St} {H:Hp} {s:Shared} {a C dx:Addr} {fs:List (Str × V)} {f:Str} {v:V} {A:Around} {E:Value->Shared->Prop}
end
section
variable {X:Cx} {o e value:Expr} {f:Str} {pos pos' zh:Pos} {ta tv:TE}
end
section
variable {X:Cx} {pins:List (Addr × Obj)} {σ : St} {H:Hp} {s:Shared} {A:Around} {E:Value->Shared->Prop} {Q:Value->Shared->Prop} {c:Value} {b:Bool}
inductive dX (K:PySem.W.Frag) (H:Hp):V->Value->Prop where
 | non:dX K H .non (.type "NoneType")
 | bl (x:Bool):dX K H (.bl x) (.type "bool")
 | int (i:Int):dX K H (.int i) (.type "int")
 | str (x:Str):dX K H (.str x) (.type "str")
 | flt (x:UInt64):dX K H (.flt x) (.type "float")
 | lst {a:Addr} {xs:List V} (e:H a=some (.lst xs)):dX K H (.ref a) (.type "list")
 | frz {a:Addr} {o:Obj} {xs:List V} (e:H a=some (.frz o (.lst xs))):dX K H (.ref a) (.type "list")
 | tup {a:Addr} {xs:List V} (e:H a=some (.tup xs)):dX K H (.ref a) (.type "tuple")
 | dK {a:Addr} {kvs:List (Key × V)} (e:H a=some (.dK kvs)):dX K H (.ref a) (.type "dict")
 | dT {a:Addr} {kvs:List (List Key × V)} (e:H a=some (.dT kvs)):dX K H (.ref a) (.type "dict")
 | ins {a C dx:Addr} {fs:List (Str × V)} (e:H a=some (.ins C dx fs)) (cl:zg K C) (ha:PySem.W.findIn K (.ref C) "__class__" = some (some (.builtin "object.__class__")))
   (hn:PySem.W.specialIn K (.builtin "object.__class__") "__get__" = some (some (.builtin "getset_descriptor.__get__"))) (Ew:PySem.W.takesIn K (.builtin "object.__class__")=some true)
   (hm:PySem.W.mroIn K C (.type "object")=some true):dX K H (.ref a) (.ref C)
theorem LS {x:V} {u t:Value} (I:Inv X pins σ H s) (rx:RelV x u) (ty:dX X.K H x t) (e:PySem.W.kitOne X.K t c=some b) (h:∀ tk,Q (.bool b) { s with toks:=tk }) :
  wpAny (model X.prog X.w) A (call (.builtin "isinstance") [u,c]) Q E s:=by
 cases ty with
 | non=>cases (show u=Value.none from rx);exact XT PySem.W.kitx_none I.ic True.intro e (fun z=>nomatch z) h
 | bl y=>cases (show u=Value.bool y from rx);exact XT PySem.W.kitx_bool I.ic True.intro e (fun z=>nomatch z) h
 | int i=>obtain⟨t,q⟩:=(show ∃ t,u=Value.int i t from rx);cases q;exact XT PySem.W.kitx_int I.ic True.intro e (fun z=>nomatch z) h
 | str y=>obtain⟨t,q⟩:=(show ∃ t,u=Value.str y t from rx);cases q;exact XT PySem.W.kitx_str I.ic True.intro e (fun z=>nomatch z) h
 | flt y=>obtain⟨t,q⟩:=(show ∃ t,u=Value.float y t from rx);cases q;exact XT PySem.W.kitx_float I.ic True.intro e (fun z=>nomatch z) h
 | @lst a xs ea =>
  cases (show u=Value.ref a from rx)
  obtain⟨_,_,n,_,h1⟩:=(show aI X.prog X.w H s.heap a (.lst xs) from I.aM a _ ea)
  exact XT PySem.W.kitx_list I.ic ⟨_,h1,rfl⟩ e (fun z=>nomatch z) h
 | @frz a ob xs ea =>
  cases (show u=Value.ref a from rx)
  obtain⟨_,_,_,n,_,h1⟩:=(show aI X.prog X.w H s.heap a (.frz ob (.lst xs)) from I.aM a _ ea)
  exact XT PySem.W.kitx_list I.ic ⟨_,h1,rfl⟩ e (fun z=>nomatch z) h
 | @tup a xs ea =>
  cases (show u=Value.ref a from rx)
  obtain⟨_,_,_,p⟩:=(show aI X.prog X.w H s.heap a (.tup xs) from I.aM a _ ea)
  obtain⟨o,h1,h2,_⟩:=p
  exact XT PySem.W.kitx_tuple I.ic ⟨o,h1,h2⟩ e (fun z=>nomatch z) h
 | @dK a kvs ea =>
  cases (show u=Value.ref a from rx)
  obtain⟨_,_,vs,_,p⟩:=(show aI X.prog X.w H s.heap a (.dK kvs) from I.aM a _ ea)
  obtain⟨o,es,ep,h1,h2,_⟩:=p
  exact XT PySem.W.kitx_dict I.ic ⟨o,h1,h2.1⟩ e (fun z=>nomatch z) h
 | @dT a kvs ea =>
  cases (show u=Value.ref a from rx)
  obtain⟨_,_,xs,_,o,es,ep,h1,h2,_⟩:=(show aI X.prog X.w H s.heap a (.dT kvs) from I.aM a _ ea)
  exact XT PySem.W.kitx_dict I.ic ⟨o,h1,h2.1⟩ e (fun z=>nomatch z) h
 | @ins a C dx fs ea cl ha hn Ew hm =>
  cases (show u=Value.ref a from rx)
  obtain⟨mA,O,_⟩:=LR I.aM ea
  obtain⟨od,J,_⟩:=O.look
  exact XT (PySem.W.kitx_own (cl.get _) cl.hd ha hn Ew hm) I.ic J e (fun z=>nomatch z) h
end
structure a7 (k:Nat) (A:Around):Prop where
 hd:A.handled=none
 dp:A.depth + 3 * k + 5 < recursionLimit
 un:A.units + 16 * k + 200 < cLine
theorem a7.mono {j k:Nat} {A:Around} (r:a7 k A) (h:j <= k):a7 j A:=⟨r.hd,by have:=r.dp;omega,by have:=r.un;omega⟩
theorem a7.deeper {k:Nat} {A:Around} (r:a7 (k + 1) A) (env:Env):a7 k (A.deeper env) :=
 ⟨r.hd,by have:=r.dp;show A.depth + 1 + 3 * k + 5 < _;omega,by have:=r.un;show A.units + 3 + 16 * k + 200 < _;omega⟩
theorem a7.in1 {k:Nat} {A:Around} (r:a7 (k + 1) A):a7 k A.in1 :=
 ⟨r.hd,by have:=r.dp;show A.depth + 3 * k + 5 < _;omega,by have:=r.un;show A.units + 1 + 16 * k + 200 < _;omega⟩
theorem a7.depth {k:Nat} {A:Around} (r:a7 k A):A.depth < recursionLimit:=by have:=r.dp;omega
theorem a7.units {k:Nat} {A:Around} (r:a7 k A):A.units + 64 < cLine:=by have:=r.un;omega
noncomputable def ik:TA:=fun _ H Q=>Q [] H
noncomputable def fZ (ta:TE) (tr:TA):TA:=fun σ H Q=>ta σ H fun x H1=>tr σ H1 fun xs H2=>Q (x :: xs) H2
section
variable {X:Cx} {e:Expr} {es:List Expr} {te:TE} {t:TA} {pos:Pos}
theorem LU:PA X [] ik:=fun _ _ _ _ H Q I h=>Calls.spliced_nil ⟨[],H,I,.nil,h⟩
theorem oT (ha:PE X e te) (hr:PA X es t) (hs:starEach (e :: es) X.env=(false,eval e X.env) :: starEach es X.env:=by rfl):PA X (e :: es) (fZ te t):=by
 intro pos pins s σ H Q I h
 rw[hs]
 show wpAny _ _ (spliced ((false,eval e X.env) :: backTo pos (starEach es X.env))) _ _ s
 refine Calls.spliced_cons (a0 (ha pins s σ H _ I h) fun u s1 h0_ => el5 h0_ fun x H1 I1 r1 q1 => ?_)
 exact a0 (hr pos pins s1 σ H1 _ I1 q1) fun us s2 h0_ => el5 h0_ fun xs H2 I2 r2 q2 =>⟨x :: xs,H2,I2,.cons r1 r2,q2⟩
noncomputable def sM (t:TA):TE:=fun σ H Q=>t σ H fun xs H1=>xs.length <= sizeLine/\∀ p,H1 p=none->Q (.ref p) (upd H1 p (.tup xs))
noncomputable def oU (t:TA):TE:=fun σ H Q=>t σ H fun xs H1=>xs.length <= sizeLine/\∀ p,H1 p=none->Q (.ref p) (upd H1 p (.lst xs))
theorem LV {x1} (h:PA X es t):PE X (.Tuple es x1 pos) (sM t):=by
 intro pins s σ H Q I hq
 refine wpAny_Tuple_spliced (a0 (h pos pins s σ H _ I hq) fun us s1 ⟨xs,H1,I1,r,z,q⟩=>⟨by rw[<-r.length];exact z,?_⟩)
 have hf:H1 s1.heap.objs.size=none:=I1.aM.fresh (qU _)
 refine⟨.ref s1.heap.objs.size,upd H1 s1.heap.objs.size (.tup xs),I1.laid (t':=s1.toks) (fun b u e=>sW _ e) (qU _) ?_,rfl,q _ hf⟩
 exact⟨z,us,r,⟨_,MM _ rfl,rfl,_,rfl⟩⟩
theorem LW (h:PA X es t):PE X (.List es pos) (oU t):=by
 intro pins s σ H Q I hq
 refine wpAny_List_spliced (a0 (h pos pins s σ H _ I hq) fun us s1 ⟨xs,H1,I1,r,z,q⟩=>⟨by rw[<-r.length];exact z,?_⟩)
 have hf:H1 s1.heap.objs.size=none:=I1.aM.fresh (qU _)
 refine⟨.ref s1.heap.objs.size,upd H1 s1.heap.objs.size (.lst xs),I1.laid (t':=s1.toks) (fun b u e=>sW _ e) (qU _) ?_,rfl,q _ hf⟩
 exact⟨z,us,0,r,MM _ rfl⟩
end
noncomputable abbrev Sp:=List V->Hp->VK->XK->Prop
noncomputable abbrev jE:=List Env->Hp->Shared->XK->Value->Shared->Prop
structure lZ (P:Program) (w:World) (K:PySem.W.Frag) (mg:Str->Option Value) (base:Heap) (A:Around) (outer:List Env) (s:Shared) (H:Hp):Prop where
 frames:A.frames=some outer
 mod:Mod K mg base
 bs:∀ b o,base.get? b=some o->s.heap.get? b=some o/\H b=none
 mY:base.objs.size <= s.heap.objs.size
 fu:s.heap.FunFrames base outer
 oF:∀ b∈j2 outer,H b=none
 aM:dS P w H s.heap
 bare:AllBare s.gens
noncomputable def CE (outer:List Env) (P:Program) (w:World) (H:Hp) (s:Shared) (Q:VK) (u:Value) (s':Shared):Prop :=
 ∃ v H',s'.os=s.os/\AllBare s'.gens/\Un (j2 outer) [] H H' s.heap s'.heap/\dS P w H' s'.heap/\RelV v u/\Q v H'
noncomputable def CR (CX:jE) (outer:List Env) (P:Program) (w:World) (H:Hp) (s:Shared) (Q:VK) (E:XK) (r:Result) (s':Shared):Prop :=
 match r with
 | .ok (.ret u)=>CE outer P w H s Q u s'
 | .ok _=>False
 | .error e=>CX outer H s E e s'
structure aU (P:Program) (w:World) (K:PySem.W.Frag) (mg:Str->Option Value) (base:Heap) (CX:jE) (k:Nat) (f:Addr) (fd:FuncData) (ps:List Str) (sp:Sp):Prop where
 len:∀ vs H Q E,sp vs H Q E->vs.length=ps.length
 run:∀ (A:Around) (outer:List Env) (s:Shared) (H:Hp) (args:Args) (us:List Value) (vs:List V) (Q:VK) (E:XK),a7 k A->lZ P w K mg base A outer s H->BindsTo s fd args (ps.zip us)->Vals vs us->sp vs H Q E →
  codeAny (model P w) A (.call (.ref f) args) (CR CX outer P w H s Q E) s
section
variable {X:Cx} {pins:List (Addr × Obj)} {σ : St} {H:Hp} {s s':Shared}
theorem Inv.sN (I:Inv X pins σ H s):lZ X.prog X.w X.K X.mg X.base X.A X.stack s H :=
 ⟨I.ok.frames,I.ok.mod,I.bs,XO I.ok.mY I.sz,I.stack,I.ji,I.aM,I.bare⟩
theorem Inv.after {Q:VK} {u:Value} (I:Inv X pins σ H s) (h:CE X.stack X.prog X.w H s Q u s'):EP X pins σ Q u s':=by
 obtain⟨v,H',os,bare,un,aM,r,q⟩:=h
 obtain⟨hh,g,d,t,sq⟩:=s'
 obtain rfl:sq=s.os:=os
 exact⟨v,H',I.call (h':=hh) (g':=g) (d':=d) (t':=t) (ch:=[]) un aM bare (fun b z=>absurd z (by simp)),r,q⟩
end
noncomputable def sO (sp:Sp) (kq:List V) (E:XK) (t:TA):TE:=fun σ H Q=>t σ H fun vs H1=>sp (vs ++ kq) H1 Q E
noncomputable def Binds (K:PySem.W.Frag) (fd:FuncData) (ps:List Str) (ds:List Value):Prop :=
 ∀ (s:Shared) (us:List Value),K.In s.heap->(us ++ ds).length=ps.length->BindsTo s fd ⟨us,[]⟩ (ps.zip (us ++ ds))
theorem Binds.all {K:PySem.W.Frag} {fd:FuncData} {ps:List Str} (h:∀ us:List Value,us.length=ps.length->bindArgs fd ⟨us,[]⟩=pure (ps.zip us)):Binds K fd ps []:=fun s us _ hl=>by
 rw[XS] at hl ⊢
 exact .of_eq (h us hl)
noncomputable def vT (CX:jE) (X:Cx) (E:XK):Prop:=∀ (pins:List (Addr × Obj)) (σ : St) (H:Hp) (s:Shared) (e:Value) (s':Shared),Inv X pins σ H s->CX X.stack H s E e s'->X.xe e s'
section
variable {X:Cx} {CX:jE} {k:Nat} {f C:Addr} {fd:FuncData} {ps:List Str} {sp:Sp} {kq:List V} {ds:List Value} {E:XK} {x m:Str} {p pos apos:Pos} {e o:Expr} {es:List Expr} {ta:TE} {t:TA}
theorem LX {pins:List (Addr × Obj)} {σ : St} {H:Hp} {s:Shared} {Q:VK} {us:List Value} {vs:List V} (F:aU X.prog X.w X.K X.mg X.base CX k f fd ps sp) (hr:a7 k X.A) (hb:Binds X.K fd ps ds) (hd:Vals kq ds) (hx:vT CX X E)
  (I:Inv X pins σ H s) (r:Vals vs us) (h:sp (vs ++ kq) H Q E):wpAny (model X.prog X.w) X.A (call (.ref f) us) (EP X pins σ Q) X.xe s:=by
 have r2:Vals (vs ++ kq) (us ++ ds):=r.append hd
 have hl:(us ++ ds).length=ps.length:=by rw[<-r2.length];exact F.len _ _ _ _ h
 refine wpAny_call (Y7 (F.run X.A X.stack s H ⟨us,[]⟩ (us ++ ds) (vs ++ kq) Q E hr I.sN (hb s us I.ic hl) r2 h) fun r s' hq => ?_)
 cases r with
 | error e=>exact hx pins σ H s e s' I hq
 | ok fl =>
  cases fl with
  | ret u=>exact I.after hq
  | next=>exact False.elim hq
  | brk=>exact False.elim hq
  | cont=>exact False.elim hq
theorem LY (F:aU X.prog X.w X.K X.mg X.base CX k f fd ps sp) (hr:a7 k X.A) (hg:Gl X x) (hm:X.mg x=some (.ref f)) (hk:PySem.W.keepIn X.K (.ref f)=true) (hb:Binds X.K fd ps ds) (hd:Vals kq ds) (hx:vT CX X E)
  (ha:PA X (e :: es) t) (gq:(x == ("__debug__" : Str))=false:=by decide) (he:starEach (e :: es) X.env=(false,eval e X.env) :: starEach es X.env:=by rfl) (f6:(backTo pos (starEach es X.env)).any (·.1)=false:=by rfl) :
  PE X (.Call (.Name x p) (e :: es) [] pos) (sO sp kq E t):=by
 intro pins s σ H Q I h
 refine YT (Ef I hg hm ?_ gq)
 refine PySem.W.callWith_K (h₀ := X.base) I.ok.mod.mX hk (a0 (ha pos pins s σ H _ I h) fun us s1 h0_ => el5 h0_ fun vs H1 I1 r q =>⟨I1.ic,?_⟩) he f6
 exact LX F hr hb hd hx I1 r q
end
section
variable {X:Cx} {CX:jE} {k:Nat} {f C:Addr} {fd:FuncData} {ps ks:List Str} {sp:Sp} {E:XK} {x m:Str} {p pos apos fK:Pos} {e o:Expr} {es:List Expr} {VW:List Keyword} {te ta:TE} {t tk:TA} {nm:Option Str}
variable {g:List Value->List Value->List Value} {gV:List V->List V->List V}
end
structure di (N P:List Str) (sc:Scope):Prop where
 kind:sc.kind = .function
 co:sc.isCoroutine=false
 gen:sc.isGenerator=false
 nd:N.Nodup
 pre:N.take P.length=P
 par:∀ x∈P,sc.names.lookup x=some .local\/sc.names.lookup x=some .cell
 oV:∀ y∈sc.names,y.2 ≠ .free
theorem Ex {kindOf:Str->Option NameKind} {x:Str}:∀ {binds:List (Str × Value)} {m:Str->Option Value},(∀ v,(x,v)∉binds)->bindL kindOf binds m x=m x
 | [],_,_=>rfl
 | (n,v) :: r,m,h=>by
  unfold bindL
  rw[Ex fun w hw=>h w (E6 _ hw)]
  split
  ·have:x≠n:=by rintro rfl;exact h v vX
   simp[this]
  ·rfl
theorem Ey {kindOf:Str->Option NameKind} {x:Str}:∀ {binds:List (Str × Value)} {m:Str->Option Value},(∀ v,(x,v)∉binds)->bindC kindOf binds m x=m x
 | [],_,_=>rfl
 | (n,v) :: r,m,h=>by
  unfold bindC
  rw[Ey fun w hw=>h w (E6 _ hw)]
  split
  ·rfl
  ·have:x≠n:=by rintro rfl;exact h v vX
   simp[this]
theorem Ez {kindOf:Str->Option NameKind} {x:Str} {v:Value}:∀ {P:List Str} {vs:List Value} {i:Nat} {m:Str->Option Value},P.Nodup->P[i]? = some x->vs[i]? = some v->kindOf x=some .local →
  bindL kindOf (P.zip vs) m x=some v
 | [],_,_,_,_,h,_,_=>by simp at h
 | _ :: _,[],_,_,_,_,h,_=>by simp at h
 | p :: P,w :: vs,0,m,nd,h1,h2,hk=>by
  simp at h1 h2;subst h1;subst h2
  show bindL kindOf ((p,w) :: P.zip vs) m p=_
  unfold bindL
  rw[Ex fun v hv=>(Yl.mp nd).1 (q0L hv).1,V8 hk]
  simp
 | p :: P,w :: vs,i + 1,m,nd,h1,h2,hk=>by
  show bindL kindOf ((p,w) :: P.zip vs) m x=_
  unfold bindL
  exact Ez (i:=i) (Yl.mp nd).2 (by simpa using h1) (by simpa using h2) hk
theorem EA {kindOf:Str->Option NameKind} {x:Str} {v:Value}:∀ {P:List Str} {vs:List Value} {i:Nat} {m:Str->Option Value},P.Nodup->P[i]? = some x->vs[i]? = some v->kindOf x≠some .local →
  bindC kindOf (P.zip vs) m x=some v
 | [],_,_,_,_,h,_,_=>by simp at h
 | _ :: _,[],_,_,_,_,h,_=>by simp at h
 | p :: P,w :: vs,0,m,nd,h1,h2,hk=>by
  simp at h1 h2;subst h1;subst h2
  show bindC kindOf ((p,w) :: P.zip vs) m p=_
  unfold bindC
  rw[Ey fun v hv=>(Yl.mp nd).1 (q0L hv).1,V0 hk]
  simp
 | p :: P,w :: vs,i + 1,m,nd,h1,h2,hk=>by
  show bindC kindOf ((p,w) :: P.zip vs) m x=_
  unfold bindC
  exact EA (i:=i) (Yl.mp nd).2 (by simpa using h1) (by simpa using h2) hk
noncomputable def start (N:List Str) (vs:List V):St:=vs.map some ++ List.replicate (N.length - vs.length) none
noncomputable def gr (CX:jE) (P:Program) (w:World) (K:PySem.W.Frag) (mg:Str->Option Value) (base:Heap) (N:List Str) (qual:Str) (scope:Scope) (f:Addr) (cd:Value) (A:Around) (outer:List Env) (s:Shared) (H:Hp) (E:XK):Cx where
 prog:=P
 w:=w
 K:=K
 mg:=mg
 base:=base
 A:=A.deeper (envOfC qual scope s.heap.objs.size f cd)
 N:=N
 s₀ := s
 H₀ := H
 env:=envOfC qual scope s.heap.objs.size f cd
 outer:=outer
 stack:=envOfC qual scope s.heap.objs.size f cd :: outer
 ex:=[]
 calm:=true
 fn:=fun _=>true
 pn:=[]
 xe:=fun e s'=>wpAny (model P w) (A.deeper (envOfC qual scope s.heap.objs.size f cd)) (leaving (envOfC qual scope s.heap.objs.size f cd) e) (fun _ iY=>CX outer H s E e iY) (fun e' iY=>CX outer H s E e' iY) s'
theorem EB {sc:Scope} {n:Nat} {x:Str} (h:sc.names.lookup x=some .cell):∃ c,(cellsFrom n sc.names []).lookup x=some c:=by
 have q:=Zz sc.names n [] (.inl h)
 exact Zf.mp q
theorem LZ {CX:jE} {P:Program} {w:World} {K:PySem.W.Frag} {mg:Str->Option Value} {base:Heap} {N ps:List Str} {qual:Str} {scope:Scope} {f:Addr} {cd:Value} {A:Around} {outer:List Env} {s s1:Shared} {H:Hp} {E:XK} {us:List Value} {vs:List V}
  (S:di N ps scope) (hd:A.handled=none) (e0:lZ P w K mg base A outer s H) (hl:vs.length=ps.length) (r:Vals vs us)
  (x:InCallC s s.heap.objs.size (bindL (envOfC qual scope s.heap.objs.size f cd).kindOf (ps.zip us) fun _=>none) (cellsFrom (s.heap.objs.size + 1) scope.names []) (bindC (envOfC qual scope s.heap.objs.size f cd).kindOf (ps.zip us) fun _=>none) s1) :
  Inv (gr CX P w K mg base N qual scope f cd A outer s H E) [] (start N vs) H s1:=by
 have f6:ps.length <= N.length:=by have:=congrArg List.length S.pre;rw[W5] at this;omega
 obtain⟨h1,tk,rfl,hk⟩:=x.done
 have l3:∀ b:Addr,b∉(gr CX P w K mg base N qual scope f cd A outer s H E).ex:=fun b z=>absurd (show b∈([]:List Addr) from z) (by simp)
 refine⟨⟨e0.mod,S.kind,rfl,rfl,qU _,fun y z c h1 h2 => ?_,fun y hy => ?_,fun y c _ h => ?_,fun _=>hd,Around.frames_deeper e0.frames,.inr ⟨rfl,rfl⟩,fun b z=>absurd z (l3 b),e0.bs,e0.mY,fun b _ _=>l3 b,fun b z=>absurd z (l3 b),e0.fu,e0.oF⟩,
  rfl,e0.bare,Un.kept hk,⟨_,x.toInCall.ns,fun i y v h1 h2 h3 => ?_⟩,fun y c h=>⟨_,x.cell y c h⟩,e0.aM.fresh (qU _),fun y c h => ?_,fun p hp=>absurd (show p∈([]:List (Addr × Obj)) from hp) (by simp),e0.aM.kept hk,?_⟩
 ·exact name_of_addr x.apart (XG h1) (XG h2)
 ·have hy:scope.names.lookup y=some .cell\/scope.names.lookup y=some .free:=hy
  rcases hy with hy | hy
  ·exact EB hy
  ·exact absurd rfl (S.oV _ (XG hy))
 ·exact XY (x.above y c (XG h))
 ·have hi:i < vs.length:=by
   unfold start at h2
   by_cases hi:i < vs.length
   ·exact hi
   ·rw[Wx (by simpa using hi)] at h2
    rw[Zo] at h2
    split at h2<;>cases h2
  have ha:vs[i]? = some v:=by
   unfold start at h2
   rw[V9 (by simpa using hi),MJ] at h2
   cases e:vs[i]? with
   | none=>rw[e] at h2;cases h2
   | some a=>rw[e] at h2;cases h2;rfl
  obtain⟨u,hu,rv⟩:=r.get ha
  have hp:ps[i]? = some y:=by
   rw[<-S.pre,Xg (by omega)];exact h1
  have EC:ps.Nodup:=by rw[<-S.pre];exact S.nd.sublist (List.take_sublist _ _)
  refine⟨u,rv,?_⟩
  rcases S.par y (Xb hp) with k | k
  ·exact .inl ⟨k,Ez EC hp hu k⟩
  ·obtain⟨c,e⟩:=EB (n:=s.heap.objs.size + 1) k
   refine .inr ⟨.inl k,c,e,?_⟩
   have q:=x.cell y c e
   rw[EA EC hp hu (by show scope.names.lookup y≠_;rw[k];decide)] at q
   exact q
 ·exact e0.aM.fresh (XY (x.above y c (XG h)))
 ·unfold start
  show _=N.length
  rw[EZ,pd,YA]
  omega
theorem ED {CX:jE} {P:Program} {w:World} {K:PySem.W.Frag} {mg:Str->Option Value} {base:Heap} {k:Nat} {f:Addr} {name qual:Str} {params:Arguments} {body:List Stmt} {scope:Scope} {dV kV doc pm a5 ct oc:Value} {an od:Option Addr}
  {l4:Array (Option Value)} {N ps:List Str} {sp:Sp} (lk:K.lookup f=some ⟨oc,od,.func (PySem.W.fnOf name qual params body scope dV kV doc pm an a5 ct),l4⟩) (fJ:PySem.W.codeIn K a5 qual=true) (S:di N ps scope)
  (len:∀ vs H Q E,sp vs H Q E->vs.length=ps.length)
  (dY:∀ (A:Around) (outer:List Env) (s:Shared) (H:Hp) (vs:List V) (Q:VK) (E:XK),a7 k (A.deeper (envOfC qual scope s.heap.objs.size f a5))->sp vs H Q E →
   ∃ t,hV (gr CX P w K mg base N qual scope f a5 A outer s H E) body t/\t { nx:=fun _ H'=>Q .non H',rt:=Q } (start N vs) H) :
  aU P w K mg base CX (k + 1) f (PySem.W.fnOf name qual params body scope dV kV doc pm an a5 ct) ps sp:=by
 refine⟨len,fun A outer s H args us vs Q E hr e0 hb r nh => ?_⟩
 have hl:=len _ _ _ _ nh
 have KX:K.In s.heap:=e0.mod.mX.keeps fun b o e=>(e0.bs b o e).1
 have lim:s.heap.NoLimit:=e0.mod.nolimit.keeps fun b o e=>(e0.bs b o e).1
 have sP:∀ y∈ps.zip us,scope.names.lookup y.1=some .local\/(scope.names.lookup y.1=some .cell/\((cellsFrom (s.heap.objs.size + 1) scope.names []).lookup y.1).isSome=true):=fun ⟨n,v⟩ hy=>by
  rcases S.par n (q0L hy).1 with q | q
  ·exact .inl q
  ·exact .inr ⟨q,Zz _ _ _ (.inl q)⟩
 refine codeAny_call_function hr.depth (KX _ _ lk) rfl S.co S.gen rfl (PySem.W.codeRec_of KX fJ) (hb _ _ _ _ ?_)
 refine wpAny_newFunctionEnv_cells S.kind sP fun env he s1 x => ?_
 subst he
 refine⟨lim.keeps x.toInCall.keep,codeAny_func ?_⟩
 obtain⟨t,ht,hq⟩:=dY A outer s H vs Q E (hr.deeper _) nh
 have I:Inv (gr CX P w K mg base N qual scope f a5 A outer s H E) [] (start N vs) H s1:=LZ S hr.hd e0 hl r x
 refine Yq (ht [] s1 (start N vs) H _ I hq) (fun fl s' hs => ?_) fun e s' hs=>hs
 have fin:∀ {σ':St} {H':Hp} {v:V} {u:Value},Inv (gr CX P w K mg base N qual scope f a5 A outer s H E) [] σ' H' s'->RelV v u->Q v H'->CE outer P w H s Q u s' :=
  fun {σ' H' v u} J rv q=>⟨v,H',J.os,J.bare,J.base,J.aM,rv,q⟩
 cases fl with
 | ret u =>
  obtain⟨v,σ',H',J,rv,q⟩:=hs
  exact fin J rv q
 | next =>
  obtain⟨σ',H',J,q⟩:=hs
  exact fin (v:=V.non) (u:=Value.none) J rfl q
 | brk =>
  obtain⟨_,_,_,q⟩:=hs
  exact False.elim q
 | cont =>
  obtain⟨_,_,_,q⟩:=hs
  exact False.elim q
section
variable {X:Cx} {x:Str} {p pos:Pos} {e:Expr} {es:List Expr} {t:TA} {id T:String} {r:List V->Hp->VK->Prop}
noncomputable def oW (r:List V->Hp->VK->Prop) (t:TA):TE:=fun σ H Q=>t σ H fun vs H1=>r vs H1 Q
theorem L1 (hc:fY X (.builtin id) r) (hg:Gl X x) (hm:X.mg x=none) (hv:bootBuiltins x=some (.builtin id)) (ha:PA X (e :: es) t) (hn:x ≠ "__name__" := by decide) (gq:(x == ("__debug__" : Str))=false:=by decide)
  (he:starEach (e :: es) X.env=(false,eval e X.env) :: starEach es X.env:=by rfl) (f6:(backTo pos (starEach es X.env)).any (·.1)=false:=by rfl):PE X (.Call (.Name x p) (e :: es) [] pos) (oW r t):=by
 intro pins s σ H Q I h
 refine YT (lR I hg hm hv ?_ hn gq)
 exact PyProof.Rows.callWith_builtin1 (a0 (ha pos pins s σ H _ I h) fun us s1 h0_ => el5 h0_ fun vs H1 I1 r1 q1 =>hc pins s1 σ H1 vs us Q I1 r1 q1) he f6
theorem L5 (hc:fY X (.type T) r) (hg:Gl X x) (hm:X.mg x=none) (hv:bootBuiltins x=some (.type T)) (ha:PA X (e :: es) t) (hn:x ≠ "__name__" := by decide) (gq:(x == ("__debug__" : Str))=false:=by decide)
  (he:starEach (e :: es) X.env=(false,eval e X.env) :: starEach es X.env:=by rfl) (f6:(backTo pos (starEach es X.env)).any (·.1)=false:=by rfl):PE X (.Call (.Name x p) (e :: es) [] pos) (oW r t):=by
 intro pins s σ H Q I h
 refine YT (lR I hg hm hv ?_ hn gq)
 exact Yd (a0 (ha pos pins s σ H _ I h) fun us s1 h0_ => el5 h0_ fun vs H1 I1 r1 q1 =>hc pins s1 σ H1 vs us Q I1 r1 q1) he f6
end
end L2
namespace HT
open PySem PyProof.Rows
noncomputable def lexLt:List Int->List Int->Bool
 | [],[]=>false
 | [],_ :: _=>true
 | _ :: _,[]=>false
 | x :: xs,y :: ys=>if x=y then lexLt xs ys else decide (x < y)
theorem oX (x y:Int) (xs ys:List Int):lexLt (x :: xs) (y :: ys)=if x=y then lexLt xs ys else decide (x < y):=rfl
theorem L7:lexLt [] []=false:=rfl
theorem L8 (y:Int) (ys:List Int):lexLt [] (y :: ys)=true:=rfl
theorem L9 (x:Int) (xs:List Int):lexLt (x :: xs) []=false:=rfl
theorem L_ (A:Around) (s:Shared) (a:Int) (t:Tok) (c:Int) (u:Tok):∃ e,SeqAt.EqAt A s (.int a t) (.int c u) e/\(e=true↔a=c) :=
 ⟨(a == c),SeqAt.EqAt.int_int a t c u,by simp⟩
theorem Ma (A:Around) (s:Shared) (a:Int) (t:Tok) (c:Int) (u:Tok) (prog:Program) (w:World) (E:Value->Shared->Prop) (Q:Value->Shared->Prop) (h:Q (.bool (decide (a < c))) s) :
  wpAny (model prog w) A (richCompare .Lt (.int a t) (.int c u)) Q E s :=
 (PyProof.Rows.lt_int h:wpAny (model prog w) A (compareOp .Lt (.int a t) (.int c u)) Q E s)
section
open PySem.SeqAt
open PySem.AutoSeq1 (wpAny_loadPart')
open PySem.MeetsSeq PySem.MeetsSeq2 PySem.MeetsSeq3
theorem Mb (l b:Addr) (items b7:Array Value) (n n2:Nat) (dd ni:Option Addr) (sl nk:Array (Option Value)) (ns ms:List Int) (hi:IntsAre items.toList ns) (hj:IntsAre b7.toList ms) :
  Meets (Builtin.«tuple.__lt__» ⟨[.ref l,.ref b],[]⟩)
   (fun _ R s=>s.heap.get? l=some { cls := .type "tuple",dict:=dd,data := .seq items n,slots:=sl }/\s.heap.get? b=some { cls := .type "tuple",dict:=ni,data := .seq b7 n2,slots:=nk } ∧
    R (.ok (.ret (.bool (lexLt ns ms)))) s) :=
 .of_wp fun prog w A R s h=>by
  obtain⟨hp,g,d,tk,os⟩:=s;obtain⟨hl,hb,h⟩:=h
  have f2:=AutoSeq1.sub_tuple_tuple
  have z1:items.size=ns.length:=by rw[<-hi.length];simp
  have z2:b7.size=ms.length:=by rw[<-hj.length];simp
  wp_walk using Ym hl,Ym hb,ZK _ (fun rest b s'=>b.1=none/\s'=⟨hp,g,d,tk,os⟩/\∃ (vs ws:List Value) (dZ qQ:List Int),rest=vs.zip ws ∧
   IntsAre vs dZ/\IntsAre ws qQ/\dZ.length + b7.size=qQ.length + items.size/\R (.ok (.ret (.bool (lexLt dZ qQ)))) ⟨hp,g,d,tk,os⟩) _
  case turn =>
   rintro ⟨y,x⟩ rest b s' ⟨dD,rfl,vs,ws,dZ,qQ,hz,zi,vU,hlen,hR⟩
   cases zi with
   | nil=>rw[q0g] at hz;cases hz
   | cons a t zj =>
    cases vU with
    | nil=>rw[List.zip_nil_right] at hz;cases hz
    | cons c u zk =>
     rw[Z9] at hz
     injection hz with Mc sQ
     injection Mc with hy hx
     subst hy hx
     rw[oX] at hR
     simp only[My] at hlen
     obtain⟨e,he,sR⟩:=L_ A.in1 ⟨hp,g,d,tk,os⟩ a t c u
     refine l8 (he prog w _ _ ?_)
     cases e with
     | true =>
      rw[V8 (sR.mp rfl)] at hR
      wp_walk
      exact⟨rfl,rfl,_,_,_,_,sQ,zj,zk,by omega,hR⟩
     | false =>
      rw[V0 (fun q=>absurd (sR.mpr q) WH)] at hR
      have Md:=Ma A.in1 ⟨hp,g,d,tk,os⟩ a t c u prog w
      wp_walk using Md
      exact⟨_,rfl,by simpa using hR⟩
  case fin =>
   rintro ⟨b1,b2⟩ s' ⟨dD,rfl,vs,ws,dZ,qQ,hz,zi,vU,hlen,hR⟩
   simp only at dD
   subst dD
   have hv:lexLt dZ qQ=decide (items.size < b7.size):=by
    cases zi with
    | nil =>
     cases vU with
     | nil =>
      simp only[YY] at hlen
      rw[L7]
      exact (WK (by omega)).symm
     | cons c u hw =>
      simp only[YY,My] at hlen
      rw[L8]
      exact (Wz (by omega)).symm
    | cons a t hv =>
     cases vU with
     | nil =>
      simp only[YY,My] at hlen
      rw[L9]
      exact (WK (by omega)).symm
     | cons c u hw =>
      rw[Z9] at hz
      cases hz
   rw[hv] at hR
   wp_walk
   exact⟨_,rfl,by simpa [Builtin.Tuple.tupleCompareSizes] using hR⟩
  case h =>
   exact⟨rfl,rfl,items.toList,b7.toList,ns,ms,rfl,hi,hj,by omega,h⟩
end
section
variable {prog:Program} {w:World} {A:Around} {E:Value->Shared->Prop} {s:Shared}
theorem EE {l b:Addr} {items b7:Array Value} {ns ms:List Int} {Q:Value->Shared->Prop} (hl:IsTup s.heap l items) (hb:IsTup s.heap b b7) (hi:IntsAre items.toList ns) (hj:IntsAre b7.toList ms)
  (hu:A.units < cLine) (h:Q (.bool (lexLt ns ms)) s):wpAny (model prog w) A (compareOp .Lt (.ref l) (.ref b)) Q E s:=by
 obtain⟨⟨cls,dd,data,sl⟩,ho,hc,n,hd⟩:=id hl
 obtain⟨⟨sS,ni,data2,nk⟩,gC,jn,n2,hd2⟩:=id hb
 simp only at hc hd jn hd2
 subst hc hd jn hd2
 exact richCompare_meets_room (op := .Lt) ⟨_,ho,rfl⟩ ⟨_,gC,rfl⟩ PySem.F.slot_tuple_lt PySem.F.entry_tuple_lt (PySem.F.args_tuple_lt_2 _ _) (Mb l b items b7 n n2 dd ni sl nk ns ms hi hj)
  ⟨ho,gC,show Value.bool (lexLt ns ms)≠Value.notImplemented/\Q (.bool (lexLt ns ms)) s from ⟨(fun x=>nomatch x),h⟩⟩ hu
theorem Me {t b:Addr} {vs ws:List Value} {Q:Value->Shared->Prop} (ht:IsTup s.heap t vs.toArray) (hb:IsTup s.heap b ws.toArray) (hv:vs≠[])
  (h1:ws=[]->Q (.ref t) s) (h2:ws≠[]->Q (.ref s.heap.objs.size) { s with heap:=s.heap.push { cls := .type "tuple",data := .seq (vs ++ ws).toArray } })
  (hsz:vs.length + ws.length <= sizeLine):wpAny (model prog w) A (binaryOp .Add (.ref t) (.ref b)) Q E s:=by
 obtain⟨⟨cls,dd,data,sl⟩,ho,hc,n,hd⟩:=id ht
 obtain⟨⟨sS,ni,data2,nk⟩,gC,jn,n2,hd2⟩:=id hb
 simp only at hc hd jn hd2
 subst hc hd jn hd2
 have e:vs.toArray ++ ws.toArray=(vs ++ ws).toArray:=by simp
 by_cases hw:ws=[]
 ·exact concat_meets ⟨_,ho,rfl⟩ ⟨_,gC,rfl⟩ noFill_tuple_add seq_tuple_add ZA Zp (Zg _ _)
   (tuple_addW1 t b vs.toArray ws.toArray n n2 dd ni sl nk (by simpa using hv) (by simp[hw])) ⟨ho,gC,h1 hw⟩
 ·refine concat_meets ⟨_,ho,rfl⟩ ⟨_,gC,rfl⟩ noFill_tuple_add seq_tuple_add ZA Zp (Zg _ _)
   (tuple_addW2 t b vs.toArray ws.toArray n n2 dd ni sl nk (by simpa using hv) (by simpa using hw) (by rw[zJ,zJ];exact hsz)) ⟨ho,gC,?_⟩
  rw[e]
  exact h2 hw
noncomputable def aY (n d:Nat):Option Int->Nat
 | none=>d
 | some v=>if v < 0 then (v + (n:Int)).toNat else min v.toNat n
theorem Mf (n d:Nat):aY n d none=d:=rfl
theorem zo (n d k:Nat):aY n d (some (k:Int))=min k n:=by
 show (if (k:Int) < 0 then ((k:Int) + (n:Int)).toNat else min (k:Int).toNat n)=min k n
 rw[V0 (by omega),WQ]
theorem Mg (n d:Nat) (hd:d <= n) (o:Option Int):aY n d o <= n:=by
 cases o with
 | none=>exact hd
 | some v =>
  show (if v < 0 then (v + (n:Int)).toNat else min v.toNat n) <= n
  by_cases hv:v < 0
  ·rw[V8 hv];omega
  ·rw[V0 hv];exact Nat.min_le_right _ _
theorem EF (v:Int) (n d:Nat):(if v < 0 then max (v + (n:Int)) 0 else min v (n:Int))=((aY n d (some v):Nat):Int):=by
 show (if v < 0 then max (v + (n:Int)) 0 else min v (n:Int))=(((if v < 0 then (v + (n:Int)).toNat else min v.toNat n):Nat):Int)
 by_cases hv:v < 0
 ·simp only[V8 hv];omega
 ·simp only[V0 hv];omega
theorem Mh (lo hi:Option Int) (n:Nat):Builtin.Slice.sliceAdjust lo hi 1 (n:Int)=(((aY n 0 lo:Nat):Int),((aY n n hi:Nat):Int)):=by
 have h1:¬ ((1:Int) < 0):=by omega
 unfold Builtin.Slice.sliceAdjust
 simp only[h1,Xx]
 refine Prod.ext ?_ ?_
 ·cases lo with
  | none=>rfl
  | some v=>exact EF v n 0
 ·cases hi with
  | none=>rfl
  | some v=>exact EF v n n
theorem Mi (i j:Nat):Builtin.Slice.slicePlaces (i:Int) (j:Int) 1=j - i:=by
 unfold Builtin.Slice.slicePlaces
 have h1:(1:Int) > 0:=by omega
 simp only[h1,YL,Int.ediv_one]
 split<;>omega
theorem EG {v:Value} {o:Option Int} {Q:Option Int->Shared->Prop} (p:IsPart v o) (h:Q o s):wpAny (model prog w) A (Builtin.Slice.slicePartIndex v) Q E s:=by
 cases p with
 | none=>exact slicePart_none h
 | int i t=>exact slicePart_int h
theorem EH {sl:Addr} {vl vu:Value} {lo hi:Option Int} {n:Nat} {Q:Int × Int × Nat->Shared->Prop} (hs:s.heap.IsSliceOf sl vl vu .none) (pl:IsPart vl lo) (pu:IsPart vu hi)
  (h:Q (((aY n 0 lo:Nat):Int),1,aY n n hi - aY n 0 lo) s):wpAny (model prog w) A (Builtin.Slice.sliceApplied (.ref sl) (pure (n:Int))) Q E s:=by
 obtain⟨os,oY,qR,sT⟩:=id hs
 unfold Builtin.Slice.sliceApplied Builtin.Slice.sliceFields
 refine l8 (l8 (Zq oY sT (x:=vl) rfl (l8 (Zq oY sT (x:=vu) rfl (l8 (Zq oY sT (x := .none) rfl (vW ?_)))))))
 refine l8 (slicePart_none ?_)
 show wpAny _ _ (if ((1:Int) == 0)=true then _ else _) _ _ s
 rw[V0 (by decide)]
 refine l8 (EG pl (l8 (EG pu (l8 (vW ?_)))))
 show wpAny _ _ (match Builtin.Slice.sliceAdjust lo hi 1 (n:Int) with | (lo,hi)=>pure (lo,(1:Int),Builtin.Slice.slicePlaces lo hi 1)) _ _ s
 rw[Mh lo hi n]
 show wpAny _ _ (pure (((aY n 0 lo:Nat):Int),(1:Int),Builtin.Slice.slicePlaces ((aY n 0 lo:Nat):Int) ((aY n n hi:Nat):Int) 1)) _ _ s
 rw[Mi]
 exact vW h
theorem Mj (xs:Array Value) (i k:Nat):((List.range k).filterMap fun (m:Nat)=>xs[((i:Int) + (m:Int) * 1).toNat]?).toArray=((xs.toList.drop i).take k).toArray:=by
 have e:(fun (m:Nat)=>xs[((i:Int) + (m:Int) * 1).toNat]?)=fun m=>xs[i + m]? := by
  funext m
  have:((i:Int) + (m:Int) * 1).toNat=i + m:=by omega
  rw[this]
 rw[e]
 have:=pick_run xs i k
 rw[List.filterMap_map] at this
 have e2:((fun x=>xs[x]?) ∘ fun x=>i + x)=fun m=>xs[i + m]? := rfl
 rw[e2] at this
 rw[this]
theorem Ml {t sl:Addr} {items:Array Value} {vl vu:Value} {lo hi:Option Int} {Q:Value->Shared->Prop} (ht:IsTup s.heap t items) (hs:s.heap.IsSliceOf sl vl vu .none) (pl:IsPart vl lo) (pu:IsPart vu hi)
  (hw:¬ (aY items.size 0 lo=0/\aY items.size items.size hi=items.size))
  (h:Q (.ref s.heap.objs.size) { s with heap:=s.heap.push { cls := .type "tuple",data := .seq ((items.toList.drop (aY items.size 0 lo)).take (aY items.size items.size hi - aY items.size 0 lo)).toArray } })
  (hsz:items.size <= sizeLine):wpAny (model prog w) A (getItem (.ref t) (.ref sl)) Q E s:=by
 have jo:sizeOk (.seq ((items.toList.drop (aY items.size 0 lo)).take (aY items.size items.size hi - aY items.size 0 lo)).toArray):=by
  show ((items.toList.drop (aY items.size 0 lo)).take (aY items.size items.size hi - aY items.size 0 lo)).toArray.size <= sizeLine
  rw[zJ,W5,Yo,E7]
  omega
 have hj:aY items.size items.size hi <= items.size:=Mg _ _ (qU _) hi
 obtain⟨os,oY,qR,sT⟩:=id hs
 have zp:s.TypeIs (.ref sl) "slice" := ⟨os,oY,qR⟩
 unfold getItem
 try with_reducible refine W6 ?_
 first | refine l8 (vW ?_) | skip
 refine l8 (wpAny_sequenceKey ht.typeIs (by decide) ?_)
 refine l8 (X_ (name:=Str.ofString "__getitem__") ht.typeIs Xq
  (Ya Xq ht.typeIs entry_tuple_getitem ?_ (args_tuple_getitem _ _)))
 show wpAny _ _ (Builtin.Tuple.tupleItemsOf (.ref t) >>= _) _ _ s
 refine l8 (tupleItemsOf_ ht ?_)
 refine l8 (Zx zp ?_)
 rw[V8 (by decide)]
 refine l8 (EH hs pl pu ?_)
 have Mm:¬ ((((aY items.size 0 lo:Nat):Int) == 0 && (1:Int) == 1 && (aY items.size items.size hi - aY items.size 0 lo) == items.size)=true):=by
  intro q
  rw[Xu,Xu] at q
  have q1:((aY items.size 0 lo:Nat):Int)=0:=X7 q.1.1
  have q2:aY items.size items.size hi - aY items.size 0 lo=items.size:=X7 q.2
  exact hw ⟨by omega,by omega⟩
 show wpAny _ _ (if (((aY items.size 0 lo:Nat):Int) == 0 && (1:Int) == 1 && (aY items.size items.size hi - aY items.size 0 lo) == items.size)=true then _ else _) _ _ s
 rw[V0 Mm,Mj]
 first
  | exact l8 (m:=Builtin.Tuple.tupleExact _) (Xn (vW ⟨_,rfl,vW h⟩) jo)
  | exact l8 (m:=Builtin.Tuple.tupleExact _) (Xn (l8 (vW (vW ⟨_,rfl,vW h⟩))) jo)
  | exact l8 (l8 (m:=Builtin.Tuple.tupleExact _) (Xn (vW (vW ⟨_,rfl,vW h⟩)) jo))
  | exact l8 (l8 (m:=Builtin.Tuple.tupleExact _) (Xn (vW ⟨_,rfl,vW h⟩) jo))
end
end HT
namespace L2
open PySem PySem.Spec PyProof.Rows
noncomputable abbrev TO:=St->Hp->(Option Int->Hp->Prop)->Prop
noncomputable def PO (X:Cx) (e:Option Expr) (t:TO):Prop :=
 ∀ (pins:List (Addr × Obj)) (s:Shared) (σ : St) (H:Hp) (Q:Option Int->Hp->Prop),Inv X pins σ H s->t σ H Q →
  wpAny (model X.prog X.w) X.A (evalPart e X.env) (fun u s'=>∃ o H',Inv X pins σ H' s'/\IsPart u o/\Q o H') X.xe s
noncomputable def Mn:TO:=fun _ H Q=>Q none H
noncomputable def Mo (t:TE):TO:=fun σ H Q=>t σ H fun x H1=>∃ i,x = .int i/\Q (some i) H1
theorem intsAre_of {ns:List Int}:∀ {us:List Value},Vals (ns.map V.int) us->IntsAre us ns:=by
 induction ns with
 | nil=>intro us r;rw[YU] at r;cases r;exact .nil
 | cons n ns ih =>
  intro us r
  rw[WW] at r
  cases r with
  | cons r1 r2 =>
   obtain⟨t,e⟩:=r1
   subst e
   exact .cons n t (ih r2)
section
variable {X:Cx} {e:Expr} {te:TE} {lo hi:Option Expr} {tl th:TO} {pos p2:Pos}
theorem EI:PO X none Mn:=by
 intro pins s σ H Q I h
 rw[evalPart_none]
 exact vW ⟨none,H,I,.none,h⟩
theorem vV (h:PE X e te):PO X (some e) (Mo te):=by
 intro pins s σ H Q I hw
 rw[evalPart_some]
 refine a0 (h pins s σ H _ I hw) fun u s1 h0_ => el5 h0_ fun x H1 I1 r1 q1 => ?_
 obtain⟨i,rfl,q⟩:=q1
 obtain⟨t,rfl⟩:=r1
 exact⟨some i,H1,I1,.int i t,q⟩
noncomputable def l5 (X:Cx) (r:V->Option Int->Option Int->Hp->VK->Prop):Prop :=
 ∀ (pins:List (Addr × Obj)) (s:Shared) (σ : St) (H:Hp) (x:V) (v vl vu:Value) (lo hi:Option Int) (sl:Addr) (Q:VK),Inv X pins σ H s->RelV x v->s.heap.IsSliceOf sl vl vu .none->IsPart vl lo->IsPart vu hi->r x lo hi H Q →
  ∃ T id,typeLookup (.type T) "__getitem__" = pure (some (.builtin id))/\s.TypeIs v T/\wpAny (model X.prog X.w) X.A (getItem v (.ref sl)) (EP X pins σ Q) X.xe s
theorem l5.or {r r':V->Option Int->Option Int->Hp->VK->Prop} (h:l5 X r) (h':l5 X r'):l5 X (fun x lo hi H Q=>r x lo hi H Q\/r' x lo hi H Q):=by
 intro pins s σ H x v vl vu lo hi sl Q I rx hs pl pu q
 rcases q with q | q
 ·exact h pins s σ H x v vl vu lo hi sl Q I rx hs pl pu q
 ·exact h' pins s σ H x v vl vu lo hi sl Q I rx hs pl pu q
noncomputable def EJ (r:V->Option Int->Option Int->Hp->VK->Prop) (te:TE) (tl th:TO):TE:=fun σ H Q=>te σ H fun x H1=>tl σ H1 fun l H2=>th σ H2 fun u H3=>r x l u H3 Q
theorem Mp {r:V->Option Int->Option Int->Hp->VK->Prop} (hr:l5 X r) (he:PE X e te) (hl:PO X lo tl) (hu:PO X hi th):PE X (.Subscript e (.Slice lo hi none p2) pos) (EJ r te tl th):=by
 intro pins s σ H Q I h
 refine Subscript_ (a0 (he pins s σ H _ I h) fun v s1 h0_ => el5 h0_ fun x H1 I1 r1 q1 => ?_)
 refine wpAny_Slice (a0 (hl pins s1 σ H1 _ I1 q1) fun vl s2 h0_ => el5 h0_ fun l H2 I2 pl q2 =>a0 (hu pins s2 σ H2 _ I2 q2) fun vu s3 h0_ => el5 h0_ fun u H3 I3 pu q3 => ?_)
 rw[evalPart_none]
 refine vW ?_
 have I4:Inv X pins σ H3 { s3 with heap:=s3.heap.push { cls := .type "slice",data := .fields #[vl,vu,.none] } }:=I3.kept (t':=s3.toks) fun b ob q=>sW _ q
 obtain⟨T,id,hT,ht,hg⟩:=hr pins { s3 with heap:=s3.heap.push { cls := .type "slice",data := .fields #[vl,vu,.none] } } σ H3 x v vl vu l u s3.heap.objs.size Q I4 r1 (Heap.IsSliceOf.new ..) pl pu q3
 show wpAny (model X.prog X.w) X.A (subscriptTail e (.Slice lo hi none p2) v (.ref s3.heap.objs.size)) (EP X pins σ Q) X.xe { s3 with heap:=s3.heap.push { cls := .type "slice",data := .fields #[vl,vu,.none] } }
 exact tail_any (ops:=[.ref s3.heap.objs.size,v]) ht hT hg (by with_unfolding_all rfl)
noncomputable def dj (xs:List V) (lo hi:Option Int):List V:=(xs.drop (HT.aY xs.length 0 lo)).take (HT.aY xs.length xs.length hi - HT.aY xs.length 0 lo)
theorem EK (xs:List V) (lo hi:Option Int):(dj xs lo hi).length <= xs.length:=by
 unfold dj
 rw[W5,Yo]
 omega
noncomputable def zq (K:PySem.W.Frag):V->Option Int->Option Int->Hp->VK->Prop:=fun x lo hi H Q=>∃ a xs,x = .ref a/\bI K H a xs ∧
 ¬ (HT.aY xs.length 0 lo=0/\HT.aY xs.length xs.length hi=xs.length)/\∀ p,H p=none->Q (.ref p) (upd H p (.tup (dj xs lo hi)))
theorem Mq:l5 X (zq X.K):=by
 intro pins s σ H x v vl vu lo hi sl Q I rx hs pl pu h
 obtain⟨a,xs,rfl,hx,hw,q⟩:=h
 cases rx
 obtain⟨ah,r,ht,hz⟩:=I.tuple hx
 have hlen:ah.toArray.size=xs.length:=by rw[zJ];exact r.length.symm
 refine⟨"tuple",_,Xq.lookup,ht.typeIs,?_⟩
 refine HT.Ml ht hs pl pu (by rw[hlen];exact hw) ?_ (by rw[hlen];exact hz)
 rw[hlen]
 refine⟨.ref s.heap.objs.size,_,I.laid (t':=s.toks) (o := .tup (dj xs lo hi)) (fun b ob q=>sW _ q) (qU _) ?_,rfl,q _ (I.aM.fresh (qU _))⟩
 exact⟨XO (EK xs lo hi) hz,_,(r.drop (HT.aY xs.length 0 lo)).take (HT.aY xs.length xs.length hi - HT.aY xs.length 0 lo),IsTup.new _ _⟩
noncomputable def zr (K:PySem.W.Frag):R2:=fun x y H Q=>∃ a b ns ms,x = .ref a/\y = .ref b/\bI K H a (ns.map V.int)/\bI K H b (ms.map V.int)/\Q (.bl (HT.lexLt ns ms)) H
theorem Mr (hu:X.A.units < cLine):dO X (compareOp .Lt) (zr X.K):=by
 intro pins s σ H x y v u Q I rx ry h
 obtain⟨a,b,ns,ms,rfl,rfl,ha,hb,q⟩:=h
 cases rx
 cases ry
 obtain⟨ah,r1,p1,_⟩:=I.tuple ha
 obtain⟨bc,r2,p2,_⟩:=I.tuple hb
 have i1:IntsAre ah.toArray.toList ns:=intsAre_of r1
 have i2:IntsAre bc.toArray.toList ms:=intsAre_of r2
 exact HT.EE p1 p2 i1 i2 hu ⟨.bl (HT.lexLt ns ms),H,I,rfl,q⟩
noncomputable def Ms (K:PySem.W.Frag):R2:=fun x y H Q=>∃ a b xs ys,x = .ref a/\y = .ref b/\bI K H a xs/\bI K H b ys/\xs≠[]/\xs.length + ys.length <= sizeLine ∧
 (ys=[]->Q (.ref a) H)/\(ys≠[]->∀ p,H p=none->Q (.ref p) (upd H p (.tup (xs ++ ys))))
theorem Vals.fA {xs:List V} {us:List Value} (r:Vals xs us):us=[]↔xs=[]:=by
 cases r with
 | nil=>simp
 | cons _ _=>simp
theorem Mt:dO X (binaryOp .Add) (Ms X.K):=by
 intro pins s σ H x y v u Q I rx ry h
 obtain⟨a,b,xs,ys,rfl,rfl,ha,hb,hx,hz,q1,q2⟩:=h
 cases rx
 cases ry
 obtain⟨ah,r1,p1,_⟩:=I.tuple ha
 obtain⟨bc,r2,p2,_⟩:=I.tuple hb
 refine HT.Me p1 p2 (fun z=>hx (r1.fA.mp z)) (fun z=>⟨.ref a,H,I,rfl,q1 (r2.fA.mp z)⟩) (fun z => ?_) (by rw[<-r1.length,<-r2.length];exact hz)
 refine⟨.ref s.heap.objs.size,_,I.laid (t':=s.toks) (o := .tup (xs ++ ys)) (fun b ob q=>sW _ q) (qU _) ?_,rfl,q2 (fun w=>z (r2.fA.mpr w)) _ (I.aM.fresh (qU _))⟩
 exact⟨by rw[EZ];exact hz,_,r1.append r2,IsTup.new _ _⟩
end
noncomputable def jF (n:Nat) (i:Int):Option Nat:=if 0 <= i then (if i < n then some i.toNat else none) else if -(n:Int) <= i then some (i + n).toNat else none
noncomputable def fB {α : Type} (xs:List α) (i:Int):Option α := (jF xs.length i).bind fun j=>xs[j]?
theorem EL {n:Nat} {i:Int} {j:Nat} (h:jF n i=some j):seqIndex? i n=some j/\j < n /\ -(n:Int) <= i/\i < n:=by
 unfold jF at h
 by_cases h0:0 <= i
 ·rw[V8 h0] at h
  by_cases h1:i < n
  ·rw[V8 h1] at h
   have e:i.toNat=j:=WY h
   exact⟨by rw[seqIndex_of h0 h1,e],by omega,by omega,h1⟩
  ·rw[V0 h1] at h;cases h
 ·rw[V0 h0] at h
  by_cases h1 : -(n:Int) <= i
  ·rw[V8 h1] at h
   have e:(i + n).toNat=j:=WY h
   exact⟨by rw[seqIndex_neg (by omega) h1,e],by omega,h1,by omega⟩
  ·rw[V0 h1] at h;cases h
theorem zt {α : Type} {xs:List α} {i:Int} {v : α} (h:fB xs i=some v):∃ j,seqIndex? i xs.length=some j/\xs[j]? = some v/\j < xs.length /\ -(xs.length:Int) <= i/\i < xs.length:=by
 unfold fB at h
 cases e:jF xs.length i with
 | none=>rw[e] at h;cases h
 | some j =>
  rw[e] at h
  obtain⟨h1,h2,h3,h4⟩:=EL e
  exact⟨j,h1,h,h2,h3,h4⟩
theorem nq {α : Type} {xs:List α} {j:Nat} {v : α} (h:xs[j]? = some v):fB xs (j:Int)=some v:=by
 have hj:j < xs.length:=(pe.mp h).1
 have e:jF xs.length (j:Int)=some j:=by
  unfold jF
  rw[V8 (by omega),V8 (by omega)];simp
 unfold fB;rw[e];exact h
noncomputable def zv (b:Expr):Prop:=∀ o i,subscripted b false o i=operate [o,i] (getItem o i)
noncomputable def qT (X:Cx) (r:R2):Prop :=
 ∀ (value slice:Expr) (pins:List (Addr × Obj)) (s:Shared) (σ : St) (H:Hp) (x y:V) (v u:Value) (Q:VK),Inv X pins σ H s->RelV x v->RelV y u->r x y H Q →
  subscripted slice false v u=operate [v,u] (getItem v u)->wpAny (model X.prog X.w) X.A (subscriptTail value slice v u) (EP X pins σ Q) X.xe s
noncomputable def sU (X:Cx) (id:String) (r:V->List V->Hp->VK->Prop):Prop :=
 ∀ (pins:List (Addr × Obj)) (s:Shared) (σ : St) (H:Hp) (x:V) (xs:List V) (v:Value) (us:List Value) (Q:VK),Inv X pins σ H s->RelV x v->Vals xs us->r x xs H Q →
  wpAny (model X.prog X.w) X.A (call (.builtin id) (v :: us)) (EP X pins σ Q) X.xe s
section
variable {X:Cx} {a b:Expr} {ta tb:TE} {pos:Pos}
theorem Mu {r:R2} (hr:qT X r) (ha:PE X a ta) (hb:PE X b tb) (hs:zv b):PE X (.Subscript a b pos) (lV r ta tb):=by
 intro pins s σ H Q I h
 exact Subscript_ (oR ha hb I h fun v u s2 x y H2 I2 rx ry q=>hr a b pins s2 σ H2 x y v u Q I2 rx ry q (hs _ _))
noncomputable def zw (K:PySem.W.Frag):R2:=fun x y H Q=>∃ p xs i v,x = .ref p/\y = .int i/\bh K H p xs/\fB xs i=some v/\Q v H
noncomputable def zx (K:PySem.W.Frag):R2:=fun x y H Q=>∃ p xs i v,x = .ref p/\y = .int i/\bI K H p xs/\fB xs i=some v/\Q v H
noncomputable def zy:R2:=fun x y H Q=>∃ z i c,x = .str z/\y = .int i/\z.length <= sizeLine/\fB z.cps.toList i=some c/\Q (.str ⟨#[c]⟩) H
theorem EM:qT X (zw X.K):=by
 intro value slice pins s σ H x y v u Q I rx ry h hs
 obtain⟨p,xs,i,z,rfl,rfl,hq,he,q⟩:=h
 cases rx
 obtain⟨t,rfl⟩:=ry
 obtain⟨ah,r,pl,hz⟩:=I.list hq
 obtain⟨j,h1,h2,h3,h4,h5⟩:=zt he
 obtain⟨w,ew,sV⟩:=r.get h2
 have hl:=r.length
 have hn:=qP
 have fin:EP X pins σ Q w s:=⟨z,H,I,sV,q⟩
 by_cases h0:0 <= i
 ·have hj:i.toNat=j:=by
   rw[seqIndex_of h0 h5] at h1
   exact WY h1
  exact item_listR pl.isList h0 (by omega) (by rw[hj];simpa using ew) fin hs
 ·have hj:(i + (ah.toArray.size:Int)).toNat=j:=by
   rw[seqIndex_neg (by omega) h4] at h1
   rw[zJ,<-hl]
   exact WY h1
  exact subscriptTail_builtinR (x:=w) pl.isList.typeIs slot_list_getitem.lookup
   (wpAny_getItem_list_neg (Q:=fun r s'=>r=w/\EP X pins σ Q r s') pl.isList (by omega) (by rw[zJ]<;>omega) (by omega) (by rw[hj];simpa using ew) ⟨rfl,fin⟩) hs
theorem Mv:qT X (zx X.K):=by
 intro value slice pins s σ H x y v u Q I rx ry h hs
 obtain⟨p,xs,i,z,rfl,rfl,hq,he,q⟩:=h
 cases rx
 obtain⟨t,rfl⟩:=ry
 obtain⟨ah,r,pl,hz⟩:=I.tuple hq
 obtain⟨j,h1,h2,h3,h4,h5⟩:=zt he
 obtain⟨w,ew,sV⟩:=r.get h2
 have hl:=r.length
 have hn:=qP
 have fin:EP X pins σ Q w s:=⟨z,H,I,sV,q⟩
 exact subscriptTail_builtinR (x:=w) pl.typeIs slot_tuple_getitem.lookup
  (getItem_tuple (j:=j) (Q:=fun r s'=>r=w/\EP X pins σ Q r s') pl (by omega) (by omega) (by rw[zJ,<-hl];exact h1) (by simpa using ew) ⟨rfl,fin⟩) hs
theorem Mw:qT X zy:=by
 intro value slice pins s σ H x y v u Q I rx ry h hs
 obtain⟨z,i,c,rfl,rfl,hz,he,q⟩:=h
 obtain⟨t,rfl⟩:=rx
 obtain⟨t',rfl⟩:=ry
 obtain⟨j,h1,h2,h3,h4,h5⟩:=zt he
 have hl:z.cps.toList.length=z.length:=by simp[Str.length]
 rw[hl] at h1 h4 h5
 have hn:=qP
 exact tail_any (typeIs_str s z t) slot_str_getitem.lookup (getItem_str (c:=c) (by
  have e1:decide (i < -(2 ^ 63:Int))=false:=WK (by omega)
  have e2:decide (i ≥ 2 ^ 63)=false:=WK (by omega)
  rw[e1,e2,Bool.or_false]) (by rw[h1];simpa using h2) ⟨.str ⟨#[c]⟩,H,I.tok _,⟨_,rfl⟩,q⟩) hs
theorem Mx (ah:List Value) (n j:Nat) (u:Value):Obj.mapSeq (·.setIfInBounds j u) { cls := .type "list",data := .seq ah.toArray n }={ cls := .type "list",data := .seq (ah.set j u).toArray n }:=by
 simp[Obj.mapSeq]
theorem Inv.lst {pins:List (Addr × Obj)} {σ : St} {H:Hp} {s:Shared} {p:Addr} {xs:List V} (I:Inv X pins σ H s) (h:H p=some (.lst xs)) :
  ∃ (ah:List Value) (n:Nat),Vals xs ah/\s.heap.get? p=some { cls := .type "list",data := .seq ah.toArray n }/\xs.length <= sizeLine:=by
 obtain⟨z,ah,n,r,e⟩:=I.aM p _ h
 exact⟨ah,n,r,e,z⟩
theorem Inv.oZ {pins:List (Addr × Obj)} {σ : St} {H:Hp} {s:Shared} {p:Addr} {xs ys:List V} {ah its':List Value} {n n':Nat} {f:Obj->Obj} (I:Inv X pins σ H s) (h:H p=some (.lst xs))
  (ho:s.heap.get? p=some { cls := .type "list",data := .seq ah.toArray n }) (hf:f { cls := .type "list",data := .seq ah.toArray n }={ cls := .type "list",data := .seq its'.toArray n' }) (r:Vals ys its') (hz:ys.length <= sizeLine) (t:Nat) :
  Inv X pins σ (upd H p (.lst ys)) { s with heap:=s.heap.update p f,toks:=t }:=by
 have e:(s.heap.update p f).get? p=some { cls := .type "list",data := .seq its'.toArray n' }:=by
  rw[Xk f ho (by rw[hf]<;>rfl),hf]
 refine I.write (x:=p) (e:=p) (by rw[h];trivial) (.inl rfl) (fun b u hb q=>(XE _ _ (Ys hb)).trans q) ⟨_,e⟩ ?_
 exact⟨hz,its',n',r,e⟩
noncomputable def EN:V->V->V->Hp->(Hp->Prop)->Prop:=fun o i v H Q=>∃ p xs k j,o = .ref p/\i = .int k/\H p=some (.lst xs)/\jF xs.length k=some j/\Q (upd H p (.lst (xs.set j v)))
theorem set_list:oK X EN:=by
 intro pins s σ H o i v ov iv u Q I ro ri rv h
 obtain⟨p,xs,k,j,rfl,rfl,hp,hj,q⟩:=h
 cases ro
 obtain⟨t,rfl⟩:=ri
 obtain⟨ah,n,r,ho,hz⟩:=I.lst hp
 obtain⟨h1,h2,h3,h4⟩:=EL hj
 have hl:=r.length
 have hn:=qP
 have I':Inv X pins σ (upd H p (.lst (xs.set j v))) { s with heap:=s.heap.update p (Obj.mapSeq (·.setIfInBounds j u)) } :=
  I.oZ hp ho (Mx ah n j u) (r.set rv j) (by rw[Yn];exact hz) s.toks
 by_cases h0:0 <= k
 ·have hk:k.toNat=j:=by
   rw[seqIndex_of h0 h4] at h1
   exact WY h1
  exact PySem.W.ki_setAt ho h0 (by omega) (by rw[zJ,<-hl];exact h4) (by rw[hk];exact⟨_,I',q⟩)
 ·have hk:(k + (ah.toArray.size:Int)).toNat=j:=by
   rw[seqIndex_neg (by omega) h3] at h1
   rw[zJ,<-hl]
   exact WY h1
  exact PySem.W.ki_setBack ho (by omega) (by rw[zJ,<-hl];exact h3) (by omega) (by rw[hk];exact⟨_,I',q⟩)
theorem Mz (lo hi:Option Int) (n:Nat):(sliceBounds lo hi none n).1=((HT.aY n 0 lo:Nat):Int)/\(sliceBounds lo hi none n).2.1=((HT.aY n n hi:Nat):Int)/\(sliceBounds lo hi none n).2.2=1:=by
 refine⟨?_,?_,rfl⟩
 ·cases lo with
  | none=>simp[sliceBounds,HT.aY]
  | some i =>
   simp only[sliceBounds,HT.aY,ZM,show (1:Int) > 0 by decide,YL]
   by_cases h:i < 0
   ·simp only[h,YL]<;>omega
   ·simp only[h,Xx]<;>omega
 ·cases hi with
  | none=>simp[sliceBounds,HT.aY]
  | some i =>
   simp only[sliceBounds,HT.aY,ZM,show (1:Int) > 0 by decide,YL]
   by_cases h:i < 0
   ·simp only[h,YL]<;>omega
   ·simp only[h,Xx]<;>omega
theorem MA (ah:List Value) (lo hi:Option Int):slicePick ah.toArray lo hi none=((ah.drop (HT.aY ah.length 0 lo)).take (HT.aY ah.length ah.length hi - HT.aY ah.length 0 lo)).toArray:=by
 obtain⟨h1,h2,h3⟩:=Mz lo hi ah.toArray.size
 unfold slicePick
 rw[h1,h2,h3]
 simp only[sliceRange_one,pick_run,zJ]<;>rfl
noncomputable def zz (K:PySem.W.Frag):V->Option Int->Option Int->Hp->VK->Prop:=fun x lo hi H Q=>∃ a xs,x = .ref a/\bh K H a xs/\∀ p,H p=none->Q (.ref p) (upd H p (.lst (dj xs lo hi)))
theorem gZ:l5 X (zz X.K):=by
 intro pins s σ H x v vl vu lo hi sl Q I rx hs pl pu h
 obtain⟨a,xs,rfl,hx,q⟩:=h
 cases rx
 obtain⟨ah,r,ht,hz⟩:=I.list hx
 have hlen:=r.length
 refine⟨"list",_,slot_list_getitem.lookup,ht.isList.typeIs,?_⟩
 refine wpAny_getItem_list_slice ht.isList hs pl pu .none (by simp) ?_ (by rw[zJ]<;>omega)
 rw[MA,<-hlen]
 refine⟨.ref s.heap.objs.size,_,I.laid (t':=s.toks) (o := .lst (dj xs lo hi)) (fun b ob q=>sW _ q) (qU _) ?_,rfl,q _ (I.aM.fresh (qU _))⟩
 exact⟨XO (EK xs lo hi) hz,_,0,(r.drop (HT.aY xs.length 0 lo)).take (HT.aY xs.length xs.length hi - HT.aY xs.length 0 lo),MM _ rfl⟩
theorem EO:fY X (.builtin "len") (fun xs H Q=>∃ p ys,xs=[.ref p]/\(bh X.K H p ys\/bI X.K H p ys)/\Q (.int ys.length) H):=by
 intro pins s σ H xs us Q I r h
 obtain⟨p,ys,rfl,hq,q⟩:=h
 obtain⟨u,rfl,rx⟩:=vals1 r
 cases rx
 have hn:=qP
 rcases hq with hq | hq
 ·obtain⟨ah,r',pl,hz⟩:=I.list hq
  have hlen:=r'.length
  exact Calls.call_len_list pl.isList (by simp only[zJ]<;>omega) ⟨.int ys.length,H,I.tok _,⟨s.toks + 1,by rw[zJ,hlen]⟩,q⟩
 ·obtain⟨ah,r',pl,hz⟩:=I.tuple hq
  have hlen:=r'.length
  exact len_tuple pl (by simp only[zJ]<;>omega) ⟨.int ys.length,H,I.tok _,⟨s.toks + 1,by rw[zJ,hlen]⟩,q⟩
theorem MB:fY X (.builtin "len") (fun xs H Q=>∃ z,xs=[.str z]/\z.length <= sizeLine/\Q (.int z.length) H):=by
 intro pins s σ H xs us Q I r h
 obtain⟨z,rfl,hz,q⟩:=h
 obtain⟨u,rfl,t,rfl⟩:=vals1 r
 have hn:=qP
 exact len_str (by omega) ⟨.int z.length,H,I.tok _,⟨_,rfl⟩,q⟩
theorem zA:fY X (.type "list") (fun xs H Q=>∃ p ys,xs=[.ref p]/\(bh X.K H p ys\/bI X.K H p ys)/\∀ l,H l=none->Q (.ref l) (upd H l (.lst ys))):=by
 intro pins s σ H xs us Q I r h
 obtain⟨p,ys,rfl,hq,q⟩:=h
 obtain⟨u,rfl,rx⟩:=vals1 r
 cases rx
 have fin:∀ (ah:List Value),Vals ys ah->ys.length <= sizeLine->∀ (h':Heap) (c':Nat),(∀ b o',s.heap.get? b=some o'->h'.get? b=some o') →
   h'.get? s.heap.objs.size=some { cls := .type "list",dict:=none,data := .seq ah.toArray c',slots := #[] }->EP X pins σ Q (.ref s.heap.objs.size) { s with heap:=h' }:=fun ah r' hz h' c' kp e =>
  ⟨.ref s.heap.objs.size,_,I.laid (t':=s.toks) kp (qU _) (show aI X.prog X.w _ h' _ (.lst ys) from ⟨hz,ah,c',r',e⟩),rfl,q _ (I.aM.fresh (qU _))⟩
 rcases hq with hq | hq
 ·obtain⟨ah,r',pl,hz⟩:=I.list hq
  have hlen:=r'.length
  obtain⟨o,ho,hc,n,hd⟩:=pl.isList
  exact call_list_seq p (.inl rfl) ho hc hd (fun h' c' kp e=>fin ah r' hz h' c' kp e) (by simp only[zJ]<;>omega)
 ·obtain⟨ah,r',pl,hz⟩:=I.tuple hq
  have hlen:=r'.length
  obtain⟨o,ho,hc,n,hd⟩:=pl
  exact call_list_seq p (.inr rfl) ho hc hd (fun h' c' kp e=>fin ah r' hz h' c' kp e) (by simp only[zJ]<;>omega)
theorem ER:fY X (.type "tuple") (fun xs H Q=>∃ p ys,xs=[.ref p]/\((bh X.K H p ys/\∀ l,H l=none->Q (.ref l) (upd H l (.tup ys)))\/(bI X.K H p ys/\Q (.ref p) H))):=by
 intro pins s σ H xs us Q I r h
 obtain⟨p,ys,rfl,h⟩:=h
 obtain⟨u,rfl,rx⟩:=vals1 r
 cases rx
 rcases h with⟨hq,q⟩ | ⟨hq,q⟩
 ·obtain⟨ah,r',pl,hz⟩:=I.list hq
  have hlen:=r'.length
  refine call_tuple_list pl.isList (fun h' kp => ?_) (by simp only[zJ]<;>omega)
  have I1:Inv X pins σ H { s with heap:=h' }:=I.kept (t':=s.toks) kp
  have I2:Inv X pins σ (upd H h'.objs.size (.tup ys)) { s with heap:=h'.push { cls := .type "tuple",data := .seq ah.toArray } } :=
   I1.laid (t':=s.toks) (fun b o e=>sW _ e) (qU _) (show aI X.prog X.w _ _ _ (.tup ys) from ⟨hz,ah,r',IsTup.new _ _⟩)
  exact⟨.ref h'.objs.size,_,I2,rfl,q _ (I1.aM.fresh (qU _))⟩
 ·obtain⟨ah,r',pl,hz⟩:=I.tuple hq
  exact call_tuple_same pl ⟨.ref p,H,I,rfl,q⟩
noncomputable def zB (K:PySem.W.Frag) (T:String) (x:V) (H:Hp):Prop:=match x with
 | .str _=>T = "str"
 | .int _=>T = "int"
 | .ref p=>(T = "list" /\ ∃ xs,bh K H p xs)\/(T = "tuple" /\ ∃ o,K.lookup p=some o/\o.cls = .type "tuple" /\ o.dict=none) ∨
   (T = "dict" /\ ((∃ kvs,H p=some (.dK kvs))\/∃ kvs,H p=some (.dT kvs)))\/(T = "set" /\ ∃ S n,H p=some (.set S n))
 | _=>False
theorem ES {pins:List (Addr × Obj)} {σ : St} {H:Hp} {s:Shared} {T:String} {x:V} {v:Value} (I:Inv X pins σ H s) (r:RelV x v) (ty:zB X.K T x H) :
  s.TypeIs v T/\∀ a,v = .ref a->∃ ob,s.heap.get? a=some ob/\ob.dict=none:=by
 cases x with
 | str z =>
  obtain⟨t,rfl⟩:=r
  cases (show T = "str" from ty)
  exact⟨typeIs_str s z t,fun _ e=>nomatch e⟩
 | int i =>
  obtain⟨t,rfl⟩:=r
  cases (show T = "int" from ty)
  exact⟨typeIs_int s i t,fun _ e=>nomatch e⟩
 | ref p =>
  cases r
  rcases ty with⟨rfl,xs,hq⟩ | ⟨rfl,o,hk,hc,hd⟩ | ⟨rfl,hk⟩ | ⟨rfl,S,n,hk⟩
  ·obtain⟨ah,_,pl,_⟩:=I.list hq
   refine⟨pl.isList.typeIs,fun a e => ?_⟩
   cases e
   obtain⟨o,n,e,c,hd,_⟩:=pl
   exact⟨o,e,hd⟩
  ·refine⟨⟨o,I.ic p o hk,hc⟩,fun a e => ?_⟩
   cases e
   exact⟨o,I.ic _ o hk,hd⟩
  ·have z:∃ o,s.heap.get? p=some o/\o.ExactDict:=by
    rcases hk with⟨kvs,hk⟩ | ⟨kvs,hk⟩
    ·obtain⟨_,_,_,_,o,_,_,e,ex,_⟩:=I.aM p _ hk
     exact⟨o,e,ex⟩
    ·obtain⟨_,_,_,_,o,_,_,e,ex,_⟩:=I.aM p _ hk
     exact⟨o,e,ex⟩
   obtain⟨o,e,ex⟩:=z
   refine⟨⟨o,e,ex.1⟩,fun a e2 => ?_⟩
   cases e2
   exact⟨o,e,ex.2.1⟩
  ·obtain⟨o,_,_,_,e,ex,_⟩:=I.aM p _ hk
   refine⟨⟨o,e,ex.1⟩,fun a e2 => ?_⟩
   cases e2
   exact⟨o,e,ex.2.1⟩
 | _=>exact False.elim ty
noncomputable def o5 (K:PySem.W.Frag) (T:String) (r:V->List V->Hp->VK->Prop) (to:TE):TE:=fun σ H Q=>to σ H fun x H1=>zB K T x H1/\r x [] H1 Q
noncomputable def o6 (K:PySem.W.Frag) (T:String) (r:V->List V->Hp->VK->Prop) (to:TE) (t:TA):TE:=fun σ H Q=>to σ H fun x H1=>zB K T x H1/\t σ H1 fun xs H2=>r x xs H2 Q
variable {o e:Expr} {es:List Expr} {to:TE} {t:TA} {name:Str} {apos cI:Pos} {T id:String} {r:V->List V->Hp->VK->Prop}
theorem MC (pa:PlainAttrs T) (slot:Slot T name id) (o7:typeOf (.builtin id)=pure (.type "method_descriptor")) (hm:sU X id r) (ho:PE X o to)
  (fL:attributeBase o name X.env (eval o X.env)=eval o X.env:=by rfl) (fM:(apos.endLine == cI.line)=true:=by rfl):PE X (.Call (.Attribute o name apos) [] [] cI) (o5 X.K T r to):=by
 intro pins s σ H Q I h
 refine wpAny_Call_method0_late fL fM (a0 (ho pins s σ H _ I h) fun v s1 ⟨x,H1,I1,r1,ty,q1⟩ => ?_)
 obtain⟨h1,h2⟩:=ES I1 r1 ty
 exact⟨T,id,pa,slot,o7,h1,h2,Calls.callWith_builtin rfl (PySem.evalArgs_none (hm pins s1 σ H1 x [] v [] Q I1 r1 .nil q1))⟩
theorem MD (pa:PlainAttrs T) (slot:Slot T name id) (o7:typeOf (.builtin id)=pure (.type "method_descriptor")) (hm:sU X id r) (ho:PE X o to) (ha:PA X (e :: es) t)
  (fL:attributeBase o name X.env (eval o X.env)=eval o X.env:=by rfl)
  (o8:((backTo cI (starEach (e :: es) X.env)).all (fun x => !x.1) && (backToKw cI (keywordEach [] X.env)).all (fun x=>x.1.isSome)
   && decide ((e :: es).length + ([]:List Keyword).length + (if ([]:List Keyword).isEmpty then 0 else 1) < 30))=true:=by rfl)
  (fM:(apos.endLine == cI.line)=true:=by rfl) (hs:starEach (e :: es) X.env=(false,eval e X.env) :: starEach es X.env:=by rfl) (hplain:(backTo cI (starEach es X.env)).any (·.1)=false:=by rfl) :
  PE X (.Call (.Attribute o name apos) (e :: es) [] cI) (o6 X.K T r to t):=by
 intro pins s σ H Q I h
 refine wpAny_Call_method_late fL o8 fM rfl (a0 (ho pins s σ H _ I h) fun v s1 ⟨x,H1,I1,r1,ty,q1⟩ => ?_)
 obtain⟨h1,h2⟩:=ES I1 r1 ty
 refine⟨T,id,pa,slot,o7,h1,h2,?_⟩
 have hA:=ha cI pins s1 σ H1 _ I1 q1
 rw[hs] at hA ⊢
 refine Calls.callWith_builtin (by show (false || (backTo cI (starEach es X.env)).any (·.1))=false;rw[hplain]<;>rfl) (Calls.evalArgs_plain ?_)
 exact a0 hA fun us s2 h0_ => el5 h0_ fun vs H2 I2 r2 q2 =>hm pins s2 σ H2 x vs v us Q I2 r1 r2 q2
end
noncomputable def sX (X:Cx) (id:String) (r:V->List V->Hp->VK->Prop):Prop :=
 ∀ (pins:List (Addr × Obj)) (s:Shared) (σ : St) (H:Hp) (x:V) (xs:List V) (v:Value) (us:List Value) (Q:VK),Inv X pins σ H s->RelV x v->Vals xs us->r x xs H Q →
  wpAny (model X.prog X.w) X.A (call (.builtin id) (v :: us)) (EP X pins σ Q) X.xe s
theorem Vals.one:∀ {x:V} {us:List Value},Vals [x] us->∃ u,us=[u]/\RelV x u:=by
 intro x us h
 cases h with
 | cons r h=>cases h;exact⟨_,rfl,r⟩
theorem Vals.two:∀ {x y:V} {us:List Value},Vals [x,y] us->∃ u v,us=[u,v]/\RelV x u/\RelV y v:=by
 intro x y us h
 cases h with
 | cons r h =>
  obtain⟨v,rfl,q⟩:=Vals.one h
  exact⟨_,_,rfl,r,q⟩
theorem Vals.eraseIdx:∀ {xs:List V} {us:List Value} (i:Nat),Vals xs us->Vals (xs.eraseIdx i) (us.eraseIdx i)
 | _,_,_,.nil => .nil
 | _,_,0,.cons _ t=>t
 | _,_,i + 1,.cons r t => .cons r (Vals.eraseIdx i t)
theorem Vals.rep {xs:List V} {us:List Value} (h:Vals xs us):∀ k:Nat,Vals (List.replicate k xs).flatten (List.replicate k us).flatten
 | 0 => .nil
 | k + 1=>by
  rw[XH,XH,Xw,Xw]
  exact Vals.append h (Vals.rep h k)
theorem ET {α : Type}:∀ (l:List α) (i:Nat),(l.eraseIdx i).length <= l.length
 | [],_=>qU _
 | _ :: _,0=>q0h _
 | _ :: r,i + 1=>Nat.succ_le_succ (ET r i)
theorem foldl_rep (ah:List Value):∀ (k:Nat) (acc:List Value),
  List.foldl (fun x1 x2=>x1 ++ x2) acc.toArray (List.replicate k ah.toArray)=(acc ++ (List.replicate k ah).flatten).toArray
 | 0,acc=>by simp
 | k + 1,acc=>by
  have e:acc.toArray ++ ah.toArray=(acc ++ ah).toArray:=by simp
  have e2:(acc ++ ah) ++ (List.replicate k ah).flatten=acc ++ (List.replicate (k + 1) ah).flatten:=by
   rw[XH,Xw,XJ]
  rw[<-e2,<-foldl_rep ah k (acc ++ ah),<-e,XH,ZR]
section
variable {X:Cx} {pins:List (Addr × Obj)} {σ : St} {H:Hp} {s:Shared} {l b:Addr} {xs ys zs:List V}
theorem Inv.o9 {ah its':List Value} {n:Nat} {f:Array Value->Array Value} {t':Nat} (I:Inv X pins σ H s) (hH:H l=some (.lst xs))
  (e:s.heap.get? l=some { cls := .type "list",data := .seq ah.toArray n }) (hf:f ah.toArray=its'.toArray) (hv:Vals ys its') (hz:ys.length <= sizeLine) :
  Inv X pins σ (upd H l (.lst ys)) { s with heap:=s.heap.update l (Obj.mapSeq f),toks:=t' }:=by
 have q:=PySem.IsL.update e f
 rw[hf] at q
 refine I.write (x:=l) (e:=l) (by rw[hH];exact trivial) (.inl rfl) (fun b' u hb hu=>(XE s.heap (Obj.mapSeq f) (Ys hb)).trans hu) ⟨_,q⟩ ?_
 exact⟨hz,its',_,hv,q⟩
theorem Inv.cm {ah:List Value} {t':Nat} (I:Inv X pins σ H s) (hv:Vals ys ah) (hz:ys.length <= sizeLine) :
  Inv X pins σ (upd H s.heap.objs.size (.lst ys)) { s with heap:=s.heap.push { cls := .type "list",data := .seq ah.toArray },toks:=t' } :=
 I.laid (fun _ _ q=>sW _ q) (qU _) ⟨hz,ah,0,hv,MM _ rfl⟩
theorem Inv.fresh (I:Inv X pins σ H s):H s.heap.objs.size=none:=I.aM.fresh (qU _)
theorem Inv.iZ (I:Inv X pins σ H s) (hH:H l=some (.lst xs)):xs.length <= sizeLine/\∃ (ah:List Value) (n:Nat),Vals xs ah/\xs.length=ah.length/\s.heap.get? l=some { cls := .type "list",data := .seq ah.toArray n }:=by
 obtain⟨z,ah,n,r,e⟩:=I.aM l _ hH
 exact⟨z,ah,n,r,r.length,e⟩
theorem EU {n:Nat} (h:n <= sizeLine):Builtin.List.listTooLong n=false:=by
 unfold Builtin.List.listTooLong
 exact WK (by omega)
end
section
variable {X:Cx}
noncomputable def zC:V->List V->Hp->VK->Prop:=fun x vs H Q=>∃ l xs y,x = .ref l/\vs=[y]/\H l=some (.lst xs)/\xs.length < sizeLine/\Q .non (upd H l (.lst (xs ++ [y])))
theorem sY:sX X "list.append" zC:=by
 intro pins s σ H x vs v us Q I rx rv h
 obtain⟨l,xs,y,rfl,rfl,hH,hz,q⟩:=h
 cases rx
 obtain⟨u,rfl,ru⟩:=rv.one
 obtain⟨z,ah,n,r,hl,e⟩:=I.iZ hH
 refine q0A F.slot_list_append ⟨_,e,rfl⟩ F.entry_list_append (F.args_list_append_2 _ _) (PySem.list_append l ah.toArray n u (by rw[zJ];omega)) ⟨e,?_⟩
 refine⟨.non,_,I.o9 (its':=ah ++ [u]) hH e (by simp) (r.append (.cons ru .nil)) ?_,rfl,q⟩
 rw[EZ,WM]
 omega
noncomputable def EV:V->List V->Hp->VK->Prop:=fun x vs H Q=>∃ l b xs zs,x = .ref l/\vs=[.ref b]/\H l=some (.lst xs)/\H b=some (.lst zs)/\xs.length + zs.length <= sizeLine/\Q .non (upd H l (.lst (xs ++ zs)))
theorem ME:sX X "list.extend" EV:=by
 intro pins s σ H x vs v us Q I rx rv h
 obtain⟨l,b,xs,zs,rfl,rfl,hH,hB,hz,q⟩:=h
 cases rx
 obtain⟨u,rfl,ru⟩:=rv.one
 cases ru
 obtain⟨z,ah,n,r,hl,e⟩:=I.iZ hH
 obtain⟨z2,bc,n2,r2,sZ,e2⟩:=I.iZ hB
 have hsz:ah.toArray.size + bc.toArray.size <= sizeLine:=by rw[zJ,zJ];omega
 have kr:¬ (!ah.toArray.isEmpty && Builtin.List.listTooLong (ah.toArray.size + bc.toArray.size))=true:=by
  rw[EU hsz,Bool.and_false]
  exact WH
 refine q0A F.slot_list_extend ⟨_,e,rfl⟩ F.entry_list_extend (F.args_list_extend_2 _ _)
  (AutoSeq1.list_extend_list_list_0 l ah.toArray n b bc.toArray n2 kr (by rw[zJ];omega) (by omega)) ⟨e,e2,?_⟩
 refine⟨.non,_,I.o9 (its':=ah ++ bc) hH e (by simp) (r.append r2) ?_,rfl,q⟩
 rw[EZ]
 omega
noncomputable def EW:V->List V->Hp->VK->Prop:=fun x vs H Q=>∃ l xs i k y,x = .ref l/\vs=[.int i]/\H l=some (.lst xs) /\ -(2 ^ 63) <= i/\i < 2 ^ 63/\seqIndex? i xs.length=some k/\xs[k]? = some y/\Q y (upd H l (.lst (xs.eraseIdx k)))
theorem MF:sX X "list.pop" EW:=by
 intro pins s σ H x vs v us Q I rx rv h
 obtain⟨l,xs,i,k,y,rfl,rfl,hH,h1,h2,hk,hy,q⟩:=h
 cases rx
 obtain⟨u,rfl,ru⟩:=rv.one
 obtain⟨t,rfl⟩:=ru
 obtain⟨z,ah,n,r,hl,e⟩:=I.iZ hH
 obtain⟨w,hw,sV⟩:=r.get hy
 refine q0A F.slot_list_pop ⟨_,e,rfl⟩ F.entry_list_pop (F.args_list_pop_2 _ _)
  (MeetsSeq.list_pop_at l ah.toArray n i t k w (fitsIndex_both h1 h2) (by rw[zJ,<-hl];exact hk) (by rw[<-WJ];exact hw) (by rw[zJ];omega)) ⟨e,?_⟩
 refine⟨y,_,I.o9 (its':=ah.eraseIdx k) hH e ?_ (r.eraseIdx k) ?_,sV,q⟩
 ·show ah.toArray.eraseIdxIfInBounds k=(ah.eraseIdx k).toArray
  rw[List.eraseIdxIfInBounds_toArray]
 ·have:=ET xs k
  omega
noncomputable def zD:R2:=fun x y H Q=>∃ l b xs zs,x = .ref l/\y = .ref b/\H l=some (.lst xs)/\H b=some (.lst zs)/\xs.length + zs.length <= sizeLine/\∀ p,H p=none->Q (.ref p) (upd H p (.lst (xs ++ zs)))
theorem EX:dO X (binaryOp .Add) zD:=by
 intro pins s σ H x y v u Q I rx ry h
 obtain⟨l,b,xs,zs,rfl,rfl,hH,hB,hz,q⟩:=h
 cases rx
 cases ry
 obtain⟨z,ah,n,r,hl,e⟩:=I.iZ hH
 obtain⟨z2,bc,n2,r2,sZ,e2⟩:=I.iZ hB
 refine PySem.P.add_list e e2 ?_ (by rw[zJ,zJ];omega)
 have ea:ah.toArray ++ bc.toArray=(ah ++ bc).toArray:=by simp
 rw[ea]
 exact⟨.ref _,_,I.cm (t':=s.toks) (r.append r2) (by rw[EZ];omega),rfl,q _ I.fresh⟩
noncomputable def zE:R2:=fun x y H Q=>∃ l k xs,x = .ref l/\y = .int k/\H l=some (.lst xs) /\ -(2 ^ 63) <= k/\k < 2 ^ 63/\xs.length * k.toNat <= sizeLine ∧
 ∀ p,H p=none->Q (.ref p) (upd H p (.lst (List.replicate k.toNat xs).flatten))
theorem len_rep {α : Type} (xs:List α) (k:Nat):(List.replicate k xs).flatten.length=k * xs.length:=by
 induction k with
 | zero=>simp
 | succ k ih=>rw[XH,Xw,EZ,ih,Nat.succ_mul,Nat.add_comm]
theorem MG:dO X (binaryOp .Mult) zE:=by
 intro pins s σ H x y v u Q I rx ry h
 obtain⟨l,k,xs,rfl,rfl,hH,h1,h2,hz,q⟩:=h
 cases rx
 obtain⟨t,rfl⟩:=ry
 obtain⟨z,ah,n,r,hl,e⟩:=I.iZ hH
 have hlen:ah.toArray.size * k.toNat <= sizeLine:=by rw[zJ,<-hl];exact hz
 have zF:¬ ah.toArray.size * k.toNat > (2 ^ 63 - 1) / 8:=by
  have:(sizeLine:Nat) <= (2 ^ 63 - 1) / 8:=by decide
  omega
 have zG:¬ (!Builtin.List.listFitsIndex k)=true:=by
  rw[fitsIndex_both h1 h2]
  exact WH
 have kr:¬ Builtin.List.listTooLong (ah.toArray.size * k.toNat)=true:=by
  rw[EU hlen]
  exact WH
 have zH:List.foldl (fun x1 x2=>x1 ++ x2) #[] (List.replicate (if ah.toArray.isEmpty=true then 0 else k.toNat) ah.toArray)=(List.replicate k.toNat ah).flatten.toArray:=by
  have f0:∀ m:Nat,List.foldl (fun x1 x2=>x1 ++ x2) #[] (List.replicate m ah.toArray)=(List.replicate m ah).flatten.toArray:=fun m=>by
   have:=foldl_rep ah m []
   rw[q0M] at this
   exact this
  rw[f0]
  cases ah with
  | nil=>simp
  | cons a r'=>rw[V0 (by simp)]
 refine wpAny_binaryOp_repeat_ref (T := "list") (U := "int") (by decide) ⟨_,e,rfl⟩ (fun s'=>typeIs_int s' k t) noFill_list_mul F.fills_int_mul F.slot_int_rmul repeat_list F.slot_int_index.lookup
  (q0A F.slot_int_rmul (typeIs_int s k t) F.entry_int_rmul (F.args_int_rmul_2 _ _) (int___rmul___int_list k t l ah.toArray n)
   ⟨e,rfl,⟨_,e,rfl⟩,q0A F.slot_list_mul ⟨_,e,rfl⟩ F.entry_list_mul (F.args_list_mul_2 _ _) (AutoListH.list___mul___list_int_3 l ah.toArray n k t zG zF kr) ⟨e,?_⟩⟩)
 rw[zH]
 exact⟨.ref _,_,I.cm (t':=s.toks) (r.rep k.toNat) (by rw[len_rep,Nat.mul_comm];exact hz),rfl,q _ I.fresh⟩
end
section
variable {prog:Program} {w:World} {A:Around} {E:Value->Shared->Prop} {s:Shared}
end
section
variable {X:Cx}
end
end L2
namespace Att
open PySem PySem.W PySem.Calls PyProof.Rows
theorem fw {P:Params} {h:Heap}:∀ (ns:List Int) (vs:List Value),WellAll P h vs (ns.map WData.int)->IntsAre vs ns:=by
 intro ns
 induction ns with
 | nil =>
  intro vs w
  rw[YU] at w
  cases w
  exact .nil
 | cons n ns ih =>
  intro vs w
  rw[WW] at w
  cases w with
  | cons a b =>
   cases a
   exact .cons _ _ (ih _ b)
theorem jG {l:OpenLaw} {n:Nat} (hn:l.most=some n) {P:Params} {h:Heap} {args:List WData} {vals:List Value}
  (l6:l.row.toRowW.claim.pre args=true) (zI:WellAll P h vals args) :
  ∃ a vs ns,vals=[Value.ref a]/\args=[WData.list (ns.map WData.int)]/\h.get? a=some { cls := .type "list",data := .seq vs.toArray }/\IntsAre vs ns/\ns.length <= n:=by
 have MH:WShape.hasAll [] args [.list .int]=true:=(pre_splitW l6).1
 have hc:l.pre.holds [] { args:=args }=true:=(pre_splitW l6).2
 obtain⟨d,r,rfl,h1,h2⟩:=hasAllW_cons MH
 obtain rfl:=hasAllW_nil h2
 obtain⟨xs,rfl,h3⟩:=hasW_list h1
 obtain⟨ns,rfl⟩:=items_int h3
 have hlen:ns.length <= n:=by
  unfold OpenLaw.pre at hc
  have h4:(WTm.not (.lt (.lit (.int (n:Int))) (.len (.arg 0)))).holds [] { args:=[.list (ns.map .int)] }=true:=by
   have h4:=(holds_andW hc).1
   rw[hn] at h4
   exact h4
  have h5:=condW_of h4 (w_not (w_lt w_lit (w_len_list (w_arg rfl))))
  rw[pd] at h5
  refine ZI fun q => ?_
  have q':(n:Int) < ((ns.length:Nat):Int):=by omega
  first
   | (rw[Wz q'] at h5;exact absurd h5 (by decide))
   | (simp at h5;omega)
 cases zI with
 | cons w1 w2 =>
  cases w2
  cases w1 with
  | list ho gc=>exact⟨_,_,ns,rfl,rfl,ho,fw ns _ gc,hlen⟩
theorem jH (l:OpenLaw) (args:List WData):l.row.toRowW.claim.post args (.bool true) args=true :=
 postW_of (r:=l.row.toRowW) (X:=(true == true))
  (show WShape.has [] (.bool true) .bool=true by first | rfl | decide | simp[WShape.has,WShape.arms,WShape.armsAll])
  (show (WTm.eq .res (.lit (.bool true))).value [] { args:=args,res:=some (.bool true),after:=args }=some (.bool (true == true)) from w_eq_bool (w_res rfl) w_lit) rfl
theorem ip {l:OpenLaw} {n:Nat} {q:Program} {loose:List Str} {XP:(Str->Option Value)->Heap->Prop} {YP:World->Heap->Prop} {d:DefRec}
  (hn:l.most=some n) (s_:d.params.defaults=[])
  (call:∀ (w:World) (s₀ s₁ : Shared) (mg mb:Str->Option Value) (fa:Addr) (o:Obj) (pm cd doc:Value) (a:Addr) (vs:List Value) (ns:List Int),
   Ground q loose [] XP w s₀ mg mb s₁.heap->YP w s₁.heap →
   s₁.heap.get? fa=some o->o.data = .func (docDef d.name d.params d.body d.scope pm cd doc)->s₁.heap.CodeRec cd d.name->mg d.name=some (.ref fa) →
   s₁.heap.get? a=some { cls := .type "list",data := .seq vs.toArray }->IntsAre vs ns->ns.length <= n->s₁.gens = #[] →
   codeAny (model l.prog w) callerA (.call (.ref fa) ⟨[.ref a],[]⟩) (fun r s'=>r = .ok (.ret (.bool true))/\OldK s₁.heap s'.heap/\s'.os=s₁.os/\AllBare s'.gens) s₁) :
  WalkO q loose XP YP l.row.toRowW d [] (fun f vs=>PySem.call f vs):=by
 intro w s₀ s₁ mg mb G Y fa o pm cd doc dV kV ho hd fJ hD l7 hg args vals as l6 MI VX zI VY
 obtain rfl:dV = .none:=Dflts.none hD s_
 obtain rfl:kV = .none:=Dflts.noKw hD
 obtain⟨a,vs,ns,rfl,rfl,o_,hints,hlen⟩:=jG hn l6 zI
 refine enter_call (Y7 (call w s₀ s₁ mg mb fa o pm cd doc a vs ns G Y ho (fd_plain hd) fJ l7 o_ hints hlen hg) fun r s' hq => ?_)
 obtain⟨rfl,h2,h3,h4⟩:=hq
 exact⟨.inl ⟨.bool true,.bool true,[],rfl,fun _=>rfl,.bool true,jH l _,fun _=>⟨List.Pairwise.nil,fun _ hm=>(nomatch hm)⟩⟩,h2,h3,h4⟩
section
variable {prog:Program} {w:World} {A:Around} {E:Value->Shared->Prop} {s:Shared} {K:Frag}
end
end Att
namespace L2
open PySem PySem.Spec PyProof.Rows
theorem EY:∀ {vs:List Value} {ns:List Int},IntsAre vs ns->Vals (ns.map V.int) vs
 | _,_,.nil => .nil
 | _,_,.cons n t h => .cons ⟨t,rfl⟩ (EY h)
noncomputable def nu (s:Stmt):Arguments:=match s with
 | .FunctionDef _ a _ _ _ _ _ _ _ _=>a
 | _=>{ posonlyargs:=[],args:=[],vararg:=none,kwonlyargs:=[],kw_defaults:=[],kwarg:=none,defaults:=[] }
noncomputable def jI (s:Stmt):List Stmt:=match s with
 | .FunctionDef _ _ b _ _ _ _ _ _ _=>b
 | _=>[]
noncomputable def bL (s:Stmt):Scope:=match s with
 | .FunctionDef _ _ _ _ _ _ sc _ _ _=>sc
 | _=>{ kind := .function,names:=[],isGenerator:=false,isCoroutine:=false }
noncomputable abbrev bS:jE:=fun _ _ _ _ _ _=>False
noncomputable abbrev E0:XK:=fun _ _ _=>False
theorem vY {X:Cx}:vT bS X E0:=fun _ _ _ _ _ _ _ h=>h.elim
structure cq (K:PySem.W.Frag) (x qual:Str) (st:Stmt) (f:Addr) (fd:FuncData):Prop where
 ex:∃ (oc:Value) (od:Option Addr) (kV doc pm:Value) (an:Option Addr) (a5 ct:Value) (l4:Array (Option Value)),
  fd=PySem.W.fnOf x qual (nu st) (jI st) (bL st) .none kV doc pm an a5 ct/\K.lookup f=some ⟨oc,od,.func fd,l4⟩/\PySem.W.codeIn K a5 qual=true
 kp:PySem.W.keepIn K (.ref f)=true
section
variable {P:Program} {w:World} {K:PySem.W.Frag} {mg:Str->Option Value} {base:Heap}
theorem cq.ok {x qual:Str} {st:Stmt} {f:Addr} {fd:FuncData} {N ps:List Str} {k:Nat} {sp:Sp} (F:cq K x qual st f fd) (S:di N ps (bL st)) (len:∀ vs H Q E,sp vs H Q E->vs.length=ps.length)
  (dY:∀ (a5:Value) (A:Around) (outer:List Env) (s:Shared) (H:Hp) (vs:List V) (Q:VK) (E:XK),a7 k (A.deeper (envOfC qual (bL st) s.heap.objs.size f a5))->sp vs H Q E →
   ∃ t,hV (gr bS P w K mg base N qual (bL st) f a5 A outer s H E).lT (jI st) t/\t { nx:=fun _ H'=>Q .non H',rt:=Q } (start N vs) H):aU P w K mg base bS (k + 1) f fd ps sp:=by
 obtain⟨oc,od,kV,doc,pm,an,a5,ct,l4,rfl,lk,fJ⟩:=F.ex
 refine ED lk fJ S len fun A outer s H vs Q E hr nh => ?_
 obtain⟨t,h,q⟩:=dY a5 A outer s H vs Q E hr nh
 exact⟨t,h.lT,q⟩
theorem cq.binds {x qual:Str} {st:Stmt} {f:Addr} {fd:FuncData} {ps:List Str} (F:cq K x qual st f fd)
  (h:∀ (kV doc pm:Value) (an:Option Addr) (a5 ct:Value) (us:List Value),us.length=ps.length->bindArgs (PySem.W.fnOf x qual (nu st) (jI st) (bL st) .none kV doc pm an a5 ct) ⟨us,[]⟩=pure (ps.zip us)):Binds K fd ps []:=by
 obtain⟨oc,od,kV,doc,pm,an,a5,ct,l4,rfl,lk,fJ⟩:=F.ex
 exact .all (h kV doc pm an a5 ct)
theorem MO {x qual:Str} {st:Stmt} {f:Addr} {oc:Value} {od an:Option Addr} {l4:Array (Option Value)} {kV doc pm a5 ct:Value} (l:K.lookup f=some ⟨oc,od,.func (PySem.W.fnOf x qual (nu st) (jI st) (bL st) .none kV doc pm an a5 ct),l4⟩)
  (c:PySem.W.codeIn K a5 qual=true) (k:PySem.W.keepIn K (.ref f)=true):cq K x qual st f (PySem.W.fnOf x qual (nu st) (jI st) (bL st) .none kV doc pm an a5 ct):=⟨⟨oc,od,kV,doc,pm,an,a5,ct,l4,rfl,l,c⟩,k⟩
end
theorem lj {n:Nat} (h:n <= 1000):n < sizeLine:=Zk h (by decide)
section
variable {X:Cx}
theorem pv (i:Nat) {x:Str} {pos:Pos} (hN:X.N[i]? = some x:=by rfl) (hv:oE X.env.scope x:=by first | exact Or.inl rfl | exact Or.inr (Or.inl rfl) | exact Or.inr (Or.inr rfl)) (hd:(x == ("__debug__" : Str))=false:=by decide)
  (fJ:(x == ("__classdict__" : Str))=false:=by decide):PE X (.Name x pos) (gm i):=Ee hN hv hd fJ
end
noncomputable def aA (H H':Hp):Prop:=∀ b o,H b=some o->H' b=some o
theorem aA.trans {H H1 H2:Hp} (a:aA H H1) (b:aA H1 H2):aA H H2:=fun c o h=>b c o (a c o h)
theorem aA.free {H H':Hp} (e:aA H H') {l:Addr} (h:H' l=Option.none):H l=Option.none:=by
 cases q:H l with
 | none=>rfl
 | some o =>
  rw[e l o q] at h
  cases h
theorem aA.seq {K:PySem.W.Frag} {H H':Hp} {a:Addr} {xs:List V} (e:aA H H') (h:bh K H a xs):bh K H' a xs:=by
 rcases h with (h | ⟨o,h⟩) | h
 ·exact .inl (.inl (e _ _ h))
 ·exact .inl (.inr ⟨o,e _ _ h⟩)
 ·exact .inr h
theorem MP {prog:Program} {w:World} {A:Around} {R:Result->Shared->Prop} {s:Shared} {elt target iter:Expr} {ifs:List Expr} {scope:Scope} {pos:Pos} {it acc:Value} {env:Env} (I:Nat->Shared->Prop)
  (turn:∀ n s,I n s->wpAny (model prog w) A (pyNext it) (fun r s₁ => match r with
   | none=>R (.ok .next) s₁
   | some v=>wpAny (model prog w) A (letOwnedTupleGo target it v) (fun _ s₂ => wpAny (model prog w) A (assign target env v) (fun _ s₃ =>
     wpAny (model prog w) A (forIn ifs true fun c r=>if r=true then do let ok <- isTrue c env (eval c env);pure (ForInStep.yield ok) else pure (ForInStep.yield r)) (fun ok s₄ =>
      if ok=true then wpAny (model prog w) A (eval elt env) (fun x s₅ =>
       wpAny (model prog w) A (call (.builtin "list.append") [acc,x]) (fun _ s₆ => ∃ m,m < n/\I m s₆) (fun _ _=>False) s₅) (fun _ _=>False) s₄
      else ∃ m,m < n/\I m s₄) (fun _ _=>False) s₃) (fun _ _=>False) s₂) (fun _ _=>False) s₁) (fun _ _=>False) s)
  (n:Nat) (h:I n s) :
  codeAny (model prog w) A (.compLoop (.ListComp elt [⟨target,iter,ifs,0⟩] scope pos) 0 it acc env) R s:=by
 refine codeAny_loop rfl I (fun n s hI => ?_) n h
 show wpAny _ A ((compTurn (.ListComp elt [⟨target,iter,ifs,0⟩] scope pos) 0 it acc env).onRaise (fun x=>do noteFrame x env;theTreesLotGoes x)) _ _ s
 refine wpAny_noted ?_
 rw[compTurn_list]
 refine l8 (Y1 (l8 (Yq (turn n s hI) (fun r s₁ h₁ => ?_) fun _ _ h'=>False.elim h')))
 cases r with
 | none=>exact vW h₁
 | some v =>
  refine l8 (Yq h₁ (fun _ s₂ h₂ => ?_) fun _ _ h'=>False.elim h')
  refine l8 (Yq h₂ (fun _ s₃ h₃ => l8 (Yq h₃ (fun ok s₄ h₄ => ?_) fun _ _ h'=>False.elim h')) fun _ _ h'=>False.elim h')
  cases ok with
  | false=>exact vW ⟨rfl,h₄⟩
  | true =>
   exact l8 (l8 (Yq h₄ (fun x s₄ h₄ => l8 (Yq h₄ (fun _ s₅ h₅ => vW (vW ⟨rfl,h₅⟩)) fun _ _ h'=>False.elim h')) fun _ _ h'=>False.elim h'))
theorem zK {env:Env}:∀ (names:List (Str × NameKind)) (acc:List (Str × Addr)),(∀ y∈names,y.2 = .free->∃ c,env.cells.lookup y.1=some c)->(∀ x c,acc.lookup x=some c->env.cells.lookup x=some c) →
  ∃ cl,(forIn names acc (fun (x:Str × NameKind) (cs:List (Str × Addr))=>if x.2 == NameKind.free then cellOf env x.1 >>= fun a=>pure (ForInStep.yield ((x.1,a) :: cs)) else pure (ForInStep.yield cs)):Sem (List (Str × Addr)))=pure cl ∧
   (∀ x c,cl.lookup x=some c->env.cells.lookup x=some c)/\(∀ y∈names,y.2 = .free->∃ c,cl.lookup y.1=some c)/\(∀ x c,acc.lookup x=some c->∃ c,cl.lookup x=some c)
 | [],acc,_,h2=>⟨acc,rfl,h2,fun _ hy=>absurd hy (by simp),fun x c e=>⟨c,e⟩⟩
 | (n,k) :: r,acc,h1,h2=>by
  rw[List.forIn_cons]
  by_cases hk:k = .free
  ·subst hk
   obtain⟨c,hc⟩:=h1 (n,.free) vX rfl
   have ie:env.cells.lookup n=some c:=hc
   have ec:cellOf env n=pure c:=by unfold cellOf;rw[ie]
   have gf:∀ x d,((n,c) :: acc).lookup x=some d->env.cells.lookup x=some d:=fun x d e=>by
    rw[WV] at e
    cases q:x == n with
    | true =>
     rw[q] at e
     cases e
     rw[X7 q];exact ie
    | false =>
     rw[q] at e
     exact h2 x d e
   obtain⟨cl,e,p1,p2,p3⟩:=zK r ((n,c) :: acc) (fun y hy=>h1 y (E6 _ hy)) gf
   refine⟨cl,?_,p1,fun y hy hf => ?_,fun x d e => ?_⟩
   ·dsimp only
    rw[V8 (by decide),ec]
    exact e
   ·rcases ML.mp hy with rfl | hy
    ·exact p3 n c (by simp)
    ·exact p2 y hy hf
   ·cases q:x == n with
    | true=>exact p3 x c (by rw[WV,q])
    | false=>exact p3 x d (by rw[WV,q];exact e)
  ·obtain⟨cl,e,p1,p2,p3⟩:=zK r acc (fun y hy=>h1 y (E6 _ hy)) h2
   refine⟨cl,?_,p1,fun y hy hf => ?_,p3⟩
   ·dsimp only
    rw[V0 (by simpa using hk)]
    exact e
   ·rcases ML.mp hy with rfl | hy
    ·exact absurd hf hk
    ·exact p2 y hy hf
theorem zL {scope:Scope} {env:Env} (h:∀ y∈scope.names,y.2 = .free->∃ c,env.cells.lookup y.1=some c) :
  ∃ cl,closureFor scope env=pure cl/\(∀ x c,cl.lookup x=some c->env.cells.lookup x=some c)/\∀ y∈scope.names,y.2 = .free->∃ c,cl.lookup y.1=some c:=by
 obtain⟨cl,e,p1,p2,_⟩:=zK scope.names [] h (fun x c e=>by simp at e)
 refine⟨cl,?_,p1,p2⟩
 have e':closureFor scope env=(forIn scope.names ([]:List (Str × Addr)) (fun (x:Str × NameKind) (cs:List (Str × Addr))=>if x.2 == NameKind.free then cellOf env x.1 >>= fun a=>pure (ForInStep.yield ((x.1,a) :: cs)) else pure (ForInStep.yield cs)):Sem (List (Str × Addr))) >>= pure:=rfl
 rw[e',e]
 rfl
structure BD where
 cl:List (Str × Addr)
 C:Addr
 s:Shared
 H:Hp
 fp:List Addr
@[reducible] noncomputable def cJ (X:Cx) (scope:Scope) (Nb:List Str) (d:BD):Cx where
 prog:=X.prog
 w:=X.w
 K:=X.K
 mg:=X.mg
 base:=X.base
 A:=X.A
 N:=Nb
 s₀ := d.s
 H₀ := d.H
 env:=compEnvC scope d.cl d.C X.env
 outer:=X.stack
 stack:=X.stack
 ex:=d.fp
 fn:=fun x=>decide (scope.names.lookup x=some .cell)
 calm:=X.calm
 pn:=[]
 xe:=fun _ _=>False
noncomputable def iL (cp:List (Option Nat)) (σ : St):St:=cp.map fun o=>match o with
 | some i=>(σ[i]?).join
 | none=>none
noncomputable def lq (N:List Str) (vZ scope:Scope) (Nb:List Str) (cp:List (Option Nat)):Bool :=
 (scope.names.all fun y=>(decide (y.2 ≠ .cell) || decide (scope.names.lookup y.1=some .cell)) && (decide (y.2 ≠ .local) || decide (scope.names.lookup y.1=some .local)) && (decide (y.2 ≠ .free) || decide (vZ.names.lookup y.1=some .cell) || decide (vZ.names.lookup y.1=some .free))) &&
 decide (cp.length=Nb.length) && (cp.zip Nb).all fun z=>match z.1 with
  | none=>true
  | some i=>decide (N[i]? = some z.2) && decide (scope.names.lookup z.2=some .free)
structure v3 (X:Cx) (scope:Scope) (Nb:List Str) (cp:List (Option Nat)):Prop where
 kind:scope.kind = .function
 cell:∀ y∈scope.names,y.2 = .cell->scope.names.lookup y.1=some .cell
 names:∀ y∈scope.names,y.2 = .local->scope.names.lookup y.1=some .local
 free:∀ y∈scope.names,y.2 = .free->(X.env.kindOf y.1=some .cell\/X.env.kindOf y.1=some .free)
 len:cp.length=Nb.length
 tj:∀ (j i:Nat) (x:Str),cp[j]? = some (some i)->Nb[j]? = some x->X.N[i]? = some x/\scope.names.lookup x=some .free
theorem q8Y {X:Cx} {scope:Scope} {Nb:List Str} {cp:List (Option Nat)} (hk:scope.kind = .function) (h:lq X.N X.env.scope scope Nb cp=true):v3 X scope Nb cp:=by
 unfold lq at h
 simp only[Xu,XW,Bool.or_eq_true,W8] at h
 obtain⟨⟨h1,h2⟩,h3⟩:=h
 refine⟨hk,fun y hy e=>(h1 y hy).1.1.resolve_left (fun z=>z e),fun y hy e => ?_,fun y hy e => ?_,h2,fun j i x e1 e2 => ?_⟩
 ·rcases (h1 y hy).1.2 with z | z
  ·exact absurd e z
  ·exact z
 ·rcases (h1 y hy).2 with (z | z) | z
  ·exact absurd e z
  ·exact .inl z
  ·exact .inr z
 ·have hm:(some i,x)∈cp.zip Nb:=by
   have:(cp.zip Nb)[j]? = some (some i,x):=by
    rw[List.getElem?_zip_eq_some];exact⟨e1,e2⟩
   exact Xb this
  have:=h3 _ hm
  simpa using this
theorem zM {env:Env} {x:Str}:∀ {names:List (Str × NameKind)} {k:NameKind},names.lookup x=some k →
  (names.map fun (n,k)=>if (k == NameKind.free && env.scope.kind == .function && env.kindOf n == some .cell) then (n,NameKind.cell) else (n,k)).lookup x =
   some (if (k == NameKind.free && env.scope.kind == .function && env.kindOf x == some .cell) then NameKind.cell else k)
 | [],k,h=>by simp at h
 | (n,k') :: r,k,h=>by
  have ih:=@zM env x r k
  show List.lookup x ((if (k' == NameKind.free && env.scope.kind == .function && env.kindOf n == some .cell)=true then (n,NameKind.cell) else (n,k')) :: _)=_
  cases hx:x == n with
  | true =>
   simp only[WV,hx] at h
   cases h
   have e:x=n:=X7 hx
   subst e
   by_cases hc:(k' == NameKind.free && env.scope.kind == .function && env.kindOf x == some .cell)=true
   ·rw[V8 hc,V8 hc];simp[WV]
   ·rw[V0 hc,V0 hc];simp[WV]
  | false =>
   simp only[WV,hx] at h
   by_cases hc:(k' == NameKind.free && env.scope.kind == .function && env.kindOf n == some .cell)=true
   ·rw[V8 hc];simp only[WV,hx];exact ih h
   ·rw[V0 hc];simp only[WV,hx];exact ih h
theorem E8 {env:Env} {x:Str}:∀ {names:List (Str × NameKind)},names.lookup x=none →
  (names.map fun (n,k)=>if (k == NameKind.free && env.scope.kind == .function && env.kindOf n == some .cell) then (n,NameKind.cell) else (n,k)).lookup x=none
 | [],h=>by simp
 | (n,k') :: r,h=>by
  have ih:=@E8 env x r
  show List.lookup x ((if (k' == NameKind.free && env.scope.kind == .function && env.kindOf n == some .cell)=true then (n,NameKind.cell) else (n,k')) :: _)=_
  cases hx:x == n with
  | true=>simp only[WV,hx] at h;cases h
  | false =>
   simp only[WV,hx] at h
   by_cases hc:(k' == NameKind.free && env.scope.kind == .function && env.kindOf n == some .cell)=true
   ·rw[V8 hc];simp only[WV,hx];exact ih h
   ·rw[V0 hc];simp only[WV,hx];exact ih h
noncomputable def PF (X:Cx) (ifs:List Expr) (t:TT):Prop :=
 ∀ (pins:List (Addr × Obj)) (s:Shared) (σ : St) (H:Hp) (Q:Bool->Hp->Prop),Inv X pins σ H s->t σ H Q →
  wpAny (model X.prog X.w) X.A (forIn ifs true fun c r=>if r=true then do let ok <- isTrue c X.env (eval c X.env);pure (ForInStep.yield ok) else pure (ForInStep.yield r)) (TP X pins σ Q) X.xe s
noncomputable def tu:TT:=fun _ H Q=>Q true H
theorem MQ {X:Cx}:PF X [] tu:=fun _ _ _ H _ I h=>wpAny_tests_nil ⟨H,I,h⟩
theorem MR {X:Cx} {c:Expr} {t:TT} (h:PT X c t):PF X [c] t:=fun pins s σ H Q I hw=>wpAny_tests_one (h pins s σ H Q I hw)
noncomputable def MS (g:TG) (tf:TT) (te:TE) (l:Addr) (x:V) (τ : St) (H:Hp) (N:St->Hp->Prop):Prop :=
 g x τ H fun τ2 H2=>tf τ2 H2 fun b H3=>if b=true then te τ2 H3 fun y H4=>∃ ys,H4 l=some (.lst ys)/\ys.length < sizeLine/\N τ2 (upd H4 l (.lst (ys ++ [y]))) else N τ2 H3
noncomputable def E9 (J:It) (g:TG) (tf:TT) (te:TE) (l:Addr) (τ0:St) (H0:Hp) (Q:VK):Prop :=
 ∃ W:Nat->Nat->St->Hp->Prop,(∃ m,W 0 m τ0 H0)/\∀ i m τ H,W i m τ H →
  (J.stop i H/\Q (.ref l) H)\/(J.go i H/\∃ N:St->Hp->Prop,(∀ τ' H',N τ' H'->∃ m',m' < m/\W (i + 1) m' τ' H')/\∀ x H',J.qN i H x H'->MS g tf te l x τ H' N)
noncomputable def pf (wi:TI) (cp:List (Option Nat)) (g:BD->TG) (tf:BD->TT) (te:BD->TE):TE:=fun σ H Q=>wi σ H fun J H1=>∀ (d:BD) (l:Addr),H1 l=none->E9 J (g d) (tf d) (te d) l (iL cp σ) (upd H1 l (.lst [])) Q
theorem qV:∀ {names:List (Str × NameKind)} {n:Nat} {acc:List (Str × Addr)} {x:Str} {c:Addr},(cellsFrom n names acc).lookup x=some c->acc.lookup x=some c\/(n <= c/\(x,NameKind.cell)∈names)
 | [],n,acc,x,c,h => .inl h
 | (y,k) :: r,n,acc,x,c,h=>by
  unfold cellsFrom at h
  split at h
  ·rename_i hk
   have ek:k = .cell:=X7 hk
   subst ek
   rcases qV h with h | ⟨h,m⟩
   ·rw[WV] at h
    cases q:x == y with
    | true=>rw[q] at h;cases h;rw[X7 q];exact .inr ⟨qU _,vX ..⟩
    | false=>rw[q] at h;exact .inl h
   ·exact .inr ⟨by omega,E6 _ m⟩
  ·rcases qV h with h | ⟨h,m⟩
   ·exact .inl h
   ·exact .inr ⟨h,E6 _ m⟩
theorem zN:∀ {names:List (Str × NameKind)} {n:Nat} {acc:List (Str × Addr)} {x:Str} {c:Addr},(x,NameKind.cell)∈names->(cellsFrom n names acc).lookup x=some c->n <= c
 | [],n,acc,x,c,m,h=>by cases m
 | (y,k) :: r,n,acc,x,c,m,h=>by
  unfold cellsFrom at h
  by_cases mr:(x,NameKind.cell)∈r
  ·split at h
   ·have:=zN mr h;omega
   ·exact zN mr h
  ·have e:(x,NameKind.cell)=(y,k):=by
    rcases ML.mp m with e | e
    ·exact e
    ·exact absurd e mr
   cases e
   rw[V8 (by decide)] at h
   rcases qV h with h | ⟨h,_⟩
   ·rw[WV,beq_self_eq_true] at h
    cases h;exact qU _
   ·omega
theorem zO:∀ {names:List (Str × NameKind)} {n:Nat} {acc:List (Str × Addr)} {x y:Str} {c:Addr},(∀ u v c,acc.lookup u=some c->acc.lookup v=some c->u=v)->(∀ u c,acc.lookup u=some c->c < n)->(cellsFrom n names acc).lookup x=some c->(cellsFrom n names acc).lookup y=some c->x=y
 | [],n,acc,x,y,c,hi,_,h1,h2=>hi x y c h1 h2
 | (z,k) :: r,n,acc,x,y,c,hi,hb,h1,h2=>by
  unfold cellsFrom at h1 h2
  split at h1
  ·rename_i hk
   rw[V8 hk] at h2
   refine zO (fun u v c q1 q2 => ?_) (fun u c q => ?_) h1 h2
   ·rw[WV] at q1 q2
    cases e1:u == z with
    | true =>
     rw[e1] at q1;cases q1
     cases e2:v == z with
     | true=>rw[X7 e1,X7 e2]
     | false=>rw[e2] at q2;exact absurd (hb v _ q2) (Yf _)
    | false =>
     rw[e1] at q1
     cases e2:v == z with
     | true=>rw[e2] at q2;cases q2;exact absurd (hb u _ q1) (Yf _)
     | false=>rw[e2] at q2;exact hi u v c q1 q2
   ·rw[WV] at q
    cases e1:u == z with
    | true=>rw[e1] at q;cases q;exact Xt _
    | false=>rw[e1] at q;exact Xh (hb u c q)
  ·rename_i hk
   rw[V0 hk] at h2
   exact zO hi hb h1 h2
theorem zP:∀ {names:List (Str × NameKind)} {n:Nat} {acc:List (Str × Addr)} {x:Str},(x,NameKind.cell)∉names->(cellsFrom n names acc).lookup x=acc.lookup x
 | [],n,acc,x,_=>rfl
 | (y,k) :: r,n,acc,x,m=>by
  unfold cellsFrom
  split
  ·rename_i hk
   have ek:k = .cell:=X7 hk
   subst ek
   rw[zP fun z=>m (E6 _ z),WV]
   cases q:x == y with
   | true=>exact absurd (by rw[X7 q];exact vX ..) m
   | false=>rfl
  ·exact zP fun z=>m (E6 _ z)
theorem zQ:∀ {names:List (Str × NameKind)} {h:Heap} {acc:List (Str × Addr)} {x:Str} {c:Addr},(∀ u c,acc.lookup u=some c->∃ v,h.IsCell c v)->(cellsFrom h.objs.size names acc).lookup x=some c->∃ v,(pushCells h names).IsCell c v
 | [],h,acc,x,c,hc,e=>hc x c e
 | (y,k) :: r,h,acc,x,c,hc,e=>by
  unfold cellsFrom at e
  unfold pushCells
  split at e
  ·rename_i hk
   rw[V8 hk]
   have hz:(h.push { cls := .type "cell",data := .cell none }).objs.size=h.objs.size + 1:=Yt ..
   rw[<-hz] at e
   refine zQ (fun u c q => ?_) e
   rw[WV] at q
   cases e1:u == y with
   | true=>rw[e1] at q;cases q;exact⟨none,_,MM _ rfl,rfl⟩
   | false =>
    rw[e1] at q
    obtain⟨v,o,g1,g2⟩:=hc u c q
    exact⟨v,o,sW _ g1,g2⟩
  ·rename_i hk
   rw[V0 hk]
   exact zQ hc e
theorem MT {M:Model} {A:Around} {E:Value->Shared->Prop} {s:Shared} {scope:Scope} {g:Addr} {cl:List (Str × Addr)} {qual:Str} {env:Env} {Q:Env->Shared->Prop}
  (h:Q (newEnv scope s.heap.objs.size g (cellsFrom (s.heap.objs.size + 1) scope.names cl) qual none .none (some env) builtinsNs) { s with heap:=pushCells (s.heap.push { cls := .type "dict",data := .dict #[] }) scope.names }) :
  wpAny M A (newFunctionEnv scope g cl [] qual none .none (some env)) Q E s:=by
 simp only[newFunctionEnv,Option.isSome_some,YL]
 refine l8 (wpAny_alloc ?_)
 refine l8 (wpAny_layCells _ (fun name kind cells=>by cases MU:kind == NameKind.cell<;>simp[MU]) _ _ _ _ ?_)
 rw[show ({ s with heap:=s.heap.push { cls := .type "dict",data := .dict #[] } }:Shared).heap.objs.size=s.heap.objs.size + 1 from Yt ..]
 refine l8 ?_
 rw[List.forIn_nil]
 exact vW (vW h)
section
variable {X:Cx} {elt tg iter:Expr} {ifs:List Expr} {scope:Scope} {pos:Pos} {Nb:List Str} {cp:List (Option Nat)} {wi:TI} {g:BD->TG} {tf:BD->TT} {te:BD->TE}
variable {pins:List (Addr × Obj)} {σ : St} {H:Hp} {s:Shared}
noncomputable abbrev tE (scope:Scope) (s:Shared) (cl:List (Str × Addr)):List (Str × Addr):=cellsFrom (s.heap.objs.size + 1) scope.names cl
theorem MV {fp:List Addr} {cl:List (Str × Addr)} (S:v3 X scope Nb cp) (I:Inv X pins σ H s) (hf:∀ b∈fp,ba X pins H b) (ho:∀ b∈fp,∃ o,s.heap.get? b=some o)
  (c1:∀ x c,cl.lookup x=some c->X.env.cells.lookup x=some c) (c2:∀ y∈scope.names,y.2 = .free->∃ c,cl.lookup y.1=some c):(cJ X scope Nb ⟨tE scope s cl,s.heap.objs.size,s,H,fp⟩).Ok:=by
 have MW:∀ b∈fp,b∉j2 X.stack:=fun b hb z=>by
  obtain⟨_,f1,f2,_⟩:=hf b hb
  rcases ML.mp (I.gU b z) with e | e
  ·exact f1 e
  ·exact f2 e
 have lt:∀ u c,cl.lookup u=some c->c < s.heap.objs.size:=fun u c e=>by
  obtain⟨v,q⟩:=I.cell u c (c1 _ _ e)
  exact q.lt
 refine⟨I.ok.mod,?_,I.ok.glob,I.ok.blt,qU _,fun x y c h1 h2 => ?_,fun x hx => ?_,fun x c h hc => ?_,I.ok.hd,I.ok.frames,.inl rfl,fun b hb=>⟨?_,fun x c e => ?_⟩,I.bs,XO I.ok.mY I.sz,fun b o e hb => ?_,MW,I.stack,I.ji⟩
 ·exact S.kind
 ·exact zO (fun u v c q1 q2=>I.ok.inj u v c (c1 _ _ q1) (c1 _ _ q2)) (fun u c e=>Xh (lt u c e)) h1 h2
 ·cases q:scope.names.lookup x with
  | none =>
   have z:(relabel scope X.env).names.lookup x=none:=E8 q
   have iM:(relabel scope X.env).names.lookup x=some .cell\/(relabel scope X.env).names.lookup x=some .free:=hx
   rw[z] at iM
   rcases iM with h | h<;>cases h
  | some k =>
   have hm:=XG q
   have z:(relabel scope X.env).names.lookup x=_:=zM (env:=X.env) q
   have iM:(relabel scope X.env).names.lookup x=some .cell\/(relabel scope X.env).names.lookup x=some .free:=hx
   rw[z] at iM
   have kf:k = .free\/k = .cell:=by
    by_cases hk:k = .free
    ·exact .inl hk
    ·have:(k == NameKind.free)=false:=by simpa using hk
     simp only[this,q0Z,WC,Xx] at iM
     rcases iM with h | h
     ·exact .inr (WY h)
     ·exact absurd (WY h) hk
   refine Zf.mp (Zz scope.names _ cl ?_)
   rcases kf with rfl | rfl
   ·obtain⟨c,e⟩:=c2 (x,.free) hm rfl
    exact .inr (by rw[show cl.lookup x=some c from e];rfl)
   ·exact .inl q
 ·have hl:scope.names.lookup x=some .cell:=X0 h
  have:=zN (XG hl) hc
  exact Nat.le_of_succ_le this
 ·obtain⟨o,e⟩:=ho b hb
  exact Ww (MK e)
 ·rcases qV e with e | ⟨e,_⟩
  ·exact (hf b hb).2.2.2.2.1 x c (c1 _ _ e)
  ·obtain⟨o,eo⟩:=ho b hb
   have zR:=MK eo
   intro z
   subst z
   exact absurd (Nat.lt_of_succ_le e) (Nat.not_lt.mpr (XY zR))
 ·rcases (hf b hb).2.2.2.1 with z | z
  ·exact I.ok.kh b o e z
  ·exact absurd (WD (MK (I.ok.bs b o e).1) z) (Yf _)
theorem MX {cp:List (Option Nat)} {σ : St} {j:Nat} {v:V} (h:(iL cp σ)[j]? = some (some v)):∃ i,cp[j]? = some (some i) /\ σ[i]? = some (some v):=by
 unfold iL at h
 rw[MJ] at h
 cases e:cp[j]? with
 | none=>rw[e] at h;cases h
 | some o =>
  rw[e] at h
  cases o with
  | none=>cases h
  | some i =>
   refine⟨i,rfl,?_⟩
   have h':(σ[i]?).join=some v:=WY h
   cases q : σ[i]? with
   | none=>rw[q] at h';cases h'
   | some z =>
    rw[q] at h'
    have:z=some v:=h'
    rw[this]
theorem MY {fp:List Addr} {cl:List (Str × Addr)} {h1:Heap} {tk:Nat} (S:v3 X scope Nb cp) (I:Inv X pins σ H s) (hf:∀ b∈fp,ba X pins H b) (ho:∀ b∈fp,∃ o,s.heap.get? b=some o)
  (c1:∀ x c,cl.lookup x=some c->X.env.cells.lookup x=some c) (c2:∀ y∈scope.names,y.2 = .free->∃ c,cl.lookup y.1=some c)
  (hn:h1.Ns s.heap.objs.size (fun x=>([]:List (Str × Value)).reverse.lookup x)) (hk:∀ b o,s.heap.get? b=some o->h1.get? b=some o) (qR:∀ x c,(tE scope s cl).lookup x=some c->∃ v,h1.IsCell c v) :
  Inv (cJ X scope Nb ⟨tE scope s cl,s.heap.objs.size,s,H,fp⟩) [] (iL cp σ) H { s with heap:=h1,toks:=tk }:=by
 refine⟨MV S I hf ho c1 c2,rfl,I.bare,Un.kept hk,⟨_,hn,fun j x v e1 e2 e3 => ?_⟩,qR,I.aM.fresh (qU _),fun x c e => ?_,fun p hp=>absurd (show p∈([]:List (Addr × Obj)) from hp) (by simp),I.aM.kept hk,?_⟩
 ·obtain⟨i,q1,q2⟩:=MX e2
  obtain⟨q3,q4⟩:=S.tj j i x q1 e1
  have hm:=XG q4
  have nv:=S.free _ hm rfl
  obtain⟨m,_,hl⟩:=I.loc
  have MZ:oE X.env.scope x:=by
   rcases nv with h | h
   ·exact .inr (.inl h)
   ·exact .inr (.inr h)
  obtain⟨u,ru,lk⟩:=hl i x v q3 q2 MZ
  refine⟨u,ru,?_⟩
  have nl:X.env.kindOf x≠some .local:=by
   rcases nv with h | h
   ·intro z;rw[h] at z;cases z
   ·intro z;rw[h] at z;cases z
  rcases lk with⟨k,_⟩ | ⟨_,c,ec,hc⟩
  ·exact absurd k nl
  ·obtain⟨c',E_⟩:=c2 (x,.free) hm rfl
   have Fb:=c1 _ _ E_
   rw[ec] at Fb;cases Fb
   have nc:(x,NameKind.cell)∉scope.names:=fun z=>by have:=S.cell _ z rfl;rw[show scope.names.lookup x=some .free from q4] at this;cases this
   refine .inr ⟨?_,c,(zP nc).trans E_,?_⟩
   ·have z:(relabel scope X.env).names.lookup x=_:=zM (env:=X.env) q4
    show (relabel scope X.env).names.lookup x=some .cell\/(relabel scope X.env).names.lookup x=some .free
    rw[z]
    split
    ·exact .inl rfl
    ·exact .inr rfl
   ·obtain⟨o,e,d⟩:=hc
    exact⟨o,hk _ _ e,d⟩
 ·rcases qV e with e | ⟨e,_⟩
  ·exact I.c6 x c (c1 _ _ e)
  ·exact I.aM.fresh (Nat.le_of_succ_le e)
 ·unfold iL
  rw[pd]
  exact S.len
theorem M0 {fp:List Addr} {d:BD} {it l:Addr} {tn:Nat->Heap->Prop} {J:It} {R:Result->Shared->Prop} {Q:VK} {H1:Hp} {s1:Shared} {τ : St} (hc:X.calm=true)
  (hg:PG (cJ X scope Nb d) tg (g d)) (hf:PF (cJ X scope Nb d) ifs (tf d)) (he:PE (cJ X scope Nb d) elt (te d)) (T:Turn X.prog X.w X.K tg J fp it tn)
  (V_:d.fp=fp) (I1:Inv (cJ X scope Nb d) [] τ H1 s1) (kj:tn 0 s1.heap) (Fc:∀ b∈fp,ba (cJ X scope Nb d) [] H1 b)
  (W:Nat->Nat->St->Hp->Prop) (w0:∃ m,W 0 m τ H1)
  (turn:∀ i m τ H,W i m τ H->(J.stop i H/\Q (.ref l) H)\/(J.go i H/\∃ N:St->Hp->Prop,(∀ τ' H',N τ' H'->∃ m',m' < m/\W (i + 1) m' τ' H')/\∀ x H',J.qN i H x H'->g d x τ H' fun τ2 H2=>tf d τ2 H2 fun b H3 =>
   if b=true then te d τ2 H3 fun y H4=>∃ ys,H4 l=some (.lst ys)/\ys.length < sizeLine/\N τ2 (upd H4 l (.lst (ys ++ [y]))) else N τ2 H3))
  (fin:∀ τ' H' s',Inv (cJ X scope Nb d) [] τ' H' s'->Q (.ref l) H'->R (.ok .next) s') :
  codeAny (model X.prog X.w) X.A (.compStart (.ListComp elt [⟨tg,iter,ifs,0⟩] scope pos) 0 (.ref it) (.ref l) (compEnvC scope d.cl d.C X.env)) R s1:=by
 have iX:∀ {H':Hp},(∀ b∈fp,H' b=none)->∀ b∈fp,ba (cJ X scope Nb d) [] H' b:=fun hn b hb=>⟨hn b hb,(Fc b hb).2⟩
 have loop:codeAny (model X.prog X.w) X.A (.compLoop (.ListComp elt [⟨tg,iter,ifs,0⟩] scope pos) 0 (.ref it) (.ref l) (compEnvC scope d.cl d.C X.env)) R s1:=by
  obtain⟨m0,w0⟩:=w0
  refine MP (fun n s'=>∃ i τ' H',Inv (cJ X scope Nb d) [] τ' H' s'/\tn i s'.heap/\(∀ b∈fp,H' b=none)/\W i n τ' H') ?_ m0 ⟨0,τ,H1,I1,kj,fun b hb=>(Fc b hb).1,w0⟩
  rintro n s3 ⟨i,σ3,H3,I3,qO,sI,w3⟩
  rcases turn i n σ3 H3 w3 with⟨stop,qn⟩ | ⟨go,N,hN,step⟩
  ·refine a0 (T.done (cJ X scope Nb d) rfl rfl rfl hc i [] s3 σ3 H3 (fun _ _=>False) I3 (iX sI) qO stop) fun r s4 ⟨hr,I4⟩ => ?_
   subst hr
   exact fin σ3 H3 s4 I4 qn
  ·refine a0 (T.item (cJ X scope Nb d) rfl rfl rfl hc i [] s3 σ3 H3 (fun _ _=>False) I3 (iX sI) qO go) fun r s4 ⟨u,hr,h4⟩ => ?_
   subst hr
   refine a0 h4 fun _ s5 ⟨x,H5,I5,r5,y5,oQ,za⟩ => ?_
   have zb:=I5.pinned (iX za) (T.obj _ _ oQ)
   refine a0 (hg _ s5 σ3 H5 x u _ zb r5 (step x H5 y5)) fun _ s6 ⟨σ6,H6,I6,q6⟩ => ?_
   have again:∀ {σ7:St} {H7:Hp} {s7:Shared} {m':Nat},Inv (cJ X scope Nb d) ([] ++ sH fp s5.heap) σ7 H7 s7->m' < n->W (i + 1) m' σ7 H7->∃ m,m < n/\∃ i σ' H',Inv (cJ X scope Nb d) [] σ' H' s7/\tn i s7.heap/\(∀ b∈fp,H' b=none)/\W i m σ' H':=fun {σ7 H7 s7 m'} I7 hm w7=>by
    refine⟨m',hm,i + 1,σ7,H7,I7.dW,T.keep _ _ _ oQ fun b hb o e=>(I7.pin (b,o) (VZ _ (VZ _ (vR hb e)))).1,fun b hb => ?_,w7⟩
    obtain⟨o,e,d⟩:=T.obj _ _ oQ b hb
    exact (I7.pin (b,o) (VZ _ (VZ _ (vR hb e)))).2.1
   refine a0 (hf _ s6 σ6 H6 _ I6 q6) fun ok s7 h0_ => el3 h0_ fun H7 I7 q7 => ?_
   cases ok with
   | false =>
    rw[V0 WH] at q7 ⊢
    obtain⟨m',hm,w7⟩:=hN _ _ q7
    exact again I7 hm w7
   | true =>
    rw[V8 rfl] at q7 ⊢
    refine a0 (he _ s7 σ6 H7 _ I7 q7) fun y s8 ⟨yv,H8,I8,r8,ys,hy,hz,q8⟩ => ?_
    obtain⟨m',hm,w8⟩:=hN _ _ q8
    refine a0 (sY _ s8 σ6 H8 (.ref l) [yv] (.ref l) [y] (fun _ H9=>H9=upd H8 l (.lst (ys ++ [yv]))) I8 rfl (.cons r8 .nil) ⟨l,ys,yv,rfl,rfl,hy,hz,rfl⟩) fun _ s9 h0_ => el5 h0_ fun _ H9 I9 _ e9 => ?_
    subst e9
    exact again I9 hm w8
 exact codeAny_compStart_list loop (T.self _ 0 s1 _ _ kj loop)
theorem M1 {fp:List Addr} {d:BD} {τ : St} {H1 H':Hp} {s1 s':Shared} (I1:Inv X pins σ H1 s1) (hs:d.s=s1) (hH:d.H=H1) (hd:d.fp=fp) (hf:∀ b∈fp,ba X pins H1 b) (J:Inv (cJ X scope Nb d) [] τ H' s'):Inv X pins σ H' s':=by
 subst hs hH hd
 exact I1.sC (ch:=d.fp) J.os J.base J.aM J.bare fun b hb=>⟨(hf b hb).2.2.2.1,(hf b hb).2.1,(hf b hb).2.2.2.2.1,(hf b hb).2.2.2.2.2⟩
theorem Fd {use:Option (Value->Sem Unit)} {P:Value->Shared->Prop} {Q:VK} (hc:X.calm=true) (S:v3 X scope Nb cp) (hi:PI X tg iter wi) (hg:∀ d,PG (cJ X scope Nb d) tg (g d)) (hf:∀ d,PF (cJ X scope Nb d) ifs (tf d)) (he:∀ d,PE (cJ X scope Nb d) elt (te d))
  (hs:∀ x,foldedSetIterable iter X.env x=pure x) (I:Inv X pins σ H s) (h:pf wi cp g tf te σ H Q)
  (fin:∀ (l C:Addr) (H':Hp) (s':Shared) (m:Str->Option Value),Inv X pins σ H' s'->ba X pins H' C->(∀ p c,X.env.cells.lookup p=some c->c≠C)->s'.heap.Ns C m->Q (.ref l) H'->compPost (model X.prog X.w) X.A X.xe use P (.ref l) C (.ok .next) s') :
  wpAny (model X.prog X.w) X.A (comprehension (.ListComp elt [⟨tg,iter,ifs,0⟩] scope pos) scope X.env (firstIterPos [⟨tg,iter,ifs,0⟩] pos) (newList []) false (eval iter X.env) use) P X.xe s:=by
 obtain⟨cl,M3,c1,c2⟩:=zL (scope:=scope) (env:=X.env) fun y hy M4=>by
  rcases S.free y hy M4 with z | z
  ·exact I.ok.has _ (.inl z)
  ·exact I.ok.has _ (.inr z)
 refine wpAny_comprehension_free (cl:=cl) rfl hs M3 S.kind S.names (a0 (hi pins s σ H _ I h) fun v s1 h1=>a0 h1 fun yZ s2 h2 => ?_)
 obtain⟨it,fp,tn,J,H2,e,I2,T,jZ,f2,q2⟩:=h2
 subst e
 refine Xn ?_
 have hl:H2 s2.heap.objs.size=none:=I2.fresh
 have I3:Inv X pins σ (upd H2 s2.heap.objs.size (.lst [])) { s2 with heap:=s2.heap.push { cls := .type "list",data := .seq ([]:List Value).toArray } }:=I2.cm (t':=s2.toks) (ys:=[]) .nil (Xl _)
 have k3:∀ b o,s2.heap.get? b=some o->(s2.heap.push { cls := .type "list",data := .seq ([]:List Value).toArray }).get? b=some o:=fun b o e=>sW _ e
 have f3:∀ b∈fp,ba X pins (upd H2 s2.heap.objs.size (.lst [])) b:=fun b hb=>by
  obtain⟨o,e,_⟩:=T.obj _ _ jZ b hb
  refine⟨?_,(f2 b hb).2⟩
  rw[aO (Ww (MK e))]
  exact (f2 b hb).1
 generalize M5:upd H2 s2.heap.objs.size (.lst [])=H3 at I3 f3
 generalize M6:({ s2 with heap:=s2.heap.push { cls := .type "list",data := .seq ([]:List Value).toArray } }:Shared)=s3 at I3
 have Fe:∀ b o,s2.heap.get? b=some o->s3.heap.get? b=some o:=by rw[<-M6];exact k3
 have o3:∀ b∈fp,∃ o,s3.heap.get? b=some o:=fun b hb=>let ⟨o,e,_⟩:=T.obj _ _ jZ b hb; ⟨o,Fe b o e⟩
 refine MT ?_
 have k4:∀ b o,s3.heap.get? b=some o->(pushCells (s3.heap.push { cls := .type "dict",data := .dict #[] }) scope.names).get? b=some o:=fun b o e=>pushCells_keeps _ _ _ _ (sW _ e)
 have tF:(pushCells (s3.heap.push { cls := .type "dict",data := .dict #[] }) scope.names).Ns s3.heap.objs.size (fun x=>([]:List (Str × Value)).reverse.lookup x):=(Heap.Ns.new s3.heap (.type "dict")).keeps (pushCells_keeps _ _)
 have I4:=MY (Nb:=Nb) (tk:=s3.toks) S I3 f3 o3 c1 c2 tF k4 fun x c e=>by
  have hz:(s3.heap.push { cls := .type "dict",data := .dict #[] }).objs.size=s3.heap.objs.size + 1:=Yt ..
  have e':(cellsFrom (s3.heap.push { cls := .type "dict",data := .dict #[] }).objs.size scope.names cl).lookup x=some c:=by rw[hz];exact e
  refine zQ (fun u c q => ?_) e'
  obtain⟨v,o,g1,g2⟩:=I3.cell u c (c1 _ _ q)
  exact⟨v,o,sW _ g1,g2⟩
 generalize Wa:pushCells (s3.heap.push { cls := .type "dict",data := .dict #[] }) scope.names=h₁ at k4 tF I4 ⊢
 obtain⟨W,w0,turn⟩:=q2 ⟨tE scope s3 cl,s3.heap.objs.size,s3,H3,fp⟩ s2.heap.objs.size hl
 rw[M5] at w0
 refine M0 (d:=⟨tE scope s3 cl,s3.heap.objs.size,s3,H3,fp⟩) (fp:=fp) (tn:=tn) (J:=J) (Q:=Q) hc (hg _) (hf _) (he _) T rfl I4 (T.keep _ _ _ jZ fun b hb o e=>k4 b o (Fe b o e)) (fun b hb => ?_) W w0 turn fun τ' H' s' I5 q5 => ?_
 ·obtain⟨o,e⟩:=o3 b hb
  refine⟨(f3 b hb).1,Ww (MK e),fun z => ?_,.inl hb,fun x c ec => ?_,fun p hp=>absurd (show p∈([]:List (Addr × Obj)) from hp) (by simp)⟩
  ·rcases ML.mp (I3.gU b z) with r | r
   ·exact (f3 b hb).2.1 r
   ·exact (f3 b hb).2.2.1 r
  ·rcases qV ec with q | ⟨q,_⟩
   ·exact (f3 b hb).2.2.2.2.1 x c (c1 _ _ q)
   ·have zR:=MK e
    intro z
    subst z
    exact absurd (Nat.lt_of_succ_le q) (Nat.not_lt.mpr (XY zR))
 ·have I6:Inv X pins σ H' s':=M1 I3 rfl rfl rfl f3 I5
  obtain⟨m,hn,_⟩:=I5.loc
  have fC:ba X pins H' s3.heap.objs.size:=I3.gX (qU _) I5.free
  exact fin _ _ _ _ m I6 fC (fun p c e=>fC.2.2.2.2.1 p c e) hn q5
theorem M7 (cp:List (Option Nat)) (Nb:List Str) (hc:X.calm=true) (hi:PI X tg iter wi) (hg:∀ d,PG (cJ X scope Nb d) tg (g d)) (hf:∀ d,PF (cJ X scope Nb d) ifs (tf d)) (he:∀ d,PE (cJ X scope Nb d) elt (te d))
  (hk:scope.kind = .function:=by rfl) (ho:lq X.N X.env.scope scope Nb cp=true:=by first | rfl | kernel_rfl) (hs:∀ x,foldedSetIterable iter X.env x=pure x:=by intro _;rfl) :
  PE X (.ListComp elt [⟨tg,iter,ifs,0⟩] scope pos) (pf wi cp g tf te):=by
 intro pins s σ H Q I h
 rw[eval_ListComp]
 refine Fd (use:=none) hc (q8Y hk ho) hi hg hf he hs I h fun l C H' s' m I' fC hcc hn q=>⟨m,hn,fun h' tG=>⟨.ref l,H',?_,rfl,q⟩⟩
 exact I'.turned (t':=s'.toks) (fun b o hb e=>(tG.2 b hb).trans e) fC.1 fC.2.1 fC.2.2.2.1 fC.2.2.2.2.1 fC.2.2.2.2.2
theorem M8 (cp:List (Option Nat)) (Nb:List Str) {i:Nat} {x:Str} {pos' iq:Pos} (hN:X.N.Nodup) (hi:X.N[i]? = some x) (hx:Loc X.env.scope x) (hc:X.calm=true) (hit:PI X tg iter wi) (hg:∀ d,PG (cJ X scope Nb d) tg (g d)) (hf:∀ d,PF (cJ X scope Nb d) ifs (tf d)) (he:∀ d,PE (cJ X scope Nb d) elt (te d))
  (hk:scope.kind = .function:=by rfl) (ho:lq X.N X.env.scope scope Nb cp=true:=by first | rfl | kernel_rfl) (hs:∀ x,foldedSetIterable iter X.env x=pure x:=by intro _;rfl)
  (tH:swapsWith (.ListComp elt [⟨tg,iter,ifs,0⟩] scope pos) (some (.Name x pos')) iq.line X.env=pure true:=by rfl)
  (lQ:X.fn x=true\/X.env.scope.names.lookup x=some .local:=by first | exact .inl rfl | exact .inr rfl | assumption) :
  PS X (.Assign [.Name x pos'] (.ListComp elt [⟨tg,iter,ifs,0⟩] scope pos) iq) (gW (pf wi cp g tf te) (lh i)):=by
 intro pins s σ H D I h
 rw[exec_Assign_Name_used _ _ _ _ tH]
 refine l8 (Y1 (l8 ?_))
 show wpAny _ X.A (do let _ <- comprehension (.ListComp elt [⟨tg,iter,ifs,0⟩] scope pos) scope X.env _ (newList []) false (eval iter X.env) (some (assign (.Name x pos') X.env))) _ _ s
 refine l8 (a0 (Fd (use:=some (assign (.Name x pos') X.env)) (P:=fun _ s'=>SP X pins D .next s') hc (q8Y hk ho) hit hg hf he hs I h fun l C H' s' m I' fC hcc hn q => ?_) fun _ s' hq=>vW (vW hq))
 show wpAny _ X.A (assign (.Name x pos') X.env (.ref l)) _ _ s'
 refine wpAny_assign_Name (Eb I' hN hi hx (v := .ref l) rfl (fun iY M9 ⟨a,sb,ha⟩ => ?_) lQ)
 have nC:C≠a:=by
  rcases ha with e | e
  ·rw[e];exact fC.2.1
  ·exact Ys (hcc _ _ e)
 refine⟨m,hn.sameBut sb nC,fun h' tG=>⟨_,H',?_,q⟩⟩
 exact M9.turned (t':=iY.toks) (fun b o hb e=>(tG.2 b hb).trans e) fC.1 fC.2.1 fC.2.2.2.1 fC.2.2.2.2.1 fC.2.2.2.2.2
end
section
variable {g:TG} {tf:TT} {te:TE}
end
section
variable {X:Cx} {pins:List (Addr × Obj)} {σ : St} {H:Hp} {s:Shared} {h':Heap} {T:Addr} {o:HO} {ch:List Addr} {t':Nat}
theorem Inv.ir (I:Inv X pins σ H s) (hf:∀ b∈ch,ba X pins H b) (k:∀ b u,b∉ch->s.heap.get? b=some u->h'.get? b=some u) (hT:s.heap.objs.size <= T) (new:aI X.prog X.w (upd H T o) h' T o) :
  Inv X pins σ (upd H T o) { s with heap:=h',toks:=t' }:=by
 have hn:H T=none:=I.aM.fresh hT
 have mZ:∀ b u,H b=some u->b∉ch:=fun b u e hb=>by rw[(hf b hb).1] at e;cases e
 refine I.step (g':=s.gens) (d':=s.drawn) (ch:=ch) (fun b hb=>⟨(hf b hb).2.2.2.1,(hf b hb).2.1,(hf b hb).2.2.2.2.1,(hf b hb).2.2.2.2.2⟩) (fun b u _ _ hc e _=>k b u hc e) (fun b u _ _ hc e _=>⟨u.slots,k b u hc e⟩)
  (fun b u _ e n=>by rw[aO (Ww (WD (MK e) hT))];exact n) (fun b u hc e=>⟨u,k b u hc e⟩) (fun b xs e=>by rw[aO (dg e hn)];exact e)
  (fun b u xs e=>by rw[aO (dg e hn)];exact e) (fun b ps e=>⟨#[],by rw[aO (dg e hn),e];simp⟩) (fun m hm => ?_) (fun b u e => ?_) I.bare
 ·obtain⟨u,es,ep,ho,r⟩:=hm
  exact⟨u,es,ep,k _ u (fun hb=>(hf _ hb).2.1 rfl) ho,r⟩
 ·by_cases hb:b=T
  ·subst hb;rw[bw] at e;cases e;exact new
  ·rw[aO hb] at e
   refine (I.aM b u e).gg (fun c v hc q=>k c v ?_ q) (fun c q=>by rw[aO (dg q hn)];exact q) fun c xs q=>by rw[aO (dg q hn)];exact q
   rcases hc with z | z
   ·rw[z];exact mZ b u e
   ·exact mZ c _ z
end
noncomputable def qW (K:PySem.W.Frag) (a:Addr):It :=
 ⟨fun i H=>∃ xs x,bh K H a xs/\xs[i]? = some x,fun i H x H'=>∃ T v,x = .ref T/\H T=none/\H'=upd H T (.tup [.int (i:Nat),v])/\∀ xs,bh K H a xs->xs[i]? = some v,fun i H=>∃ xs,bh K H a xs/\xs.length <= i⟩
theorem Ff {P:Program} {w:World} {K:PySem.W.Frag} {elts:List Expr} {x1} {tp:Pos} (a e it:Addr) (gD:e≠it) :
  Turn P w K (.Tuple elts x1 tp) (qW K a) [e,it] e (fun i h=>(∃ old,IsEnum h e it (i:Nat) old)/\h.IsListIter it a i) where
 mem:=by simp
 obj:=fun i h st b hb=>by
  obtain⟨⟨old,he⟩,o,hi,hc,hd⟩:=st
  rcases ML.mp hb with rfl | hb
  ·exact⟨_,he,fun v z=>by cases z⟩
  ·have z:b=it:=by simpa using hb
   subst z
   exact⟨o,hi,fun v z=>by rw[hd] at z;cases z⟩
 keep:=fun i h h' st k=>by
  obtain⟨⟨old,he⟩,hi⟩:=st
  exact⟨⟨old,k e (by simp) _ he⟩,hi.at fun o q=>k it (by simp) o q⟩
 item:=by
  intro X hP hw hK hc i pins s σ H E I hf st hg
  subst hP hw hK
  obtain⟨⟨old,he⟩,hi⟩:=st
  obtain⟨xs,x,hq,hx⟩:=hg
  obtain⟨ah,rv,p,hz⟩:=I.list hq
  obtain⟨u,hu,ru⟩:=rv.get hx
  refine wpAny_pyNext_enum_item he hi p.isList (x:=u) (by simpa using hu) gD fun h1 la zS tI hsz hk=>⟨_,rfl,?_⟩
  refine wpAny_letOwnedTupleGo_enum la fun h2 tJ jm => ?_
  have hT:s.heap.objs.size≠e:=Yr (MK he)
  have jJ:h2.get? s.heap.objs.size=some { cls := .type "tuple",data := .seq #[.int i s.toks,u] }:=(jm.2 _ hT).trans tI
  have k2:∀ b o,b∉[e,it]->s.heap.get? b=some o->h2.get? b=some o:=fun b o hb q=>by
   have tK:b≠e:=fun z=>hb (by simp[z])
   have gf:b≠it:=fun z=>hb (by simp[z])
   exact (jm.2 _ tK).trans (hk b o tK gf q)
  have hn:H s.heap.objs.size=none:=I.aM.fresh (qU _)
  refine⟨.ref s.heap.objs.size,upd H s.heap.objs.size (.tup [.int i,x]),I.ir (ch:=[e,it]) (t':=s.toks + 1) hf k2 (qU _) ?_,rfl,⟨_,x,rfl,hn,rfl,fun ys hy=>by rw[I.ig hy hq];exact hx⟩,⟨⟨u,?_⟩,?_⟩,fun b hb => ?_⟩
  ·exact⟨by show 2 <= sizeLine;decide,[.int i s.toks,u],.cons ⟨_,rfl⟩ (.cons ru .nil),_,jJ,rfl,_,rfl⟩
  ·have e3:((i:Int) + 1)=(((i + 1:Nat)):Int):=by omega
   rw[e3] at tJ
   exact tJ
  ·exact zS.at fun o q=>(jm.2 _ (Ys gD)).trans q
  ·have:b < s.heap.objs.size:=by
    obtain⟨o,q,_⟩:=hi
    rcases ML.mp hb with rfl | hb
    ·exact MK he
    ·have z:b=it:=by simpa using hb
     subst z;exact MK q
   rw[aO (Ww this)]
   exact (hf b hb).1
 done:=by
  intro X hP hw hK hc i pins s σ H E I hf st hg
  subst hP hw hK
  obtain⟨⟨old,he⟩,hi⟩:=st
  obtain⟨xs,hq,hx⟩:=hg
  obtain⟨ah,rv,p,hz⟩:=I.list hq
  have hl:=rv.length
  refine wpAny_pyNext_enum_end (I.ok.hd hc) he hi p.isList (by simp;omega) fun h1 eb=>⟨rfl,?_⟩
  obtain⟨f0,f1,f2,f3,f4,f5⟩:=hf it (by simp)
  exact I.turned (t':=s.toks) (fun b o hb q=>eb b o hb q) f0 f1 f3 f4 f5
 self:=fun A i s Q E st h=>by
  obtain⟨⟨old,he⟩,hi⟩:=st
  have hT:s.TypeIs (.ref e) "enumerate" := ⟨_,he,rfl⟩
  exact Yu he h
section
variable {X:Cx} {elts:List Expr} {x1:Nat} {tp:Pos}
noncomputable def zT (K:PySem.W.Frag) (ta:TA):TI:=fun σ H R=>ta σ H fun vs H1=>∃ a,vs=[.ref a]/\(∃ xs,bh K H1 a xs)/\R (qW K a) H1
theorem Fg:bootBuiltins "enumerate" = some (.type "enumerate"):=by decide +kernel
theorem M_ {a:Expr} {ta:TA} {p pos:Pos} (hg:Gl X "enumerate") (hm:X.mg "enumerate" = none) (ha:PA X [a] ta) (hs:starEach [a] X.env=[(false,eval a X.env)]:=by rfl) :
  PI X (.Tuple elts x1 tp) (.Call (.Name "enumerate" p) [a] [] pos) (zT X.K ta):=by
 intro pins s σ H R I h
 refine Call_ (lR I hg hm Fg (Yd (a0 (ha pos pins s σ H _ I h) fun us s1 h0_ => el5 h0_ fun vs H1 I1 r1 q1 => ?_) hs rfl))
 obtain⟨l,e,⟨xs,hq⟩,q⟩:=q1
 subst e
 cases r1 with
 | cons r rr =>
  cases rr
  cases r
  obtain⟨ah,rv,p,hz⟩:=I1.list hq
  refine call_enumerate_list p.isList fun h' he hi hsz hk => ?_
  have I2:Inv X pins σ H1 { s1 with heap:=h' }:=I1.kept (t':=s1.toks) hk
  refine Yu he ?_
  refine⟨_,_,_,_,H1,rfl,I2,Ff l (s1.heap.objs.size + 1) s1.heap.objs.size (q0s _),⟨⟨_,he⟩,hi⟩,fun b hb => ?_,q⟩
  have dD:s1.heap.objs.size <= b:=by
   rcases ML.mp hb with rfl | hb
   ·exact q0h _
   ·have z:b=s1.heap.objs.size:=by simpa using hb
    rw[z];exact qU _
  exact I1.gX dD (I1.aM.fresh dD)
end
section
variable {X:Cx} {nm:Str} {tp:Pos}
end
end L2
namespace L2
open PySem PySem.Spec PyProof.Rows PySem.W
open Builtin Builtin.ObjectAttr
section
variable {prog:Program} {w:World} {A:Around} {E:Value->Shared->Prop} {s:Shared} {K:Frag} {x D:Addr} {ox:Obj} {Wb:Option Obj} {name:Str}
variable {h:Heap} {g:Array GenState} {d:Drawn} {t:Nat} {os:OsState} {nm q:Str} {C N:Addr} {bs bm Wc:List Value} {Na:Bool} {sn:List Str} {sub:List Value} {ab:Bool} {col:Option Bool} {dd:Option Addr} {k0 k1 k2 k3 k5:Option Value} {B newId zU:String}
end
end L2
namespace L2
open PySem PySem.Spec PyProof.Rows
section
variable {X:Cx} {pins:List (Addr × Obj)} {σ : St} {H:Hp} {s:Shared} {C f:Addr} {CX:jE} {k:Nat} {fd:FuncData} {ps:List Str} {sp:Sp} {E:XK} {x:Str} {p pos pos':Pos} {e o value:Expr} {es:List Expr} {ta tv:TE} {t:TA}
end
section
variable {X:Cx}
noncomputable def tL:V->Option Value
 | .ty n=>some (.type n)
 | .ref a=>some (.ref a)
 | _=>none
theorem Nc {y:V} {u c:Value} (r:RelV y u) (e:tL y=some c):u=c:=by
 cases y with
 | ty n=>cases e;exact r
 | ref a=>cases e;exact r
 | _=>cases e
theorem Nd:fY X (.builtin "isinstance") (fun xs H Q=>∃ x y c t b,xs=[x,y]/\tL y=some c/\dX X.K H x t/\PySem.W.kitOne X.K t c=some b/\Q (.bl b) H):=by
 intro pins s σ H xs us Q I rv h
 obtain⟨x,y,c,t,b,rfl,hc,ty,e,q⟩:=h
 obtain⟨u,w',rfl,rx,ry⟩:=rv.two
 rw[Nc ry hc]
 exact LS I rx ty e fun tk=>⟨.bl b,H,I.tok tk,rfl,q⟩
end
theorem Fh {K:PySem.W.Frag} {a:Addr} {xs:List V} {g:TG} {tb:TS} {D:Ends} {σ : St} {H:Hp} (Pv:Nat->St->Hp->Prop) (h0:Pv 0 σ H) (hl:∀ i σ H,i <= xs.length->Pv i σ H->bh K H a xs)
  (hs:∀ i x T σ H,xs[i]? = some x->Pv i σ H->H T=none->g (.ref T) σ (upd H T (.tup [.int (i:Nat),x])) fun σ2 H2=>tb { D with nx:=Pv (i + 1),ct:=Pv (i + 1),bk:=D.nx } σ2 H2) (hd:∀ σ H,Pv xs.length σ H->D.nx σ H) :
  ∃ W:Nat->Nat->St->Hp->Prop,(∃ m,W 0 m σ H)/\∀ i m σ H,W i m σ H →
   ((qW K a).stop i H/\D.nx σ H)\/((qW K a).go i H/\∃ N:St->Hp->Prop,(∀ σ' H',N σ' H'->∃ m',m' < m/\W (i + 1) m' σ' H')/\∀ x H',(qW K a).qN i H x H'->g x σ H' fun σ2 H2=>tb { D with nx:=N,ct:=N,bk:=D.nx } σ2 H2):=by
 refine⟨fun i m σ H=>m=xs.length - i/\i <= xs.length/\Pv i σ H,⟨xs.length,by simp,Xl _,h0⟩,?_⟩
 rintro i m σ H ⟨rfl,hi,p⟩
 have q:=hl i σ H hi p
 by_cases cj:i < xs.length
 ·refine .inr ⟨⟨xs,xs[i],q,by simp[cj]⟩,Pv (i + 1),fun σ' H' p'=>⟨xs.length - (i + 1),by omega,rfl,cj,p'⟩,fun x H' y => ?_⟩
  obtain⟨T,v,rfl,hT,rfl,y⟩:=y
  exact hs i v T σ H (y xs q) p hT
 ·have e:i=xs.length:=by omega
  subst e
  exact .inl ⟨⟨xs,q,qU _⟩,hd σ H p⟩
section
variable {g:TG} {tf:TT} {te:TE} {l:Addr} {τ0:St} {H0:Hp} {Q:VK}
end
section
variable {X:Cx} {es:List Expr} {te:TE} {t:TA}
theorem zV {c j p} (ha:PE X (.Constant c j p) te) (hr:PA X es t):PA X (.Constant c j p :: es) (fZ te t):=oT ha hr rfl
theorem zW {x p} (ha:PE X (.Name x p) te) (hr:PA X es t):PA X (.Name x p :: es) (fZ te t):=oT ha hr rfl
theorem zX {f a k p} (ha:PE X (.Call f a k p) te) (hr:PA X es t):PA X (.Call f a k p :: es) (fZ te t):=oT ha hr rfl
theorem zY {a p} (ha:PE X (.List a p) te) (hr:PA X es t):PA X (.List a p :: es) (fZ te t):=oT ha hr rfl
theorem zZ {a k p} (ha:PE X (.Tuple a k p) te) (hr:PA X es t):PA X (.Tuple a k p :: es) (fZ te t):=oT ha hr rfl
theorem z_ {a k p} (ha:PE X (.Subscript a k p) te) (hr:PA X es t):PA X (.Subscript a k p :: es) (fZ te t):=oT ha hr rfl
end
inductive D where
 | non | bl (b:Bool) | int (i:Int) | str (x:Str) | tup (xs:List D) | lst (xs:List D)
mutual
noncomputable def Is (H:Hp):D->V->Prop
 | .non,v=>v = .non
 | .bl b,v=>v = .bl b
 | .int i,v=>v = .int i
 | .str x,v=>v = .str x
 | .tup ds,v=>∃ a vs,v = .ref a/\H a=some (.tup vs)/\af H ds vs
 | .lst ds,v=>∃ a vs,v = .ref a/\H a=some (.lst vs)/\af H ds vs
noncomputable def af (H:Hp):List D->List V->Prop
 | [],vs=>vs=[]
 | d :: ds,vs=>∃ v r,vs=v :: r/\Is H d v/\af H ds r
end
mutual
theorem Is.same {H H':Hp} (s:aA H H'):∀ {d:D} {v:V},Is H d v->Is H' d v
 | .non,_,h=>h
 | .bl _,_,h=>h
 | .int _,_,h=>h
 | .str _,_,h=>h
 | .tup _,_,h=>by
  simp only[Is] at h ⊢
  obtain⟨a,vs,e,h1,h2⟩:=h
  exact⟨a,vs,e,s _ _ h1,af.same s h2⟩
 | .lst _,_,h=>by
  simp only[Is] at h ⊢
  obtain⟨a,vs,e,h1,h2⟩:=h
  exact⟨a,vs,e,s _ _ h1,af.same s h2⟩
theorem af.same {H H':Hp} (s:aA H H'):∀ {d:List D} {v:List V},af H d v->af H' d v
 | [],_,h=>h
 | _ :: _,_,h=>by
  simp only[af] at h ⊢
  obtain⟨v,r,e,h1,h2⟩:=h
  exact⟨v,r,e,Is.same s h1,af.same s h2⟩
end
theorem af.length {H:Hp}:∀ {ds:List D} {vs:List V},af H ds vs->vs.length=ds.length
 | [],_,h=>by simp only[af] at h;rw[h];rfl
 | _ :: _,_,h=>by
  simp only[af] at h
  obtain⟨v,r,rfl,_,h2⟩:=h
  rw[My,My,af.length h2]
theorem af.get {H:Hp}:∀ {ds:List D} {vs:List V} {i:Nat} {v:V},af H ds vs->vs[i]? = some v->∃ d,ds[i]? = some d/\Is H d v
 | [],_,i,v,h,e=>by simp only[af] at h;rw[h] at e;simp at e
 | d :: ds,_,i,v,h,e=>by
  simp only[af] at h
  obtain⟨v',r,rfl,h1,h2⟩:=h
  cases i with
  | zero=>simp at e;subst e;exact⟨d,rfl,h1⟩
  | succ i=>simp at e;simpa using af.get h2 e
theorem af.nil {H:Hp}:af H [] []:=by simp only[af]
theorem af.cons {H:Hp} {d:D} {ds:List D} {v:V} {vs:List V} (h:Is H d v) (r:af H ds vs):af H (d :: ds) (v :: vs):=by
 simp only[af]
 exact⟨v,vs,rfl,h,r⟩
theorem af.snoc {H:Hp} {d:D} {v:V}:∀ {ds:List D} {vs:List V},af H ds vs->Is H d v->af H (ds ++ [d]) (vs ++ [v])
 | [],_,h,q=>by simp only[af] at h;subst h;exact .cons q .nil
 | _ :: _,_,h,q=>by
  simp only[af] at h
  obtain⟨v',r,rfl,h1,h2⟩:=h
  exact .cons h1 (af.snoc h2 q)
mutual
noncomputable def dep:D->Nat
 | .tup ds=>cu ds + 1
 | .lst ds=>cu ds + 1
 | _=>0
noncomputable def cu:List D->Nat
 | []=>0
 | d :: ds=>max (dep d) (cu ds)
end
mutual
noncomputable def Nf:D->Bool
 | .tup _=>false
 | .lst ds=>decide (ds.length <= 1000) && Fi ds
 | _=>true
noncomputable def Fi:List D->Bool
 | []=>true
 | d :: ds=>Nf d && Fi ds
end
theorem Aa:∀ {ds:List D} {i:Nat} {d:D},ds[i]? = some d->dep d <= cu ds
 | [],i,d,e=>by simp at e
 | d' :: ds,0,d,e=>by simp at e;subst e;simp only[cu];exact Nat.le_max_left _ _
 | d' :: ds,i + 1,d,e=>by simp at e;simp only[cu];exact XO (Aa e) (Nat.le_max_right _ _)
noncomputable def gF:D->String
 | .non => "NoneType" | .bl _ => "bool" | .int _ => "int" | .str _ => "str" | .tup _ => "tuple" | .lst _ => "list"
theorem Is.ty {K:PySem.W.Frag} {H:Hp}:∀ {d:D} {v:V},Is H d v->dX K H v (.type (gF d))
 | .non,_,h=>by cases (show _=_ from h);exact .non
 | .bl b,_,h=>by cases (show _=_ from h);exact .bl b
 | .int i,_,h=>by cases (show _=_ from h);exact .int i
 | .str x,_,h=>by cases (show _=_ from h);exact .str x
 | .tup _,_,h=>by
  simp only[Is] at h
  obtain⟨a,vs,rfl,h1,_⟩:=h
  exact .tup h1
 | .lst _,_,h=>by
  simp only[Is] at h
  obtain⟨a,vs,rfl,h1,_⟩:=h
  exact .lst h1
noncomputable def d4 (T c:String):Bool:=T == c || (T == "bool" && c == "int")
section
variable {K:PySem.W.Frag}
theorem Ng:∀ T∈["NoneType", "bool", "int", "str", "tuple", "list"],PySem.W.kitOne K (.type T) (.type "bool")=some (d4 T "bool"):=by
 intro T hT
 simp only[ML,W_,YX] at hT
 rcases hT with rfl | rfl | rfl | rfl | rfl | rfl<;>kernel_rfl
theorem Nh:∀ T∈["NoneType", "bool", "int", "str", "tuple", "list"],PySem.W.kitOne K (.type T) (.type "int")=some (d4 T "int"):=by
 intro T hT
 simp only[ML,W_,YX] at hT
 rcases hT with rfl | rfl | rfl | rfl | rfl | rfl<;>kernel_rfl
theorem kit_tuple:∀ T∈["NoneType", "bool", "int", "str", "tuple", "list"],PySem.W.kitOne K (.type T) (.type "tuple")=some (d4 T "tuple"):=by
 intro T hT
 simp only[ML,W_,YX] at hT
 rcases hT with rfl | rfl | rfl | rfl | rfl | rfl<;>kernel_rfl
theorem Ni:∀ T∈["NoneType", "bool", "int", "str", "tuple", "list"],PySem.W.kitOne K (.type T) (.type "list")=some (d4 T "list"):=by
 intro T hT
 simp only[ML,W_,YX] at hT
 rcases hT with rfl | rfl | rfl | rfl | rfl | rfl<;>kernel_rfl
theorem v5 (d:D):gF d∈["NoneType", "bool", "int", "str", "tuple", "list"]:=by cases d<;>simp[gF]
end
section
variable {X:Cx}
theorem PE.weak {e:Expr} {t t':TE} (h:PE X e t) (k:∀ σ H Q,t' σ H Q->t σ H Q):PE X e t':=fun pins s σ H Q I q=>h pins s σ H Q I (k σ H Q q)
theorem PT.weak {e:Expr} {t t':TT} (h:PT X e t) (k:∀ σ H Q,t' σ H Q->t σ H Q):PT X e t':=fun pins s σ H Q I q=>h pins s σ H Q I (k σ H Q q)
theorem PA.weak {es:List Expr} {t t':TA} (h:PA X es t) (k:∀ σ H Q,t' σ H Q->t σ H Q):PA X es t':=fun pos pins s σ H Q I q=>h pos pins s σ H Q I (k σ H Q q)
theorem PS.weak {st:Stmt} {t t':TS} (h:PS X st t) (k:∀ D σ H,t' D σ H->t D σ H):PS X st t':=fun pins s σ H D I q=>h pins s σ H D I (k D σ H q)
theorem hV.weak {st:List Stmt} {t t':TS} (h:hV X st t) (k:∀ D σ H,t' D σ H->t D σ H):hV X st t':=fun pins s σ H D I q=>h pins s σ H D I (k D σ H q)
end
section
variable {κ : Type} [DecidableEq κ]
noncomputable def bT (kvs:List (κ × V)) (k : κ):Option V:=(kvs.find? fun kv=>decide (kv.1=k)).map (·.2)
noncomputable def putK (kvs:List (κ × V)) (k : κ) (v:V):List (κ × V) :=
 if (kvs.any fun kv=>decide (kv.1=k))=true then kvs.map (fun kv=>if kv.1=k then (kv.1,v) else kv) else kvs ++ [(k,v)]
theorem tM {p : κ × V} {r:List (κ × V)} {k : κ} (e:p.1=k):bT (p :: r) k=some p.2:=by simp[bT,YZ,e]
theorem tN {p : κ × V} {r:List (κ × V)} {k : κ} (e:¬ p.1=k):bT (p :: r) k=bT r k:=by simp[bT,YZ,e]
theorem Ab (k : κ):∀ kvs:List (κ × V),(kvs.any fun kv=>decide (kv.1=k))=(bT kvs k).isSome
 | []=>rfl
 | p :: r=>by
  rw[YI]
  by_cases e:p.1=k
  ·simp only[tM e,Wz e,Bool.true_or,Option.isSome_some]
  ·rw[tN e,WK e,Bool.false_or];exact Ab k r
theorem Ac (kvs:List (κ × V)) (k : κ) (v:V):(putK kvs k v).length <= kvs.length + 1:=by
 unfold putK
 split
 ·rw[pd];omega
 ·rw[EZ,My,YY];omega
theorem Nj {kvs:List (κ × V)} {k : κ} (v:V) (h:bT kvs k=none):putK kvs k v=kvs ++ [(k,v)]:=by
 unfold putK
 rw[Ab,h]
 exact V0 (by decide)
theorem iW.eS {o:Option V} {u:Option Value} (r:iW o u):o.isSome=u.isSome:=by
 cases o with
 | none=>cases u with
  | none=>rfl
  | some _=>exact (show False from r).elim
 | some _=>cases u with
  | none=>exact (show False from r).elim
  | some _=>rfl
theorem KV.val {kvs:List (κ × V)} {vs:List (κ × Value)} (r:KV kvs vs) (k : κ):iW (bT kvs k) (valueAt vs k):=by
 unfold KV at r
 induction r with
 | nil=>exact True.intro
 | @cons p q ps qs h t ih =>
  obtain⟨h1,h2⟩:=h
  by_cases e:p.1=k
  ·have e':q.1=k:=h1.symm.trans e
   have b:valueAt (q :: qs) k=some q.2:=by simp[valueAt,YZ,e']
   rw[tM e,b];exact h2
  ·have e':¬ q.1=k:=fun z=>e (h1.trans z)
   have b:valueAt (q :: qs) k=valueAt qs k:=by simp[valueAt,YZ,e']
   rw[tN e,b];exact ih
theorem KV.any {kvs:List (κ × V)} {vs:List (κ × Value)} (r:KV kvs vs) (k : κ):(kvs.any fun kv=>decide (kv.1=k))=vs.any fun kv=>decide (kv.1=k):=by
 unfold KV at r
 induction r with
 | nil=>rfl
 | cons h t ih=>rw[YI,YI,ih,h.1]
theorem KV.i5 {kvs:List (κ × V)} {vs:List (κ × Value)} (r:KV kvs vs) (k : κ) {y:V} {u:Value} (ry:RelV y u) :
  KV (kvs.map fun kv=>if kv.1=k then (kv.1,y) else kv) (vs.map fun kv=>if kv.1=k then (kv.1,u) else kv):=by
 unfold KV at r ⊢
 induction r with
 | nil=>exact .nil
 | @cons p q ps qs h t ih =>
  rw[WW,WW]
  refine .cons ?_ ih
  obtain⟨h1,h2⟩:=h
  by_cases e:p.1=k
  ·rw[V8 e,V8 (h1.symm.trans e)];exact⟨h1,ry⟩
  ·rw[V0 e,V0 (fun z=>e (h1.trans z))];exact⟨h1,h2⟩
theorem KV.put {kvs:List (κ × V)} {vs:List (κ × Value)} (r:KV kvs vs) (k : κ) {y:V} {u:Value} (ry:RelV y u):KV (putK kvs k y) (stored vs k u):=by
 unfold putK stored
 rw[r.any k]
 by_cases e:(vs.any fun kv=>decide (kv.1=k))=true
 ·rw[V8 e,V8 e];exact r.i5 k ry
 ·rw[V0 e,V0 e];exact Paired.snoc r ⟨rfl,ry⟩
theorem KV.length {kvs:List (κ × V)} {vs:List (κ × Value)} (r:KV kvs vs):kvs.length=vs.length:=Paired.length r
end
theorem v7 {P:Program} {w:World} {k:Key} {u:Value} (r:RelV (kV k) u):(ib P w).is k u=true:=by
 cases k with
 | inl i=>obtain⟨t,e⟩:=(show ∃ t,u=Value.int i t from r);subst e;exact Kw P w i t
 | inr x=>obtain⟨t,e⟩:=(show ∃ t,u=Value.str x t from r);subst e;exact Kx P w x t
theorem Fj {P:Program} {w:World}:∀ {ks:List Key} {us:List Value},Vals (ks.map kV) us->ItemsAre (ib P w) ks us
 | [],_,r=>by rw[YU] at r;cases r;exact .nil
 | k :: ks,_,r=>by
  rw[WW] at r
  cases r with
  | cons h t=>exact .cons (v7 h) (Fj t)
noncomputable abbrev KT (H:Hp):List (List Key × V)->List (List Key × Addr × Value)->Prop:=Paired fun p q=>p.1=q.1/\H q.2.1=some (.tup (p.1.map kV))/\RelV p.2 q.2.2
theorem KT.val {H:Hp} {kvs:List (List Key × V)} {xs:List (List Key × Addr × Value)} (r:KT H kvs xs) (k:List Key):iW (bT kvs k) ((atKey xs k).map (·.2)):=by
 induction r with
 | nil=>exact True.intro
 | @cons p q ps qs h t ih =>
  obtain⟨h1,_,h2⟩:=h
  by_cases e:p.1=k
  ·have e':q.1=k:=h1.symm.trans e
   have b:atKey (q :: qs) k=some q.2:=by simp[atKey,YZ,e']
   rw[tM e,b];exact h2
  ·have e':¬ q.1=k:=fun z=>e (h1.trans z)
   have b:atKey (q :: qs) k=atKey qs k:=by simp[atKey,YZ,e']
   rw[tN e,b];exact ih
theorem KT.i5 {H:Hp} {kvs:List (List Key × V)} {xs:List (List Key × Addr × Value)} (r:KT H kvs xs) (k:List Key) {y:V} {u:Value} (ry:RelV y u) :
  KT H (kvs.map fun kv=>if kv.1=k then (kv.1,y) else kv) (xs.map (putAt k u)):=by
 induction r with
 | nil=>exact .nil
 | @cons p q ps qs h t ih =>
  rw[WW,WW]
  refine .cons ?_ ih
  obtain⟨h1,h2,h3⟩:=h
  unfold putAt
  by_cases e:p.1=k
  ·rw[V8 e,V8 (h1.symm.trans e)];exact⟨h1,h2,ry⟩
  ·rw[V0 e,V0 (fun z=>e (h1.trans z))];exact⟨h1,h2,h3⟩
theorem KT.put {H:Hp} {kvs:List (List Key × V)} {xs:List (List Key × Addr × Value)} (r:KT H kvs xs) (k:List Key) {b:Addr} {y:V} {u:Value} (hb:H b=some (.tup (k.map kV))) (ry:RelV y u) :
  KT H (putK kvs k y) (storedH xs k b u):=by
 have e:(kvs.any fun kv=>decide (kv.1=k))=(atKey xs k).isSome:=by
  rw[Ab,(r.val k).eS,Option.isSome_map]
 unfold putK storedH
 rw[e]
 by_cases q:(atKey xs k).isSome=true
 ·rw[V8 q,V8 q];exact r.i5 k ry
 ·rw[V0 q,V0 q];exact Paired.snoc r ⟨rfl,hb,ry⟩
theorem KT.keeps {H H':Hp} {kvs:List (List Key × V)} {xs:List (List Key × Addr × Value)} (r:KT H kvs xs) (ht:∀ b ys,H b=some (.tup ys)->H' b=some (.tup ys)):KT H' kvs xs :=
 Paired.oC r fun _ _ z=>⟨z.1,ht _ _ z.2.1,z.2.2⟩
section
variable {P:Program} {w:World} {H:Hp} {h:Heap} {a:Addr}
theorem Fl {u:HO} (ok:dS P w H h) (e:Rd H a u):aI P w H h a u:=e.ok ok
theorem Fm {kvs:List (Key × V)} (ok:dS P w H h) (e:Rd H a (.dK kvs)):kvs.length <= sizeLine/\(a == sysModules)=false/\∃ vs,KV kvs vs/\h.DictOf (ib P w) a vs :=
 show aI P w H h a (.dK kvs) from Fl ok e
theorem v8 {kvs:List (Key × V)} (ok:dS P w H h) (e:H a=some (.dK kvs)):kvs.length <= sizeLine/\(a == sysModules)=false/\∃ vs,KV kvs vs/\h.DictOf (ib P w) a vs:=Fm ok (.inl e)
theorem Ad {ks:List Key} (ok:dS P w H h) (e:H a=some (.tup (ks.map kV))):(tupleKind (ib P w)).is h ks a:=by
 obtain⟨_,ah,r,o,h1,h2,n,h3⟩:=(show aI P w H h a (.tup (ks.map kV)) from ok a _ e)
 exact⟨o,ah.toArray,n,h1,h2,h3,by simpa using Fj r⟩
theorem Fo {kvs:List (List Key × V)} (ok:dS P w H h) (e:Rd H a (.dT kvs)):kvs.length <= sizeLine/\(a == sysModules)=false ∧
  ∃ xs,KT H kvs xs/\h.DictOfH (tupleKind (ib P w)) a xs:=by
 obtain⟨z,y,xs,r,o,es,ep,h1,h2,h3,h4,h5⟩:=(show aI P w H h a (.dT kvs) from Fl ok e)
 refine⟨z,y,xs,r,o,es,ep,h1,h2,h3,h4,fun x hx => ?_,h5⟩
 have all:∀ {l:List (List Key × V)} {m:List (List Key × Addr × Value)},KT H l m->∀ x∈m,(tupleKind (ib P w)).is h x.1 x.2.1:=by
  intro l m q
  induction q with
  | nil=>intro x hx;exact nomatch hx
  | @cons p q ps qs hq t ih =>
   intro x hx
   rcases ML.mp hx with e | hx
   ·subst e
    exact Ad ok (by rw[<-hq.1];exact hq.2.1)
   ·exact ih x hx
 exact all r x hx
theorem Nk {kvs:List (List Key × V)} (ok:dS P w H h) (e:H a=some (.dT kvs)):kvs.length <= sizeLine/\(a == sysModules)=false ∧
  ∃ xs,KT H kvs xs/\h.DictOfH (tupleKind (ib P w)) a xs:=Fo ok (.inl e)
end
noncomputable def jK (H:Hp) (a:Addr) (y:V) (r:Option V):Prop :=
 (∃ kvs k,Rd H a (.dK kvs)/\y=kV k/\r=bT kvs k)\/∃ kvs k b,Rd H a (.dT kvs)/\y = .ref b/\H b=some (.tup (k.map kV))/\r=bT kvs k
noncomputable def ku (H:Hp) (a:Addr) (y v:V) (H':Hp):Prop :=
 (∃ kvs k,H a=some (.dK kvs)/\y=kV k/\kvs.length < sizeLine/\H'=upd H a (.dK (putK kvs k v))) ∨
 ∃ kvs k b,H a=some (.dT kvs)/\y = .ref b/\H b=some (.tup (k.map kV))/\kvs.length < sizeLine/\H'=upd H a (.dT (putK kvs k v))
theorem jK.k {H:Hp} {a:Addr} {kvs:List (Key × V)} {k:Key} (e:H a=some (.dK kvs)):jK H a (kV k) (bT kvs k) := .inl ⟨kvs,k,.inl e,rfl,rfl⟩
theorem ku.k {H:Hp} {a:Addr} {kvs:List (Key × V)} {k:Key} {v:V} (e:H a=some (.dK kvs)) (hl:kvs.length < sizeLine):ku H a (kV k) v (upd H a (.dK (putK kvs k v))) := .inl ⟨kvs,k,e,rfl,hl,rfl⟩
section
variable {X:Cx} {pins:List (Addr × Obj)} {σ : St} {H:Hp} {s:Shared} {a:Addr} {y v:V} {u r:Value} {o:Option V} {A:Around} {E:Value->Shared->Prop}
theorem Inv.big (I:Inv X pins σ H s):sysModules < s.heap.objs.size:=by
 have h:mainGlobals < s.heap.objs.size:=(I.mod.glob.keeps I.bk).lt
 exact q0x (by decide) h
theorem Ae {Q:Value->Shared->Prop} (hu:A.units + 1 < cLine) (I:Inv X pins σ H s) (g:jK H a y o) (ry:RelV y u) (h:∀ s',Inv X pins σ H s'->Q (.bool o.isSome) s') :
  wpAny (model X.prog X.w) A (compareOp .In u (.ref a)) Q E s:=by
 rcases g with⟨kvs,k,e,ey,l⟩ | ⟨kvs,k,b,e,ey,eb,l⟩
 ·subst ey
  obtain⟨z,hd,vs,rel,dd⟩:=Fm I.aM e
  refine wpAny_in_of (v7 ry) hd dd.mapOf ?_
  rw[<-(rel.val k).eS,<-l]
  exact h _ (I.tok _)
 ·subst ey
  cases (show u=Value.ref b from ry)
  obtain⟨z,hd,xs,rel,dd⟩:=Fo I.aM e
  refine wpAny_in_heap (tupleKind_room_in1 hu) (Ad I.aM eb) hd dd ?_
  have q:=(rel.val k).eS
  rw[Option.isSome_map] at q
  rw[<-q,<-l]
  exact h _ (I.tok _)
theorem Af {h':Heap} {t':Nat} {ob:HO} (I:Inv X pins σ H s) (mu:sv (H a)) (hs:Heap.SameBut a s.heap h') (he:∃ q,h'.get? a=some q) (new:aI X.prog X.w (upd H a ob) h' a ob) :
  Inv X pins σ (upd H a ob) { s with heap:=h',toks:=t' } :=
 I.write (x:=a) (e:=a) mu (.inl rfl) (fun b q hb z=>(hs.2 b hb).trans z) he new
theorem Fp {P:Program} {w:World} {H':Hp} {h':Heap} {kvs:List (Key × V)} {vs:List (Key × Value)} (z:kvs.length <= sizeLine) (hd:(a == sysModules)=false) (rel:KV kvs vs) (dd:h'.DictOf (ib P w) a vs) :
  aI P w H' h' a (.dK kvs):=⟨z,hd,vs,rel,dd⟩
theorem Nl {H':Hp} {Q:Unit->Shared->Prop} (hu:A.units + 1 < cLine) (I:Inv X pins σ H s) (g:ku H a y v H') (ry:RelV y u) (rv:RelV v r) (h:∀ s',Inv X pins σ H' s'->Q () s') :
  wpAny (model X.prog X.w) A (setItem (.ref a) u r) Q E s:=by
 rcases g with⟨kvs,k,e,ey,l,eH⟩ | ⟨kvs,k,b,e,ey,eb,l,eH⟩
 ·subst ey eH
  obtain⟨z,hd,vs,rel,dd⟩:=v8 I.aM e
  have hz:vs.length <= sizeLine:=by rw[<-rel.length];exact z
  have hl:(putK kvs k v).length <= sizeLine:=by have:=Ac kvs k v;omega
  refine wpAny_setItem_pairs (hsz:=hz) (v7 ry) dd fun h' ph hs=>h _ ?_
  have he:∃ q,h'.get? a=some q:=let ⟨q,_,_,hq,_⟩:=ph; ⟨q,hq⟩
  exact Af I (by rw[e];exact True.intro) hs he (Fp hl hd (rel.put k rv) ph)
 ·subst ey eH
  cases (show u=Value.ref b from ry)
  obtain⟨z,hd,xs,rel,dd⟩:=Nk I.aM e
  have hz:xs.length <= sizeLine:=by rw[<-Paired.length rel];exact z
  have hl:(putK kvs k v).length <= sizeLine:=by have:=Ac kvs k v;omega
  refine wpAny_setItem_heap (hsz:=hz) (tupleKind_room_in1 hu) (Ad I.aM eb) dd fun h' ph hs=>h _ ?_
  obtain⟨q,es,ep,hq,h2,h3,h4,_,h5⟩:=ph
  refine Af I (by rw[e];exact True.intro) hs ⟨q,hq⟩ ⟨hl,hd,_,(rel.put k eb rv).keeps fun c ys ec => ?_,q,es,ep,hq,h2,h3,h4,h5⟩
  rw[aO (Ky ec e (fun z=>nomatch z))]
  exact ec
end
section
variable {X:Cx} {pins:List (Addr × Obj)} {σ : St} {H:Hp} {s:Shared} {a:Addr} {kvs:List (Key × V)} {k:Key} {u:Value} {A:Around} {E:Value->Shared->Prop}
end
noncomputable def px (ty td:TE):TE:=fun σ H Q=>ty σ H fun y H1=>td σ H1 fun x H2=>∃ a o,x = .ref a/\jK H2 a y o/\Q (.bl o.isSome) H2
noncomputable def Fq (td ty tv:TE):TS:=fun D σ H=>tv σ H fun v H1=>td σ H1 fun x H2=>ty σ H2 fun y H3=>∃ a H4,x = .ref a/\ku H3 a y v H4/\D.nx σ H4
section
variable {X:Cx} {o i e value:Expr} {pos pos' zh:Pos} {td ty tv:TE}
theorem Nm (hu:X.A.units + 1 < cLine) (hi:PE X i ty) (ho:PE X o td):PC X .In i o (px ty td):=by
 intro pins s σ H Q I h
 refine a0 (hi pins s σ H _ I h) fun iv s1 h0_ => el5 h0_ fun y H1 I1 ry q1 =>a0 (ho pins s1 σ H1 _ I1 q1) fun u s2 ⟨x,H2,I2,rx,a,ov,ex,g,q2⟩ => ?_
 subst ex
 obtain rfl:u=Value.ref a:=rx
 exact Ae hu I2 g ry fun s3 I3=>⟨.bl ov.isSome,H2,I3,rfl,q2⟩
theorem Nn (hu:X.A.units + 1 < cLine) (ho:PE X o td) (hi:PE X i ty) (hv:PE X value tv) (hs:swapsWith value (some (.Subscript o i pos')) pos.line X.env=pure false) :
  PS X (.Assign [.Subscript o i pos'] value pos) (Fq td ty tv):=by
 intro pins s σ H D I h
 refine wpAny_Assign_Subscript (a0 (hv pins s σ H _ I h) fun r s1 h0_ => el5 h0_ fun v H1 I1 rv q1 =>a0 (ho pins s1 σ H1 _ I1 q1) fun u s2 h0_ => el5 h0_ fun x H2 I2 rx q2 =>a0 (hi pins s2 σ H2 _ I2 q2) fun iv s3 ⟨y,H3,I3,ry,a,H4,ex,g,q3⟩ => ?_) hs
 subst ex
 obtain rfl:u=Value.ref a:=rx
 exact Nl hu I3 g ry rv fun s4 I4=>⟨σ,H4,I4,q3⟩
end
theorem Np {P:Program} {w:World} {H:Hp} (h:Heap) (hb:sysModules < h.objs.size):aI P w H (h.push { cls := .type "dict",data := .dict #[] }) h.objs.size (.dK []) :=
 ⟨Xl _,beq_eq_false_iff_ne.mpr (Ys (Ww hb)),[],.nil,Heap.DictOf.new h⟩
noncomputable def Ag:TE:=fun _ H Q=>∀ p,H p=none->Q (.ref p) (upd H p (.dK []))
section
variable {X:Cx} {pos:Pos}
theorem Nq:PE X (.Dict [] [] pos) Ag:=fun pins s σ H Q I h =>
 wpAny_Dict_empty ⟨.ref s.heap.objs.size,_,I.laid (a:=s.heap.objs.size) (o := .dK []) (t':=s.toks) (fun _ _ q=>sW _ q) (qU _) (Np s.heap I.big),rfl,h _ (I.aM.fresh (qU _))⟩
end
section
variable {X:Cx} {pins:List (Addr × Obj)} {σ : St} {H:Hp} {s:Shared} {a:Addr} {y d:V} {u r:Value} {o:Option V} {A:Around} {E:Value->Shared->Prop}
end
section
variable {X:Cx} {o e f:Expr} {apos cI:Pos} {td ty tx:TE}
end
section
variable {X:Cx} {pins:List (Addr × Obj)} {σ : St} {H:Hp} {s:Shared} {a:Addr} {kvs:List (Key × V)} {A:Around} {E:Value->Shared->Prop}
end
section
variable {X:Cx} {pins:List (Addr × Obj)} {σ : St} {H:Hp} {s:Shared} {a:Addr} {y:V} {u:Value} {A:Around} {E:Value->Shared->Prop}
end
end L2
namespace L2
section
variable {κ : Type} [DecidableEq κ]
end
end L2
namespace L2
open PySem PySem.Spec PyProof.Rows
structure JE (X:Cx) (e:Expr) (t:TE):Prop where
 out:PE X e t
structure JT (X:Cx) (e:Expr) (t:TT):Prop where
 out:PT X e t
structure JW (X:Cx) (e:Expr) (t:TT):Prop where
 out:PW X e t
structure JA (X:Cx) (es:List Expr) (t:TA):Prop where
 out:PA X es t
structure JS (X:Cx) (st:Stmt) (t:TS):Prop where
 out:PS X st t
structure fO (X:Cx) (st:List Stmt) (t:TS):Prop where
 out:hV X st t
structure JF (X:Cx) (ifs:List Expr) (t:TT):Prop where
 out:PF X ifs t
structure JG (X:Cx) (tg:Expr) (t:TG):Prop where
 out:PG X tg t
structure j3 (X:Cx) (ts:List Expr) (t:jj):Prop where
 out:sF X ts t
structure JI (X:Cx) (tg iter:Expr) (wi:TI):Prop where
 out:PI X tg iter wi
structure JC (X:Cx) (op:CmpOp) (a b:Expr) (t:TE):Prop where
 out:PC X op a b t
theorem JE.weak {X:Cx} {e:Expr} {t t':TE} (h:JE X e t) (k:∀ σ H Q,t' σ H Q->t σ H Q):JE X e t':=⟨PE.weak h.out k⟩
theorem JT.weak {X:Cx} {e:Expr} {t t':TT} (h:JT X e t) (k:∀ σ H Q,t' σ H Q->t σ H Q):JT X e t':=⟨PT.weak h.out k⟩
theorem JA.weak {X:Cx} {es:List Expr} {t t':TA} (h:JA X es t) (k:∀ σ H Q,t' σ H Q->t σ H Q):JA X es t':=⟨PA.weak h.out k⟩
theorem JS.weak {X:Cx} {st:Stmt} {t t':TS} (h:JS X st t) (k:∀ D σ H,t' D σ H->t D σ H):JS X st t':=⟨PS.weak h.out k⟩
theorem fO.weak {X:Cx} {st:List Stmt} {t t':TS} (h:fO X st t) (k:∀ D σ H,t' D σ H->t D σ H):fO X st t':=⟨hV.weak h.out k⟩
theorem JW.jt {X:Cx} {e:Expr} {t:TT} (h:JW X e t):JT X e t:=⟨PW.pt h.out⟩
theorem Nr {X:Cx} {i:Nat} {x:Str} {pos:Pos} (hN:X.N[i]? = some x) (hv:oE X.env.scope x) (hd:(x == ("__debug__" : Str))=false:=by decide) (fJ:(x == ("__classdict__" : Str))=false:=by decide):JE X (.Name x pos) (gm i):=⟨L2.Ee hN hv hd fJ⟩
theorem dm {X:Cx} {i j pos}:JE X (.Constant (.int i) j pos) (tC (.int i)):=⟨L2.KI⟩
theorem Nt {X:Cx} {b j pos}:JE X (.Constant (.bool b) j pos) (tC (.bl b)):=⟨L2.KJ⟩
theorem Nu {X:Cx} {x:Str} {v:V} {u:Value} {pos:Pos} (hg:Gl X x) (hm:X.mg x=some u) (r:RelV v u) (hd:(x == ("__debug__" : Str))=false:=by decide):JE X (.Name x pos) (tC v):=⟨L2.KN hg hm r hd⟩
theorem Nv {X:Cx} {x:Str} {v:V} {u:Value} {pos:Pos} (hg:Gl X x) (hm:X.mg x=none) (hv:bootBuiltins x=some u) (r:RelV v u) (hn:x ≠ "__name__" := by decide) (hd:(x == ("__debug__" : Str))=false:=by decide):JE X (.Name x pos) (tC v):=⟨L2.KO hg hm hv r hn hd⟩
theorem Nx {X:Cx} {a b:Expr} {pos:Pos} {op:CmpOp} {t:TE} (h:JC X op a b t) (h1:behindInMarks op b=false:=by first | exact KQ _ (by decide) (by decide) | rfl):JT X (.Compare a [op] [b] pos) (tB t):=⟨L2.KP h.out h1⟩
theorem Ny {X:Cx} {e:Expr} {t:TE} (h:JE X e t) (he:∀ whole,isTrue e X.env whole=(do let v <- whole;standAt e.pos;holding [v] (truthy v)):=by intro _;rfl):JT X e (tB t):=⟨L2.KR h.out he⟩
theorem Nz {X:Cx} {a:Expr} {pos:Pos} {tA:TT} (ha:JT X a tA):JW X (.BoolOp .And [a] pos) tA:=⟨L2.KU ha.out⟩
theorem NA {X:Cx} {a:Expr} {pos:Pos} {tA:TT} (ha:JT X a tA):JW X (.BoolOp .Or [a] pos) tA:=⟨L2.KW ha.out⟩
theorem NB {X:Cx} {a b:Expr} {pos:Pos} {tA lg:TT} {rest:List Expr} (ha:JT X a tA) (hb:JW X (.BoolOp .And (b :: rest) pos) lg):JW X (.BoolOp .And (a :: b :: rest) pos) (oH tA lg):=⟨L2.KY ha.out hb.out⟩
theorem NC {X:Cx} {a b:Expr} {pos:Pos} {tA lg:TT} {rest:List Expr} (ha:JT X a tA) (hb:JW X (.BoolOp .Or (b :: rest) pos) lg):JW X (.BoolOp .Or (a :: b :: rest) pos) (yW tA lg):=⟨L2.KZ ha.out hb.out⟩
theorem ND {X:Cx} {a:Expr} {pos:Pos} {tA:TT} (ha:JT X a tA):JT X (.UnaryOp .Not a pos) (sD tA):=⟨L2.K1 ha.out⟩
theorem NF {X:Cx} {a:Expr} {pos:Pos} {op} {t:TE} (h:JE X a t):JE X (.BoolOp op [a] pos) t:=⟨L2.K4 h.out⟩
theorem NG {X:Cx} {a b:Expr} {ta tb:TE} {pos:Pos} {rest:List Expr} (ha:JE X a ta) (hb:JE X (.BoolOp .And (b :: rest) pos) tb):JE X (.BoolOp .And (a :: b :: rest) pos) (Eg ta tb):=⟨L2.K5 ha.out hb.out⟩
theorem NH {X:Cx} {a:Expr} {ta:TE} {pos:Pos} (ha:JE X a ta):JE X (.UnaryOp .Not a pos) (Eh ta):=⟨L2.K6 ha.out⟩
theorem NI {X:Cx} {a b:Expr} {ta tb:TE} {pos:Pos} {tA:TT} {c:Expr} (hc:JT X c tA) (ha:JE X a ta) (hb:JE X b tb):JE X (.IfExp c a b pos) (Ei tA ta tb):=⟨L2.K7 hc.out ha.out hb.out⟩
theorem l9 {X:Cx}  : fO X [] Ej:=⟨L2.K8⟩
theorem pA {X:Cx} {st:Stmt} {rest:List Stmt} {t u:TS} (h1:JS X st t) (h2:fO X rest u):fO X (st :: rest) (ki t u):=⟨L2.K9 h1.out h2.out⟩
theorem tO {X:Cx} {st:Stmt} {t:TS} (h1:JS X st t):fO X [st] t:=⟨L2.K_ h1.out⟩
theorem Fs {X:Cx} {e:Expr} {te:TE} {pos:Pos} (he:JE X e te) (hs:swapsWith e none pos.line X.env=pure false:=by rfl):JS X (.Expr e pos) (yY te):=⟨L2.La he.out hs⟩
theorem Ah {X:Cx} {e:Expr} {te:TE} {pos:Pos} (he:JE X e te):JS X (.Return (some e) pos) (oJ te):=⟨L2.Lb he.out⟩
theorem NJ {X:Cx} {t u:TS} {pos:Pos} {c:Expr} {a b:List Stmt} {tc:TT} (hc:JT X c tc) (ha:fO X a t) (hb:fO X b u):JS X (.If c a b pos) (sE tc t u):=⟨L2.Lc hc.out ha.out hb.out⟩
theorem tP {X:Cx} {pos:Pos} {i:Nat} {x:Str} (hN:X.N.Nodup) (hi:X.N[i]? = some x) (hx:Loc X.env.scope x) (hf:X.fn x=true\/X.env.scope.names.lookup x=some .local:=by first | exact .inl rfl | exact .inr rfl | assumption):JG X (.Name x pos) (lh i):=⟨L2.Ld hN hi hx hf⟩
theorem g5 {X:Cx}  : j3 X [] oM:=⟨L2.Le⟩
theorem tQ {X:Cx} {e:Expr} {es:List Expr} {t:TG} {u:jj} (h1:JG X e t) (h2:j3 X es u) (hs:(assignEach (e :: es) X.env).map (·.2)=assign e X.env :: (assignEach es X.env).map (·.2):=by rfl):j3 X (e :: es) (vQ t u):=⟨L2.Lf h1.out h2.out hs⟩
theorem Ai {X:Cx} {pos:Pos} {es:List Expr} {k:Nat} {t:jj} {n:Nat} (hc:X.calm=true) (h:j3 X es t) (hn:(assignEach es X.env).length=n:=by rfl) (kj:(assignEach es X.env).findIdx? (·.1)=none:=by rfl):JG X (.Tuple es k pos) (oN X.K n t):=⟨L2.Lg hc h.out hn kj⟩
theorem tR {X:Cx} {pos:Pos} {o i:Expr} {to ti:TE} {t:lU} (ho:JE X o to) (hi:JE X i ti) (hs:oK X t) (ha:∀ v,assign (.Subscript o i pos) X.env v=(do
   let ov <- holding [v] (eval o X.env)
   let iv <- holding [v,ov] (eval i X.env)
   standAt pos
   holding [v,ov,iv] (setItem ov iv v)
   release [v,ov,iv] []):=by intro _;rfl):JG X (.Subscript o i pos) (oO to ti t):=⟨L2.Lh ho.out hi.out hs ha⟩
theorem qX {X:Cx} {pos:Pos} {tg e:Expr} {te:TE} {g:TG} (he:JE X e te) (hg:JG X tg g) (hs:swapsWithSole [tg] e pos.line X.env=pure false:=by rfl) (hw:swappedStores [tg] e X.env=pure none:=by rfl) (h1:(assignEach [tg] X.env).map (·.2)=[assign tg X.env]:=by rfl):JS X (.Assign [tg] e pos) (gW te g):=⟨L2.Li he.out hg.out hs hw h1⟩
theorem v9 {X:Cx} {pos:Pos} {i:Nat} {x:Str} {e:Expr} {te:TE} {pos':Pos} (hN:X.N.Nodup) (hi:X.N[i]? = some x) (hx:Loc X.env.scope x) (he:JE X e te) (hs:swapsWith e (some (.Name x pos')) pos.line X.env=pure false:=by rfl) (hf:X.fn x=true\/X.env.scope.names.lookup x=some .local:=by first | exact .inl rfl | exact .inr rfl | assumption):JS X (.Assign [.Name x pos'] e pos) (gW te (lh i)):=⟨L2.Lj hN hi hx he.out hs hf⟩
theorem NK {X:Cx} {pos:Pos} {c:Expr} {body:List Stmt} {tc:TT} {tb:TS} (hp:PassesOwn (model X.prog X.w) X.A X.env X.xe) (hc:JT X c tc) (hb:fO X body tb):JS X (.While c body [] pos) (Ek tc tb):=⟨L2.Lk hp hc.out hb.out⟩
theorem NL {X:Cx} {tg:Expr} {a:Expr} {ta:TA} {p pos:Pos} (hg:Gl X "range") (hm:X.mg "range" = none) (ha:JA X [a] ta) (hs:starEach [a] X.env=[(false,eval a X.env)]:=by rfl):JI X tg (.Call (.Name "range" p) [a] [] pos) (Ep ta):=⟨L2.Lo hg hm ha.out hs⟩
theorem NM {X:Cx} {tg:Expr} {a b:Expr} {ta:TA} {p pos:Pos} (hg:Gl X "range") (hm:X.mg "range" = none) (ha:JA X [a,b] ta) (hs:starEach [a,b] X.env=[(false,eval a X.env),(false,eval b X.env)]:=by rfl) (jm:starEach [b] X.env=[(false,eval b X.env)]:=by rfl):JI X tg (.Call (.Name "range" p) [a,b] [] pos) (Er ta):=⟨L2.Lp hg hm ha.out hs jm⟩
theorem Aj {X:Cx} {tg:Expr} {iter:Expr} {body:List Stmt} {wi:TI} {g:TG} {tb:TS} {pos:Pos} (hp:PassesOwn (model X.prog X.w) X.A X.env X.xe) (hc:X.calm=true) (hi:JI X tg iter wi) (hg:JG X tg g) (hb:fO X body tb) (hs:∀ x,foldedSetIterable iter X.env x=pure x:=by intro _;rfl):JS X (.For tg iter body [] pos) (oP wi g tb):=⟨L2.Lr hp hc hi.out hg.out hb.out hs⟩
theorem tT {X:Cx} {a b:Expr} {ta tb:TE} {pos:Pos} {op:Operator} {r:R2} (ho:dO X (binaryOp op) r) (ha:JE X a ta) (hb:JE X b tb):JE X (.BinOp a op b pos) (lV r ta tb):=⟨L2.Ls ho ha.out hb.out⟩
theorem NN {X:Cx} {a b:Expr} {ta tb:TE} {pos:Pos} {op:CmpOp} {r:R2} (ho:dO X (compareOp op) r) (ha:JE X a ta) (hb:JE X b tb) (hm:behindInMarks op b=false):JE X (.Compare a [op] [b] pos) (lV r ta tb):=⟨L2.LI ho ha.out hb.out hm⟩
theorem NO {X:Cx} {a b:Expr} {ta tb:TE} {pos:Pos} {op:CmpOp} {r:R2} (ho:dO X (compareOp op) r) (ha:JE X a ta) (hb:JE X b tb) (hm:behindInMarks op b=false):JT X (.Compare a [op] [b] pos) (Et (lV r ta tb)):=⟨L2.LL ho ha.out hb.out hm⟩
theorem NP {X:Cx} {a b c:Expr} {ta tb tc:TE} {pos:Pos} {op km:CmpOp} {r r':R2} (ho:dO X (compareOp op) r) (jD:dO X (compareOp km) r') (ha:JE X a ta) (hb:JE X b tb) (hc:JE X c tc) (hm:lastMarks [op,km] [b,c]=false:=by with_unfolding_all rfl):JE X (.Compare a [op,km] [b,c] pos) (Eu r r' ta tb tc):=⟨L2.LM ho jD ha.out hb.out hc.out hm⟩
theorem a8 {X:Cx}  : JA X [] ik:=⟨L2.LU⟩
theorem pB {X:Cx} {e:Expr} {es:List Expr} {te:TE} {t:TA} (ha:JE X e te) (hr:JA X es t) (hs:starEach (e :: es) X.env=(false,eval e X.env) :: starEach es X.env:=by rfl):JA X (e :: es) (fZ te t):=⟨L2.oT ha.out hr.out hs⟩
theorem NQ {X:Cx} {es:List Expr} {t:TA} {pos:Pos} {x1} (h:JA X es t):JE X (.Tuple es x1 pos) (sM t):=⟨L2.LV h.out⟩
theorem v_ {X:Cx} {es:List Expr} {t:TA} {pos:Pos} (h:JA X es t):JE X (.List es pos) (oU t):=⟨L2.LW h.out⟩
theorem wa {X:Cx} {CX:jE} {k:Nat} {f:Addr} {fd:FuncData} {ps:List Str} {sp:Sp} {kq:List V} {ds:List Value} {E:XK} {x:Str} {p pos:Pos} {e:Expr} {es:List Expr} {t:TA} (F:aU X.prog X.w X.K X.mg X.base CX k f fd ps sp) (hr:a7 k X.A) (hg:Gl X x) (hm:X.mg x=some (.ref f)) (hk:PySem.W.keepIn X.K (.ref f)=true) (hb:Binds X.K fd ps ds) (hd:Vals kq ds) (hx:vT CX X E) (ha:JA X (e :: es) t) (gq:(x == ("__debug__" : Str))=false:=by decide) (he:starEach (e :: es) X.env=(false,eval e X.env) :: starEach es X.env:=by rfl) (f6:(backTo pos (starEach es X.env)).any (·.1)=false:=by rfl):JE X (.Call (.Name x p) (e :: es) [] pos) (sO sp kq E t):=⟨L2.LY F hr hg hm hk hb hd hx ha.out gq he f6⟩
theorem tU {X:Cx} {x:Str} {p pos:Pos} {e:Expr} {es:List Expr} {t:TA} {id:String} {r:List V->Hp->VK->Prop} (hc:fY X (.builtin id) r) (hg:Gl X x) (hm:X.mg x=none) (hv:bootBuiltins x=some (.builtin id)) (ha:JA X (e :: es) t) (hn:x ≠ "__name__" := by decide) (gq:(x == ("__debug__" : Str))=false:=by decide) (he:starEach (e :: es) X.env=(false,eval e X.env) :: starEach es X.env:=by rfl) (f6:(backTo pos (starEach es X.env)).any (·.1)=false:=by rfl):JE X (.Call (.Name x p) (e :: es) [] pos) (oW r t):=⟨L2.L1 hc hg hm hv ha.out hn gq he f6⟩
theorem lr {X:Cx} {x:Str} {p pos:Pos} {e:Expr} {es:List Expr} {t:TA} {T:String} {r:List V->Hp->VK->Prop} (hc:fY X (.type T) r) (hg:Gl X x) (hm:X.mg x=none) (hv:bootBuiltins x=some (.type T)) (ha:JA X (e :: es) t) (hn:x ≠ "__name__" := by decide) (gq:(x == ("__debug__" : Str))=false:=by decide) (he:starEach (e :: es) X.env=(false,eval e X.env) :: starEach es X.env:=by rfl) (f6:(backTo pos (starEach es X.env)).any (·.1)=false:=by rfl):JE X (.Call (.Name x p) (e :: es) [] pos) (oW r t):=⟨L2.L5 hc hg hm hv ha.out hn gq he f6⟩
theorem Ak {X:Cx} {e:Expr} {te:TE} {lo hi:Option Expr} {tl th:TO} {pos p2:Pos} {r:V->Option Int->Option Int->Hp->VK->Prop} (hr:l5 X r) (he:JE X e te) (hl:PO X lo tl) (hu:PO X hi th):JE X (.Subscript e (.Slice lo hi none p2) pos) (EJ r te tl th):=⟨L2.Mp hr he.out hl hu⟩
theorem Ft {X:Cx} {a b:Expr} {ta tb:TE} {pos:Pos} {r:R2} (hr:qT X r) (ha:JE X a ta) (hb:JE X b tb) (hs:zv b):JE X (.Subscript a b pos) (lV r ta tb):=⟨L2.Mu hr ha.out hb.out hs⟩
theorem NR {X:Cx} {o:Expr} {to:TE} {name:Str} {apos cI:Pos} {T id:String} {r:V->List V->Hp->VK->Prop} (pa:PlainAttrs T) (slot:Slot T name id) (o7:typeOf (.builtin id)=pure (.type "method_descriptor")) (hm:sU X id r) (ho:JE X o to) (fL:attributeBase o name X.env (eval o X.env)=eval o X.env:=by rfl) (fM:(apos.endLine == cI.line)=true:=by rfl):JE X (.Call (.Attribute o name apos) [] [] cI) (o5 X.K T r to):=⟨L2.MC pa slot o7 hm ho.out fL fM⟩
theorem pC {X:Cx} {o e:Expr} {es:List Expr} {to:TE} {t:TA} {name:Str} {apos cI:Pos} {T id:String} {r:V->List V->Hp->VK->Prop} (pa:PlainAttrs T) (slot:Slot T name id) (o7:typeOf (.builtin id)=pure (.type "method_descriptor")) (hm:sU X id r) (ho:JE X o to) (ha:JA X (e :: es) t) (fL:attributeBase o name X.env (eval o X.env)=eval o X.env:=by rfl) (o8:((backTo cI (starEach (e :: es) X.env)).all (fun x => !x.1) && (backToKw cI (keywordEach [] X.env)).all (fun x=>x.1.isSome)
   && decide ((e :: es).length + ([]:List Keyword).length + (if ([]:List Keyword).isEmpty then 0 else 1) < 30))=true:=by rfl) (fM:(apos.endLine == cI.line)=true:=by rfl) (hs:starEach (e :: es) X.env=(false,eval e X.env) :: starEach es X.env:=by rfl) (hplain:(backTo cI (starEach es X.env)).any (·.1)=false:=by rfl):JE X (.Call (.Attribute o name apos) (e :: es) [] cI) (o6 X.K T r to t):=⟨L2.MD pa slot o7 hm ho.out ha.out fL o8 fM hs hplain⟩
theorem jv {X:Cx} (i:Nat) {x:Str} {pos:Pos} (hN:X.N[i]? = some x:=by rfl) (hv:oE X.env.scope x:=by first | exact Or.inl rfl | exact Or.inr (Or.inl rfl) | exact Or.inr (Or.inr rfl)) (hd:(x == ("__debug__" : Str))=false:=by decide) (fJ:(x == ("__classdict__" : Str))=false:=by decide):JE X (.Name x pos) (gm i):=⟨L2.pv i hN hv hd fJ⟩
theorem NS {X:Cx} {o i:Expr} {td ty:TE} (hu:X.A.units + 1 < cLine) (hi:JE X i ty) (ho:JE X o td):JC X .In i o (px ty td):=⟨L2.Nm hu hi.out ho.out⟩
theorem NT {X:Cx} {o i value:Expr} {pos pos':Pos} {td ty tv:TE} (hu:X.A.units + 1 < cLine) (ho:JE X o td) (hi:JE X i ty) (hv:JE X value tv) (hs:swapsWith value (some (.Subscript o i pos')) pos.line X.env=pure false):JS X (.Assign [.Subscript o i pos'] value pos) (Fq td ty tv):=⟨L2.Nn hu ho.out hi.out hv.out hs⟩
theorem iw {X:Cx} {pos:Pos}  : JE X (.Dict [] [] pos) Ag:=⟨L2.Nq⟩
theorem pD {X:Cx}:JF X [] tu:=⟨L2.MQ⟩
theorem NU {X:Cx} {c:Expr} {t:TT} (h:JT X c t):JF X [c] t:=⟨L2.MR h.out⟩
theorem Fu {X:Cx} {elt tg iter:Expr} {ifs:List Expr} {scope:Scope} {pos:Pos} {wi:TI} {g:BD->TG} {tf:BD->TT} {te:BD->TE} (cp:List (Option Nat)) (Nb:List Str) (hc:X.calm=true) (hi:JI X tg iter wi) (hg:∀ d,JG (cJ X scope Nb d) tg (g d)) (hf:∀ d,JF (cJ X scope Nb d) ifs (tf d)) (he:∀ d,JE (cJ X scope Nb d) elt (te d)) (hk:scope.kind = .function:=by rfl) (ho:lq X.N X.env.scope scope Nb cp=true:=by first | rfl | kernel_rfl) (hs:∀ x,foldedSetIterable iter X.env x=pure x:=by intro _;rfl):JE X (.ListComp elt [⟨tg,iter,ifs,0⟩] scope pos) (pf wi cp g tf te):=⟨L2.M7 cp Nb hc hi.out (fun dd=>(hg dd).out) (fun dd=>(hf dd).out) (fun dd=>(he dd).out) hk ho hs⟩
theorem NV {X:Cx} {elt tg iter:Expr} {ifs:List Expr} {scope:Scope} {pos:Pos} {wi:TI} {g:BD->TG} {tf:BD->TT} {te:BD->TE} (cp:List (Option Nat)) (Nb:List Str) {i:Nat} {x:Str} {pos' iq:Pos} (hN:X.N.Nodup) (hi:X.N[i]? = some x) (hx:Loc X.env.scope x) (hc:X.calm=true) (hit:JI X tg iter wi) (hg:∀ d,JG (cJ X scope Nb d) tg (g d)) (hf:∀ d,JF (cJ X scope Nb d) ifs (tf d)) (he:∀ d,JE (cJ X scope Nb d) elt (te d)) (hk:scope.kind = .function:=by rfl) (ho:lq X.N X.env.scope scope Nb cp=true:=by first | rfl | kernel_rfl) (hs:∀ x,foldedSetIterable iter X.env x=pure x:=by intro _;rfl) (tH:swapsWith (.ListComp elt [⟨tg,iter,ifs,0⟩] scope pos) (some (.Name x pos')) iq.line X.env=pure true:=by rfl) (lQ:X.fn x=true\/X.env.scope.names.lookup x=some .local:=by first | exact .inl rfl | exact .inr rfl | assumption):JS X (.Assign [.Name x pos'] (.ListComp elt [⟨tg,iter,ifs,0⟩] scope pos) iq) (gW (pf wi cp g tf te) (lh i)):=⟨L2.M8 cp Nb hN hi hx hc hit.out (fun dd=>(hg dd).out) (fun dd=>(hf dd).out) (fun dd=>(he dd).out) hk ho hs tH lQ⟩
theorem Fv {X:Cx} {elts:List Expr} {x1:Nat} {tp:Pos} {a:Expr} {ta:TA} {p pos:Pos} (hg:Gl X "enumerate") (hm:X.mg "enumerate" = none) (ha:JA X [a] ta) (hs:starEach [a] X.env=[(false,eval a X.env)]:=by rfl):JI X (.Tuple elts x1 tp) (.Call (.Name "enumerate" p) [a] [] pos) (zT X.K ta):=⟨L2.M_ hg hm ha.out hs⟩
theorem Al {X:Cx} {es:List Expr} {te:TE} {t:TA} {c j p} (ha:JE X (.Constant c j p) te) (hr:JA X es t):JA X (.Constant c j p :: es) (fZ te t):=⟨L2.zV ha.out hr.out⟩
theorem i7 {X:Cx} {es:List Expr} {te:TE} {t:TA} {x p} (ha:JE X (.Name x p) te) (hr:JA X es t):JA X (.Name x p :: es) (fZ te t):=⟨L2.zW ha.out hr.out⟩
theorem iy {X:Cx} {es:List Expr} {te:TE} {t:TA} {f a k p} (ha:JE X (.Call f a k p) te) (hr:JA X es t):JA X (.Call f a k p :: es) (fZ te t):=⟨L2.zX ha.out hr.out⟩
theorem Am {X:Cx} {es:List Expr} {te:TE} {t:TA} {a p} (ha:JE X (.List a p) te) (hr:JA X es t):JA X (.List a p :: es) (fZ te t):=⟨L2.zY ha.out hr.out⟩
theorem An {X:Cx} {es:List Expr} {te:TE} {t:TA} {a k p} (ha:JE X (.Tuple a k p) te) (hr:JA X es t):JA X (.Tuple a k p :: es) (fZ te t):=⟨L2.zZ ha.out hr.out⟩
theorem Ao {X:Cx} {es:List Expr} {te:TE} {t:TA} {a k p} (ha:JE X (.Subscript a k p) te) (hr:JA X es t):JA X (.Subscript a k p :: es) (fZ te t):=⟨L2.z_ ha.out hr.out⟩
theorem cq.wc {P:Program} {w:World} {K:PySem.W.Frag} {mg:Str->Option Value} {base:Heap} {x qual:Str} {st:Stmt} {f:Addr} {fd:FuncData} {N ps:List Str} {k:Nat} {sp:Sp} (F:cq K x qual st f fd) (S:di N ps (bL st)) (len:∀ vs H Q E,sp vs H Q E->vs.length=ps.length)
  (dY:∀ (a5:Value) (A:Around) (outer:List Env) (s:Shared) (H:Hp) (vs:List V) (Q:VK) (E:XK),a7 k (A.deeper (envOfC qual (bL st) s.heap.objs.size f a5))->sp vs H Q E →
   ∃ t,fO (gr bS P w K mg base N qual (bL st) f a5 A outer s H E).lT (jI st) t/\t { nx:=fun _ H'=>Q .non H',rt:=Q } (start N vs) H):aU P w K mg base bS (k + 1) f fd ps sp :=
 F.ok S len fun a5 A outer s H vs Q E hr h=>let ⟨t,g,q⟩:=dY a5 A outer s H vs Q E hr h; ⟨t,g.out,q⟩
end L2
namespace LJS
open PySem
noncomputable def hp (i j:Int):Int:=reduceHash (Builtin.Tuple.tupleHashOf [hashInt i,hashInt j])
theorem Fw {prog:Program} {w:World} (i j:Int):hT prog w [i,j]=hp i j:=rfl
noncomputable def wd:List (Int × Int):=(List.range 12).flatMap fun j=>(List.range j).map fun i:Nat=>(Int.ofNat i,Int.ofNat j)
theorem NW:∀ a∈wd,∀ b∈wd,hp a.1 a.2=hp b.1 b.2->a=b:=by decide +kernel
theorem Fx {i j:Int} (h0:0 <= i) (h1:i < j) (h2:j < 12):(i,j)∈wd:=by
 obtain⟨a,rfl⟩:∃ a:Nat,i=a:=⟨i.toNat,by omega⟩
 obtain⟨b,rfl⟩:∃ b:Nat,j=b:=⟨j.toNat,by omega⟩
 unfold wd
 exact List.mem_flatMap.mpr ⟨b,WL.mpr (by omega),V6.mpr ⟨a,WL.mpr (by omega),rfl⟩⟩
end LJS
namespace L2
open PySem PySem.Spec PyProof.Rows
noncomputable def kz (S:Addr) (n:Nat):HO := .ext fun h=>∃ hs:List Int,hs.length=n/\LJS.j_ h S hs
theorem NX {P:Program} {w:World} {H:Hp} {h:Heap} {S:Addr} {hs:List Int} {n:Nat} (e:LJS.j_ h S hs) (hn:hs.length=n):aI P w H h S (kz S n) :=
 ⟨⟨hs,hn,e⟩,let ⟨o,_,_,_,ho,_⟩:=e; ⟨o,ho⟩,fun h1 h2 ⟨we,en,e1⟩ k=>⟨we,en,LJS.J6 e1 fun o eo=>k o eo⟩⟩
section
variable {X:Cx}
theorem Fy:∀ {ps:List Addr} {ah:List Value},Vals (ps.map V.ref) ah->ah=ps.map Value.ref
 | [],_,.nil=>rfl
 | _ :: _,_,.cons r rs=>by cases r;rw[Fy rs];rfl
theorem NY:fY X (.builtin "len") (fun xs H Q=>∃ (p:Addr) (n:Nat),xs=[.ref p]/\H p=some (kz p n)/\n < 1000/\Q (.int n) H):=by
 intro pins s σ H xs us Q I r h
 obtain⟨p,n,rfl,hp,hn,q⟩:=h
 obtain⟨u,rfl,rx⟩:=vals1 r
 cases rx
 obtain⟨⟨hs,hl,o,es,ep,t,ho,hex,hd,T⟩,_⟩:=I.aM p _ hp
 have e:es.size=n:=by rw[T.num,hl]
 refine call_len_set ho hex hd T.fits (by omega) ⟨.int n,H,I.tok _,⟨_,by rw[e]⟩,q⟩
theorem FA:∀ {bs:List Bool} {ah:List Value},Vals (bs.map V.bl) ah->ah=bs.map Value.bool
 | [],_,.nil=>rfl
 | _ :: _,_,.cons r rs=>by cases r;rw[FA rs];rfl
theorem all_range (bs:List Bool):(List.range bs.length).all (fun i=>bs.getD i true)=bs.all id:=by
 rw[Bool.eq_iff_iff,XW,XW]
 constructor
 ·intro h b hb
  obtain⟨i,hi⟩:=WB.mp hb
  have hl:=(pe.mp hi).1
  have:=h i (WL.mpr hl)
  rw[E5,hi] at this
  exact this
 ·intro h i hi
  have hl:=WL.mp hi
  rw[E5,pb hl]
  exact h _ (Yp hl)
theorem NZ (hc:X.calm=true):fY X (.builtin "all") (fun xs H Q=>∃ (l:Addr) (bs:List Bool),xs=[.ref l]/\bh X.K H l (bs.map V.bl)/\Q (.bl (bs.all id)) H):=by
 intro pins s σ H xs us Q I r h
 obtain⟨l,bs,rfl,hq,q⟩:=h
 obtain⟨u,rfl,rx⟩:=vals1 r
 cases rx
 obtain⟨ah,r',pl,_⟩:=I.list hq
 obtain rfl:=FA r'
 have hL:=pl.isList
 have ll:l < s.heap.objs.size:=by obtain⟨o,e,_⟩:=hL;exact MK e
 have nI:l≠s.heap.objs.size:=Ww ll
 refine call_all_walk (YG hL ?_)
 refine⟨s.heap.objs.size,_,_,_,_,_,fun i=>bs.getD i true,rfl,Z7 (by rw[Zm];exact I.ok.hd hc) s.heap.objs.size l nI _,⟨⟨_,MM _ rfl,rfl,rfl⟩,hL.push _⟩,fun i v s' Q' E' hv wg => ?_,fun h' tk kp => ?_⟩
 ·have hv:(bs.map Value.bool).toArray[i]? = some v:=hv
  have wg:Q' (bs.getD i true) s':=wg
  rw[Y2,MJ] at hv
  obtain⟨b,eb,rfl⟩:=V7.mp hv
  rw[E5,eb] at wg
  exact Yi wg
 ·refine⟨.bl (bs.all id),H,I.kept (t':=tk) fun b o e=>kp b o (fun z => ?_) (sW _ e),?_,q⟩
  ·have:=MK e
   rw[WZ.mp z] at this
   exact Yf _ this
  ·show Value.bool _=Value.bool _
   rw[zJ,pd,all_range]
end
end L2
namespace LJ
open PySem L2
structure Fn (P:Program) (w:World) (K:PySem.W.Frag) (mg:Str->Option Value) (base:Heap) (k:Nat) (x:Str) (ps:List Str) (sp:Sp) (f:Addr) (fd:FuncData):Prop where
 ok:aU P w K mg base bS k f fd ps sp
 bz:mg x=some (.ref f)
 kp:PySem.W.keepIn K (.ref f)=true
 bd:Binds K fd ps []
theorem N0:bootBuiltins "bool" = some (.type "bool"):=by decide +kernel
theorem N4:bootBuiltins "int" = some (.type "int"):=by decide +kernel
theorem Ap:bootBuiltins "tuple" = some (.type "tuple"):=by decide +kernel
theorem ny:bootBuiltins "list" = some (.type "list"):=by decide +kernel
theorem FC:bootBuiltins "set" = some (.type "set"):=by decide +kernel
theorem N5:bootBuiltins "all" = some (.builtin "all"):=by decide +kernel
section
variable {K:PySem.W.Frag}
end
structure cK (many:Int) (ys:List (Int × Int × Int)):Prop where
 m1:1 <= many
 lu:many <= 12
 iU:ys.length <= 30
 ends:∀ y∈ys,0 <= y.1/\y.1 < y.2.1/\y.2.1 < many/\0 <= y.2.2/\y.2.2 <= 1000000000
 unlike:(ys.map fun y=>(y.1,y.2.1)).Nodup
end LJ
namespace L2
open PySem PySem.Spec PyProof.Rows
section
variable {X:Cx}
end
end L2
namespace LJ
open PySem L2
noncomputable def jq:Nat->List (Int × Int)
 | 0=>[]
 | n + 1=>jq n ++ (List.range n).map fun a:Nat=>(Int.ofNat a,Int.ofNat n)
theorem Aq:∀ {n:Nat} {k:Int × Int},k∈jq n->0 <= k.1/\k.1 < k.2/\k.2 < n
 | 0,_,h=>nomatch h
 | n + 1,k,h=>by
  rcases WX.mp h with h | h
  ·have:=Aq h;omega
  ·obtain⟨a,ha,rfl⟩:=V6.mp h
   have:=WL.mp ha
   refine⟨Int.natCast_nonneg a,?_,?_⟩
   ·show (a:Int) < (n:Int);omega
   ·show (n:Int) < ((n + 1:Nat):Int);omega
theorem FD:∀ n:Nat,(jq n).Nodup
 | 0=>XR
 | n + 1=>by
  refine Xi.mpr ⟨FD n,?_,fun k h1 k' h2 e => ?_⟩
  ·refine XM.mpr (ZH.imp fun {a b} ne e=>ne ?_)
   exact Int.ofNat.inj (congrArg Prod.fst e)
  ·subst e
   obtain⟨a,ha,rfl⟩:=V6.mp h2
   have:=(Aq h1).2.2
   have:(n:Int) < (n:Int):=this
   omega
theorem FE:∀ n:Nat,n <= 12->(jq n).length <= 66:=by
 intro n h
 rcases n with _ | _ | _ | _ | _ | _ | _ | _ | _ | _ | _ | _ | _ | n
 all_goals first | decide | omega
end LJ
namespace LJ
open PySem
theorem N6 {j n:Nat} (h:j < n):seqIndex? (j:Int) n=some j:=by
 unfold seqIndex?
 first | (simp;omega) | skip
end LJ
namespace L2
open PySem PySem.Spec PyProof.Rows
section
variable {X:Cx}
theorem Ar:fY X (.type "range") (fun xs H Q=>∃ j:Int,xs=[.int j]/\∀ r,H r=none->Q (.ref r) (upd H r (.rng 0 j))):=by
 intro pins s σ H xs us Q I r h
 obtain⟨j,rfl,q⟩:=h
 obtain⟨u,rfl,t,rfl⟩:=vals1 r
 refine call_range_1 ⟨.ref s.heap.objs.size,_,I.laid (t':=s.toks + 1 + 1) (o := .rng 0 j) (fun b o e=>sW _ e) (qU _) ?_,rfl,q _ (I.aM.fresh (qU _))⟩
 exact⟨_,_,_,MM _ rfl⟩
noncomputable def aP (n:Nat):List Int:=(List.range n).map fun a:Nat=>(a:Int)
theorem As:∀ {ns:List Int} {us:List Value},us.length=ns.length->(∀ (i:Nat) (u:Value),us[i]? = some u->∃ t,u = .int (ns.getD i 0) t)->Vals (ns.map V.int) us
 | [],[],_,_ => .nil
 | [],_ :: _,h,_=>by simp at h
 | _ :: _,[],h,_=>by simp at h
 | n :: ns,u :: us,h,g=>by
  obtain⟨t,e⟩:=g 0 u rfl
  refine .cons ⟨t,e⟩ (As (by simpa using h) fun i v e2 => ?_)
  obtain⟨t,e⟩:=g (i + 1) v (by simpa using e2)
  exact⟨t,by simpa using e⟩
theorem FF (hc:X.calm=true):fY X (.type "list") (fun xs H Q=>∃ (r:Addr) (n:Nat),xs=[.ref r]/\H r=some (.rng 0 (n:Int))/\n <= 1000/\∀ l,H l=none->Q (.ref l) (upd H l (.lst ((aP n).map V.int)))):=by
 intro pins s σ H xs us Q I r h
 obtain⟨a,n,rfl,ha,hn,q⟩:=h
 obtain⟨u,rfl,rx⟩:=vals1 r
 cases rx
 obtain⟨t,u,v,e⟩:=(show ∃ t u v,s.heap.get? a=some { cls := .type "range",data := .fields #[.int 0 t,.int (n:Int) u,.int 1 v] } from I.aM a _ ha)
 have hs:Builtin.Range.rangeSize 0 (n:Int) 1=n:=by rw[rangeSize_one];split<;>omega
 refine call_list_range (n:=n) (I.ok.hd hc) e (small_one (by omega) (by omega) (by omega) (by omega)) hs (by omega) fun h' tk acc c' kp e' it => ?_
 refine⟨.ref s.heap.objs.size,_,I.laid (t':=tk) (o := .lst ((aP n).map V.int)) kp (qU _) ?_,rfl,q _ (I.aM.fresh (qU _))⟩
 refine⟨XY (lj (by rw[pd,aP,pd,Xv];exact hn)),acc.toList,c',?_,by simpa using e'⟩
 refine As ?_ fun i u e => ?_
 ·rw[E7,it.1,aP,pd,Xv]
 ·rw[WJ] at e
  obtain⟨t',e2⟩:=it.2 i u e
  have hi:i < n:=by rw[<-it.1];exact (XQ.mp e).1
  refine⟨t',e2.trans ?_⟩
  rw[aP,E5,MJ,Xr hi]
  show Value.int (0 + (i:Int) * 1) t'=Value.int (i:Int) t'
  rw[Int.zero_add,Int.mul_one]
theorem Au:∀ {us:List Value} {ns:List Int},IntsAre us ns->Vals (ns.map V.int) us
 | _,_,.nil => .nil
 | _,_,.cons n t r => .cons ⟨t,rfl⟩ (Au r)
theorem FG:fY X (.builtin "sorted") (fun xs H Q=>∃ (l:Addr) (ns:List Int),xs=[.ref l]/\bh X.K H l (ns.map V.int)/\ns.length < 64/\∀ (r:Addr) (dZ:List Int),dZ.Perm ns->dZ.Pairwise (· <= ·)->H r=none->Q (.ref r) (upd H r (.lst (dZ.map V.int)))):=by
 intro pins s σ H xs us Q I r h
 obtain⟨l,ns,rfl,hq,nD,q⟩:=h
 obtain⟨u,rfl,rx⟩:=vals1 r
 cases rx
 obtain⟨ah,r',pl,_⟩:=I.list hq
 have hl:=r'.length
 rw[pd] at hl
 refine sorted_ints pl.isList (by simpa using intsAre_of r') (by omega) fun out dZ hI pm pw => ?_
 have hf:H (s.heap.objs.size + 1)=none:=I.aM.fresh (q0h _)
 obtain⟨e,he⟩:=sortedAll_at s.heap ah out
 refine⟨.ref (s.heap.objs.size + 1),_,I.laid (t':=s.toks) (o := .lst (dZ.map V.int)) (fun b o e=>sortedAll_old e) (q0h _) ?_,rfl,q _ dZ pm pw hf⟩
 refine⟨XY (lj (by rw[pd,pm.length_eq];omega)),out.toList,e,Au hI,?_⟩
 simpa [seqObj] using he
theorem FH {prog:Program} {w:World} {A:Around} {E:Value->Shared->Prop} {I l:Addr} {items:Array Value} (W:Walks prog w A I [I,l] [I] items.size (fun i v=>items[i]? = some v) (fun i h=>h.IsListIter I l i/\h.IsList l items)) :
  ∀ (k i:Nat) (s:Shared) (Q:List Value->Shared->Prop),i + k <= items.size->(s.heap.IsListIter I l i/\s.heap.IsList l items) →
   (∀ h' tk,(h'.IsListIter I l (i + k)/\h'.IsList l items)->(∀ b o,b∉[I]->s.heap.get? b=some o->h'.get? b=some o)->Q ((items.toList.drop i).take k) { s with heap:=h',toks:=tk })->wpAny (model prog w) A (draw (.ref I) k) Q E s
 | 0,i,s,Q,_,st,g=>by
  show wpAny _ _ (pure []) Q E s
  refine vW ?_
  have:=g s.heap s.toks st fun _ _ _ e=>e
  rw[ZC] at this
  exact this
 | k + 1,i,s,Q,hk,st,g=>by
  have hi:i < items.size:=by omega
  show wpAny _ _ (pyNext (.ref I) >>= _) Q E s
  refine l8 (W.item i s _ _ hi st fun v h1 jr hv lN qY => ?_)
  refine l8 (W6 (FH W k (i + 1) _ _ (by omega) lN fun h2 Av jZ oB=>vW ?_))
  have e:items.toList.drop i=v :: items.toList.drop (i + 1):=by
   rw[YB (by rw[E7];exact hi)]
   congr 1
   have FI:items[i]? = some v:=hv
   rw[MN hi] at FI
   simpa using FI
  have:=g h2 Av (by rw[show i + (k + 1)=i + 1 + k by omega];exact jZ) fun b o hb e=>oB b o hb (qY b o hb e)
  rw[e,ZY] at this
  exact this
theorem N7 {prog:Program} {w:World} {A:Around} {E:Value->Shared->Prop} {s:Shared} {l:Addr} {items:Array Value} {Q:List Value->Shared->Prop} (hh:A.handled=none) (hl:s.heap.IsList l items)
  (g:∀ h' tk,(∀ b o,b≠s.heap.objs.size->s.heap.get? b=some o->h'.get? b=some o)->Q items.toList { s with heap:=h',toks:=tk }):wpAny (model prog w) A (unpackItems (.ref l) items.size none) Q E s:=by
 have ll:l < s.heap.objs.size:=by obtain⟨o,e,_⟩:=hl;exact MK e
 have W:=Z7 (prog:=prog) (w:=w) hh s.heap.objs.size l (Ww ll) items
 unfold unpackItems
 refine l8 ?_
 unfold notIterableAtAll
 refine l8 (wpAny_specialOf hl.typeIs slot_list_iter.lookup (vW ?_))
 simp only[WC,Xx]
 refine l8 (W6 (YG hl ?_))
 refine l8 (W6 (FH W items.size 0 _ _ (by omega) ⟨⟨_,MM _ rfl,rfl,rfl⟩,hl.push _⟩ fun h1 jr lN qY => ?_))
 rw[Z2,Xm (by rw[E7];exact qU _),V0 (by rw[E7];exact Yf _)]
 rw[Xd] at lN
 refine l8 (W6 (W.done _ _ _ lN fun h2 Av oB => ?_))
 simp only[Option.isSome_none,WC,Xx]
 refine vW (g h2 Av fun b o hb e=>oB b o (by simpa using hb) (qY b o (by simpa using hb) (sW _ e)))
noncomputable def N8 (K:PySem.W.Frag) (n:Nat) (t:jj):TG:=fun v σ H Q=>∃ a xs,v = .ref a/\bh K H a xs/\xs.length=n/\t xs σ H Q
theorem N9 {es:List Expr} {k:Nat} {t:jj} {n:Nat} {pos:Pos} (hc:X.calm=true) (h:j3 X es t)
  (hn:(assignEach es X.env).length=n:=by rfl) (kj:(assignEach es X.env).findIdx? (·.1)=none:=by rfl):JG X (.Tuple es k pos) (N8 X.K n t):=by
 refine⟨?_⟩
 intro pins s σ H v u Q I r hw
 obtain⟨a,xs,e1,hq,hl,hw⟩:=hw
 subst e1
 cases r
 obtain⟨ah,rv,ht,hz⟩:=I.list hq
 have hlen:=rv.length
 rw[assign_Tuple]
 refine l8 (Y1 ?_)
 unfold unpack
 rw[kj,show (assignEach es X.env).length=ah.toArray.size by rw[hn,<-hl,hlen];simp]
 refine l8 (W6 (N7 (I.ok.hd hc) ht.isList fun h' tk kp => ?_))
 have I1:Inv X pins σ H { s with heap:=h',toks:=tk }:=I.kept fun b o e=>kp b o (Ww (MK e)) e
 exact h.out pins _ σ H xs _ Q I1 (by simpa using rv) hw
theorem N_:sX X "dict.setdefault" (fun x vs H Q=>∃ (d:Addr) (kvs:List (Key × V)) (k:Key) (dv:V),x = .ref d/\vs=[kV k,dv]/\H d=some (.dK kvs)/\kvs.length < sizeLine/\(∀ v,bT kvs k=some v->Q v H)/\(bT kvs k=none->Q dv (upd H d (.dK (putK kvs k dv))))):=by
 intro pins s σ H x xs v us Q I rx rv h
 obtain⟨d,kvs,k,dv,rfl,rfl,hd,hz,q1,q2⟩:=h
 cases rx
 cases rv with
 | cons rk rr =>
  cases rr with
  | cons rd rn =>
   cases rn
   rename_i uk ud
   obtain⟨z,lo,vs,rel,dd⟩:=v8 I.aM hd
   have rl:=rel.val k
   refine call_meetsIn ZT dd.typeIs PySem.F.entry_dict_setdefault (PySem.F.args_dict_setdefault_3 _ _ _) (PySem.kt_meets_setdefault (ib X.prog X.w) d (v7 rk) lo ud) ⟨vs,dd,by rw[<-rel.length];exact z,fun v hv => ?_,fun hn h' ph hs => ?_⟩
   ·rw[hv] at rl
    cases e:bT kvs k with
    | none=>rw[e] at rl;exact rl.elim
    | some y =>
     rw[e] at rl
     exact⟨y,H,I.tok _,rl,q1 y e⟩
   ·rw[hn] at rl
    cases e:bT kvs k with
    | some y=>rw[e] at rl;exact rl.elim
    | none =>
     have he:∃ q,h'.get? d=some q:=let ⟨q,_,_,hq,_⟩:=ph; ⟨q,hq⟩
     have hl:=Ac kvs k dv
     exact⟨dv,_,Af (t':=s.toks + 1) I (by rw[hd];exact True.intro) hs he (Fp (by omega) lo (rel.put k rd) ph),rd,q2 e⟩
noncomputable def iz (v d:Addr):HO := .ext fun h=>h.IsValuesView v d
theorem Oa:sX X "dict.values" (fun x vs H Q=>∃ (d:Addr) (kvs:List (Key × V)),x = .ref d/\vs=[]/\H d=some (.dK kvs)/\∀ r,H r=none->Q (.ref r) (upd H r (iz r d))):=by
 intro pins s σ H x xs v us Q I rx rv h
 obtain⟨d,kvs,rfl,rfl,hd,q⟩:=h
 cases rx
 cases rv
 obtain⟨z,lo,vs,rel,dd⟩:=v8 I.aM hd
 refine call_meetsIn q0n dd.typeIs PySem.F.entry_dict_values (PySem.F.args_dict_values_1 _) (meets_dict_values (ib X.prog X.w) d lo) ⟨⟨vs,dd⟩,?_⟩
 have e:(s.heap.push { cls := .type "dict_values",data := .fields #[.ref d] }).IsValuesView s.heap.objs.size d:=⟨_,MM _ rfl,rfl,rfl⟩
 refine⟨.ref s.heap.objs.size,_,I.laid (t':=s.toks) (o:=iz s.heap.objs.size d) (fun b o e=>sW _ e) (qU _) ⟨e,⟨_,MM _ rfl⟩,fun h1 h2 ⟨o,ho,r⟩ k=>⟨o,k o ho,r⟩⟩,rfl,q _ (I.aM.fresh (qU _))⟩
theorem FJ:∀ {kvs:List (Key × V)} {vs:List (Key × Value)},KV kvs vs->Vals (kvs.map (·.2)) (vs.map (·.2))
 | [],_,.nil => .nil
 | _ :: _,_,.cons r rs => .cons r.2 (FJ rs)
theorem Ob (hc:X.calm=true):fY X (.type "list") (fun xs H Q=>∃ (r d:Addr) (kvs:List (Key × V)),xs=[.ref r]/\H r=some (iz r d)/\H d=some (.dK kvs)/\∀ l,H l=none->Q (.ref l) (upd H l (.lst (kvs.map (·.2))))):=by
 intro pins s σ H xs us Q I r' h
 obtain⟨r,d,kvs,rfl,hr,hd,q⟩:=h
 obtain⟨u,rfl,rx⟩:=vals1 r'
 cases rx
 obtain⟨iv,_⟩:=I.aM r _ hr
 obtain⟨z,lo,vs,rel,dd⟩:=v8 I.aM hd
 obtain⟨o,es,ep,ho,rest⟩:=dd
 have da:s.heap.DictAt (ib X.prog X.w) d vs ep:=⟨o,es,ho,rest⟩
 have lv:=rel.length
 refine PySem.W.kdl_call (PySem.W.kdl_values (r:=r) (d:=d) (kvs:=vs) (ep:=ep) (knd:=ib X.prog X.w)) (I.ok.hd hc) ⟨iv,da⟩ (by omega) fun h' tk acc c' kp e' it => ?_
 have ea:acc.toList=vs.map (·.2):=PySem.W.kdl_vals_eq acc.toList (by rw[E7];exact it.1) fun j v e=>it.2 j v (by rw[<-WJ];exact e)
 refine⟨.ref s.heap.objs.size,_,I.laid (t':=tk) (o := .lst (kvs.map (·.2))) kp (qU _) ?_,rfl,q _ (I.aM.fresh (qU _))⟩
 exact⟨by rw[pd];exact z,acc.toList,c',by rw[ea];exact FJ rel,by simpa using e'⟩
end
section
variable {X:Cx} {e:Expr} {te:TE} {pos p2 p3 p4:Pos}
end
inductive DV where
 | p (d:D) | o (k:Nat)
inductive OV where
 | lst (ds:List D) | dct (kvs:List (Key × D))
structure ay where
 sl:List (Option DV)
 mu:List (Option OV)
noncomputable def fP (F:Hp):List (Key × D)->List (Key × V)->Prop
 | [],ws=>ws=[]
 | kd :: r,ws=>∃ v t,ws=(kd.1,v) :: t/\Is F kd.2 v/\fP F r t
noncomputable def fD (F:Hp):OV->HO->Prop
 | .lst ds,o=>∃ vs,o = .lst vs/\af F ds vs
 | .dct kvs,o=>∃ ws,o = .dK ws/\fP F kvs ws
theorem fP.same {F F':Hp} (s:aA F F'):∀ {gs:List (Key × D)} {ws:List (Key × V)},fP F gs ws->fP F' gs ws
 | [],_,h=>h
 | _ :: _,_,⟨v,t,e,h1,h2⟩=>⟨v,t,e,h1.same s,fP.same s h2⟩
theorem fD.same {F F':Hp} (s:aA F F'):∀ {ov:OV} {o:HO},fD F ov o->fD F' ov o
 | .lst _,_,⟨vs,e,h⟩=>⟨vs,e,h.same s⟩
 | .dct _,_,⟨ws,e,h⟩=>⟨ws,e,h.same s⟩
noncomputable def gG (F:Hp) (ad:List Addr):DV->V->Prop
 | .p d,v=>Is F d v
 | .o k,v=>∃ a,ad[k]? = some a/\v = .ref a
noncomputable def Lv (ad:List Addr) (mu:List (Option OV)) (a:Addr):Prop:=∃ (k:Nat) (ov:OV),ad[k]? = some a/\mu[k]? = some (some ov)
class aJ where
 ad:List Addr
 ok:Hp->Prop
 same:∀ {H H':Hp},ok H->aA H H'->ok H'
 put:∀ {H:Hp} {a:Addr} {o o':HO},ok H->H a=some o->((∃ vs,o = .lst vs)\/∃ ws,o = .dK ws)->ok (upd H a o')
 tb:∀ {H:Hp} {a:Addr},ok H->a∈ad->∃ ps,H a=some (.tbl ps)
theorem fD.kind {F:Hp}:∀ {ov:OV} {o:HO},fD F ov o->(∃ vs,o = .lst vs)\/∃ ws,o = .dK ws
 | .lst _,_,⟨vs,e,_⟩ => .inl ⟨vs,e⟩
 | .dct _,_,⟨ws,e,_⟩ => .inr ⟨ws,e⟩
variable [aJ]
structure SR (F:Hp) (ad:List Addr) (δ : ay) (σ : St) (H:Hp):Prop where
 sub:aA F H
 off:∀ a,Lv ad δ.mu a->F a=none
 b_:ad.length = δ.mu.length
 inj:∀ (k l:Nat) (a:Addr) (ov ow:OV),ad[k]? = some a->ad[l]? = some a -> δ.mu[k]? = some (some ov) -> δ.mu[l]? = some (some ow)->k=l
 mu:∀ (k:Nat) (ov:OV),δ.mu[k]? = some (some ov)->∃ a o,ad[k]? = some a/\H a=some o/\fD F ov o
 sl:∀ (i:Nat) (x:DV),δ.sl[i]? = some (some x)->∃ v,σ[i]? = some (some v)/\gG F ad x v
 len : σ.length = δ.sl.length
 tab:aJ.ok H
 nt:∀ a∈aJ.ad,F a=none
structure Ext (F:Hp) (ad:List Addr) (mu:List (Option OV)) (H:Hp) (F':Hp) (aE:List Addr) (dE:List (Option OV)) (H':Hp):Prop where
 same:aA F F'
 new:∀ a o,F' a=some o->F a=some o\/H a=none\/Lv ad mu a
 keep:∀ a o,H a=some o->¬ Lv ad mu a->a∉aJ.ad->H' a=some o
 pre:∀ (k:Nat) (a:Addr),ad[k]? = some a->aE[k]? = some a
 cm:∀ a,Lv aE dE a->Lv ad mu a\/H a=none
 iA:∀ a o,H a=some o->∃ o',H' a=some o'
section
variable {F F' FK H H' i8:Hp} {ad aE tV:List Addr} {mu dE tW:List (Option OV)} {δ : ay} {σ : St}
theorem de {H:Hp} {a:Addr} {o:HO} (h:H a=none):aA H (upd H a o):=fun b u e=>by rw[aO (dg e h)];exact e
theorem Ext.refl:Ext F ad mu H F ad mu H:=⟨fun _ _ e=>e,fun _ _ e => .inl e,fun _ _ e _ _=>e,fun _ _ e=>e,fun _ e => .inl e,fun _ o e=>⟨o,e⟩⟩
theorem Ext.trans (x:Ext F ad mu H F' aE dE H') (y:Ext F' aE dE H' FK tV tW i8):Ext F ad mu H FK tV tW i8 where
 same:=x.same.trans y.same
 new:=fun a o e=>by
  rcases y.new a o e with h | h | h
  ·exact x.new a o h
  ·refine .inr (.inl ?_)
   cases q:H a with
   | none=>rfl
   | some u=>obtain⟨u',h'⟩:=x.iA a u q;rw[h] at h';cases h'
  ·rcases x.cm a h with h | h
   ·exact .inr (.inr h)
   ·exact .inr (.inl h)
 keep:=fun a o e n t=>y.keep a o (x.keep a o e n t) (fun l=>by
  rcases x.cm a l with h | h
  ·exact n h
  ·rw[e] at h;cases h) t
 pre:=fun k a e=>y.pre k a (x.pre k a e)
 cm:=fun a l=>by
  rcases y.cm a l with h | h
  ·exact x.cm a h
  ·refine .inr ?_
   cases q:H a with
   | none=>rfl
   | some u=>obtain⟨u',h'⟩:=x.iA a u q;rw[h] at h';cases h'
 iA:=fun a o e=>let ⟨o1,e1⟩:=x.iA a o e;y.iA a o1 e1
theorem gG.ext {x:DV} {v:V} (h:gG F ad x v) (e:Ext F ad mu H F' aE dE H'):gG F' aE x v:=by
 cases x with
 | p d=>exact Is.same e.same h
 | o k=>obtain⟨a,h1,h2⟩:=h;exact⟨a,e.pre k a h1,h2⟩
noncomputable def Nw (F H H':Hp):Hp:=fun a=>match H a with
 | none=>H' a
 | some _=>F a
theorem Nw.same (s:aA F H):aA F (Nw F H H'):=fun a o e=>by
 unfold Nw;rw[s a o e];exact e
theorem Nw.sub (s:aA F H) (k:aA H H'):aA (Nw F H H') H':=fun a o e=>by
 unfold Nw at e
 cases q:H a with
 | none=>rw[q] at e;exact e
 | some u=>rw[q] at e;exact k a o (s a o e)
theorem Nw.upd {p:Addr} {o:HO} (s:aA F H) (hp:H p=none):Nw F H (upd H p o)=upd F p o:=by
 funext a
 unfold Nw L2.upd
 by_cases c:a=p
 ·subst c;rw[hp,V8 rfl];simp
 ·rw[V0 c,V0 c]
  cases q:H a with
  | none =>
   cases q2:F a with
   | none=>rfl
   | some u=>rw[s a u q2] at q;cases q
  | some u=>rfl
theorem Nw.refl (s:aA F H):Nw F H H=F:=by
 funext a
 unfold Nw
 cases q:H a with
 | none =>
  cases q2:F a with
  | none=>rfl
  | some u=>rw[s a u q2] at q;cases q
 | some u=>rfl
theorem SR.al (S:SR F ad δ σ H) (k:aA H H'):SR (Nw F H H') ad δ σ H':=by
 have sm:=Nw.same (H':=H') S.sub
 refine⟨Nw.sub S.sub k,fun a l => ?_,S.b_,S.inj,fun i ov e => ?_,fun i x e => ?_,S.len,aJ.same S.tab k,fun a ha=>by obtain⟨ps,q⟩:=aJ.tb S.tab ha;unfold Nw;rw[q];exact S.nt a ha⟩
 ·obtain⟨i,ov,e1,e2⟩:=l
  obtain⟨a',o,e3,e4,_⟩:=S.mu i ov e2
  rw[e1] at e3;cases e3
  unfold Nw;rw[e4];exact S.off a ⟨i,ov,e1,e2⟩
 ·obtain⟨a,o,e1,e2,h⟩:=S.mu i ov e
  exact⟨a,o,e1,k a o e2,h.same sm⟩
 ·obtain⟨v,e1,h⟩:=S.sl i x e
  refine⟨v,e1,?_⟩
  cases x with
  | p d=>exact Is.same sm h
  | o k=>exact h
theorem Ext.al (S:SR F ad δ σ H) (k:aA H H'):Ext F ad δ.mu H (Nw F H H') ad δ.mu H' where
 same:=Nw.same S.sub
 new:=fun a o e=>by
  unfold Nw at e
  cases q:H a with
  | none=>exact .inr (.inl rfl)
  | some u=>rw[q] at e;exact .inl e
 keep:=fun a o e _ _=>k a o e
 pre:=fun _ _ e=>e
 cm:=fun _ l => .inl l
 iA:=fun a o e=>⟨o,k a o e⟩
theorem SR.own {p:Addr} {o:HO} {ov:OV} (S:SR F ad δ σ H) (hp:H p=none) (h:fD F ov o):SR F (ad ++ [p]) ⟨δ.sl,δ.mu ++ [some ov]⟩ σ (upd H p o):=by
 have old:∀ {k:Nat} {w:OV},(δ.mu ++ [some ov])[k]? = some (some w)->(k < δ.mu.length /\ δ.mu[k]? = some (some w))\/(k = δ.mu.length/\w=ov):=fun {k w} e=>by
  by_cases c:k < δ.mu.length
  ·rw[V9 c] at e;exact .inl ⟨c,e⟩
  ·have hl:=(pe.mp e).1
   rw[EZ,WM] at hl
   have ek:k = δ.mu.length:=by omega
   subst ek
   rw[Wx (qU _),Xo] at e
   exact .inr ⟨rfl,by simpa using e.symm⟩
 have pre:∀ {k:Nat},k < δ.mu.length->(ad ++ [p])[k]? = ad[k]? := fun {k} c=>V9 (by rw[S.b_];exact c)
 have last:(ad ++ [p])[δ.mu.length]? = some p:=by rw[<-S.b_,Wx (qU _),Xo];rfl
 have np:∀ {k:Nat} {a:Addr} {w:OV},ad[k]? = some a -> δ.mu[k]? = some (some w)->a≠p:=fun {k a w} e1 e2=>by
  obtain⟨a',u,e3,e4,_⟩:=S.mu k w e2
  rw[e1] at e3;cases e3
  exact dg e4 hp
 refine⟨fun a u e => ?_,fun a l => ?_,by rw[EZ,EZ,S.b_];rfl,fun k l a w w' e1 e2 e3 e4 => ?_,fun k w e => ?_,fun i x e => ?_,S.len,aJ.same S.tab (de hp),S.nt⟩
 ·have:=S.sub a u e
  rw[aO (dg this hp)];exact this
 ·obtain⟨k,w,e1,e2⟩:=l
  rcases old e2 with⟨c,e3⟩ | ⟨c,e3⟩
  ·rw[pre c] at e1;exact S.off a ⟨k,w,e1,e3⟩
  ·subst c;rw[last] at e1;cases e1
   cases q:F p with
   | none=>rfl
   | some u=>rw[S.sub p u q] at hp;cases hp
 ·rcases old e3 with⟨c,q⟩ | ⟨c,q⟩
  ·rw[pre c] at e1
   rcases old e4 with⟨c',q'⟩ | ⟨c',q'⟩
   ·rw[pre c'] at e2;exact S.inj k l a w w' e1 e2 q q'
   ·subst c';rw[last] at e2;cases e2;exact absurd rfl (np e1 q)
  ·subst c;rw[last] at e1;cases e1
   rcases old e4 with⟨c',q'⟩ | ⟨c',q'⟩
   ·rw[pre c'] at e2;exact absurd rfl (np e2 q')
   ·exact c'.symm
 ·rcases old e with⟨c,q⟩ | ⟨c,q⟩
  ·obtain⟨a,u,e1,e2,h'⟩:=S.mu k w q
   exact⟨a,u,by rw[pre c];exact e1,by rw[aO (np e1 q)];exact e2,h'⟩
  ·subst c;subst q;exact⟨p,o,last,bw,h⟩
 ·obtain⟨v,e1,h'⟩:=S.sl i x e
  refine⟨v,e1,?_⟩
  cases x with
  | p d=>exact h'
  | o k =>
   obtain⟨a,e2,e3⟩:=h'
   exact⟨a,by rw[V9 (pe.mp e2).1];exact e2,e3⟩
theorem Ext.own {p:Addr} {o:HO} {ov:OV} (S:SR F ad δ σ H) (hp:H p=none):Ext F ad δ.mu H F (ad ++ [p]) (δ.mu ++ [some ov]) (upd H p o) where
 same:=fun _ _ e=>e
 new:=fun _ _ e => .inl e
 keep:=fun a u e _ _=>by rw[aO (dg e hp)];exact e
 pre:=fun k a e=>by rw[V9 (pe.mp e).1];exact e
 cm:=fun a l=>by
  obtain⟨k,w,e1,e2⟩:=l
  by_cases c:k < δ.mu.length
  ·rw[V9 c] at e2
   rw[V9 (by rw[S.b_];exact c)] at e1
   exact .inl ⟨k,w,e1,e2⟩
  ·have hl:=(pe.mp e2).1
   rw[EZ,WM] at hl
   have ek:k=ad.length:=by rw[S.b_];omega
   subst ek
   rw[Wx (qU _),Xo] at e1
   have:p=a:=by simpa using e1
   subst this;exact .inr hp
 iA:=fun a u e=>⟨u,by rw[aO (dg e hp)];exact e⟩
theorem SR.put {k:Nat} {a:Addr} {o:HO} {ov ow:OV} (S:SR F ad δ σ H) (hk : δ.mu[k]? = some (some ow)) (ha:ad[k]? = some a) (h:fD F ov o):SR F ad ⟨δ.sl,δ.mu.set k (some ov)⟩ σ (upd H a o):=by
 have kl:=(pe.mp hk).1
 have old:∀ {l:Nat} {w:OV},(δ.mu.set k (some ov))[l]? = some (some w)->(l≠k /\ δ.mu[l]? = some (some w))\/(l=k/\w=ov):=fun {l w} e=>by
  by_cases c:k=l
  ·subst c;rw[XF kl] at e;exact .inr ⟨rfl,by simpa using e.symm⟩
  ·rw[Xy c] at e;exact .inl ⟨fun z=>c z.symm,e⟩
 have lv:∀ {l:Nat} {w:OV} {b:Addr},ad[l]? = some b->(δ.mu.set k (some ov))[l]? = some (some w)->Lv ad δ.mu b:=fun {l w b} e1 e2=>by
  rcases old e2 with⟨_,q⟩ | ⟨c,_⟩
  ·exact⟨l,w,e1,q⟩
  ·subst c;exact⟨l,ow,e1,hk⟩
 have tk:aJ.ok (upd H a o):=by
  obtain⟨a',u,e1,e2,h'⟩:=S.mu k ow hk
  rw[ha] at e1;cases e1
  exact aJ.put S.tab e2 h'.kind
 refine⟨fun b u e => ?_,fun b l => ?_,by rw[Yn];exact S.b_,fun l l' b w w' e1 e2 e3 e4 => ?_,fun l w e => ?_,fun i x e => ?_,S.len,tk,S.nt⟩
 ·have nb:b≠a:=fun z=>by
   subst z
   rw[S.off b ⟨k,ow,ha,hk⟩] at e;cases e
  rw[aO nb];exact S.sub b u e
 ·obtain⟨l,w,e1,e2⟩:=l
  exact S.off b (lv e1 e2)
 ·have h1:∃ w,δ.mu[l]? = some (some w):=by
   rcases old e3 with⟨_,q⟩ | ⟨c,_⟩
   ·exact⟨_,q⟩
   ·subst c;exact⟨_,hk⟩
  have h2:∃ w,δ.mu[l']? = some (some w):=by
   rcases old e4 with⟨_,q⟩ | ⟨c,_⟩
   ·exact⟨_,q⟩
   ·subst c;exact⟨_,hk⟩
  obtain⟨w1,q1⟩:=h1
  obtain⟨w2,q2⟩:=h2
  exact S.inj l l' b _ _ e1 e2 q1 q2
 ·rcases old e with⟨c,q⟩ | ⟨c,q⟩
  ·obtain⟨b,u,e1,e2,h'⟩:=S.mu l w q
   have nb:b≠a:=fun z=>by subst z;exact c (S.inj l k b _ _ e1 ha q hk)
   exact⟨b,u,e1,by rw[aO nb];exact e2,h'⟩
  ·subst c;subst q;exact⟨a,o,ha,bw,h⟩
 ·exact S.sl i x e
theorem Ext.put {k:Nat} {a:Addr} {o:HO} {ov ow:OV} (S:SR F ad δ σ H) (hk : δ.mu[k]? = some (some ow)) (ha:ad[k]? = some a):Ext F ad δ.mu H F ad (δ.mu.set k (some ov)) (upd H a o) where
 same:=fun _ _ e=>e
 new:=fun _ _ e => .inl e
 keep:=fun b u e n _=>by rw[aO fun z=>n (by subst z;exact⟨k,ow,ha,hk⟩)];exact e
 pre:=fun _ _ e=>e
 cm:=fun b l=>by
  obtain⟨l,w,e1,e2⟩:=l
  by_cases c:k=l
  ·subst c;exact .inl ⟨k,ow,e1,hk⟩
  ·rw[Xy c] at e2;exact .inl ⟨l,w,e1,e2⟩
 iA:=fun b u e=>by
  by_cases c:b=a
  ·subst c;exact⟨o,bw⟩
  ·exact⟨u,by rw[aO c];exact e⟩
theorem SR.fix {k:Nat} {a:Addr} {o:HO} {ow:OV} (S:SR F ad δ σ H) (hk : δ.mu[k]? = some (some ow)) (ha:ad[k]? = some a) (ho:H a=some o):SR (upd F a o) ad ⟨δ.sl,δ.mu.set k none⟩ σ H:=by
 have kl:=(pe.mp hk).1
 have fa:=S.off a ⟨k,ow,ha,hk⟩
 have sm:aA F (upd F a o):=fun b u e=>by rw[aO (dg e fa)];exact e
 have old:∀ {l:Nat} {w:OV},(δ.mu.set k none)[l]? = some (some w)->l≠k /\ δ.mu[l]? = some (some w):=fun {l w} e=>by
  by_cases c:k=l
  ·subst c;rw[XF kl] at e;cases e
  ·rw[Xy c] at e;exact⟨fun z=>c z.symm,e⟩
 refine⟨fun b u e => ?_,fun b l => ?_,by rw[Yn];exact S.b_,fun l l' b w w' e1 e2 e3 e4=>S.inj l l' b w w' e1 e2 (old e3).2 (old e4).2,fun l w e => ?_,fun i x e => ?_,S.len,S.tab,fun b hb => ?_⟩
 ·by_cases c:b=a
  ·subst c;rw[bw] at e;cases e;exact ho
  ·rw[aO c] at e;exact S.sub b u e
 ·obtain⟨l,w,e1,e2⟩:=l
  obtain⟨c,q⟩:=old e2
  have nb:b≠a:=fun z=>by subst z;exact c (S.inj l k b _ _ e1 ha q hk)
  rw[aO nb];exact S.off b ⟨l,w,e1,q⟩
 ·obtain⟨b,u,e1,e2,h'⟩:=S.mu l w (old e).2
  exact⟨b,u,e1,e2,h'.same sm⟩
 ·obtain⟨v,e1,h'⟩:=S.sl i x e
  refine⟨v,e1,?_⟩
  cases x with
  | p d=>exact Is.same sm h'
  | o k=>exact h'
 ·obtain⟨ps,q⟩:=aJ.tb S.tab hb
  have nb:b≠a:=fun z=>by
   subst z
   obtain⟨a',u,e1,e2,h'⟩:=S.mu k ow hk
   rw[ha] at e1;cases e1
   rw[q] at e2;cases e2
   rcases h'.kind with⟨_,z⟩ | ⟨_,z⟩<;>cases z
  rw[aO nb];exact S.nt b hb
theorem Ext.fix {k:Nat} {a:Addr} {o:HO} {ow:OV} (S:SR F ad δ σ H) (hk : δ.mu[k]? = some (some ow)) (ha:ad[k]? = some a):Ext F ad δ.mu H (upd F a o) ad (δ.mu.set k none) H where
 same:=fun b u e=>by rw[aO (dg e (S.off a ⟨k,ow,ha,hk⟩))];exact e
 new:=fun b u e=>by
  by_cases c:b=a
  ·subst c;exact .inr (.inr ⟨k,ow,ha,hk⟩)
  ·rw[aO c] at e;exact .inl e
 keep:=fun b u e _ _=>e
 pre:=fun _ _ e=>e
 cm:=fun b l=>by
  obtain⟨l,w,e1,e2⟩:=l
  by_cases c:k=l
  ·subst c;rw[XF (pe.mp hk).1] at e2;cases e2
  ·rw[Xy c] at e2;exact .inl ⟨l,w,e1,e2⟩
 iA:=fun b u e=>⟨u,e⟩
theorem SR.set {i:Nat} {x:DV} {v:V} (S:SR F ad δ σ H) (h:gG F ad x v):SR F ad ⟨δ.sl.set i (some x),δ.mu⟩ (σ.set i (some v)) H:=by
 refine⟨S.sub,S.off,S.b_,S.inj,S.mu,fun j y e => ?_,by rw[Yn,Yn];exact S.len,S.tab,S.nt⟩
 by_cases c:i=j
 ·subst c
  have hl:=(pe.mp e).1
  rw[Yn] at hl
  rw[XF hl] at e
  cases e
  exact⟨v,XF (by rw[S.len];exact hl),h⟩
 ·rw[Xy c] at e
  obtain⟨w,e1,h1⟩:=S.sl j y e
  exact⟨w,by rw[Xy c];exact e1,h1⟩
end
noncomputable abbrev WE:=ay->(DV->ay->Prop)->Prop
noncomputable abbrev WA:=ay->(List DV->ay->Prop)->Prop
noncomputable abbrev WT:=ay->(Bool->ay->Prop)->Prop
noncomputable def d5 (F:Hp) (ad:List Addr):List DV->List V->Prop
 | [],vs=>vs=[]
 | x :: xs,vs=>∃ v r,vs=v :: r/\gG F ad x v/\d5 F ad xs r
theorem d5.ext {F F' H H':Hp} {ad aE:List Addr} {mu dE:List (Option OV)} (e:Ext F ad mu H F' aE dE H'):∀ {xs:List DV} {vs:List V},d5 F ad xs vs->d5 F' aE xs vs
 | [],_,h=>h
 | _ :: _,_,⟨v,r,q,h1,h2⟩=>⟨v,r,q,h1.ext e,d5.ext e h2⟩
noncomputable def tD (f:WE):TE:=fun σ H Q=>∃ F ad δ K,SR F ad δ σ H/\f δ K/\∀ x δ',K x δ'->∀ v F' aE H',Ext F ad δ.mu H F' aE δ'.mu H'->SR F' aE δ' σ H'->gG F' aE x v->Q v H'
noncomputable def cE (f:WA):TA:=fun σ H Q=>∃ F ad δ K,SR F ad δ σ H/\f δ K/\∀ xs δ',K xs δ'->∀ vs F' aE H',Ext F ad δ.mu H F' aE δ'.mu H'->SR F' aE δ' σ H'->d5 F' aE xs vs->Q vs H'
noncomputable def dB (f:WT):TT:=fun σ H Q=>∃ F ad δ K,SR F ad δ σ H/\f δ K/\∀ b δ',K b δ'->∀ F' aE H',Ext F ad δ.mu H F' aE δ'.mu H'->SR F' aE δ' σ H'->Q b H'
noncomputable def iN (F H:Hp):D->V->Prop
 | .lst ds,v=>∃ a vs,v = .ref a/\H a=some (.lst vs)/\af F ds vs
 | d,v=>Is F d v
noncomputable def iB (x:DV) (δ : ay) (K:D->Prop):Prop:=match x with
 | .p d=>K d
 | .o k=>match δ.mu[k]? with
  | some (some (.lst ds))=>K (.lst ds)
  | _=>False
theorem iN.of {F H:Hp} (s:aA F H):∀ {d:D} {v:V},Is F d v->iN F H d v
 | .lst _,_,h=>by
  simp only[Is] at h
  obtain⟨a,vs,e,h1,h2⟩:=h
  exact⟨a,vs,e,s _ _ h1,h2⟩
 | .tup _,_,h=>h
 | .non,_,h=>h
 | .bl _,_,h=>h
 | .int _,_,h=>h
 | .str _,_,h=>h
theorem iN.is {F H:Hp} (s:aA F H):∀ {d:D} {v:V},iN F H d v->Is H d v
 | .lst _,_,h=>by
  obtain⟨a,vs,e,h1,h2⟩:=h
  simp only[Is]
  exact⟨a,vs,e,h1,h2.same s⟩
 | .tup _,_,h=>Is.same s h
 | .non,_,h=>Is.same s h
 | .bl _,_,h=>Is.same s h
 | .int _,_,h=>Is.same s h
 | .str _,_,h=>Is.same s h
theorem j4 {F H:Hp} {ad:List Addr} {δ : ay} {σ : St} {x:DV} {v:V} {K:D->Prop} (S:SR F ad δ σ H) (hv:gG F ad x v) (h:iB x δ K):∃ d,K d/\iN F H d v:=by
 cases x with
 | p d=>exact⟨d,h,iN.of S.sub hv⟩
 | o k =>
  unfold iB at h
  dsimp only at h
  split at h
  ·rename_i ds e
   obtain⟨a,e1,rfl⟩:=hv
   obtain⟨a',o,e2,e3,vs,rfl,h4⟩:=S.mu k _ e
   rw[e1] at e2;cases e2
   exact⟨_,h,a,vs,rfl,e3,h4⟩
  ·exact h.elim
noncomputable def jL:List DV->ay->(List D->Prop)->Prop
 | [],_,K=>K []
 | x :: xs,δ,K=>iB x δ fun d=>jL xs δ fun ds=>K (d :: ds)
noncomputable def iC (F H:Hp):List D->List V->Prop
 | [],vs=>vs=[]
 | d :: ds,vs=>∃ v r,vs=v :: r/\iN F H d v/\iC F H ds r
theorem tX {F H:Hp} {ad:List Addr} {δ : ay} {σ : St} (S:SR F ad δ σ H):∀ {xs:List DV} {vs:List V} {K:List D->Prop},d5 F ad xs vs->jL xs δ K->∃ ds,K ds/\iC F H ds vs
 | [],_,_,hv,h=>⟨[],h,hv⟩
 | x :: xs,_,_,⟨v,r,rfl,h1,h2⟩,h=>by
  obtain⟨d,h',rd⟩:=j4 S h1 h
  obtain⟨ds,qZ,l_⟩:=tX S h2 h'
  exact⟨d :: ds,qZ,v,r,rfl,rd,l_⟩
noncomputable abbrev Made (F H:Hp) (K:D->Prop) (Q:VK):Prop:=∀ z v H',K z->aA H H'->Is (Nw F H H') z v->Q v H'
noncomputable def f7 (X:Cx) (f:Value->Value->Sem Value) (g:D->D->(D->Prop)->Prop):Prop :=
 dO X f fun x y H Q=>∃ F d e K,aA F H/\iN F H d x/\iN F H e y/\g d e K/\Made F H K Q
noncomputable def FL (X:Cx) (g:D->D->(D->Prop)->Prop):Prop :=
 qT X fun x y H Q=>∃ F d e K,aA F H/\iN F H d x/\iN F H e y/\g d e K/\Made F H K Q
noncomputable def d6 (X:Cx) (f:Value) (g:List D->(D->Prop)->Prop):Prop :=
 fY X f fun xs H Q=>∃ F ds K,aA F H/\iC F H ds xs/\g ds K/\Made F H K Q
noncomputable def d2 (f g:WE) (op:D->D->(D->Prop)->Prop):WE:=fun δ K=>f δ fun x δ1=>g δ1 fun y δ2=>iB x δ2 fun d=>iB y δ2 fun e=>op d e fun z=>K (.p z) δ2
noncomputable def d1 (f:WE) (op:D->(D->Prop)->Prop):WE:=fun δ K=>f δ fun x δ1=>iB x δ1 fun d=>op d fun z=>K (.p z) δ1
noncomputable def dN (f:WA) (op:List D->(D->Prop)->Prop):WE:=fun δ K=>f δ fun xs δ1=>jL xs δ1 fun ds=>op ds fun z=>K (.p z) δ1
noncomputable def dC (d:D):WE:=fun δ K=>K (.p d) δ
noncomputable def aa (i:Nat):WE:=fun δ K=>match δ.sl[i]? with
 | some (some x)=>K x δ
 | _=>False
noncomputable def ag:WA:=fun δ K=>K [] δ
noncomputable def ak (f:WE) (g:WA):WA:=fun δ K=>f δ fun x δ1=>g δ1 fun xs δ2=>K (x :: xs) δ2
section
variable {X:Cx} {a b c:Expr} {f g h:WE} {fa:WA} {pos:Pos}
theorem Aw {e:Expr} {d:D} {v:V} (h:JE X e (tC v)) (hi:∀ F,Is F d v):JE X e (tD (dC d)):=h.weak fun σ H Q h0_ => el7 h0_ fun F ad δ K S q k =>k _ _ q _ _ _ _ .refl S (hi F)
theorem aB {i j pos}:JE X (.Constant (.int i) j pos) (tD (dC (.int i))):=Aw dm fun _=>rfl
theorem j5 {i j pos}:JE X (.Constant (.bool i) j pos) (tD (dC (.bl i))):=Aw Nt fun _=>rfl
theorem Ax {x:Str} {i:Int} {u:Value} {pos:Pos} (hg:Gl X x) (hm:X.mg x=some u) (r:RelV (.int i) u) (hd:(x == ("__debug__" : Str))=false:=by decide):JE X (.Name x pos) (tD (dC (.int i))):=Aw (Nu hg hm r hd) fun _=>rfl
theorem dv (i:Nat) {x:Str} {pos:Pos} (hN:X.N[i]? = some x:=by rfl) (hv:oE X.env.scope x:=by first | exact Or.inl rfl | exact Or.inr (Or.inl rfl) | exact Or.inr (Or.inr rfl))
  (hd:(x == ("__debug__" : Str))=false:=by decide) (fJ:(x == ("__classdict__" : Str))=false:=by decide):JE X (.Name x pos) (tD (aa i)) :=
 (Nr hN hv hd fJ).weak fun σ H Q h0_ => el7 h0_ fun F ad δ K S q k =>by
  unfold aa at q
  split at q
  ·rename_i x e
   obtain⟨v,e1,h1⟩:=S.sl i x e
   exact⟨v,e1,k _ _ q _ _ _ _ .refl S h1⟩
  ·exact q.elim
theorem wj {r:R2} {ta tb:TE} {op:D->D->(D->Prop)->Prop} (hr:∀ x y H Q,(∃ F d e K,aA F H/\iN F H d x/\iN F H e y/\op d e K/\Made F H K Q)->r x y H Q):∀ σ H Q,tD (d2 f g op) σ H Q->lV r (tD f) (tD g) σ H Q:=by
 rintro σ H Q ⟨F,ad,δ,K,S,q,k⟩
 refine⟨F,ad,δ,_,S,q,fun x δ1 h1 v1 F1 aR H1 E1 S1 V1=>⟨F1,aR,δ1,_,S1,h1,fun y δ2 h2 v2 F2 bP H2 E2 S2 V2=>hr _ _ _ _ ?_⟩⟩
 obtain⟨d,h3,rd⟩:=j4 S2 (V1.ext E2) h2
 obtain⟨e,h4,re⟩:=j4 S2 V2 h3
 exact⟨F2,d,e,_,S2.sub,rd,re,h4,fun z v H' hz sm is=>k _ _ hz _ _ _ _ ((E1.trans E2).trans (Ext.al S2 sm)) (S2.al sm) is⟩
theorem bu {op:Operator} {o:D->D->(D->Prop)->Prop} (ho:f7 X (binaryOp op) o) (ha:JE X a (tD f)) (hb:JE X b (tD g)):JE X (.BinOp a op b pos) (tD (d2 f g o)) :=
 (tT ho ha hb).weak (wj (ta:=tD f) (tb:=tD g) fun _ _ _ _ h=>h)
theorem pE {op:CmpOp} {o:D->D->(D->Prop)->Prop} (ho:f7 X (compareOp op) o) (ha:JE X a (tD f)) (hb:JE X b (tD g)) (hm:behindInMarks op b=false):JE X (.Compare a [op] [b] pos) (tD (d2 f g o)) :=
 (NN ho ha hb hm).weak (wj (ta:=tD f) (tb:=tD g) fun _ _ _ _ h=>h)
theorem bA {o:D->D->(D->Prop)->Prop} (ho:FL X o) (ha:JE X a (tD f)) (hb:JE X b (tD g)) (hs:zv b):JE X (.Subscript a b pos) (tD (d2 f g o)) :=
 (Ft ho ha hb hs).weak (wj (ta:=tD f) (tb:=tD g) fun _ _ _ _ h=>h)
theorem aH:JA X [] (cE ag):=a8.weak fun σ H Q h0_ => el7 h0_ fun F ad δ K S q k =>k _ _ q _ _ _ _ .refl S rfl
theorem q9:∀ σ H Q,cE (ak f fa) σ H Q->fZ (tD f) (cE fa) σ H Q:=by
 rintro σ H Q ⟨F,ad,δ,K,S,q,k⟩
 exact⟨F,ad,δ,_,S,q,fun x δ1 h1 v1 F1 aR H1 E1 S1 V1=>⟨F1,aR,δ1,_,S1,h1,fun xs δ2 h2 vs F2 bP H2 E2 S2 V2=>k _ _ h2 _ _ _ _ (E1.trans E2) S2 ⟨v1,vs,rfl,V1.ext E2,V2⟩⟩⟩
theorem iO {e:Expr} {es:List Expr} (ha:JE X e (tD f)) (hr:JA X es (cE fa)) (hs:starEach (e :: es) X.env=(false,eval e X.env) :: starEach es X.env:=by rfl):JA X (e :: es) (cE (ak f fa)):=(pB ha hr hs).weak q9
theorem a9 {es:List Expr} {c j p} (ha:JE X (.Constant c j p) (tD f)) (hr:JA X es (cE fa)):JA X (.Constant c j p :: es) (cE (ak f fa)):=(Al ha hr).weak q9
theorem ao {es:List Expr} {x p} (ha:JE X (.Name x p) (tD f)) (hr:JA X es (cE fa)):JA X (.Name x p :: es) (cE (ak f fa)):=(i7 ha hr).weak q9
theorem c8 {es:List Expr} {x y k p} (ha:JE X (.Call x y k p) (tD f)) (hr:JA X es (cE fa)):JA X (.Call x y k p :: es) (cE (ak f fa)):=(iy ha hr).weak q9
theorem Az {es:List Expr} {x k p} (ha:JE X (.Tuple x k p) (tD f)) (hr:JA X es (cE fa)):JA X (.Tuple x k p :: es) (cE (ak f fa)):=(An ha hr).weak q9
theorem bD {es:List Expr} {x k p} (ha:JE X (.Subscript x k p) (tD f)) (hr:JA X es (cE fa)):JA X (.Subscript x k p :: es) (cE (ak f fa)):=(Ao ha hr).weak q9
theorem FN {r:List V->Hp->VK->Prop} {op:List D->(D->Prop)->Prop} (hr:∀ xs H Q,(∃ F ds K,aA F H/\iC F H ds xs/\op ds K/\Made F H K Q)->r xs H Q):∀ σ H Q,tD (dN fa op) σ H Q->oW r (cE fa) σ H Q:=by
 rintro σ H Q ⟨F,ad,δ,K,S,q,k⟩
 refine⟨F,ad,δ,_,S,q,fun xs δ1 h1 vs F1 aR H1 E1 S1 V1=>hr _ _ _ ?_⟩
 obtain⟨ds,h2,l_⟩:=tX S1 V1 h1
 exact⟨F1,ds,_,S1.sub,l_,h2,fun z v H' hz sm is=>k _ _ hz _ _ _ _ (E1.trans (Ext.al S1 sm)) (S1.al sm) is⟩
theorem gH {x:Str} {p:Pos} {e:Expr} {es:List Expr} {id:String} {o:List D->(D->Prop)->Prop} (hc:d6 X (.builtin id) o) (hg:Gl X x) (hm:X.mg x=none) (hv:bootBuiltins x=some (.builtin id)) (ha:JA X (e :: es) (cE fa)) (hn:x ≠ "__name__" := by decide) (gq:(x == ("__debug__" : Str))=false:=by decide)
  (he:starEach (e :: es) X.env=(false,eval e X.env) :: starEach es X.env:=by rfl) (f6:(backTo pos (starEach es X.env)).any (·.1)=false:=by rfl):JE X (.Call (.Name x p) (e :: es) [] pos) (tD (dN fa o)) :=
 (tU hc hg hm hv ha hn gq he f6).weak (FN fun _ _ _ h=>h)
theorem tY {x:Str} {p:Pos} {e:Expr} {es:List Expr} {T:String} {o:List D->(D->Prop)->Prop} (hc:d6 X (.type T) o) (hg:Gl X x) (hm:X.mg x=none) (hv:bootBuiltins x=some (.type T)) (ha:JA X (e :: es) (cE fa)) (hn:x ≠ "__name__" := by decide) (gq:(x == ("__debug__" : Str))=false:=by decide)
  (he:starEach (e :: es) X.env=(false,eval e X.env) :: starEach es X.env:=by rfl) (f6:(backTo pos (starEach es X.env)).any (·.1)=false:=by rfl):JE X (.Call (.Name x p) (e :: es) [] pos) (tD (dN fa o)) :=
 (lr hc hg hm hv ha hn gq he f6).weak (FN fun _ _ _ h=>h)
end
noncomputable def FO (k:Nat) (ds:List D):Option DV->Option DV
 | some (.o j)=>if j=k then some (.p (.lst ds)) else some (.o j)
 | s=>s
noncomputable def ay.fix (δ : ay) (k:Nat) (ds:List D):ay:=⟨δ.sl.map (FO k ds),δ.mu.set k none⟩
noncomputable def ma (x:DV) (δ : ay) (K:D->ay->Prop):Prop:=match x with
 | .p d=>K d δ
 | .o k=>match δ.mu[k]? with
  | some (some (.lst ds))=>K (.lst ds) (δ.fix k ds)
  | _=>False
noncomputable def jM:List DV->ay->(List D->ay->Prop)->Prop
 | [],δ,K=>K [] δ
 | x :: xs,δ,K=>ma x δ fun d δ1=>jM xs δ1 fun ds δ2=>K (d :: ds) δ2
section
variable {F F' H H':Hp} {ad aE:List Addr} {δ δ':ay} {σ σ':St}
theorem SR.fixed {k:Nat} {a:Addr} {vs:List V} {ds:List D} (S:SR F ad δ σ H) (hk : δ.mu[k]? = some (some (.lst ds))) (ha:ad[k]? = some a) (ho:H a=some (.lst vs)) (hi:af F ds vs):SR (upd F a (.lst vs)) ad (δ.fix k ds) σ H:=by
 have S1:=S.fix hk ha ho
 have sm:aA F (upd F a (.lst vs)):=(Ext.fix (o := .lst vs) S hk ha).same
 refine⟨S1.sub,S1.off,S1.b_,S1.inj,S1.mu,fun i x e => ?_,by rw[S.len];unfold ay.fix;rw[pd],S1.tab,S1.nt⟩
 unfold ay.fix at e
 rw[MJ] at e
 obtain⟨s,e1,e2⟩:=V7.mp e
 match s,e2 with
 | none,e2=>cases e2
 | some (.p d),e2 =>
  cases (show some (DV.p d)=some x from e2)
  exact S1.sl i _ e1
 | some (.o j),e2 =>
  have e3:(if j=k then some (DV.p (.lst ds)) else some (DV.o j))=some x:=e2
  clear e2
  obtain⟨v,h1,a',h2,h3⟩:=S.sl i _ e1
  by_cases c:j=k
  ·rw[V8 c] at e3
   subst c
   cases e3
   rw[ha] at h2;cases h2
   refine⟨v,h1,?_⟩
   show Is _ (.lst ds) v
   simp only[Is]
   exact⟨a,vs,h3,bw,hi.same sm⟩
  ·rw[V0 c] at e3
   cases e3
   exact⟨v,h1,a',h2,h3⟩
theorem tZ {x:DV} {v:V} {K:D->ay->Prop} (S:SR F ad δ σ H) (hv:gG F ad x v) (h:ma x δ K):∃ d δ' F',K d δ'/\Ext F ad δ.mu H F' ad δ'.mu H/\SR F' ad δ' σ H/\Is F' d v:=by
 cases x with
 | p d=>exact⟨d,δ,F,h,.refl,S,hv⟩
 | o k =>
  unfold ma at h
  dsimp only at h
  split at h
  ·rename_i ds e
   obtain⟨a,e1,rfl⟩:=hv
   obtain⟨a',o,e2,e3,vs,rfl,h4⟩:=S.mu k _ e
   rw[e1] at e2;cases e2
   refine⟨_,_,_,h,Ext.fix S e e1,S.fixed e e1 e3 h4,?_⟩
   simp only[Is]
   exact⟨a,vs,rfl,bw,h4.same (Ext.fix (o := .lst vs) S e e1).same⟩
  ·exact h.elim
theorem wk:∀ {xs:List DV} {vs:List V} {δ : ay} {F:Hp} {K:List D->ay->Prop},SR F ad δ σ H->d5 F ad xs vs->jM xs δ K->∃ ds δ' F',K ds δ'/\Ext F ad δ.mu H F' ad δ'.mu H/\SR F' ad δ' σ H/\af F' ds vs
 | [],_,δ,F,_,S,hv,h=>⟨[],δ,F,h,.refl,S,by simp only[af];exact hv⟩
 | x :: xs,_,δ,F,_,S,⟨v,r,e,h1,h2⟩,h=>by
  subst e
  obtain⟨d,δ1,F1,h',E1,S1,i1⟩:=tZ S h1 h
  obtain⟨ds,δ2,F2,qZ,E2,S2,i2⟩:=wk S1 (h2.ext E1) h'
  exact⟨d :: ds,δ2,F2,qZ,E1.trans E2,S2,.cons (i1.same E2.same) i2⟩
end
noncomputable def g6 (fa:WA):WE:=fun δ K=>fa δ fun xs δ1=>jM xs δ1 fun ds δ2=>ds.length <= 1000/\K (.p (.tup ds)) δ2
noncomputable def fx (fa:WA):WE:=fun δ K=>fa δ fun xs δ1=>jM xs δ1 fun ds δ2=>ds.length <= 1000/\K (.p (.lst ds)) δ2
noncomputable def q_ (fa:WA):WE:=fun δ K=>fa δ fun xs δ1=>jM xs δ1 fun ds δ2=>ds.length <= 1000/\K (.o δ2.mu.length) ⟨δ2.sl,δ2.mu ++ [some (.lst ds)]⟩
section
variable {X:Cx} {a b c:Expr} {es:List Expr} {f g h:WE} {fa:WA} {t u:WT} {pos:Pos}
theorem kA {n:Nat} (h:n <= 1000):n <= sizeLine:=XY (lj h)
theorem pF {x1} (ha:JA X es (cE fa)):JE X (.Tuple es x1 pos) (tD (g6 fa)):=(NQ ha).weak fun σ H Q h0_ => el7 h0_ fun F ad δ K S q k =>
 ⟨F,ad,δ,_,S,q,fun xs δ1 h1 vs F1 aR H1 E1 S1 V1=>by
  obtain⟨ds,δ2,F2,⟨hl,h2⟩,E2,S2,i2⟩:=wk S1 V1 h1
  refine⟨kA (by rw[i2.length];exact hl),fun p hp => ?_⟩
  have sm:aA H1 (upd H1 p (.tup vs)):=de hp
  refine k _ _ h2 _ _ _ _ ((E1.trans E2).trans (Ext.al S2 sm)) (S2.al sm) ?_
  show Is _ (.tup ds) _
  simp only[Is]
  rw[Nw.upd S2.sub hp]
  refine⟨p,vs,rfl,bw,i2.same fun b o e => ?_⟩
  rw[aO (dg (S2.sub b o e) hp)];exact e⟩
theorem me (ha:JA X es (cE fa)):JE X (.List es pos) (tD (fx fa)):=(v_ ha).weak fun σ H Q h0_ => el7 h0_ fun F ad δ K S q k =>
 ⟨F,ad,δ,_,S,q,fun xs δ1 h1 vs F1 aR H1 E1 S1 V1=>by
  obtain⟨ds,δ2,F2,⟨hl,h2⟩,E2,S2,i2⟩:=wk S1 V1 h1
  refine⟨kA (by rw[i2.length];exact hl),fun p hp => ?_⟩
  have sm:aA H1 (upd H1 p (.lst vs)):=de hp
  refine k _ _ h2 _ _ _ _ ((E1.trans E2).trans (Ext.al S2 sm)) (S2.al sm) ?_
  show Is _ (.lst ds) _
  simp only[Is]
  rw[Nw.upd S2.sub hp]
  refine⟨p,vs,rfl,bw,i2.same fun b o e => ?_⟩
  rw[aO (dg (S2.sub b o e) hp)];exact e⟩
theorem wm (ha:JA X es (cE fa)):JE X (.List es pos) (tD (q_ fa)):=(v_ ha).weak fun σ H Q h0_ => el7 h0_ fun F ad δ K S q k =>
 ⟨F,ad,δ,_,S,q,fun xs δ1 h1 vs F1 aR H1 E1 S1 V1=>by
  obtain⟨ds,δ2,F2,⟨hl,h2⟩,E2,S2,i2⟩:=wk S1 V1 h1
  refine⟨kA (by rw[i2.length];exact hl),fun p hp => ?_⟩
  have oi:fD F2 (.lst ds) (.lst vs):=⟨vs,rfl,i2⟩
  refine k _ _ h2 _ _ _ _ ((E1.trans E2).trans (Ext.own S2 hp)) (S2.own hp oi) ⟨p,?_,rfl⟩
  rw[<-S2.b_,Wx (qU _),Xo];rfl⟩
noncomputable def rh (x:DV) (P:Bool->Prop):Prop:=match x with
 | .p (.bl b)=>P b
 | _=>False
noncomputable def dT (f:WE):WT:=fun δ K=>f δ fun x δ1=>rh x fun b=>K b δ1
noncomputable def jN (t u:WT):WT:=fun δ K=>t δ fun b δ1=>if b=true then u δ1 K else K false δ1
noncomputable def nE (t u:WT):WT:=fun δ K=>t δ fun b δ1=>if b=true then K true δ1 else u δ1 K
noncomputable def gu (t:WT):WT:=fun δ K=>t δ fun b δ1=>K (!b) δ1
noncomputable def AA (t:WT) (f g:WE):WE:=fun δ K=>t δ fun b δ1=>if b=true then f δ1 K else g δ1 K
noncomputable def nG (f g:WE):WE:=fun δ K=>f δ fun x δ1=>rh x fun b=>if b=true then g δ1 K else K (.p (.bl false)) δ1
noncomputable def AB (f:WE):WE:=fun δ K=>f δ fun x δ1=>rh x fun b=>K (.p (.bl (!b))) δ1
theorem t4 {F:Hp} {ad:List Addr} {x:DV} {v:V} {P:Bool->Prop} (hv:gG F ad x v) (h:rh x P):∃ b,v = .bl b/\P b:=by
 unfold rh at h
 split at h
 ·rename_i b
  exact⟨b,hv,h⟩
 ·exact h.elim
theorem mf (ha:JE X a (tD f)) (he:∀ whole,isTrue a X.env whole=(do let v <- whole;standAt a.pos;holding [v] (truthy v)):=by intro _;rfl):JT X a (dB (dT f)) :=
 (Ny ha he).weak fun σ H Q h0_ => el7 h0_ fun F ad δ K S q k =>⟨F,ad,δ,_,S,q,fun x δ1 h1 v F1 aR H1 E1 S1 V1=>by
  obtain⟨b,rfl,h2⟩:=t4 V1 h1
  exact⟨b,rfl,k _ _ h2 _ _ _ E1 S1⟩⟩
theorem dQ {op:CmpOp} {o:D->D->(D->Prop)->Prop} (ho:f7 X (compareOp op) o) (ha:JE X a (tD f)) (hb:JE X b (tD g)) (hm:behindInMarks op b=false):JT X (.Compare a [op] [b] pos) (dB (dT (d2 f g o))) :=
 (NO ho ha hb hm).weak fun σ H Q h0_ => el7 h0_ fun F ad δ K S q k =>wj (ta:=tD f) (tb:=tD g) (fun _ _ _ _ h=>h) σ H _ ⟨F,ad,δ,_,S,q,fun x δ1 h1 v F1 aR H1 E1 S1 V1=>by
  obtain⟨b,rfl,h2⟩:=t4 V1 h1
  exact⟨b,rfl,k _ _ h2 _ _ _ E1 S1⟩⟩
theorem nH (ha:JT X a (dB t)):JT X (.UnaryOp .Not a pos) (dB (gu t)):=(ND ha).weak fun σ H Q h0_ => el7 h0_ fun F ad δ K S q k =>⟨F,ad,δ,_,S,q,fun b δ1 h1 F1 aR H1 E1 S1=>k _ _ h1 _ _ _ E1 S1⟩
theorem Oc:∀ σ H Q,dB (jN t u) σ H Q->oH (dB t) (dB u) σ H Q:=fun σ H Q h0_ => el7 h0_ fun F ad δ K S q k =>⟨F,ad,δ,_,S,q,fun b δ1 h1 F1 aR H1 E1 S1=>by
 cases b with
 | true =>
  rw[V8 rfl] at h1 ⊢
  exact⟨F1,aR,δ1,_,S1,h1,fun b δ2 h2 F2 bP H2 E2 S2=>k _ _ h2 _ _ _ (E1.trans E2) S2⟩
 | false =>
  rw[V0 WH] at h1 ⊢
  exact k _ _ h1 _ _ _ E1 S1⟩
theorem Od:∀ σ H Q,dB (nE t u) σ H Q->yW (dB t) (dB u) σ H Q:=fun σ H Q h0_ => el7 h0_ fun F ad δ K S q k =>⟨F,ad,δ,_,S,q,fun b δ1 h1 F1 aR H1 E1 S1=>by
 cases b with
 | false =>
  rw[V0 WH] at h1 ⊢
  exact⟨F1,aR,δ1,_,S1,h1,fun b δ2 h2 F2 bP H2 E2 S2=>k _ _ h2 _ _ _ (E1.trans E2) S2⟩
 | true =>
  rw[V8 rfl] at h1 ⊢
  exact k _ _ h1 _ _ _ E1 S1⟩
theorem JW.weak {e:Expr} {t t':TT} (h:JW X e t) (k:∀ σ H Q,t' σ H Q->t σ H Q):JW X e t':=⟨fun wh pins s σ H Q I q=>h.out wh pins s σ H Q I (k σ H Q q)⟩
theorem AD (ha:JT X a (dB t)):JW X (.BoolOp .And [a] pos) (dB t):=Nz ha
theorem wo (ha:JT X a (dB t)):JW X (.BoolOp .Or [a] pos) (dB t):=NA ha
theorem AE {rest:List Expr} (ha:JT X a (dB t)) (hb:JW X (.BoolOp .And (b :: rest) pos) (dB u)):JW X (.BoolOp .And (a :: b :: rest) pos) (dB (jN t u)):=(NB ha hb).weak Oc
theorem wq {rest:List Expr} (ha:JT X a (dB t)) (hb:JW X (.BoolOp .Or (b :: rest) pos) (dB u)):JW X (.BoolOp .Or (a :: b :: rest) pos) (dB (nE t u)):=(NC ha hb).weak Od
theorem rm {op} (ha:JE X a (tD f)):JE X (.BoolOp op [a] pos) (tD f):=NF ha
theorem rp {rest:List Expr} (ha:JE X a (tD f)) (hb:JE X (.BoolOp .And (b :: rest) pos) (tD g)):JE X (.BoolOp .And (a :: b :: rest) pos) (tD (nG f g)) :=
 (NG ha hb).weak fun σ H Q h0_ => el7 h0_ fun F ad δ K S q k =>⟨F,ad,δ,_,S,q,fun x δ1 h1 v F1 aR H1 E1 S1 V1=>by
  obtain⟨b,rfl,h2⟩:=t4 V1 h1
  refine⟨b,rfl,?_⟩
  cases b with
  | true =>
   rw[V8 rfl] at h2 ⊢
   exact⟨F1,aR,δ1,_,S1,h2,fun x δ2 h3 v F2 bP H2 E2 S2 V2=>k _ _ h3 _ _ _ _ (E1.trans E2) S2 V2⟩
  | false =>
   rw[V0 WH] at h2 ⊢
   exact k _ _ h2 _ _ _ _ E1 S1 rfl⟩
theorem Oe (ha:JE X a (tD f)):JE X (.UnaryOp .Not a pos) (tD (AB f)) :=
 (NH ha).weak fun σ H Q h0_ => el7 h0_ fun F ad δ K S q k =>⟨F,ad,δ,_,S,q,fun x δ1 h1 v F1 aR H1 E1 S1 V1=>by
  obtain⟨b,rfl,h2⟩:=t4 V1 h1
  exact⟨b,rfl,k _ _ h2 _ _ _ _ E1 S1 rfl⟩⟩
theorem Of (hc:JT X c (dB t)) (ha:JE X a (tD f)) (hb:JE X b (tD g)):JE X (.IfExp c a b pos) (tD (AA t f g)) :=
 (NI hc ha hb).weak fun σ H Q h0_ => el7 h0_ fun F ad δ K S q k =>⟨F,ad,δ,_,S,q,fun b δ1 h1 F1 aR H1 E1 S1=>by
  cases b with
  | true =>
   rw[V8 rfl] at h1 ⊢
   exact⟨F1,aR,δ1,_,S1,h1,fun x δ2 h3 v F2 bP H2 E2 S2 V2=>k _ _ h3 _ _ _ _ (E1.trans E2) S2 V2⟩
  | false =>
   rw[V0 WH] at h1 ⊢
   exact⟨F1,aR,δ1,_,S1,h1,fun x δ2 h3 v F2 bP H2 E2 S2 V2=>k _ _ h3 _ _ _ _ (E1.trans E2) S2 V2⟩⟩
end
structure KS where
 nx:ay->Prop
 rt:DV->ay->Prop
 bk:ay->Prop:=fun _=>False
 ct:ay->Prop:=fun _=>False
noncomputable abbrev WS:=KS->ay->Prop
noncomputable def Cn (F:Hp) (ad:List Addr) (mu:List (Option OV)) (H:Hp) (P:ay->Prop) (R:St->Hp->Prop):Prop:=∀ δ',P δ'->∀ F' aE σ' H',Ext F ad mu H F' aE δ'.mu H'->SR F' aE δ' σ' H'->R σ' H'
structure wt (F:Hp) (ad:List Addr) (mu:List (Option OV)) (H:Hp) (K:KS) (D:Ends):Prop where
 nx:Cn F ad mu H K.nx D.nx
 bk:Cn F ad mu H K.bk D.bk
 ct:Cn F ad mu H K.ct D.ct
 rt:∀ x δ',K.rt x δ'->∀ v F' aE σ' H',Ext F ad mu H F' aE δ'.mu H'->SR F' aE δ' σ' H'->gG F' aE x v->D.rt v H'
theorem Cn.ext {F F' H H':Hp} {ad aE:List Addr} {mu dE:List (Option OV)} {P:ay->Prop} {R:St->Hp->Prop} (c:Cn F ad mu H P R) (e:Ext F ad mu H F' aE dE H'):Cn F' aE dE H' P R:=fun δ' h _ _ _ _ E S=>c δ' h _ _ _ _ (e.trans E) S
theorem wt.ext {F F' H H':Hp} {ad aE:List Addr} {mu dE:List (Option OV)} {K:KS} {D:Ends} (c:wt F ad mu H K D) (e:Ext F ad mu H F' aE dE H'):wt F' aE dE H' K D :=
 ⟨c.nx.ext e,c.bk.ext e,c.ct.ext e,fun x δ' h _ _ _ _ _ E S V=>c.rt x δ' h _ _ _ _ _ (e.trans E) S V⟩
noncomputable def eT (G:WS):TS:=fun D σ H=>∃ F ad δ K,SR F ad δ σ H/\G K δ /\ wt F ad δ.mu H K D
noncomputable def av (G G':WS):WS:=fun K δ => G { K with nx:=G' K } δ
noncomputable def fQ:WS:=fun K δ => K.nx δ
noncomputable def aK (i:Nat) (f:WE):WS:=fun K δ => f δ fun x δ1=>K.nx ⟨δ1.sl.set i (some x),δ1.mu⟩
noncomputable def ly (f:WE):WS:=fun K δ => f δ fun _ δ1=>K.nx δ1
noncomputable def aV (f:WE):WS:=fun K δ => f δ fun x δ1=>K.rt x δ1
noncomputable def bJ (t:WT) (G G':WS):WS:=fun K δ => t δ fun b δ1=>if b=true then G K δ1 else G' K δ1
section
variable {X:Cx} {e c:Expr} {st:Stmt} {rest:List Stmt} {f:WE} {t:WT} {G G':WS} {pos:Pos}
theorem gv:fO X [] (eT fQ):=l9.weak fun D σ H h0_ => el7 h0_ fun F ad δ K S q k =>k.nx _ q _ _ _ _ .refl S
theorem bq (h:JS X st (eT G)):fO X [st] (eT G):=tO h
theorem a6 (h:JS X st (eT G)) (r:fO X rest (eT G')):fO X (st :: rest) (eT (av G G')) :=
 (pA h r).weak fun D σ H h0_ => el7 h0_ fun F ad δ K S q k =>⟨F,ad,δ,_,S,q,⟨fun δ' h _ _ _ _ E S'=>⟨_,_,δ',K,S',h,k.ext E⟩,k.bk,k.ct,k.rt⟩⟩
theorem Og {i:Nat}:∀ D σ H,eT (aK i f) D σ H->gW (tD f) (lh i) D σ H:=fun D σ H h0_ => el7 h0_ fun F ad δ K S q k =>⟨F,ad,δ,_,S,q,fun x δ1 h1 v F1 aR H1 E1 S1 V1=>k.nx _ h1 _ _ _ _ E1 (S1.set V1)⟩
theorem cf {i:Nat} {x:Str} {pos':Pos} (hN:X.N.Nodup) (hi:X.N[i]? = some x) (hx:Loc X.env.scope x) (he:JE X e (tD f)) (hs:swapsWith e (some (.Name x pos')) pos.line X.env=pure false:=by rfl)
  (hf:X.fn x=true\/X.env.scope.names.lookup x=some .local:=by first | exact .inl rfl | exact .inr rfl | assumption):JS X (.Assign [.Name x pos'] e pos) (eT (aK i f)):=(v9 hN hi hx he hs hf).weak Og
theorem pG (he:JE X e (tD f)) (hs:swapsWith e none pos.line X.env=pure false:=by rfl):JS X (.Expr e pos) (eT (ly f)) :=
 (Fs he hs).weak fun D σ H h0_ => el7 h0_ fun F ad δ K S q k =>⟨F,ad,δ,_,S,q,fun x δ1 h1 v F1 aR H1 E1 S1 V1=>k.nx _ h1 _ _ _ _ E1 S1⟩
theorem cF (he:JE X e (tD f)):JS X (.Return (some e) pos) (eT (aV f)) :=
 (Ah he).weak fun D σ H h0_ => el7 h0_ fun F ad δ K S q k =>⟨F,ad,δ,_,S,q,fun x δ1 h1 v F1 aR H1 E1 S1 V1=>k.rt _ _ h1 _ _ _ _ _ E1 S1 V1⟩
theorem f9 {a b:List Stmt} (hc:JT X c (dB t)) (ha:fO X a (eT G)) (hb:fO X b (eT G')):JS X (.If c a b pos) (eT (bJ t G G')) :=
 (NJ hc ha hb).weak fun D σ H h0_ => el7 h0_ fun F ad δ K S q k =>⟨F,ad,δ,_,S,q,fun b δ1 h1 F1 aR H1 E1 S1=>by
  cases b with
  | true =>
   rw[V8 rfl] at h1 ⊢
   exact⟨F1,aR,δ1,K,S1,h1,k.ext E1⟩
  | false =>
   rw[V0 WH] at h1 ⊢
   exact⟨F1,aR,δ1,K,S1,h1,k.ext E1⟩⟩
noncomputable def t5:WS:=fun _ _=>False
noncomputable abbrev WG:=DV->ay->(ay->Prop)->Prop
noncomputable def kB (g:WG):TG:=fun v σ H Q=>∃ F ad δ x K,SR F ad δ σ H/\gG F ad x v/\g x δ K/\Cn F ad δ.mu H K Q
noncomputable abbrev pH:=List D->ay->(ay->Prop)->Prop
noncomputable def mi (g:pH):jj:=fun vs σ H Q=>∃ F ad δ ds K,SR F ad δ σ H/\af F ds vs/\g ds δ K/\Cn F ad δ.mu H K Q
noncomputable def cy (i:Nat):WG:=fun x δ K=>K ⟨δ.sl.set i (some x),δ.mu⟩
noncomputable def pJ:pH:=fun ds δ K=>match ds with
 | []=>K δ
 | _=>False
noncomputable def lz (g:WG) (g':pH):pH:=fun ds δ K=>match ds with
 | d :: r=>g (.p d) δ fun δ1=>g' r δ1 K
 | []=>False
theorem JG.weak {tg:Expr} {t t':TG} (h:JG X tg t) (k:∀ v σ H Q,t' v σ H Q->t v σ H Q):JG X tg t':=⟨fun pins s σ H v u Q I r q=>h.out pins s σ H v u Q I r (k v σ H Q q)⟩
theorem j3.weak {ts:List Expr} {t t':jj} (h:j3 X ts t) (k:∀ v σ H Q,t' v σ H Q->t v σ H Q):j3 X ts t':=⟨fun pins s σ H v u Q I r q=>h.out pins s σ H v u Q I r (k v σ H Q q)⟩
theorem d7 {i:Nat} {x:Str} (hN:X.N.Nodup) (hi:X.N[i]? = some x) (hx:Loc X.env.scope x) (hf:X.fn x=true\/X.env.scope.names.lookup x=some .local:=by first | exact .inl rfl | exact .inr rfl | assumption):JG X (.Name x pos) (kB (cy i)) :=
 (tP hN hi hx hf).weak fun v σ H Q ⟨F,ad,δ,x,K,S,V,q,k⟩=>k _ q _ _ _ _ .refl (S.set V)
theorem AF:j3 X [] (mi pJ):=g5.weak fun vs σ H Q ⟨F,ad,δ,ds,K,S,V,q,k⟩=>by
 unfold pJ at q
 split at q
 ·simp only[af] at V
  exact⟨V,k _ q _ _ _ _ .refl S⟩
 ·exact q.elim
theorem rq {es:List Expr} {g:WG} {g':pH} (h1:JG X e (kB g)) (h2:j3 X es (mi g')) (hs:(assignEach (e :: es) X.env).map (·.2)=assign e X.env :: (assignEach es X.env).map (·.2):=by rfl):j3 X (e :: es) (mi (lz g g')) :=
 (tQ h1 h2 hs).weak fun vs σ H Q ⟨F,ad,δ,ds,K,S,V,q,k⟩=>by
  unfold lz at q
  split at q
  ·rename_i d r
   simp only[af] at V
   obtain⟨v,r',e,i1,i2⟩:=V
   exact⟨v,r',e,F,ad,δ,.p d,_,S,i1,q,fun δ' h _ _ _ _ E S'=>⟨_,_,δ',r,K,S',i2.same E.same,h,k.ext E⟩⟩
  ·exact q.elim
noncomputable def rA (n:Nat) (g:pH):WG:=fun x δ K=>iB x δ fun d=>match d with
 | .tup ds=>ds.length=n/\g ds δ K
 | .lst ds=>ds.length=n/\g ds δ K
 | _=>False
theorem JG.or {tg:Expr} {t t':TG} (h:JG X tg t) (h':JG X tg t'):JG X tg (fun v σ H Q=>t v σ H Q\/t' v σ H Q):=⟨fun pins s σ H v u Q I r q=>q.elim (fun q=>h.out pins s σ H v u Q I r q) fun q=>h'.out pins s σ H v u Q I r q⟩
theorem AG {es:List Expr} {k:Nat} {g:pH} {n:Nat} (hc:X.calm=true) (h:j3 X es (mi g)) (hn:(assignEach es X.env).length=n:=by rfl) (kj:(assignEach es X.env).findIdx? (·.1)=none:=by rfl):JG X (.Tuple es k pos) (kB (rA n g)) :=
 ((Ai hc h hn kj).or (N9 hc h hn kj)).weak fun v σ H Q ⟨F,ad,δ,x,K,S,V,q,k⟩=>by
  obtain⟨d,q,rd⟩:=j4 S V q
  split at q
  ·rename_i ds
   have wu:Is F (.tup ds) v:=rd
   simp only[Is] at wu
   obtain⟨a,vs,e,h1,h2⟩:=wu
   exact .inl ⟨a,vs,e,bI.of (S.sub _ _ h1),by rw[h2.length];exact q.1,F,ad,δ,ds,K,S,h2,q.2,k⟩
  ·rename_i ds
   obtain⟨a,vs,e,h1,h2⟩:=rd
   exact .inr ⟨a,vs,e,bh.of h1,by rw[h2.length];exact q.1,F,ad,δ,ds,K,S,h2,q.2,k⟩
  ·exact q.elim
noncomputable def pK (f:WE) (g:WG):WS:=fun K δ => f δ fun x δ1=>g x δ1 K.nx
theorem Oh {tg:Expr} {g:WG} (he:JE X e (tD f)) (hg:JG X tg (kB g)) (hs:swapsWithSole [tg] e pos.line X.env=pure false:=by rfl) (hw:swappedStores [tg] e X.env=pure none:=by rfl)
  (h1:(assignEach [tg] X.env).map (·.2)=[assign tg X.env]:=by rfl):JS X (.Assign [tg] e pos) (eT (pK f g)) :=
 (qX he hg hs hw h1).weak fun D σ H h0_ => el7 h0_ fun F ad δ K S q k =>⟨F,ad,δ,_,S,q,fun x δ1 h1 v F1 aR H1 E1 S1 V1=>⟨F1,aR,δ1,x,K.nx,S1,V1,h1,k.nx.ext E1⟩⟩
end
structure pL where
 items:List D
 br:ay->Prop
noncomputable abbrev WI:=ay->(pL->ay->Prop)->Prop
noncomputable def pM (F:Hp) (ad:List Addr) (it:pL) (J:It):Prop:=∀ (F':Hp) (aE:List Addr) (δ : ay) (σ : St) (H:Hp),aA F F'->(∀ (k:Nat) (a:Addr),ad[k]? = some a->aE[k]? = some a)->SR F' aE δ σ H->it.br δ →
 J.stop it.items.length H/\∀ (i:Nat) (d:D),it.items[i]? = some d->J.go i H/\∀ x H',J.qN i H x H'->aA H H'/\Is (Nw F' H H') d x
noncomputable def lC (w:WI):TI:=fun σ H R=>∃ F ad δ K,SR F ad δ σ H/\w δ K/\∀ it δ',K it δ'->∀ J F' aE H',Ext F ad δ.mu H F' aE δ'.mu H'->SR F' aE δ' σ H'->pM F' aE it J->R J H'
noncomputable def wx (n:Nat):Option DV->Option DV->Option DV
 | none,_=>none
 | some _,some (.o k)=>if k < n then some (.o k) else none
 | some _,s=>s
noncomputable def gw (n:Nat):List (Option DV)->List (Option DV)->List (Option DV)
 | s0 :: r0,s :: r=>wx n s0 s :: gw n r0 r
 | [],_ :: r=>none :: gw n [] r
 | _,[]=>[]
noncomputable def ay.trim (δ0 δ : ay):ay:=⟨gw δ0.mu.length δ0.sl δ.sl,δ.mu.take δ0.mu.length⟩
theorem AH {n:Nat}:∀ (l0 l:List (Option DV)),(gw n l0 l).length=l.length
 | _ :: r0,_ :: r=>by rw[gw,My,My,AH r0 r]
 | [],_ :: r=>by rw[gw,My,My,AH [] r]
 | [],[]=>rfl
 | _ :: _,[]=>rfl
theorem AI {n:Nat}:∀ {l0 l:List (Option DV)} {i:Nat} {x:DV},(gw n l0 l)[i]? = some (some x)->l[i]? = some (some x)/\∀ k,x = .o k->k < n
 | s0 :: r0,s :: r,0,x,h=>by
  have h:wx n s0 s=some x:=by simpa [gw] using h
  match s0,s,h with
  | none,_,h=>cases h
  | some _,none,h=>cases h
  | some _,some (.p d),h=>cases (show some (DV.p d)=some x from h);exact⟨rfl,fun k e=>nomatch e⟩
  | some _,some (.o k),h =>
   have h:(if k < n then some (DV.o k) else none)=some x:=h
   by_cases c:k < n
   ·rw[V8 c] at h;cases h;exact⟨rfl,fun k' e=>by cases e;exact c⟩
   ·rw[V0 c] at h;cases h
 | s0 :: r0,s :: r,i + 1,x,h=>by
  have h:(gw n r0 r)[i]? = some (some x):=by simpa [gw] using h
  simpa using AI h
 | [],s :: r,0,x,h=>by simp[gw] at h
 | [],s :: r,i + 1,x,h=>by
  have h:(gw n [] r)[i]? = some (some x):=by simpa [gw] using h
  simpa using AI h
 | [],[],i,x,h=>by simp[gw] at h
 | _ :: _,[],i,x,h=>by simp[gw] at h
section
variable {F F' H H':Hp} {ad aE:List Addr} {δ δ' δ0:ay} {σ σ' τ : St} {mu dE:List (Option OV)} {l:Addr} {o:HO}
theorem Lv.take {n:Nat} {a:Addr} (h:Lv (ad.take n) (mu.take n) a):Lv ad mu a:=by
 obtain⟨k,ov,e1,e2⟩:=h
 have hk:k < n:=by
  have:=(pe.mp e1).1
  rw[W5] at this;omega
 rw[Xg hk] at e1 e2
 exact⟨k,ov,e1,e2⟩
theorem SR.trim (S:SR F ad δ σ H):SR F (ad.take δ0.mu.length) (δ0.trim δ) σ H:=by
 have tk:∀ {k:Nat} {a:Addr},(ad.take δ0.mu.length)[k]? = some a->k < δ0.mu.length/\ad[k]? = some a:=fun {k a} e=>by
  have hk:k < δ0.mu.length:=by
   have:=(pe.mp e).1
   rw[W5] at this;omega
  rw[Xg hk] at e;exact⟨hk,e⟩
 have tm:∀ {k:Nat} {w:Option OV},(δ.mu.take δ0.mu.length)[k]? = some w->k < δ0.mu.length /\ δ.mu[k]? = some w:=fun {k w} e=>by
  have hk:k < δ0.mu.length:=by
   have:=(pe.mp e).1
   rw[W5] at this;omega
  rw[Xg hk] at e;exact⟨hk,e⟩
 refine⟨S.sub,fun a x=>S.off a x.take,?_,fun k l a w w' e1 e2 e3 e4=>S.inj k l a w w' (tk e1).2 (tk e2).2 (tm e3).2 (tm e4).2,fun k ov e => ?_,fun i x e => ?_,?_,S.tab,S.nt⟩
 ·show (ad.take _).length=(δ.mu.take _).length
  rw[W5,W5,S.b_]
 ·obtain⟨a,o,e1,e2,h⟩:=S.mu k ov (tm e).2
  exact⟨a,o,by rw[Xg (tm e).1];exact e1,e2,h⟩
 ·obtain⟨e1,e2⟩:=AI e
  obtain⟨v,h1,h2⟩:=S.sl i x e1
  refine⟨v,h1,?_⟩
  cases x with
  | p d=>exact h2
  | o k =>
   obtain⟨a,h3,h4⟩:=h2
   exact⟨a,by rw[Xg (e2 k rfl)];exact h3,h4⟩
 ·show σ.length=(gw _ _ _).length
  rw[AH];exact S.len
theorem Ext.trim {n:Nat} (e:Ext F ad mu H F' aE dE H') (hn:ad.length=n):Ext F ad mu H F' (aE.take n) (dE.take n) H' :=
 ⟨e.same,e.new,e.keep,fun k a h=>by rw[Xg (by rw[<-hn];exact (pe.mp h).1)];exact e.pre k a h,fun a x=>e.cm a x.take,e.iA⟩
theorem SR.other (S:SR F ad δ σ H) (hf:F l=none) (hl:¬ Lv ad δ.mu l) (tk:aJ.ok (upd H l o)):SR F ad δ σ (upd H l o):=by
 refine⟨fun a u e => ?_,S.off,S.b_,S.inj,fun k ov e => ?_,S.sl,S.len,tk,S.nt⟩
 ·rw[aO (dg e hf)];exact S.sub a u e
 ·obtain⟨a,u,e1,e2,h⟩:=S.mu k ov e
  exact⟨a,u,e1,by rw[aO fun z=>hl (by subst z;exact⟨k,ov,e1,e⟩)];exact e2,h⟩
theorem Ext.other (e:Ext F ad mu H F' aE dE H') (hl:H l=none):Ext F ad mu H F' aE dE (upd H' l o) :=
 ⟨e.same,e.new,fun a u h n t=>by rw[aO (dg h hl)];exact e.keep a u h n t,e.pre,e.cm,fun a u h=>by rw[aO (dg h hl)];exact e.iA a u h⟩
theorem SR.adopt (S:SR F ad δ σ H) (hf:F l=none) (ho:H l=some o) (hl:¬ Lv ad δ.mu l) (no:∀ ps,o ≠ .tbl ps:=by intro _ z;cases z):SR (upd F l o) ad δ σ H:=by
 have sm:aA F (upd F l o):=de hf
 refine⟨fun a u e => ?_,fun a x => ?_,S.b_,S.inj,fun k ov e => ?_,fun i x e => ?_,S.len,S.tab,fun a ha=>by
  obtain⟨ps,q⟩:=aJ.tb S.tab ha
  rw[aO fun z=>by subst z;rw[ho] at q;exact no ps (WY q)]
  exact S.nt a ha⟩
 ·by_cases c:a=l
  ·subst c;rw[bw] at e;cases e;exact ho
  ·rw[aO c] at e;exact S.sub a u e
 ·rw[aO fun z=>hl (by subst z;exact x)];exact S.off a x
 ·obtain⟨a,u,e1,e2,h⟩:=S.mu k ov e
  exact⟨a,u,e1,e2,h.same sm⟩
 ·obtain⟨v,e1,h⟩:=S.sl i x e
  refine⟨v,e1,?_⟩
  cases x with
  | p d=>exact Is.same sm h
  | o k=>exact h
theorem Ext.adopt (e:Ext F ad mu H F' aE dE H') (hl:H l=none) (hf:F' l=none):Ext F ad mu H (upd F' l o) aE dE H' :=
 ⟨e.same.trans (de hf),fun a u h=>by
  by_cases c:a=l
  ·subst c;exact .inr (.inl hl)
  ·rw[aO c] at h;exact e.new a u h,e.keep,e.pre,e.cm,e.iA⟩
theorem SR.d8 {ov:OV} (S:SR F ad δ σ H) (hf:F l=none) (ho:H l=some o) (hl:¬ Lv ad δ.mu l) (h:fD F ov o):SR F (ad ++ [l]) ⟨δ.sl,δ.mu ++ [some ov]⟩ σ H:=by
 have old:∀ {k:Nat} {w:OV},(δ.mu ++ [some ov])[k]? = some (some w)->(k < δ.mu.length /\ δ.mu[k]? = some (some w))\/(k = δ.mu.length/\w=ov):=fun {k w} e=>by
  by_cases c:k < δ.mu.length
  ·rw[V9 c] at e;exact .inl ⟨c,e⟩
  ·have hl:=(pe.mp e).1
   rw[EZ,WM] at hl
   have ek:k = δ.mu.length:=by omega
   subst ek
   rw[Wx (qU _),Xo] at e
   exact .inr ⟨rfl,by simpa using e.symm⟩
 have pre:∀ {k:Nat},k < δ.mu.length->(ad ++ [l])[k]? = ad[k]? := fun {k} c=>V9 (by rw[S.b_];exact c)
 have last:(ad ++ [l])[δ.mu.length]? = some l:=by rw[<-S.b_,Wx (qU _),Xo];rfl
 refine⟨S.sub,fun a x => ?_,by rw[EZ,EZ,S.b_];rfl,fun k k' a w w' e1 e2 e3 e4 => ?_,fun k w e => ?_,fun i x e => ?_,S.len,S.tab,S.nt⟩
 ·obtain⟨k,w,e1,e2⟩:=x
  rcases old e2 with⟨c,e3⟩ | ⟨c,e3⟩
  ·rw[pre c] at e1;exact S.off a ⟨k,w,e1,e3⟩
  ·subst c;rw[last] at e1;cases e1;exact hf
 ·rcases old e3 with⟨c,q⟩ | ⟨c,q⟩
  ·rw[pre c] at e1
   rcases old e4 with⟨c',q'⟩ | ⟨c',q'⟩
   ·rw[pre c'] at e2;exact S.inj k k' a w w' e1 e2 q q'
   ·subst c';rw[last] at e2;cases e2;exact absurd ⟨k,w,e1,q⟩ hl
  ·subst c;rw[last] at e1;cases e1
   rcases old e4 with⟨c',q'⟩ | ⟨c',q'⟩
   ·rw[pre c'] at e2;exact absurd ⟨k',w',e2,q'⟩ hl
   ·exact c'.symm
 ·rcases old e with⟨c,q⟩ | ⟨c,q⟩
  ·obtain⟨a,u,e1,e2,h'⟩:=S.mu k w q
   exact⟨a,u,by rw[pre c];exact e1,e2,h'⟩
  ·subst c;subst q;exact⟨l,o,last,ho,h⟩
 ·obtain⟨v,e1,h'⟩:=S.sl i x e
  refine⟨v,e1,?_⟩
  cases x with
  | p d=>exact h'
  | o k =>
   obtain⟨a,e2,e3⟩:=h'
   exact⟨a,by rw[V9 (pe.mp e2).1];exact e2,e3⟩
theorem Ext.d8 {ov:OV} (e:Ext F ad mu H F' aE dE H') (hl:H l=none) (hm:aE.length=dE.length):Ext F ad mu H F' (aE ++ [l]) (dE ++ [some ov]) H' :=
 ⟨e.same,e.new,e.keep,fun k a h=>by rw[V9 (pe.mp (e.pre k a h)).1];exact e.pre k a h,fun a x=>by
  obtain⟨k,w,e1,e2⟩:=x
  by_cases c:k < dE.length
  ·rw[V9 c] at e2
   rw[V9 (by rw[hm];exact c)] at e1
   exact e.cm a ⟨k,w,e1,e2⟩
  ·have hW:=(pe.mp e2).1
   rw[EZ,WM] at hW
   have ek:k=aE.length:=by rw[hm];omega
   subst ek
   rw[Wx (qU _),Xo] at e1
   have:l=a:=by simpa using e1
   subst this;exact .inr hl,e.iA⟩
theorem SR.back {sl:List (Option DV)} (S0:SR F ad δ σ H) (e:Ext F ad δ.mu H F' aE dE H') (S:SR F' aE ⟨sl,dE⟩ τ H'):SR F' aE ⟨δ.sl,dE⟩ σ H' :=
 ⟨S.sub,S.off,S.b_,S.inj,S.mu,fun i x q=>let ⟨v,h1,h2⟩:=S0.sl i x q; ⟨v,h1,h2.ext e⟩,S0.len,S.tab,S.nt⟩
noncomputable def dF (cp:List (Option Nat)) (sl:List (Option DV)):List (Option DV):=cp.map fun o=>match o with
 | some i=>(sl[i]?).join
 | none=>none
theorem SR.pN {cp:List (Option Nat)} (S:SR F ad δ σ H):SR F ad ⟨dF cp δ.sl,δ.mu⟩ (iL cp σ) H:=by
 refine⟨S.sub,S.off,S.b_,S.inj,S.mu,fun j x e => ?_,by unfold iL dF;rw[pd,pd],S.tab,S.nt⟩
 unfold dF at e
 rw[MJ] at e
 obtain⟨o,e1,e2⟩:=V7.mp e
 match o,e2 with
 | none,e2=>cases e2
 | some i,e2 =>
  have e2:(δ.sl[i]?).join=some x:=e2
  cases q : δ.sl[i]? with
  | none=>rw[q] at e2;cases e2
  | some z =>
   rw[q] at e2
   have e3:z=some x:=e2
   subst e3
   obtain⟨v,h1,h2⟩:=S.sl i x q
   refine⟨v,?_,h2⟩
   unfold iL
   rw[MJ,e1]
   show some ((σ[i]?).join)=some (some v)
   rw[h1];rfl
end
noncomputable def kC (δ0:ay) (br:ay->Prop) (g:WG) (b:WS) (K:KS):List D->ay->Prop
 | [],δ => br δ /\ K.nx δ
 | d :: r,δ => br δ /\ g (.p d) δ fun δ1=>b { nx:=fun δ2=>kC δ0 br g b K r (δ0.trim δ2),ct:=fun δ2=>kC δ0 br g b K r (δ0.trim δ2),bk:=K.nx,rt:=K.rt } δ1
noncomputable def fy (w:WI) (g:WG) (b:WS):WS:=fun K δ => w δ fun it δ1=>kC δ1 it.br g b K it.items δ1
noncomputable def ju (δ0:ay) (br:ay->Prop) (g:WG) (t:WT) (f:WE) (K:List D->ay->Prop):List D->List D->ay->Prop
 | [],acc,δ => br δ /\ K acc δ
 | d :: r,acc,δ => br δ /\ g (.p d) δ fun δ1=>t δ1 fun b δ2=>if b=true then f δ2 fun x δ3=>ma x δ3 fun e δ4=>acc.length < 1000/\ju δ0 br g t f K r (acc ++ [e]) (δ0.trim δ4) else ju δ0 br g t f K r acc (δ0.trim δ2)
noncomputable def iD (w:WI) (cp:List (Option Nat)) (g:WG) (t:WT) (f:WE):WE:=fun δ K=>w δ fun it δ1=>ju ⟨dF cp δ1.sl,δ1.mu⟩ it.br g t f (fun acc δ'=>K (.p (.lst acc)) ⟨δ1.sl,δ'.mu⟩) it.items [] ⟨dF cp δ1.sl,δ1.mu⟩
noncomputable def pO (w:WI) (cp:List (Option Nat)) (g:WG) (t:WT) (f:WE):WE:=fun δ K=>w δ fun it δ1=>ju ⟨dF cp δ1.sl,δ1.mu⟩ it.br g t f (fun acc δ'=>K (.o δ'.mu.length) ⟨δ1.sl,δ'.mu ++ [some (.lst acc)]⟩) it.items [] ⟨dF cp δ1.sl,δ1.mu⟩
section
variable {X:Cx} {tg iter elt:Expr} {body:List Stmt} {w:WI} {g:WG} {b:WS} {pos:Pos} {ifs:List Expr} {t:WT} {f:WE} {scope:Scope}
theorem nJ (hp:PassesOwn (model X.prog X.w) X.A X.env X.xe) (hc:X.calm=true) (hi:JI X tg iter (lC w)) (hg:JG X tg (kB g)) (hb:fO X body (eT b)) (hs:∀ x,foldedSetIterable iter X.env x=pure x:=by intro _;rfl) :
  JS X (.For tg iter body [] pos) (eT (fy w g b)):=(Aj hp hc hi hg hb hs).weak fun D σ H h0_ => el7 h0_ fun F ad δ K S q k =>by
 refine⟨F,ad,δ,_,S,q,fun it δ1 h1 J F1 aR H1 E1 S1 I1 => ?_⟩
 have k1:=k.ext E1
 refine⟨fun i m σ' H'=>∃ F' aE δ',i + m=it.items.length/\Ext F1 aR δ1.mu H1 F' aE δ'.mu H'/\SR F' aE δ' σ' H'/\kC δ1 it.br g b K (it.items.drop i) δ',⟨it.items.length,F1,aR,δ1,by omega,.refl,S1,h1⟩,?_⟩
 rintro i m σ' H' ⟨F',aE,δ',hm,E',S',h⟩
 by_cases cj:i < it.items.length
 ·rw[YB cj] at h
  obtain⟨ck,h⟩:=h
  obtain⟨go,yl⟩:=(I1 F' aE δ' σ' H' E'.same E'.pre S' ck).2 i _ (pb cj)
  refine .inr ⟨go,fun σ2 H2=>∃ F2 bP δ2,Ext F1 aR δ1.mu H1 F2 bP δ2.mu H2/\SR F2 bP δ2 σ2 H2/\kC δ1 it.br g b K (it.items.drop (i + 1)) δ2,fun σ2 H2 ⟨F2,bP,δ2,e1,e2,e3⟩=>⟨m - 1,by omega,F2,bP,δ2,by omega,e1,e2,e3⟩,fun x H2 y => ?_⟩
  obtain⟨sm,is⟩:=yl x H2 y
  have E2:=E'.trans (Ext.al S' sm)
  refine⟨_,aE,δ',.p _,_,S'.al sm,is,h,fun δ3 h3 F3 rB σ3 H3 E3 S3 => ?_⟩
  have wy:=E2.trans E3
  refine⟨F3,rB,δ3,_,S3,h3,⟨fun δ4 h4 F4 wz σ4 H4 E4 S4=>⟨F4,_,_,(wy.trans E4).trim S1.b_,S4.trim,h4⟩,k1.nx.ext wy,fun δ4 h4 F4 wz σ4 H4 E4 S4=>⟨F4,_,_,(wy.trans E4).trim S1.b_,S4.trim,h4⟩,(k1.ext wy).rt⟩⟩
 ·have ei:i=it.items.length:=by omega
  subst ei
  rw[List.drop_of_length_le (qU _)] at h
  obtain⟨ck,h⟩:=h
  exact .inl ⟨(I1 F' aE δ' σ' H' E'.same E'.pre S' ck).1,k1.nx _ h _ _ _ _ E' S'⟩
noncomputable def g7:WT:=fun δ K=>K true δ
theorem JF.weak {ifs:List Expr} {t t':TT} (h:JF X ifs t) (k:∀ σ H Q,t' σ H Q->t σ H Q):JF X ifs t':=⟨fun pins s σ H Q I q=>h.out pins s σ H Q I (k σ H Q q)⟩
theorem pP:JF X [] (dB g7):=pD.weak fun σ H Q h0_ => el7 h0_ fun F ad δ K S q k =>k _ _ q _ _ _ .refl S
theorem lD {c:Expr} (h:JT X c (dB t)):JF X [c] (dB t):=NU h
theorem FP {J:It} {l:Addr} {F1:Hp} {aR:List Addr} {δ1:ay} {σ : St} {H1:Hp} {it:pL} {cp:List (Option Nat)} {Q:VK} {K:List D->ay->Prop} (S1:SR F1 aR δ1 σ H1) (I1:pM F1 aR it J) (hl:H1 l=none)
  (h:ju ⟨dF cp δ1.sl,δ1.mu⟩ it.br g t f K it.items [] ⟨dF cp δ1.sl,δ1.mu⟩)
  (fin:∀ acc δ' F' aE τ H' ys,K acc δ'->Ext F1 aR δ1.mu H1 F' aE δ'.mu H'->SR F' aE δ' τ H'->H' l=some (.lst ys)->F' l=none->¬ Lv aE δ'.mu l->af F' acc ys->Q (.ref l) H') :
  E9 J (kB g) (dB t) (tD f) l (iL cp σ) (upd H1 l (.lst [])) Q:=by
 have f1:F1 l=none:=by
  cases q:F1 l with
  | none=>rfl
  | some u=>rw[S1.sub l u q] at hl;cases hl
 have nl:∀ {ad mu},(∀ a,Lv ad mu a->Lv aR δ1.mu a\/H1 a=none)->True:=fun _=>trivial
 have l1:¬ Lv aR δ1.mu l:=fun ⟨k,ov,e1,e2⟩=>by
  obtain⟨a,o,e3,e4,_⟩:=S1.mu k ov e2
  rw[e1] at e3;cases e3
  rw[hl] at e4;cases e4
 have S0:SR F1 aR ⟨dF cp δ1.sl,δ1.mu⟩ (iL cp σ) (upd H1 l (.lst [])):=S1.pN.other f1 l1 (aJ.same S1.tab (de hl))
 refine⟨fun i m τ H'=>∃ F' aE δ' acc ys,i + m=it.items.length/\Ext F1 aR δ1.mu H1 F' aE δ'.mu H'/\SR F' aE δ' τ H'/\H' l=some (.lst ys)/\F' l=none/\¬ Lv aE δ'.mu l/\af F' acc ys/\ju ⟨dF cp δ1.sl,δ1.mu⟩ it.br g t f K (it.items.drop i) acc δ',⟨it.items.length,F1,aR,_,[],[],by omega,Ext.refl.other hl,S0,bw,f1,l1,.nil,h⟩,?_⟩
 rintro i m τ H' ⟨F',aE,δ',acc,ys,hm,E',S',hW,mj,nK,ia,h⟩
 by_cases cj:i < it.items.length
 ·rw[YB cj] at h
  obtain⟨ck,h⟩:=h
  obtain⟨go,yl⟩:=(I1 F' aE δ' τ H' E'.same E'.pre S' ck).2 i _ (pb cj)
  have step:∀ {F2:Hp} {bP:List Addr} {AJ:List (Option OV)} {H2:Hp},Ext F' aE δ'.mu H' F2 bP AJ H2->H2 l=some (.lst ys)/\F2 l=none/\¬ Lv bP AJ l/\af F2 acc ys:=fun {F2 bP AJ H2} e=>by
   refine⟨e.keep _ _ hW nK (fun z=>by obtain⟨ps,q⟩:=aJ.tb S1.tab z;rw[hl] at q;cases q),?_,fun z => ?_,ia.same e.same⟩
   ·cases q:F2 l with
    | none=>rfl
    | some u =>
     rcases e.new l u q with z | z | z
     ·rw[mj] at z;cases z
     ·rw[hW] at z;cases z
     ·exact absurd z nK
   ·rcases e.cm l z with z | z
    ·exact nK z
    ·rw[hW] at z;cases z
  refine .inr ⟨go,fun τ2 H2=>∃ F2 bP δ2 ml wA,Ext F1 aR δ1.mu H1 F2 bP δ2.mu H2/\SR F2 bP δ2 τ2 H2/\H2 l=some (.lst wA)/\F2 l=none/\¬ Lv bP δ2.mu l/\af F2 ml wA/\ju ⟨dF cp δ1.sl,δ1.mu⟩ it.br g t f K (it.items.drop (i + 1)) ml δ2,
   fun τ2 H2 ⟨F2,bP,δ2,ml,wA,r⟩=>⟨m - 1,by omega,F2,bP,δ2,ml,wA,by omega,r⟩,fun x H2 y => ?_⟩
  obtain⟨sm,is⟩:=yl x H2 y
  have X2:=Ext.al S' sm
  refine⟨_,aE,δ',.p _,_,S'.al sm,is,h,fun δ3 h3 F3 rB σ3 H3 X3 S3 => ?_⟩
  refine⟨F3,rB,δ3,_,S3,h3,fun bb δ4 h4 F4 wz H4 X4 S4 => ?_⟩
  have AK:=(X2.trans X3).trans X4
  cases bb with
  | false =>
   dsimp only at h4 ⊢
   rw[V0 WH] at h4 ⊢
   obtain⟨a1,a2,a3,a4⟩:=step AK
   exact⟨F4,_,_,acc,ys,(E'.trans AK).trim S1.b_,S4.trim (δ0:=⟨dF cp δ1.sl,δ1.mu⟩),a1,a2,fun z=>a3 z.take,a4,h4⟩
  | true =>
   dsimp only at h4 ⊢
   rw[V8 rfl] at h4 ⊢
   refine⟨F4,wz,δ4,_,S4,h4,fun y δ5 h5 v F5 Wd H5 X5 S5 V5 => ?_⟩
   obtain⟨e,δ6,F6,⟨hlen,h6⟩,X6,S6,i6⟩:=tZ S5 V5 h5
   have FQ:=(AK.trans X5).trans X6
   obtain⟨a1,a2,a3,a4⟩:=step FQ
   refine⟨ys,a1,lj (by rw[a4.length];omega),F6,_,_,acc ++ [e],ys ++ [v],?_,(S6.other a2 a3 (aJ.put S6.tab a1 (.inl ⟨_,rfl⟩))).trim (δ0:=⟨dF cp δ1.sl,δ1.mu⟩),bw,a2,fun z=>a3 z.take,a4.snoc i6,h6⟩
   exact ((E'.trans FQ).other hl).trim S1.b_
 ·have ei:i=it.items.length:=by omega
  subst ei
  rw[List.drop_of_length_le (qU _)] at h
  obtain⟨ck,h⟩:=h
  exact .inl ⟨(I1 F' aE δ' τ H' E'.same E'.pre S' ck).1,fin _ _ _ _ _ _ _ h E' S' hW mj nK ia⟩
theorem FR {cp:List (Option Nat)}:∀ σ H Q,tD (iD w cp g t f) σ H Q->pf (lC w) cp (fun _=>kB g) (fun _=>dB t) (fun _=>tD f) σ H Q:=fun σ H Q h0_ => el7 h0_ fun F ad δ K S q k =>by
 refine⟨F,ad,δ,_,S,q,fun it δ1 h1 J F1 aR H1 E1 S1 I1=>fun d l hl => ?_⟩
 refine FP S1 I1 hl h1 fun acc δ' F' aE τ H' ys hk E' S' hW mj nK ia => ?_
 have sm:aA F' (upd F' l (.lst ys)):=de mj
 refine k _ _ hk _ _ _ _ (E1.trans (E'.adopt hl mj)) (SR.back (sl := δ'.sl) S1 (E'.adopt hl mj) (S'.adopt mj hW nK)) ?_
 show Is _ (.lst acc) _
 simp only[Is]
 exact⟨l,ys,rfl,bw,ia.same sm⟩
theorem Oi {cp:List (Option Nat)}:∀ σ H Q,tD (pO w cp g t f) σ H Q->pf (lC w) cp (fun _=>kB g) (fun _=>dB t) (fun _=>tD f) σ H Q:=fun σ H Q h0_ => el7 h0_ fun F ad δ K S q k =>by
 refine⟨F,ad,δ,_,S,q,fun it δ1 h1 J F1 aR H1 E1 S1 I1=>fun d l hl => ?_⟩
 refine FP S1 I1 hl h1 fun acc δ' F' aE τ H' ys hk E' S' hW mj nK ia => ?_
 have S2:=S'.d8 (ov := .lst acc) mj hW nK ⟨ys,rfl,ia⟩
 have E2:=E'.d8 (ov := .lst acc) hl S'.b_
 refine k _ _ hk _ _ _ _ (E1.trans E2) (SR.back (sl := δ'.sl) S1 E2 S2) ⟨l,?_,rfl⟩
 rw[<-S'.b_,Wx (qU _),Xo];rfl
theorem lE (cp:List (Option Nat)) (Nb:List Str) (hc:X.calm=true) (hi:JI X tg iter (lC w)) (hg:∀ d,JG (cJ X scope Nb d) tg (kB g)) (hf:∀ d,JF (cJ X scope Nb d) ifs (dB t)) (he:∀ d,JE (cJ X scope Nb d) elt (tD f))
  (hk:scope.kind = .function:=by rfl) (ho:lq X.N X.env.scope scope Nb cp=true:=by first | rfl | kernel_rfl) (hs:∀ x,foldedSetIterable iter X.env x=pure x:=by intro _;rfl) :
  JE X (.ListComp elt [⟨tg,iter,ifs,0⟩] scope pos) (tD (iD w cp g t f)):=(Fu cp Nb hc hi hg hf he hk ho hs).weak FR
theorem wB (cp:List (Option Nat)) (Nb:List Str) (hc:X.calm=true) (hi:JI X tg iter (lC w)) (hg:∀ d,JG (cJ X scope Nb d) tg (kB g)) (hf:∀ d,JF (cJ X scope Nb d) ifs (dB t)) (he:∀ d,JE (cJ X scope Nb d) elt (tD f))
  (hk:scope.kind = .function:=by rfl) (ho:lq X.N X.env.scope scope Nb cp=true:=by first | rfl | kernel_rfl) (hs:∀ x,foldedSetIterable iter X.env x=pure x:=by intro _;rfl) :
  JE X (.ListComp elt [⟨tg,iter,ifs,0⟩] scope pos) (tD (pO w cp g t f)):=(Fu cp Nb hc hi hg hf he hk ho hs).weak Oi
theorem AL (cp:List (Option Nat)) (Nb:List Str) {i:Nat} {x:Str} {pos' iq:Pos} (hN:X.N.Nodup) (hi:X.N[i]? = some x) (hx:Loc X.env.scope x) (hc:X.calm=true) (hit:JI X tg iter (lC w)) (hg:∀ d,JG (cJ X scope Nb d) tg (kB g)) (hf:∀ d,JF (cJ X scope Nb d) ifs (dB t)) (he:∀ d,JE (cJ X scope Nb d) elt (tD f))
  (hk:scope.kind = .function:=by rfl) (ho:lq X.N X.env.scope scope Nb cp=true:=by first | rfl | kernel_rfl) (hs:∀ x,foldedSetIterable iter X.env x=pure x:=by intro _;rfl)
  (tH:swapsWith (.ListComp elt [⟨tg,iter,ifs,0⟩] scope pos) (some (.Name x pos')) iq.line X.env=pure true:=by rfl)
  (lQ:X.fn x=true\/X.env.scope.names.lookup x=some .local:=by first | exact .inl rfl | exact .inr rfl | assumption) :
  JS X (.Assign [.Name x pos'] (.ListComp elt [⟨tg,iter,ifs,0⟩] scope pos) iq) (eT (aK i (iD w cp g t f))) :=
 (NV cp Nb hN hi hx hc hit hg hf he hk ho hs tH lQ).weak fun D σ H h0_ => el7 h0_ fun F ad δ K S q k =>FR σ H _ ⟨F,ad,δ,_,S,q,fun x δ1 h1 v F1 aR H1 E1 S1 V1=>k.nx _ h1 _ _ _ _ E1 (S1.set V1)⟩
end
inductive RV where
 | p (d:D) | n (ds:List D) | a (j:Nat)
noncomputable abbrev GD:=List DV->List OV->(RV->List OV->Prop)->Prop
structure wC (F:Hp) (ad:List Addr) (H:Hp) (r:RV) (ows:List OV) (v:V) (F' H':Hp):Prop where
 sub:aA F' H'
 same:aA F F'
 new:∀ a o,F' a=some o->F a=some o\/H a=none
 keep:∀ a o,H a=some o->a∉ad->a∉aJ.ad->H' a=some o
 tab:aJ.ok H'
 nt:∀ a∈aJ.ad,F' a=none
 len:ows.length=ad.length
 own:∀ (j:Nat) (ow:OV),ows[j]? = some ow->∃ a o,ad[j]? = some a/\H' a=some o/\fD F' ow o
 off:∀ a∈ad,F' a=none
 res:match r with
  | .p d=>Is F' d v
  | .n ds=>∃ a vs,v = .ref a/\H a=none/\H' a=some (.lst vs)/\F' a=none/\af F' ds vs
  | .a j=>∃ a,ad[j]? = some a/\v = .ref a
noncomputable def aQ (G:GD) (n:Nat):Sp:=fun vs H Q _=>vs.length=n/\∃ F ad ys aj K,SR F ad ⟨ys.map some,aj.map some⟩ (vs.map some) H/\G ys aj K/\∀ r ows,K r ows->∀ v F' H',wC F ad H r ows v F' H'->Q v H'
noncomputable def iE (n:Nat) (K:RV->List OV->Prop) (x:DV) (δ : ay):Prop:=∃ ows,δ.mu.take n=ows.map some/\ows.length=n/\match x with
 | .p d=>K (.p d) ows
 | .o k=>if k < n then K (.a k) ows else match δ.mu[k]? with
  | some (some (.lst ds))=>K (.n ds) ows\/K (.p (.lst ds)) ows
  | _=>False
noncomputable def dq (n:Nat) (K:RV->List OV->Prop):KS where
 nx:=iE n K (.p .non)
 rt:=iE n K
section
variable {F F' H H':Hp} {ad aE:List Addr} {σ σ':St}
theorem FT {α : Type} {l:List α} {i:Nat} {x : α} (h:(l.map some)[i]? = some (some x)):l[i]? = some x:=by
 rw[MJ] at h
 obtain⟨y,e,q⟩:=V7.mp h
 cases q;exact e
theorem Oj {α : Type} {l:List α} {i:Nat} {x : α} (h:l[i]? = some x):(l.map some)[i]? = some (some x):=by
 rw[MJ,h];rfl
theorem SR.start {ys:List DV} {mu:List (Option OV)} {vs:List V} {N:List Str} (S:SR F ad ⟨ys.map some,mu⟩ (vs.map some) H):SR F ad ⟨ys.map some ++ List.replicate (N.length - vs.length) none,mu⟩ (start N vs) H:=by
 have hl:vs.length=ys.length:=by
  have:=S.len
  rw[pd] at this
  show vs.length=ys.length
  rw[this];show (ys.map some).length=_;rw[pd]
 refine⟨S.sub,S.off,S.b_,S.inj,S.mu,fun i x e => ?_,?_,S.tab,S.nt⟩
 ·have hi:i < ys.length:=by
   by_cases c:i < ys.length
   ·exact c
   ·rw[Wx (by rw[pd];omega),Zo] at e
    split at e
    ·cases e
    ·cases e
  rw[V9 (by rw[pd];exact hi)] at e
  obtain⟨v,h1,h2⟩:=S.sl i x e
  exact⟨v,by unfold L2.start;rw[V9 (by rw[pd,hl];exact hi)];exact h1,h2⟩
 ·unfold L2.start
  show _=(ys.map some ++ _).length
  rw[EZ,EZ,YA,YA,pd,pd,hl]
theorem wD {aj:List OV} {δ : ay} {x:DV} {v:V} {K:RV->List OV->Prop} {Q:VK} {sl:List (Option DV)} {τ : St} (S0:SR F ad ⟨sl,aj.map some⟩ τ H) (E:Ext F ad (aj.map some) H F' aE δ.mu H') (S:SR F' aE δ σ' H') (V:gG F' aE x v)
  (h:iE aj.length K x δ) (k:∀ r ows,K r ows->∀ v F' H',wC F ad H r ows v F' H'->Q v H'):Q v H':=by
 obtain⟨ows,tk,hl,h⟩:=h
 have al:ad.length=aj.length:=by have:=S0.b_;rwa [pd] at this
 have lv:∀ (j:Nat) (a:Addr),ad[j]? = some a->∃ ow,ows[j]? = some ow /\ δ.mu[j]? = some (some ow)/\Lv aE δ.mu a:=fun j a e=>by
  have hj:j < aj.length:=by rw[<-al];exact (pe.mp e).1
  have h1:(δ.mu.take aj.length)[j]? = some (some (ows[j]'(by rw[hl];exact hj))):=by
   rw[tk,MJ,pb (by rw[hl];exact hj)];rfl
  rw[Xg hj] at h1
  exact⟨_,pb (by rw[hl];exact hj),h1,j,_,E.pre j a e,h1⟩
 have kD:∀ a∈ad,F' a=none:=fun a ha=>by
  obtain⟨j,e⟩:=WB.mp ha
  obtain⟨_,_,_,l⟩:=lv j a e
  exact S.off a l
 have base:∀ {F2:Hp},aA F' F2->aA F2 H'->(∀ a o,F2 a=some o->F' a=some o\/(H a=none/\¬ a∈ad))->(∀ a∈ad,F2 a=none)->(∀ a∈aJ.ad,F2 a=none)->∀ {r:RV},(match r with
   | .p d=>Is F2 d v
   | .n ds=>∃ a vs,v = .ref a/\H a=none/\H' a=some (.lst vs)/\F2 a=none/\af F2 ds vs
   | .a j=>∃ a,ad[j]? = some a/\v = .ref a)->wC F ad H r ows v F2 H':=fun {F2} s1 s2 n2 o2 Ol {r} res=>by
  refine⟨s2,E.same.trans s1,fun a o e => ?_,fun a o e n t => ?_,S.tab,Ol,by rw[hl,al],fun j ow e => ?_,o2,res⟩
  ·rcases n2 a o e with e | ⟨e,_⟩
   ·rcases E.new a o e with z | z | ⟨j,ov,z,_⟩
    ·exact .inl z
    ·exact .inr z
    ·rw[kD a (WB.mpr ⟨j,z⟩)] at e;cases e
   ·exact .inr e
  ·exact E.keep a o e (fun ⟨j,ov,z,_⟩=>n (WB.mpr ⟨j,z⟩)) t
  ·have hj:j < ad.length:=by rw[al,<-hl];exact (pe.mp e).1
   obtain⟨AM,e1,e2,_⟩:=lv j _ (pb hj)
   rw[e] at e1;cases e1
   obtain⟨a,o,e3,e4,h5⟩:=S.mu j _ e2
   rw[E.pre j _ (pb hj)] at e3
   cases e3
   exact⟨_,o,pb hj,e4,h5.same s1⟩
 cases x with
 | p d=>exact k _ _ h _ _ _ (base (F2:=F') (fun _ _ e=>e) S.sub (fun _ _ e => .inl e) kD S.nt V)
 | o i =>
  dsimp only at h
  obtain⟨a,e1,rfl⟩:=V
  by_cases c:i < aj.length
  ·rw[V8 c] at h
   have ei:ad[i]? = some a:=by
    have:=E.pre i _ (pb (by rw[al];exact c))
    rw[e1] at this
    rw[pb (by rw[al];exact c)]
    exact this.symm
   exact k _ _ h _ _ _ (base (F2:=F') (fun _ _ e=>e) S.sub (fun _ _ e => .inl e) kD S.nt ⟨a,ei,rfl⟩)
  ·rw[V0 c] at h
   split at h
   ·rename_i ds em
    obtain⟨a',o,e2,e3,vs,rfl,h4⟩:=S.mu i _ em
    rw[e1] at e2;cases e2
    have na:a∉ad:=fun z=>by
     obtain⟨j,e⟩:=WB.mp z
     obtain⟨ow,_,e5,_⟩:=lv j a e
     have:i=j:=S.inj i j a _ _ e1 (E.pre j a e) em e5
     subst this
     exact c (by rw[<-al];exact (pe.mp e).1)
    have fa:F' a=none:=S.off a ⟨i,_,e1,em⟩
    have ha:H a=none:=by
     rcases E.cm a ⟨i,_,e1,em⟩ with⟨j,ov,z,_⟩ | z
     ·exact absurd (WB.mpr ⟨j,z⟩) na
     ·exact z
    rcases h with h | h
    ·exact k _ _ h _ _ _ (base (F2:=F') (fun _ _ e=>e) S.sub (fun _ _ e => .inl e) kD S.nt ⟨a,vs,rfl,ha,e3,fa,h4⟩)
    ·refine k _ _ h _ _ _ (base (F2:=upd F' a (.lst vs)) (de fa) (fun b o e => ?_) (fun b o e => ?_) (fun b hb => ?_) (fun b hb => ?_) ?_)
     ·by_cases z:b=a
      ·subst z;rw[bw] at e;cases e;exact e3
      ·rw[aO z] at e;exact S.sub b o e
     ·by_cases z:b=a
      ·subst z;exact .inr ⟨ha,na⟩
      ·rw[aO z] at e;exact .inl e
     ·rw[aO fun z=>na (by subst z;exact hb)];exact kD b hb
     ·obtain⟨ps,q⟩:=aJ.tb S.tab hb
      rw[aO fun z=>by subst z;rw[e3] at q;cases q];exact S.nt b hb
     ·show Is _ (.lst ds) _
      simp only[Is]
      exact⟨a,vs,rfl,bw,h4.same (de fa)⟩
   ·exact h.elim
end
theorem cq.fE {P:Program} {w:World} {K:PySem.W.Frag} {mg:Str->Option Value} {base:Heap} {x qual:Str} {st:Stmt} {f:Addr} {fd:FuncData} {N ps:List Str} {k:Nat} {G:GD} (F:cq K x qual st f fd) (S:di N ps (bL st))
  (dY:∀ (a5:Value) (A:Around) (outer:List Env) (s:Shared) (H:Hp) (E:XK),a7 k (A.deeper (envOfC qual (bL st) s.heap.objs.size f a5)) →
   ∃ B:WS,fO (gr bS P w K mg base N qual (bL st) f a5 A outer s H E).lT (jI st) (eT B)/\∀ ys aj K',ys.length=ps.length->G ys aj K'->B (dq aj.length K') ⟨ys.map some ++ List.replicate (N.length - ps.length) none,aj.map some⟩) :
  aU P w K mg base bS (k + 1) f fd ps (aQ G ps.length) :=
 F.wc S (fun vs H Q E h=>h.1) fun a5 A outer s H vs Q E hr h=>by
  obtain⟨hl,Fz,ad,ys,aj,K',S0,g,kk⟩:=h
  obtain⟨B,jb,hb⟩:=dY a5 A outer s H E hr
  have hy:ys.length=ps.length:=by
   have:=S0.len
   rw[pd] at this
   rw[<-hl,this];show _=(ys.map some).length;rw[pd]
  refine⟨_,jb,Fz,ad,⟨ys.map some ++ List.replicate (N.length - ps.length) none,aj.map some⟩,dq aj.length K',by rw[<-hl];exact S0.start,hb ys aj K' hy g,⟨fun δ' h F' aE σ' H' E' S' => ?_,fun δ' h=>h.elim,fun δ' h=>h.elim,fun y δ' h v F' aE σ' H' E' S' V => ?_⟩⟩
  ·exact wD (σ' := σ') S0 E' S' (x := .p .non) (v := .non) rfl h kk
  ·exact wD (σ' := σ') S0 E' S' V h kk
noncomputable def passes (mu:List (Option OV)):List DV->Nat->Option (List DV × List (Nat × OV))
 | [],_=>some ([],[])
 | .p d :: xs,j=>match passes mu xs j with
  | some r=>some (.p d :: r.1,r.2)
  | none=>none
 | .o k :: xs,j=>match mu[k]? with
  | some (some ov)=>match passes mu xs (j + 1) with
   | some r=>some (.o j :: r.1,(k,ov) :: r.2)
   | none=>none
  | _=>none
noncomputable def f_ (mu:List (Option OV)):List (Nat × OV)->List OV->List (Option OV)
 | (k,_) :: r,ow :: ows=>f_ (mu.set k (some ow)) r ows
 | _,_=>mu
noncomputable def lF:List (Nat × OV)->Bool
 | []=>true
 | (k,_) :: r => !(r.any fun e=>e.1 == k) && lF r
noncomputable def pQ (δ : ay) (gJ:List (Nat × OV)) (K:DV->ay->Prop) (r:RV) (ows:List OV):Prop:=match r with
 | .p d=>K (.p d) ⟨δ.sl,f_ δ.mu gJ ows⟩
 | .n ds=>K (.p (.lst ds)) ⟨δ.sl,f_ δ.mu gJ ows⟩
 | .a j=>match gJ[j]? with
  | some ko=>K (.o ko.1) ⟨δ.sl,f_ δ.mu gJ ows⟩
  | none=>False
noncomputable def pR (δ : ay) (gJ:List (Nat × OV)) (K:DV->ay->Prop) (r:RV) (ows:List OV):Prop:=match r with
 | .n ds=>K (.o (f_ δ.mu gJ ows).length) ⟨δ.sl,f_ δ.mu gJ ows ++ [some (.lst ds)]⟩
 | _=>False
noncomputable def aq (n:Nat) (G:GD) (fa:WA):WE:=fun δ K=>fa δ fun xs δ1=>match passes δ1.mu xs 0 with
 | some r=>(lF r.2=true/\r.1.length=n)/\G r.1 (r.2.map (·.2)) (pQ δ1 r.2 K)
 | none=>False
noncomputable def wF (n:Nat) (G:GD) (fa:WA):WE:=fun δ K=>fa δ fun xs δ1=>match passes δ1.mu xs 0 with
 | some r=>(lF r.2=true/\r.1.length=n)/\G r.1 (r.2.map (·.2)) (pR δ1 r.2 K)
 | none=>False
section
variable {F F' H H':Hp} {ad aE:List Addr} {δ : ay} {σ σ':St}
theorem wG {mu:List (Option OV)} (hm:∀ (k:Nat) (ov:OV),mu[k]? = some (some ov)->∃ a o,ad[k]? = some a/\H a=some o/\fD F ov o):∀ {xs:List DV} {vs:List V} {j:Nat} {r:List DV × List (Nat × OV)},passes mu xs j=some r->d5 F ad xs vs →
  ∃ as:List Addr,as.length=r.2.length/\(∀ (i:Nat) (ko:Nat × OV),r.2[i]? = some ko->mu[ko.1]? = some (some ko.2)/\∃ a o,as[i]? = some a/\ad[ko.1]? = some a/\H a=some o/\fD F ko.2 o) ∧
   ∀ (pre:List Addr),pre.length=j->∃ _u:Unit,vs.length=r.1.length/\∀ (i:Nat) (y:DV),r.1[i]? = some y->∃ v,vs[i]? = some v/\gG F (pre ++ as) y v
 | [],vs,j,r,h,hv=>by
  cases h
  have:vs=[]:=hv
  subst this
  exact⟨[],rfl,fun i ko e=>by simp at e,fun pre _=>⟨(),rfl,fun i y e=>by simp at e⟩⟩
 | .p d :: xs,_,j,r,h,⟨v,t,e,h1,h2⟩=>by
  subst e
  unfold passes at h
  split at h
  ·rename_i r' hr
   cases h
   obtain⟨as,l,b,c⟩:=wG hm hr h2
   refine⟨as,l,b,fun pre hp=>⟨(),?_,fun i y e => ?_⟩⟩
   ·obtain⟨_,c1,_⟩:=c pre hp
    rw[My,My,c1]
   ·obtain⟨_,_,c2⟩:=c pre hp
    cases i with
    | zero=>cases (show some (DV.p d)=some y by simpa using e);exact⟨v,rfl,h1⟩
    | succ i=>simpa using c2 i y (by simpa using e)
  ·cases h
 | .o k :: xs,_,j,r,h,⟨v,t,e,h1,h2⟩=>by
  subst e
  unfold passes at h
  split at h
  ·rename_i ov hk
   split at h
   ·rename_i r' hr
    cases h
    obtain⟨as,l,b,c⟩:=wG hm hr h2
    obtain⟨a,e1,rfl⟩:=h1
    obtain⟨a',o,e2,e3,e4⟩:=hm k ov hk
    rw[e1] at e2;cases e2
    refine⟨a :: as,by rw[My,My,l],fun i ko e => ?_,fun pre hp=>⟨(),?_,fun i y e => ?_⟩⟩
    ·cases i with
     | zero=>cases (show some (k,ov)=some ko by simpa using e);exact⟨hk,a,o,rfl,e1,e3,e4⟩
     | succ i=>simpa using b i ko (by simpa using e)
    ·obtain⟨_,c1,_⟩:=c (pre ++ [a]) (by rw[EZ,hp];rfl)
     rw[My,My,c1]
    ·obtain⟨_,_,c2⟩:=c (pre ++ [a]) (by rw[EZ,hp];rfl)
     cases i with
     | zero =>
      cases (show some (DV.o j)=some y by simpa using e)
      refine⟨_,rfl,a,?_,rfl⟩
      rw[Wx (by omega),hp,Xo];rfl
     | succ i =>
      obtain⟨v',c3,c4⟩:=c2 i y (by simpa using e)
      exact⟨v',by simpa using c3,by rw[XJ] at c4;exact c4⟩
   ·cases h
  ·cases h
theorem FU:∀ {gJ:List (Nat × OV)},lF gJ=true->∀ (i j:Nat) (k:Nat) (a b:OV),gJ[i]? = some (k,a)->gJ[j]? = some (k,b)->i=j
 | [],_,i,j,k,a,b,e,_=>by simp at e
 | (k',ov) :: r,h,i,j,k,a,b,e1,e2=>by
  unfold lF at h
  simp only[Xu,q0i] at h
  have no:∀ (m:Nat) (c:OV),r[m]? = some (k',c)->False:=fun m c e=>by
   have:=Y4.mp h.1 _ (WB.mpr ⟨m,e⟩)
   exact this (by simp)
  cases i with
  | zero =>
   cases (show some (k',ov)=some (k,a) by simpa using e1)
   cases j with
   | zero=>rfl
   | succ j=>exact (no j b (by simpa using e2)).elim
  | succ i =>
   cases j with
   | zero=>cases (show some (k',ov)=some (k,b) by simpa using e2);exact (no i a (by simpa using e1)).elim
   | succ j=>rw[FU h.2 i j k a b (by simpa using e1) (by simpa using e2)]
theorem FV:∀ (gJ:List (Nat × OV)) (ows:List OV) (mu:List (Option OV)),(f_ mu gJ ows).length=mu.length
 | (k,_) :: r,ow :: ows,mu=>by rw[f_,FV r ows,Yn]
 | [],_,_=>rfl
 | _ :: _,[],_=>rfl
theorem wH:∀ (gJ:List (Nat × OV)) (ows:List OV) (mu:List (Option OV)) (l:Nat),(∀ ko∈gJ,ko.1≠l)->(f_ mu gJ ows)[l]? = mu[l]?
 | (k,_) :: r,ow :: ows,mu,l,h=>by
  rw[f_,wH r ows _ l fun ko hk=>h ko (E6 _ hk),Xy (h _ vX)]
 | [],_,_,_,_=>rfl
 | _ :: _,[],_,_,_=>rfl
theorem FW:∀ {gJ:List (Nat × OV)} {ows:List OV} {mu:List (Option OV)} {i:Nat} {ko:Nat × OV} {ow:OV},lF gJ=true->gJ[i]? = some ko->ows[i]? = some ow->ko.1 < mu.length->(f_ mu gJ ows)[ko.1]? = some (some ow)
 | (k,ov) :: r,AM :: ows,mu,0,ko,ow,h,e1,e2,hl=>by
  cases (show some (k,ov)=some ko by simpa using e1)
  cases (show some AM=some ow by simpa using e2)
  unfold lF at h
  simp only[Xu,q0i] at h
  rw[f_,wH r ows _ k fun ko hk z=>absurd (by simpa using z) (Y4.mp h.1 ko hk),XF hl]
 | (k,ov) :: r,AM :: ows,mu,i + 1,ko,ow,h,e1,e2,hl=>by
  unfold lF at h
  simp only[Xu,q0i] at h
  rw[f_]
  exact FW h.2 (by simpa using e1) (by simpa using e2) (by rw[Yn];exact hl)
 | [],_,_,i,_,_,_,e1,_,_=>by simp at e1
 | _ :: _,[],_,i,_,_,_,_,e2,_=>by simp at e2
theorem AN {xs:List DV} {vs:List V} {r:List DV × List (Nat × OV)} {G:GD} {n:Nat} {Q:VK} {E:XK} {K:RV->List OV->Prop} (S:SR F ad δ σ H) (V:d5 F ad xs vs) (hn:vs.length=n) (hp:passes δ.mu xs 0=some r) (nd:lF r.2=true) (g:G r.1 (r.2.map (·.2)) K)
  (fin:∀ res ows v F' H',K res ows->Ext F ad δ.mu H F' ad (f_ δ.mu r.2 ows) H'->SR F' ad ⟨δ.sl,f_ δ.mu r.2 ows⟩ σ H'->(match res with
   | .p d=>Is F' d v
   | .n ds=>∃ a vs,v = .ref a/\H a=none/\H' a=some (.lst vs)/\F' a=none/\af F' ds vs
   | .a j=>∃ ko a,r.2[j]? = some ko/\ad[ko.1]? = some a/\v = .ref a)->Q v H'):aQ G n vs H Q E:=by
 obtain⟨as,al,b,c⟩:=wG S.mu hp V
 obtain⟨_,c1,c2⟩:=c [] rfl
 have rC:∀ (i:Nat) (a:Addr),as[i]? = some a->Lv ad δ.mu a/\∃ ko,r.2[i]? = some ko/\ad[ko.1]? = some a /\ δ.mu[ko.1]? = some (some ko.2):=fun i a e=>by
  have hi:i < r.2.length:=by rw[<-al];exact (pe.mp e).1
  obtain⟨m1,a',o,e1,e2,_,_⟩:=b i _ (pb hi)
  rw[e] at e1;cases e1
  exact⟨⟨_,_,e2,m1⟩,_,pb hi,e2,m1⟩
 refine⟨hn,F,as,r.1,r.2.map (·.2),K,⟨S.sub,fun a ⟨i,ov,e1,e2⟩=>S.off a (rC i a e1).1,by rw[al];show _=((r.2.map (·.2)).map some).length;rw[pd,pd],fun i j a ov ow e1 e2 _ _ => ?_,fun i ov e => ?_,fun i y e => ?_,?_,S.tab,S.nt⟩,g,fun res ows hk v F' H' P => ?_⟩
 ·obtain⟨_,ko,k1,k2,k3⟩:=rC i a e1
  obtain⟨_,kp,p1,p2,p3⟩:=rC j a e2
  have:ko.1=kp.1:=S.inj _ _ a _ _ k2 p2 k3 p3
  exact FU nd i j ko.1 ko.2 kp.2 k1 (by rw[this];exact p1)
 ·have e:=FT e
  rw[MJ] at e
  obtain⟨ko,e1,rfl⟩:=V7.mp e
  obtain⟨_,a,o,e2,_,e4,e5⟩:=b i ko e1
  exact⟨a,o,e2,e4,e5⟩
 ·obtain⟨v,e1,e2⟩:=c2 i y (FT e)
  exact⟨v,Oj e1,by simpa using e2⟩
 ·show (vs.map some).length=(r.1.map some).length
  rw[pd,pd,c1]
 ·have ol:ows.length=r.2.length:=by rw[P.len,al]
  have mX:∀ (l:Nat) (ow:OV),(f_ δ.mu r.2 ows)[l]? = some (some ow)->(∃ (i:Nat) (ko:Nat × OV),r.2[i]? = some ko/\ko.1=l/\ows[i]? = some ow)\/((∀ ko∈r.2,ko.1≠l) /\ δ.mu[l]? = some (some ow)):=fun l ow e=>by
   by_cases z:∃ ko∈r.2,ko.1=l
   ·obtain⟨ko,hk,rfl⟩:=z
    obtain⟨i,hi⟩:=WB.mp hk
    have pT:i < ows.length:=by rw[ol];exact (pe.mp hi).1
    have:=FW (mu := δ.mu) nd hi (pb pT) (pe.mp (b i ko hi).1).1
    rw[e] at this
    cases this
    exact .inl ⟨i,ko,hi,rfl,pb pT⟩
   ·have z':∀ ko∈r.2,ko.1≠l:=fun ko hk q=>z ⟨ko,hk,q⟩
    rw[wH _ _ _ _ z'] at e
    exact .inr ⟨z',e⟩
  have FX:∀ (l:Nat) (ow:OV) (a:Addr),ad[l]? = some a->(f_ δ.mu r.2 ows)[l]? = some (some ow)->Lv ad δ.mu a:=fun l ow a e1 e2=>by
   rcases mX l ow e2 with⟨i,ko,hi,rfl,_⟩ | ⟨_,q⟩
   ·exact⟨_,_,e1,(b i ko hi).1⟩
   ·exact⟨_,_,e1,q⟩
  have Om:∀ a,a∈as->Lv ad δ.mu a:=fun a ha=>by
   obtain⟨i,e⟩:=WB.mp ha
   exact (rC i a e).1
  have ex:Ext F ad δ.mu H F' ad (f_ δ.mu r.2 ows) H':=by
   refine⟨P.same,fun a o e => ?_,fun a o e n t=>P.keep a o e (fun z=>n (Om a z)) t,fun _ _ e=>e,fun a ⟨l,ow,e1,e2⟩ => .inl (FX l ow a e1 e2),fun a o e => ?_⟩
   ·rcases P.new a o e with z | z
    ·exact .inl z
    ·exact .inr (.inl z)
   ·by_cases z:a∈as
    ·obtain⟨i,e1⟩:=WB.mp z
     have hi:i < ows.length:=by rw[P.len];exact (pe.mp e1).1
     obtain⟨a',o',e2,e3,_⟩:=P.own i _ (pb hi)
     rw[e1] at e2;cases e2
     exact⟨o',e3⟩
    ·by_cases t:a∈aJ.ad
     ·obtain⟨ps,q⟩:=aJ.tb P.tab t
      exact⟨_,q⟩
     ·exact⟨o,P.keep a o e z t⟩
  have AO:∀ a,Lv ad δ.mu a->F' a=none:=fun a l=>by
   by_cases z:a∈as
   ·exact P.off a z
   ·cases q:F' a with
    | none=>rfl
    | some u =>
     rcases P.new a u q with y | y
     ·rw[S.off a l] at y;cases y
     ·obtain⟨k,ov,e1,e2⟩:=l
      obtain⟨a',o,e3,e4,_⟩:=S.mu k ov e2
      rw[e1] at e3;cases e3
      rw[y] at e4;cases e4
  have sr:SR F' ad ⟨δ.sl,f_ δ.mu r.2 ows⟩ σ H':=by
   refine⟨P.sub,fun a ⟨l,ow,e1,e2⟩=>AO a (FX l ow a e1 e2),by rw[S.b_];exact (FV _ _ _).symm,fun k l a ov ow e1 e2 e3 e4 => ?_,fun l ow e => ?_,fun i y e => ?_,S.len,P.tab,P.nt⟩
   ·have h3:∃ w,δ.mu[k]? = some (some w):=by
     rcases mX k ov e3 with⟨i,ko,hi,rfl,_⟩ | ⟨_,q⟩
     ·exact⟨_,(b i ko hi).1⟩
     ·exact⟨_,q⟩
    have h4:∃ w,δ.mu[l]? = some (some w):=by
     rcases mX l ow e4 with⟨i,ko,hi,rfl,_⟩ | ⟨_,q⟩
     ·exact⟨_,(b i ko hi).1⟩
     ·exact⟨_,q⟩
    obtain⟨_,h3⟩:=h3
    obtain⟨_,h4⟩:=h4
    exact S.inj k l a _ _ e1 e2 h3 h4
   ·rcases mX l ow e with⟨i,ko,hi,rfl,ho⟩ | ⟨z,q⟩
    ·obtain⟨_,a,o,e1,e2,_,_⟩:=b i ko hi
     obtain⟨a',o',e3,e4,h5⟩:=P.own i ow ho
     rw[e1] at e3;cases e3
     exact⟨a,o',e2,e4,h5⟩
    ·obtain⟨a,o,e1,e2,h⟩:=S.mu l ow q
     refine⟨a,o,e1,P.keep a o e2 (fun y => ?_) (fun t => ?_),h.same P.same⟩
     ·obtain⟨i,e3⟩:=WB.mp y
      obtain⟨_,ko,k1,k2,k3⟩:=rC i a e3
      exact z ko (WB.mpr ⟨i,k1⟩) (S.inj _ _ a _ _ k2 e1 k3 q)
     ·obtain⟨ps,q2⟩:=aJ.tb S.tab t
      rw[e2] at q2
      cases q2
      rcases h.kind with⟨_,z⟩ | ⟨_,z⟩<;>cases z
   ·obtain⟨v,e1,h⟩:=S.sl i y e
    exact⟨v,e1,h.ext ex⟩
  refine fin res ows v F' H' hk ex sr ?_
  have pU:=P.res
  cases res with
  | p d=>exact pU
  | n ds=>exact pU
  | a j =>
   obtain⟨a,e1,e2⟩:=pU
   obtain⟨_,ko,k1,k2,_⟩:=rC j a e1
   exact⟨ko,a,k1,k2,e2⟩
end
section
variable {X:Cx} {fa:WA} {G:GD} {pos:Pos}
theorem FY {F1 F2 H1 H2:Hp} {aR:List Addr} {δ1:ay} {σ : St} {xs:List DV} {vs:List V} {r:List DV × List (Nat × OV)} {ows:List OV} {a:Addr} (S1:SR F1 aR δ1 σ H1) (V1:d5 F1 aR xs vs) (hp:passes δ1.mu xs 0=some r) (n1:H1 a=none):¬ Lv aR (f_ δ1.mu r.2 ows) a:=fun ⟨k,ov,e1,e2⟩=>by
 have c:∃ ov,δ1.mu[k]? = some (some ov):=by
  by_cases y:∃ ko∈r.2,ko.1=k
  ·obtain⟨ko,i9,rfl⟩:=y
   obtain⟨as,_,b,_⟩:=wG S1.mu hp V1
   obtain⟨i,hi⟩:=WB.mp i9
   exact⟨_,(b i ko hi).1⟩
  ·rw[wH _ _ _ _ fun ko i9 q=>y ⟨ko,i9,q⟩] at e2
   exact⟨_,e2⟩
 obtain⟨Oo,c⟩:=c
 obtain⟨a',o,e3,e4,_⟩:=S1.mu k Oo c
 rw[e1] at e3;cases e3
 rw[n1] at e4;cases e4
theorem d5.length {F:Hp} {ad:List Addr}:∀ {xs:List DV} {vs:List V},d5 F ad xs vs->vs.length=xs.length
 | [],vs,h=>by have h:vs=[]:=h;rw[h];rfl
 | x :: xs,vs,⟨v,r,e,_,h2⟩=>by rw[e,My,My,d5.length h2]
theorem wI {mu:List (Option OV)}:∀ {xs:List DV} {j:Nat} {r:List DV × List (Nat × OV)},passes mu xs j=some r->r.1.length=xs.length
 | [],j,r,h=>by cases h;rfl
 | .p d :: xs,j,r,h=>by
  unfold passes at h
  split at h
  ·rename_i r' hr;cases h;show (DV.p d :: r'.1).length=_;rw[My,My,wI hr]
  ·cases h
 | .o k :: xs,j,r,h=>by
  unfold passes at h
  split at h
  ·split at h
   ·rename_i r' hr;cases h;show (DV.o j :: r'.1).length=_;rw[My,My,wI hr]
   ·cases h
  ·cases h
section
variable {k:Nat} {f:Addr} {fd:FuncData} {ps:List Str} {x:Str} {p:Pos} {e:Expr} {es:List Expr} {n:Nat}
theorem Oq {E:XK}:∀ σ H Q,tD (aq n G fa) σ H Q->sO (aQ G n) [] E (cE fa) σ H Q:=fun σ H Q h0_ => el7 h0_ fun F ad δ K S q kk =>by
 refine⟨F,ad,δ,_,S,q,fun xs δ1 h1 vs F1 aR H1 E1 S1 V1 => ?_⟩
 split at h1
 ·rename_i r hp
  obtain⟨⟨nd,hn⟩,h1⟩:=h1
  rw[XS]
  refine AN S1 V1 (by rw[V1.length,<-wI hp,hn]) hp nd h1 fun res ows v F2 H2 hk E2 S2 fR => ?_
  unfold pQ at hk
  cases res with
  | p d=>exact kk _ _ hk _ _ _ _ (E1.trans E2) S2 fR
  | n ds =>
   obtain⟨a,us,rfl,n1,n2,n3,n4⟩:=fR
   refine kk _ _ hk _ _ _ _ (E1.trans (E2.adopt (o := .lst us) n1 n3)) (S2.adopt n3 n2 (FY (F2:=F2) (H2:=H2) S1 V1 hp n1)) ?_
   show Is _ (.lst ds) _
   simp only[Is]
   exact⟨a,us,rfl,bw,n4.same (de n3)⟩
  | a j =>
   obtain⟨ko,a,h1,h2,h3⟩:=fR
   dsimp only at hk
   rw[h1] at hk
   exact kk _ _ hk _ _ _ _ (E1.trans E2) S2 ⟨a,h2,h3⟩
 ·exact h1.elim
theorem Ot {E:XK}:∀ σ H Q,tD (wF n G fa) σ H Q->sO (aQ G n) [] E (cE fa) σ H Q:=fun σ H Q h0_ => el7 h0_ fun F ad δ K S q kk =>by
 refine⟨F,ad,δ,_,S,q,fun xs δ1 h1 vs F1 aR H1 E1 S1 V1 => ?_⟩
 split at h1
 ·rename_i r hp
  obtain⟨⟨nd,hn⟩,h1⟩:=h1
  rw[XS]
  refine AN S1 V1 (by rw[V1.length,<-wI hp,hn]) hp nd h1 fun res ows v F2 H2 hk E2 S2 fR => ?_
  unfold pR at hk
  cases res with
  | p d=>exact hk.elim
  | n ds =>
   obtain⟨a,us,rfl,n1,n2,n3,n4⟩:=fR
   have oi:fD F2 (.lst ds) (.lst us):=⟨us,rfl,n4⟩
   refine kk _ _ hk _ _ _ _ (E1.trans (E2.d8 (ov := .lst ds) n1 S2.b_)) (S2.d8 n3 n2 (FY (F2:=F2) (H2:=H2) S1 V1 hp n1) oi) ⟨a,?_,rfl⟩
   have:aR.length=(f_ δ1.mu r.2 ows).length:=S2.b_
   rw[<-this,Wx (qU _),Xo];rfl
  | a j=>exact hk.elim
 ·exact h1.elim
theorem bH (Fn:aU X.prog X.w X.K X.mg X.base bS k f fd ps (aQ G n)) (hr:a7 k X.A) (hg:Gl X x) (hm:X.mg x=some (.ref f)) (hk:PySem.W.keepIn X.K (.ref f)=true) (hb:Binds X.K fd ps [])
  (ha:JA X (e :: es) (cE fa)) (gq:(x == ("__debug__" : Str))=false:=by decide) (he:starEach (e :: es) X.env=(false,eval e X.env) :: starEach es X.env:=by rfl) (f6:(backTo pos (starEach es X.env)).any (·.1)=false:=by rfl) :
  JE X (.Call (.Name x p) (e :: es) [] pos) (tD (aq n G fa)):=(wa Fn hr hg hm hk hb .nil vY ha gq he f6).weak Oq
theorem Ou (Fn:aU X.prog X.w X.K X.mg X.base bS k f fd ps (aQ G n)) (hr:a7 k X.A) (hg:Gl X x) (hm:X.mg x=some (.ref f)) (hk:PySem.W.keepIn X.K (.ref f)=true) (hb:Binds X.K fd ps [])
  (ha:JA X (e :: es) (cE fa)) (gq:(x == ("__debug__" : Str))=false:=by decide) (he:starEach (e :: es) X.env=(false,eval e X.env) :: starEach es X.env:=by rfl) (f6:(backTo pos (starEach es X.env)).any (·.1)=false:=by rfl) :
  JE X (.Call (.Name x p) (e :: es) [] pos) (tD (wF n G fa)):=(wa Fn hr hg hm hk hb .nil vY ha gq he f6).weak Ot
end
end
end L2
namespace PySem
open Sem (wp)
open AutoSeq1 (wpAny_loadPart')
theorem Ov (l:Addr) (items:Array Value) (n:Nat) (dct:Option Addr) (sl:Array (Option Value)) :
  Meets (Builtin.«enumerate.__new__» ⟨[.type "enumerate",.ref l],[]⟩) (fun _ R s=>s.heap.get? l=some { cls := .type "tuple",dict:=dct,data := .seq items n,slots:=sl } ∧
   R (.ok (.ret (.ref (s.heap.push { cls := .type "tuple_iterator",data := .fields #[.ref l,.int 0 0] }).objs.size)))
    { s with heap:=(s.heap.push { cls := .type "tuple_iterator",data := .fields #[.ref l,.int 0 0] }).push { cls := .type "enumerate",data := .fields #[.none,.bool false,.ref s.heap.objs.size,rawInt 0,.none,.none] } }) :=
 .of_wp fun prog w A R s h=>by
  obtain⟨hp,g,d,tk,os⟩:=s;obtain⟨hl,h⟩:=h
  have Ox:=sub_enumerate
  have hL:Heap.IsTuple (Shared.heap ⟨hp,g,d,tk,os⟩) l items:=⟨_,hl,rfl,n,rfl⟩
  wp_walk using Ym hl
  refine wpAny_stack_any fun st=>vW ?_
  split
  ·rename_i c _ _ _ _ _
   cases (c == Value.type "enumerate")
   ·wp_walk using Ym hl,Zn hL
    exact⟨_,rfl,h⟩
   ·wp_walk using Ym hl,Zn hL
    exact⟨_,rfl,h⟩
  ·wp_walk using Ym hl,Zn hL
   exact⟨_,rfl,h⟩
section
variable {prog:Program} {w:World} {A:Around} {E:Value->Shared->Prop} {s:Shared}
theorem Oy {l:Addr} {items:Array Value} {Q:Value->Shared->Prop} (hL:s.heap.IsTuple l items)
  (h:∀ h',IsEnum h' (s.heap.objs.size + 1) s.heap.objs.size 0 .none->h'.IsTupleIter s.heap.objs.size l 0->h'.objs.size=s.heap.objs.size + 2 →
   (∀ b o,s.heap.get? b=some o->h'.get? b=some o)->Q (.ref (s.heap.objs.size + 1)) { s with heap:=h' }) :
  wpAny (model prog w) A (call (.type "enumerate") [.ref l]) Q E s:=by
 obtain⟨⟨c,dct,dt,sl⟩,hl,hc,n,hd⟩:=hL
 replace hc:c = .type "tuple" := hc
 replace hd:dt = .seq items n:=hd
 subst hc hd
 refine callType_new F.called_enumerate (by decide) (F.typeCall_enumerate_1 _) (F.newCall_enumerate_1 _) (fun obj=>F.args_object_init_2 obj _) F.entry_enumerate_new
  (Ov l items n dct sl) ⟨hl,?_⟩
 have hz:(s.heap.push { cls := .type "tuple_iterator",data := .fields #[.ref l,.int 0 0] }).objs.size=s.heap.objs.size + 1:=Yt ..
 show _/\_
 rw[hz]
 have he:IsEnum ((s.heap.push { cls := .type "tuple_iterator",data := .fields #[.ref l,.int 0 0] }).push
   { cls := .type "enumerate",data := .fields #[.none,.bool false,.ref s.heap.objs.size,rawInt 0,.none,.none] }) (s.heap.objs.size + 1) s.heap.objs.size 0 .none:=by
  have:=MM (s.heap.push { cls := .type "tuple_iterator",data := .fields #[.ref l,.int 0 0] })
   (o:={ cls := .type "enumerate",data := .fields #[.none,.bool false,.ref s.heap.objs.size,rawInt 0,.none,.none] }) rfl
  rw[hz] at this;exact this
 refine⟨⟨_,he,rfl⟩,h _ he ⟨_,sW _ (MM _ rfl),rfl,rfl⟩ (by rw[Yt,hz]) fun b o x=>sW _ (sW _ x)⟩
theorem Oz {it l:Addr} {i:Nat} {items:Array Value} {x:Value} {Q:Value->Shared->Prop} (hit:s.heap.IsTupleIter it l i) (hl:s.heap.IsTuple l items) (hx:items[i]? = some x)
  (hQ:∀ h',h'.IsTupleIter it l (i + 1)->Heap.SameBut it s.heap h'->Q x { s with heap:=h' }):wpAny (model prog w) A (Builtin.SmallTypes.nextOf (.ref it)) Q E s:=by
 obtain⟨o,ho,hc,hd⟩:=id hit
 obtain⟨ol,AQ,_,nl,mq⟩:=hl
 have nn:¬ ((Value.ref l == Value.none)=true):=WH
 unfold Builtin.SmallTypes.nextOf
 refine l8 (X_ (name:=Str.ofString "__next__") hit.typeIs Yz (Ya Yz hit.typeIs F.entry_tuple_iterator_next ?_ (ZU _)))
 show wpAny _ _ (field (.ref it) 0 >>= _) _ _ s;refine l8 (Zq ho hd (x := .ref l) rfl ?_)
 show wpAny _ _ (if (Value.ref l == Value.none)=true then _ else _) _ _ s;rw[V0 nn]
 show wpAny _ _ (field (.ref it) 1 >>= _) _ _ s;refine l8 (Zq ho hd (x := .int i 0) rfl ?_)
 show wpAny _ _ (seqItems? (.ref l) >>= _) _ _ s;refine l8 (Y5 AQ mq ?_)
 simp only[WQ,hx]
 refine l8 (Zw ho hd (by simp) (vW ⟨x,rfl,vW (hQ _ ⟨_,Xk _ ho (ZF (Yy hd _)),(q0f ..).trans hc,?_⟩ (W7 ..))⟩))
 rw[Yy hd];simp[rawInt]
theorem OA {it l:Addr} {i:Nat} {items:Array Value} {Q:Value->Shared->Prop} (hh:A.handled=none) (hit:s.heap.IsTupleIter it l i) (hl:s.heap.IsTuple l items) (hx:items[i]? = none)
  (hE:∀ h' e,Heap.ExtBut it s.heap h'->(∃ o,h'.get? e=some o/\o.cls = .type "StopIteration")->E (.ref e) { s with heap:=h' }):wpAny (model prog w) A (Builtin.SmallTypes.nextOf (.ref it)) Q E s:=by
 obtain⟨o,ho,hc,hd⟩:=id hit
 obtain⟨ol,AQ,_,nl,mq⟩:=hl
 have nn:¬ ((Value.ref l == Value.none)=true):=WH
 unfold Builtin.SmallTypes.nextOf
 refine l8 (X_ (name:=Str.ofString "__next__") hit.typeIs Yz (Ya Yz hit.typeIs F.entry_tuple_iterator_next ?_ (ZU _)))
 show wpAny _ _ (field (.ref it) 0 >>= _) _ _ s;refine l8 (Zq ho hd (x := .ref l) rfl ?_)
 show wpAny _ _ (if (Value.ref l == Value.none)=true then _ else _) _ _ s;rw[V0 nn]
 show wpAny _ _ (field (.ref it) 1 >>= _) _ _ s;refine l8 (Zq ho hd (x := .int i 0) rfl ?_)
 show wpAny _ _ (seqItems? (.ref l) >>= _) _ _ s;refine l8 (Y5 AQ mq ?_)
 simp only[WQ,hx]
 refine l8 (Z5 (l8 (Zw ho hd (by simp) ?_)))
 show wpAny _ _ (newExc (.type "StopIteration") [] >>= _) _ _ _;refine l8 ?_
 simp only[newExc,newTuple];refine l8 (Xn ?_ (by size_fits))
 refine l8 (m:=firstArgMember _ _) (wpAny_of_eq (a:=Value.none) (by first | rfl | (simp only[firstArgMember];rfl)) (Xn ?_ (by size_fits)))
 simp only[raiseNew];refine l8 (wpAny_handled ?_)
 first | rw[show A.in1.handled=none from hh] | rw[hh]
 refine l8 (vW (wpAny_throw (hE _ _ (((W7 ..).extBut.push _).push _) ⟨_,MM _ rfl,rfl⟩)))
theorem FZ (hh:A.handled=none) (it l:Addr) (gD:l≠it) (items:Array Value):Draws prog w A it [it,l] items.size (fun i v=>items[i]? = some v) (fun i h=>h.IsTupleIter it l i/\h.IsTuple l items) where
 live:=fun _ _ st=>let ⟨o,ho,_⟩:=st.1; ⟨o,ho⟩
 frame:=fun _ _ _ st hk=>⟨st.1.at fun o e=>hk it (by simp) o e,st.2.at fun o e=>hk l (by simp) o e⟩
 item:=fun i s Q E hi st hQ=>Oz st.1 st.2 (x:=items[i]) (by simp[hi]) fun h' AR we=>hQ _ h' s.toks (by simp[hi]) ⟨AR,st.2.extBut we.extBut gD⟩ we
 done:=fun s Q E st hE=>OA hh st.1 st.2 (by simp) hE
end
end PySem
namespace L2
open PySem PySem.Spec PyProof.Rows
noncomputable def t6 (K:PySem.W.Frag) (a:Addr):It :=
 ⟨fun i H=>∃ xs x,bI K H a xs/\xs[i]? = some x,fun i H x H'=>∃ T v,x = .ref T/\H T=none/\H'=upd H T (.tup [.int (i:Nat),v])/\∀ xs,bI K H a xs->xs[i]? = some v,fun i H=>∃ xs,bI K H a xs/\xs.length=i⟩
theorem OB {P:Program} {w:World} {K:PySem.W.Frag} {elts:List Expr} {x1} {tp:Pos} (a e it:Addr) (gD:e≠it) (OC:a≠e) (F7:a≠it) :
  Turn P w K (.Tuple elts x1 tp) (t6 K a) [e,it] e (fun i h=>(∃ old,IsEnum h e it (i:Nat) old)/\h.IsTupleIter it a i) where
 mem:=by simp
 obj:=fun i h st b hb=>by
  obtain⟨⟨old,he⟩,o,hi,hc,hd⟩:=st
  rcases ML.mp hb with rfl | hb
  ·exact⟨_,he,fun v z=>by cases z⟩
  ·have z:b=it:=by simpa using hb
   subst z
   exact⟨o,hi,fun v z=>by rw[hd] at z;cases z⟩
 keep:=fun i h h' st k=>by
  obtain⟨⟨old,he⟩,hi⟩:=st
  exact⟨⟨old,k e (by simp) _ he⟩,hi.at fun o q=>k it (by simp) o q⟩
 item:=by
  intro X hP hw hK hc i pins s σ H E I hf st hg
  subst hP hw hK
  obtain⟨⟨old,he⟩,hi⟩:=st
  obtain⟨xs,x,hq,hx⟩:=hg
  obtain⟨ah,rv,p,hz⟩:=I.tuple hq
  obtain⟨u,hu,ru⟩:=rv.get hx
  have D:=FZ (prog:=X.prog) (w:=X.w) (A:=X.A.in1) (by rw[Zm];exact I.ok.hd hc) it a F7 ah.toArray
  have pT:i < ah.toArray.size:=by rw[zJ];exact (pe.mp hu).1
  refine wpAny_pyNext_enum_itemD D he ⟨hi,p⟩ pT gD (by simp[gD,Ys OC]) fun y h1 tk py la zS tI hsz hk=>⟨_,rfl,?_⟩
  have ey:y=u:=by
   have py:ah.toArray[i]? = some y:=py
   rw[Y2,hu] at py;cases py;rfl
  subst ey
  refine wpAny_letOwnedTupleGo_enum la fun h2 tJ jm => ?_
  have hT:s.heap.objs.size≠e:=Yr (MK he)
  have jJ:h2.get? s.heap.objs.size=some { cls := .type "tuple",data := .seq #[.int i tk,y] }:=(jm.2 _ hT).trans tI
  have k2:∀ b o,b∉[e,it]->s.heap.get? b=some o->h2.get? b=some o:=fun b o hb q=>by
   have tK:b≠e:=fun z=>hb (by simp[z])
   have gf:b≠it:=fun z=>hb (by simp[z])
   exact (jm.2 _ tK).trans (hk b o tK gf q)
  have hn:H s.heap.objs.size=none:=I.aM.fresh (qU _)
  refine⟨.ref s.heap.objs.size,upd H s.heap.objs.size (.tup [.int i,x]),I.ir (ch:=[e,it]) (t':=tk + 1) hf k2 (qU _) ?_,rfl,⟨_,x,rfl,hn,rfl,fun ys hy=>by rw[I.gE hy hq];exact hx⟩,⟨⟨y,?_⟩,?_⟩,fun b hb => ?_⟩
  ·exact⟨by show 2 <= sizeLine;decide,[.int i tk,y],.cons ⟨_,rfl⟩ (.cons ru .nil),_,jJ,rfl,_,rfl⟩
  ·have e3:((i:Int) + 1)=(((i + 1:Nat)):Int):=by omega
   rw[e3] at tJ
   exact tJ
  ·exact zS.1.at fun o q=>(jm.2 _ (Ys gD)).trans q
  ·have:b < s.heap.objs.size:=by
    obtain⟨o,q,_⟩:=hi
    rcases ML.mp hb with rfl | hb
    ·exact MK he
    ·have z:b=it:=by simpa using hb
     subst z;exact MK q
   rw[aO (Ww this)]
   exact (hf b hb).1
 done:=by
  intro X hP hw hK hc i pins s σ H E I hf st hg
  subst hP hw hK
  obtain⟨⟨old,he⟩,hi⟩:=st
  obtain⟨xs,hq,hx⟩:=hg
  obtain⟨ah,rv,p,hz⟩:=I.tuple hq
  have D:=FZ (prog:=X.prog) (w:=X.w) (A:=X.A.in1) (by rw[Zm];exact I.ok.hd hc) it a F7 ah.toArray
  have pT:ah.toArray.size=i:=by rw[zJ,<-rv.length];exact hx
  refine wpAny_pyNext_enum_endD D he (by rw[pT];exact⟨hi,p⟩) fun h1 eb=>⟨rfl,?_⟩
  obtain⟨f0,f1,f2,f3,f4,f5⟩:=hf it (by simp)
  exact I.turned (t':=s.toks) (fun b o hb q=>eb b o hb q) f0 f1 f3 f4 f5
 self:=fun A i s Q E st h=>by
  obtain⟨⟨old,he⟩,hi⟩:=st
  exact Yu he h
section
variable {X:Cx} {elts:List Expr} {x1:Nat} {tp:Pos} {tg:Expr}
noncomputable def OD (K:PySem.W.Frag) (ta:TA):TI:=fun σ H R=>ta σ H fun vs H1=>∃ a,vs=[.ref a]/\(((∃ xs,bh K H1 a xs)/\R (qW K a) H1)\/((∃ xs,bI K H1 a xs)/\R (t6 K a) H1))
theorem OE {a:Expr} {ta:TA} {p pos:Pos} (hg:Gl X "enumerate") (hm:X.mg "enumerate" = none) (ha:JA X [a] ta) (hs:starEach [a] X.env=[(false,eval a X.env)]:=by rfl) :
  JI X (.Tuple elts x1 tp) (.Call (.Name "enumerate" p) [a] [] pos) (OD X.K ta):=by
 refine⟨?_⟩
 intro pins s σ H R I h
 refine Call_ (lR I hg hm Fg (Yd (a0 (ha.out pos pins s σ H _ I h) fun us s1 h0_ => el5 h0_ fun vs H1 I1 r1 q1 => ?_) hs rfl))
 obtain⟨l,e,q⟩:=q1
 subst e
 obtain⟨u,rfl,rx⟩:=vals1 r1
 cases rx
 have fp:∀ b∈[s1.heap.objs.size + 1,s1.heap.objs.size],ba X pins H1 b:=fun b hb=>by
  have dD:s1.heap.objs.size <= b:=by
   rcases ML.mp hb with rfl | hb
   ·exact q0h _
   ·have z:b=s1.heap.objs.size:=by simpa using hb
    rw[z];exact qU _
  exact I1.gX dD (I1.aM.fresh dD)
 rcases q with⟨⟨xs,hq⟩,q⟩ | ⟨⟨xs,hq⟩,q⟩
 ·obtain⟨ah,rv,p,hz⟩:=I1.list hq
  refine call_enumerate_list p.isList fun h' he hi hsz hk => ?_
  have I2:Inv X pins σ H1 { s1 with heap:=h' }:=I1.kept (t':=s1.toks) hk
  refine Yu he ?_
  exact⟨_,_,_,_,H1,rfl,I2,Ff l (s1.heap.objs.size + 1) s1.heap.objs.size (q0s _),⟨⟨_,he⟩,hi⟩,fp,q⟩
 ·obtain⟨ah,rv,p,hz⟩:=I1.tuple hq
  have wJ:l < s1.heap.objs.size:=by obtain⟨o,e,_⟩:=p;exact MK e
  refine Oy p fun h' he hi hsz hk => ?_
  have I2:Inv X pins σ H1 { s1 with heap:=h' }:=I1.kept (t':=s1.toks) hk
  refine Yu he ?_
  exact⟨_,_,_,_,H1,rfl,I2,OB l (s1.heap.objs.size + 1) s1.heap.objs.size (q0s _) (Ww (Xh wJ)) (Ww wJ),⟨⟨_,he⟩,hi⟩,fp,q⟩
noncomputable def AS (K:PySem.W.Frag) (tl:TE):TI:=fun σ H R=>tl σ H fun x H1=>∃ a,x = .ref a/\(((∃ xs,bh K H1 a xs)/\R (Em K a) H1)\/((∃ xs,bI K H1 a xs)/\R (En K a) H1))
theorem OF {l:Expr} {tl:TE} (hl:JE X l tl):JI X tg l (AS X.K tl):=by
 refine⟨?_⟩
 intro pins s σ H R I h
 refine a0 (hl.out pins s σ H _ I h) fun v s1 h0_ => el5 h0_ fun x H1 I1 r1 q1 => ?_
 obtain⟨a,e,q⟩:=q1
 subst e
 cases r1
 have fp:∀ b∈[s1.heap.objs.size],ba X pins H1 b:=fun b hb=>by
  have e:b=s1.heap.objs.size:=by simpa using hb
  subst e
  exact I1.gX (qU _) (I1.aM.fresh (qU _))
 rcases q with⟨⟨xs,hq⟩,q⟩ | ⟨⟨xs,hq⟩,q⟩
 ·obtain⟨ah,rv,p,hz⟩:=I1.list hq
  exact YG p.isList ⟨s1.heap.objs.size,[s1.heap.objs.size],_,_,H1,rfl,I1.kept (t':=s1.toks) fun b o e=>sW _ e,Ll a _,⟨_,MM _ rfl,rfl,rfl⟩,fp,q⟩
 ·obtain⟨ah,rv,p,hz⟩:=I1.tuple hq
  exact Zn (show s1.heap.IsTuple a ah.toArray from p) ⟨s1.heap.objs.size,[s1.heap.objs.size],_,_,H1,rfl,I1.kept (t':=s1.toks) fun b o e=>sW _ e,Lm a _,⟨_,MM _ rfl,rfl,rfl⟩,fp,q⟩
end
variable [aJ]
noncomputable def b8 (lo:Int) (n:Nat):List D:=(List.range n).map fun i:Nat=>D.int (lo + i)
noncomputable def j6:Nat->List D->List D
 | _,[]=>[]
 | i,d :: r => .tup [.int i,d] :: j6 (i + 1) r
noncomputable def rD (x:DV) (δ : ay) (K:pL->Prop):Prop:=match x with
 | .p (.lst ds)=>K ⟨ds,fun _=>True⟩
 | .p (.tup ds)=>K ⟨ds,fun _=>True⟩
 | .o k=>match δ.mu[k]? with
  | some (some (.lst ds))=>K ⟨ds,fun δ' => δ'.mu[k]? = some (some (.lst ds))⟩
  | _=>False
 | _=>False
noncomputable def cL (f:WE):WI:=fun δ K=>f δ fun x δ1=>rD x δ1 fun it=>K it δ1
noncomputable def pV (fa:WA):WI:=fun δ K=>fa δ fun xs δ1=>match xs with
 | [.p (.int j)]=>(-(2 ^ 62) <= j/\j < 2 ^ 62)/\K ⟨b8 0 j.toNat,fun _=>True⟩ δ1
 | _=>False
noncomputable def AU (fa:WA):WI:=fun δ K=>fa δ fun xs δ1=>match xs with
 | [.p (.int i),.p (.int j)]=>(-(2 ^ 62) <= i/\i < 2 ^ 62 /\ -(2 ^ 62) <= j/\j < 2 ^ 62)/\K ⟨b8 i (j - i).toNat,fun _=>True⟩ δ1
 | _=>False
noncomputable def kE (fa:WA):WI:=fun δ K=>fa δ fun xs δ1=>match xs with
 | [x]=>rD x δ1 fun it=>K ⟨j6 0 it.items,it.br⟩ δ1
 | _=>False
noncomputable def AV (x:DV) (δ : ay) (K:pL->Prop):Prop:=match x with
 | .p (.lst ds)=>K ⟨ds,fun _=>True⟩
 | .o k=>match δ.mu[k]? with
  | some (some (.lst ds))=>K ⟨ds,fun δ' => δ'.mu[k]? = some (some (.lst ds))⟩
  | _=>False
 | _=>False
theorem nL {lo:Int} {n i:Nat} {d:D} (h:(b8 lo n)[i]? = some d):i < n/\d = .int (lo + i):=by
 unfold b8 at h
 rw[MJ] at h
 obtain⟨j,e,rfl⟩:=V7.mp h
 have hj:=(pe.mp e).1
 rw[Xv] at hj
 rw[Xr hj] at e
 cases e
 exact⟨hj,rfl⟩
theorem mx (lo:Int) (n:Nat):(b8 lo n).length=n:=by unfold b8;rw[pd,Xv]
theorem t7:∀ (ds:List D) (i:Nat),(j6 i ds).length=ds.length
 | [],_=>rfl
 | d :: r,i=>by rw[j6,My,My,t7 r]
theorem t8:∀ {ds:List D} {k i:Nat} {d:D},(j6 k ds)[i]? = some d->∃ e,ds[i]? = some e/\d = .tup [.int ((k + i:Nat):Int),e]
 | [],k,i,d,h=>by simp[j6] at h
 | e :: r,k,0,d,h=>by
  cases (show some (D.tup [.int (k:Nat),e])=some d by simpa [j6] using h)
  exact⟨e,rfl,rfl⟩
 | e :: r,k,i + 1,d,h=>by
  obtain⟨e',h1,h2⟩:=t8 (ds:=r) (k:=k + 1) (i:=i) (d:=d) (by simpa [j6] using h)
  exact⟨e',by simpa using h1,by rw[h2];congr 4;omega⟩
section
variable {X:Cx} {tg l a b:Expr} {f:WE} {fa:WA} {F H:Hp} {ad:List Addr} {δ : ay} {σ : St}
theorem JI.weak {iter:Expr} {w w':TI} (h:JI X tg iter w) (k:∀ σ H R,w' σ H R->w σ H R):JI X tg iter w':=⟨fun pins s σ H R I q=>h.out pins s σ H R I (k σ H R q)⟩
theorem rE {ds:List D} {vs:List V} (h:af F ds vs) {i:Nat} {d:D} (e:ds[i]? = some d):∃ v,vs[i]? = some v/\Is F d v:=by
 have hl:=h.length
 have hi:i < vs.length:=by rw[hl];exact (pe.mp e).1
 obtain⟨d',e1,h1⟩:=h.get (pb hi)
 rw[e] at e1;cases e1
 exact⟨_,pb hi,h1⟩
theorem F8 {x:DV} {v:V} {K:pL->Prop} (S:SR F ad δ σ H) (V1:gG F ad x v) (h:AV x δ K):∃ a it,v = .ref a/\K it/\(∃ vs,H a=some (.lst vs)) ∧
  ∀ (F':Hp) (aE:List Addr) (δ':ay) (σ':St) (H':Hp),aA F F'->(∀ (k:Nat) (a:Addr),ad[k]? = some a->aE[k]? = some a)->SR F' aE δ' σ' H'->it.br δ'->∃ vs,H' a=some (.lst vs)/\af F' it.items vs:=by
 unfold AV at h
 split at h
 ·rename_i ds
  have V2:Is F (.lst ds) v:=V1
  simp only[Is] at V2
  obtain⟨a,vs,rfl,h1,h2⟩:=V2
  exact⟨a,_,rfl,h,⟨vs,S.sub _ _ h1⟩,fun F' aE δ' σ' H' s _ S' _=>⟨vs,S'.sub _ _ (s _ _ h1),h2.same s⟩⟩
 ·rename_i k
  split at h
  ·rename_i ds e
   obtain⟨a,e1,rfl⟩:=V1
   obtain⟨a',o,e2,e3,vs,rfl,h4⟩:=S.mu k _ e
   rw[e1] at e2;cases e2
   refine⟨a,_,rfl,h,⟨vs,e3⟩,fun F' aE δ' σ' H' _ pre S' ck => ?_⟩
   obtain⟨We,o,e5,e6,ws,rfl,h7⟩:=S'.mu k _ ck
   rw[pre k a e1] at e5;cases e5
   exact⟨ws,e6,h7⟩
  ·exact h.elim
 ·exact h.elim
theorem F9 {x:DV} {v:V} {K:pL->Prop} (S:SR F ad δ σ H) (V1:gG F ad x v) (h:rD x δ K):∃ a it,v = .ref a/\K it ∧
  (((∃ vs,H a=some (.lst vs))/\∀ (F':Hp) (aE:List Addr) (δ':ay) (σ':St) (H':Hp),aA F F'->(∀ (k:Nat) (a:Addr),ad[k]? = some a->aE[k]? = some a)->SR F' aE δ' σ' H'->it.br δ'->∃ vs,H' a=some (.lst vs)/\af F' it.items vs) ∨
  ((∃ vs,H a=some (.tup vs))/\∀ (F':Hp) (aE:List Addr) (δ':ay) (σ':St) (H':Hp),aA F F'->(∀ (k:Nat) (a:Addr),ad[k]? = some a->aE[k]? = some a)->SR F' aE δ' σ' H'->it.br δ'->∃ vs,H' a=some (.tup vs)/\af F' it.items vs)):=by
 unfold rD at h
 split at h
 ·rename_i ds
  obtain⟨a,it,e,k,r⟩:=F8 (x := .p (.lst ds)) S V1 h
  exact⟨a,it,e,k,.inl r⟩
 ·rename_i ds
  have V2:Is F (.tup ds) v:=V1
  simp only[Is] at V2
  obtain⟨a,vs,rfl,h1,h2⟩:=V2
  exact⟨a,_,rfl,h,.inr ⟨⟨vs,S.sub _ _ h1⟩,fun F' aE δ' σ' H' s _ S' _=>⟨vs,S'.sub _ _ (s _ _ h1),h2.same s⟩⟩⟩
 ·rename_i k
  obtain⟨a,it,e,k,r⟩:=F8 (x := .o k) S V1 h
  exact⟨a,it,e,k,.inl r⟩
 ·exact h.elim
theorem iF (hl:JE X l (tD f)):JI X tg l (lC (cL f)):=(OF hl).weak fun σ H R h0_ => el7 h0_ fun F ad δ K S q k =>⟨F,ad,δ,_,S,q,fun x δ1 h1 v F1 aR H1 E1 S1 V1=>by
 obtain⟨a,it,rfl,hk,r⟩:=F9 S1 V1 h1
 refine⟨a,rfl,?_⟩
 rcases r with⟨⟨vs,e⟩,r⟩ | ⟨⟨vs,e⟩,r⟩
 ·refine .inl ⟨⟨vs,bh.of e⟩,k _ _ hk _ _ _ _ E1 S1 fun F' aE δ' σ' H' s pre S' ck => ?_⟩
  obtain⟨ws,e1,e2⟩:=r F' aE δ' σ' H' s pre S' ck
  refine⟨⟨ws,bh.of e1,by rw[e2.length];exact qU _⟩,fun i d ed => ?_⟩
  obtain⟨w,e3,e4⟩:=rE e2 ed
  refine⟨⟨ws,w,bh.of e1,e3⟩,fun y i8 ⟨eh,hy⟩ => ?_⟩
  subst eh
  refine⟨fun _ _ e=>e,?_⟩
  have:=hy ws (bh.of e1)
  rw[e3] at this;cases this
  rw[Nw.refl S'.sub];exact e4
 ·refine .inr ⟨⟨vs,bI.of e⟩,k _ _ hk _ _ _ _ E1 S1 fun F' aE δ' σ' H' s pre S' ck => ?_⟩
  obtain⟨ws,e1,e2⟩:=r F' aE δ' σ' H' s pre S' ck
  refine⟨⟨ws,bI.of e1,by rw[e2.length];exact qU _⟩,fun i d ed => ?_⟩
  obtain⟨w,e3,e4⟩:=rE e2 ed
  refine⟨⟨ws,w,bI.of e1,e3⟩,fun y i8 ⟨eh,hy⟩ => ?_⟩
  subst eh
  refine⟨fun _ _ e=>e,?_⟩
  have:=hy ws (bI.of e1)
  rw[e3] at this;cases this
  rw[Nw.refl S'.sub];exact e4⟩
theorem F_ {F H:Hp} {T:Addr} {d e:D} {x y:V} (s:aA F H) (hT:H T=none) (h1:Is F d x) (h2:Is F e y):Is (Nw F H (upd H T (.tup [x,y]))) (.tup [d,e]) (.ref T):=by
 rw[Nw.upd s hT]
 have hF:F T=none:=by
  cases q:F T with
  | none=>rfl
  | some u=>rw[s T u q] at hT;cases hT
 have sm:aA F (upd F T (.tup [x,y])):=de hF
 simp only[Is]
 exact⟨T,_,rfl,bw,.cons (h1.same sm) (.cons (h2.same sm) .nil)⟩
theorem Ga {elts:List Expr} {x1:Nat} {tp p pos:Pos} (hg:Gl X "enumerate") (hm:X.mg "enumerate" = none) (ha:JA X [a] (cE fa)) (hs:starEach [a] X.env=[(false,eval a X.env)]:=by rfl) :
  JI X (.Tuple elts x1 tp) (.Call (.Name "enumerate" p) [a] [] pos) (lC (kE fa)):=(OE hg hm ha hs).weak fun σ H R h0_ => el7 h0_ fun F ad δ K S q k =>⟨F,ad,δ,_,S,q,fun xs δ1 h1 vs F1 aR H1 E1 S1 V1=>by
 match xs,h1,V1 with
 | [x],g1,⟨v,r,e,W1,W2⟩ =>
  subst e
  have W3:r=[]:=W2
  subst W3
  obtain⟨a,it,rfl,hk,r⟩:=F9 S1 W1 g1
  refine⟨a,rfl,?_⟩
  rcases r with⟨⟨vs,e⟩,r⟩ | ⟨⟨vs,e⟩,r⟩
  ·refine .inl ⟨⟨vs,bh.of e⟩,k _ _ hk _ _ _ _ E1 S1 fun F' aE δ' σ' H' s pre S' ck => ?_⟩
   obtain⟨ws,e1,e2⟩:=r F' aE δ' σ' H' s pre S' ck
   refine⟨⟨ws,bh.of e1,by rw[e2.length,t7];exact qU _⟩,fun i d ed => ?_⟩
   obtain⟨d',AW,rfl⟩:=t8 ed
   obtain⟨w,e3,e4⟩:=rE e2 AW
   refine⟨⟨ws,w,bh.of e1,e3⟩,fun y i8 ⟨T,v,ey,hT,eh,hy⟩ => ?_⟩
   subst eh ey
   have:=hy ws (bh.of e1)
   rw[e3] at this;cases this
   refine⟨de hT,?_⟩
   rw[Xd]
   exact F_ S'.sub hT rfl e4
  ·refine .inr ⟨⟨vs,bI.of e⟩,k _ _ hk _ _ _ _ E1 S1 fun F' aE δ' σ' H' s pre S' ck => ?_⟩
   obtain⟨ws,e1,e2⟩:=r F' aE δ' σ' H' s pre S' ck
   refine⟨⟨ws,bI.of e1,by rw[e2.length,t7]⟩,fun i d ed => ?_⟩
   obtain⟨d',AW,rfl⟩:=t8 ed
   obtain⟨w,e3,e4⟩:=rE e2 AW
   refine⟨⟨ws,w,bI.of e1,e3⟩,fun y i8 ⟨T,v,ey,hT,eh,hy⟩ => ?_⟩
   subst eh ey
   have:=hy ws (bI.of e1)
   rw[e3] at this;cases this
   refine⟨de hT,?_⟩
   rw[Xd]
   exact F_ S'.sub hT rfl e4
 | [],h1,_=>exact h1.elim
 | _ :: _ :: _,h1,_=>exact h1.elim⟩
theorem Gb {F1:Hp} {aR:List Addr} {lo:Int} {n:Nat}:pM F1 aR ⟨b8 lo n,fun _=>True⟩ (sG lo n):=fun F' aE δ' σ' H' s pre S' _=>by
 refine⟨by show n <= (b8 lo n).length;rw[mx];exact qU _,fun i d ed => ?_⟩
 obtain⟨hi,rfl⟩:=nL ed
 refine⟨hi,fun x i8 ⟨eh,ex⟩ => ?_⟩
 subst eh ex
 exact⟨fun _ _ e=>e,rfl⟩
theorem t9 {p pos:Pos} (hg:Gl X "range") (hm:X.mg "range" = none) (ha:JA X [a] (cE fa)) (hs:starEach [a] X.env=[(false,eval a X.env)]:=by rfl):JI X tg (.Call (.Name "range" p) [a] [] pos) (lC (pV fa)) :=
 (NL hg hm ha hs).weak fun σ H R h0_ => el7 h0_ fun F ad δ K S q k =>⟨F,ad,δ,_,S,q,fun xs δ1 h1 vs F1 aR H1 E1 S1 V1=>by
  split at h1
  ·rename_i j
   obtain⟨v,r,e,V1,V2⟩:=V1
   have V2:r=[]:=V2
   have V1:v = .int j:=V1
   subst V2 V1 e
   exact⟨j,rfl,h1.1.1,h1.1.2,k _ _ h1.2 _ _ _ _ E1 S1 Gb⟩
  ·exact h1.elim⟩
theorem OG {p pos:Pos} (hg:Gl X "range") (hm:X.mg "range" = none) (ha:JA X [a,b] (cE fa)) (hs:starEach [a,b] X.env=[(false,eval a X.env),(false,eval b X.env)]:=by rfl) (jm:starEach [b] X.env=[(false,eval b X.env)]:=by rfl) :
  JI X tg (.Call (.Name "range" p) [a,b] [] pos) (lC (AU fa)) :=
 (NM hg hm ha hs jm).weak fun σ H R h0_ => el7 h0_ fun F ad δ K S q k =>⟨F,ad,δ,_,S,q,fun xs δ1 h1 vs F1 aR H1 E1 S1 V1=>by
  split at h1
  ·rename_i i j
   obtain⟨v,r,e,V1,w,r2,e2,V2,V3⟩:=V1
   have V3:r2=[]:=V3
   have V1:v = .int i:=V1
   have V2:w = .int j:=V2
   subst V3 V1 V2 e2 e
   exact⟨i,j,rfl,h1.1,k _ _ h1.2 _ _ _ _ E1 S1 Gb⟩
  ·exact h1.elim⟩
end
end L2
namespace L2
open PySem PySem.Spec PyProof.Rows
mutual
noncomputable def aF:D->D->Bool
 | .non,.non=>true
 | .bl a,.bl b=>a == b
 | .bl a,.int b=>(if a then 1 else 0) == b
 | .int a,.bl b=>a == (if b then 1 else 0)
 | .int a,.int b=>a == b
 | .str a,.str b=>a == b
 | .tup a,.tup b=>cM a b
 | .lst a,.lst b=>cM a b
 | _,_=>false
noncomputable def cM:List D->List D->Bool
 | [],[]=>true
 | a :: r,b :: s=>aF a b && cM r s
 | _,_=>false
end
mutual
theorem lG:∀ d:D,aF d d=true
 | .non=>by simp[aF]
 | .bl a=>by simp[aF]
 | .int a=>by simp[aF]
 | .str a=>by simp[aF]
 | .tup a=>by simp only[aF];exact AX a
 | .lst a=>by simp only[aF];exact AX a
theorem AX:∀ ds:List D,cM ds ds=true
 | []=>by simp[cM]
 | d :: r=>by simp only[cM,lG d,AX r,Bool.and_true]
end
mutual
theorem Is.inj {H:Hp}:∀ {d e:D} {v:V},Is H d v->Is H e v->d=e
 | .non,e,v,h,q=>by cases e<;>simp only[Is] at h q<;>first | rfl | (subst h;first | (obtain⟨_,_,z,_⟩:=q;cases z;done) | (cases q;done) | (cases q;rfl))
 | .bl a,e,v,h,q=>by cases e<;>simp only[Is] at h q<;>(subst h;first | (obtain⟨_,_,z,_⟩:=q;cases z;done) | (cases q;done) | (cases q;rfl))
 | .int a,e,v,h,q=>by cases e<;>simp only[Is] at h q<;>(subst h;first | (obtain⟨_,_,z,_⟩:=q;cases z;done) | (cases q;done) | (cases q;rfl))
 | .str a,e,v,h,q=>by cases e<;>simp only[Is] at h q<;>(subst h;first | (obtain⟨_,_,z,_⟩:=q;cases z;done) | (cases q;done) | (cases q;rfl))
 | .tup a,e,v,h,q=>by
  simp only[Is] at h
  obtain⟨p,vs,rfl,h1,h2⟩:=h
  cases e with
  | tup b =>
   simp only[Is] at q
   obtain⟨p',ws,z,q1,q2⟩:=q
   cases z
   rw[h1] at q1;cases q1
   rw[af.inj h2 q2]
  | lst b =>
   simp only[Is] at q
   obtain⟨p',ws,z,q1,q2⟩:=q
   cases z
   rw[h1] at q1;cases q1
  | non=>simp only[Is] at q;cases q
  | bl _=>simp only[Is] at q;cases q
  | int _=>simp only[Is] at q;cases q
  | str _=>simp only[Is] at q;cases q
 | .lst a,e,v,h,q=>by
  simp only[Is] at h
  obtain⟨p,vs,rfl,h1,h2⟩:=h
  cases e with
  | lst b =>
   simp only[Is] at q
   obtain⟨p',ws,z,q1,q2⟩:=q
   cases z
   rw[h1] at q1;cases q1
   rw[af.inj h2 q2]
  | tup b =>
   simp only[Is] at q
   obtain⟨p',ws,z,q1,q2⟩:=q
   cases z
   rw[h1] at q1;cases q1
  | non=>simp only[Is] at q;cases q
  | bl _=>simp only[Is] at q;cases q
  | int _=>simp only[Is] at q;cases q
  | str _=>simp only[Is] at q;cases q
theorem af.inj {H:Hp}:∀ {ds es:List D} {vs:List V},af H ds vs->af H es vs->ds=es
 | [],es,vs,h,q=>by
  simp only[af] at h;subst h
  cases es with
  | nil=>rfl
  | cons _ _=>simp only[af] at q;obtain⟨_,_,z,_⟩:=q;cases z
 | d :: ds,es,vs,h,q=>by
  simp only[af] at h
  obtain⟨v,r,rfl,h1,h2⟩:=h
  cases es with
  | nil=>simp only[af] at q;cases q
  | cons e es =>
   simp only[af] at q
   obtain⟨v',r',z,q1,q2⟩:=q
   cases z
   rw[Is.inj h1 q1,af.inj h2 q2]
end
theorem t_:∀ {ds es:List D},ds.length≠es.length->cM ds es=false
 | [],[],h=>absurd rfl h
 | [],_ :: _,_=>by simp[cM]
 | _ :: _,[],_=>by simp[cM]
 | d :: r,e :: s,h=>by simp only[cM];rw[t_ (fun z=>h (by rw[My,My,z])),Bool.and_false]
noncomputable def pW (ds es:List D) (j:Nat):Bool:=match ds[j]?,es[j]? with
 | some a,some b=>aF a b
 | _,_=>true
theorem ua:∀ {ds es:List D},ds.length=es.length->(List.range ds.length).all (pW ds es)=cM ds es
 | [],[],_=>by simp[cM]
 | [],_ :: _,h=>by simp at h
 | _ :: _,[],h=>by simp at h
 | d :: r,e :: s,h=>by
  have ih:=ua (ds:=r) (es:=s) (by simpa using h)
  rw[My,List.range_succ_eq_map,List.all_cons,List.all_map]
  simp only[cM]
  rw[<-ih]
  rfl
section
variable {X:Cx} {pins:List (Addr × Obj)} {σ : St} {H:Hp} {s:Shared}
theorem ub {vs:List V} {ah:List Value} (r:Vals vs ah) {j:Nat} (h:j < ah.toArray.size):∃ v,vs[j]? = some v/\RelV v ah.toArray[j]:=by
 have hj:j < ah.length:=by simpa using h
 have hv:j < vs.length:=by rw[r.length];exact hj
 obtain⟨u,e,ru⟩:=r.get (pb hv)
 have:ah.toArray[j]=u:=by
  have:=(pe.mp e).2
  simpa using this
 rw[this]
 exact⟨_,pb hv,ru⟩
theorem dG (I:Inv X pins σ H s) {a:Addr} {vs:List V} (h:H a=some (.lst vs)):∃ ah:List Value,Vals vs ah/\s.heap.IsList a ah.toArray:=by
 obtain⟨ah,r,p,_⟩:=I.list (bh.of h)
 exact⟨ah,r,p.isList⟩
theorem dH (I:Inv X pins σ H s) {a:Addr} {vs:List V} (h:H a=some (.tup vs)):∃ ah:List Value,Vals vs ah/\s.heap.IsTuple a ah.toArray:=by
 obtain⟨ah,r,p,_⟩:=I.tuple (bI.of h)
 exact⟨ah,r,p⟩
theorem in1_units (A:Around):A.in1.units=A.units + 1:=rfl
theorem AY (I:Inv X pins σ H s):∀ (n:Nat) {A:Around} {d e:D} {v u:V} {x y:Value},dep d <= n->A.units + n < cLine->Is H d v->Is H e u->RelV v x->RelV u y->SeqAt.EqAt A s x y (aF d e)/\SeqAt.RcAt A s x y (aF d e):=by
 intro n
 induction n with
 | zero =>
  intro A d e v u x y hd hu hv hw rv ru
  have nz:A.units < cLine:=by omega
  cases d with
  | tup ds=>simp[dep] at hd
  | lst ds=>simp[dep] at hd
  | non =>
   cases (show v = .non from hv);cases rv
   cases e with
   | non=>cases (show u = .non from hw);cases ru;simp only[aF];exact⟨SeqAt.EqAt.same _,SeqAt.RcAt.none_none⟩
   | bl b=>cases (show u = .bl b from hw);cases ru;simp only[aF];exact⟨SeqAt.EqAt.none_bool _,SeqAt.RcAt.none_bool _⟩
   | int b=>cases (show u = .int b from hw);obtain⟨t,rfl⟩:=ru;simp only[aF];exact⟨SeqAt.EqAt.none_int _ _,SeqAt.RcAt.none_int _ _⟩
   | str b=>cases (show u = .str b from hw);obtain⟨t,rfl⟩:=ru;simp only[aF];exact⟨SeqAt.EqAt.none_str _ _,SeqAt.RcAt.none_str _ _⟩
   | tup es=>simp only[Is] at hw;obtain⟨a,vs,rfl,h1,_⟩:=hw;cases ru;obtain⟨_,_,p⟩:=dH I h1;simp only[aF];exact⟨SeqAt.EqAt.none_tuple p nz,SeqAt.RcAt.none_tuple p nz⟩
   | lst es=>simp only[Is] at hw;obtain⟨a,vs,rfl,h1,_⟩:=hw;cases ru;obtain⟨_,_,p⟩:=dG I h1;simp only[aF];exact⟨SeqAt.EqAt.none_list p nz,SeqAt.RcAt.none_list p nz⟩
  | bl b0 =>
   cases (show v = .bl b0 from hv);cases rv
   cases e with
   | non=>cases (show u = .non from hw);cases ru;simp only[aF];exact⟨SeqAt.EqAt.bool_none _,SeqAt.RcAt.bool_none _⟩
   | bl b=>cases (show u = .bl b from hw);cases ru;simp only[aF];exact⟨SeqAt.EqAt.bool_bool _ _,SeqAt.RcAt.bool_bool _ _⟩
   | int b=>cases (show u = .int b from hw);obtain⟨t,rfl⟩:=ru;simp only[aF];exact⟨SeqAt.EqAt.bool_int _ _ _,SeqAt.RcAt.bool_int _ _ _⟩
   | str b=>cases (show u = .str b from hw);obtain⟨t,rfl⟩:=ru;simp only[aF];exact⟨SeqAt.EqAt.bool_str _ _ _,SeqAt.RcAt.bool_str _ _ _⟩
   | tup es=>simp only[Is] at hw;obtain⟨a,vs,rfl,h1,_⟩:=hw;cases ru;obtain⟨_,_,p⟩:=dH I h1;simp only[aF];exact⟨SeqAt.EqAt.bool_tuple _ p nz,SeqAt.RcAt.bool_tuple _ p nz⟩
   | lst es=>simp only[Is] at hw;obtain⟨a,vs,rfl,h1,_⟩:=hw;cases ru;obtain⟨_,_,p⟩:=dG I h1;simp only[aF];exact⟨SeqAt.EqAt.bool_list _ p nz,SeqAt.RcAt.bool_list _ p nz⟩
  | int b0 =>
   cases (show v = .int b0 from hv);obtain⟨t0,rfl⟩:=rv
   cases e with
   | non=>cases (show u = .non from hw);cases ru;simp only[aF];exact⟨SeqAt.EqAt.int_none _ _,SeqAt.RcAt.int_none _ _⟩
   | bl b=>cases (show u = .bl b from hw);cases ru;simp only[aF];exact⟨SeqAt.EqAt.int_bool _ _ _,SeqAt.RcAt.int_bool _ _ _⟩
   | int b=>cases (show u = .int b from hw);obtain⟨t,rfl⟩:=ru;simp only[aF];exact⟨SeqAt.EqAt.int_int _ _ _ _,SeqAt.RcAt.int_int _ _ _ _⟩
   | str b=>cases (show u = .str b from hw);obtain⟨t,rfl⟩:=ru;simp only[aF];exact⟨SeqAt.EqAt.int_str _ _ _ _,SeqAt.RcAt.int_str _ _ _ _⟩
   | tup es=>simp only[Is] at hw;obtain⟨a,vs,rfl,h1,_⟩:=hw;cases ru;obtain⟨_,_,p⟩:=dH I h1;simp only[aF];exact⟨SeqAt.EqAt.int_tuple _ _ p nz,SeqAt.RcAt.int_tuple _ _ p nz⟩
   | lst es=>simp only[Is] at hw;obtain⟨a,vs,rfl,h1,_⟩:=hw;cases ru;obtain⟨_,_,p⟩:=dG I h1;simp only[aF];exact⟨SeqAt.EqAt.int_list _ _ p nz,SeqAt.RcAt.int_list _ _ p nz⟩
  | str b0 =>
   cases (show v = .str b0 from hv);obtain⟨t0,rfl⟩:=rv
   cases e with
   | non=>cases (show u = .non from hw);cases ru;simp only[aF];exact⟨SeqAt.EqAt.str_none _ _,SeqAt.RcAt.str_none _ _⟩
   | bl b=>cases (show u = .bl b from hw);cases ru;simp only[aF];exact⟨SeqAt.EqAt.str_bool _ _ _,SeqAt.RcAt.str_bool _ _ _⟩
   | int b=>cases (show u = .int b from hw);obtain⟨t,rfl⟩:=ru;simp only[aF];exact⟨SeqAt.EqAt.str_int _ _ _ _,SeqAt.RcAt.str_int _ _ _ _⟩
   | str b=>cases (show u = .str b from hw);obtain⟨t,rfl⟩:=ru;simp only[aF];exact⟨SeqAt.EqAt.str_str _ _ _ _,SeqAt.RcAt.str_str _ _ _ _⟩
   | tup es=>simp only[Is] at hw;obtain⟨a,vs,rfl,h1,_⟩:=hw;cases ru;obtain⟨_,_,p⟩:=dH I h1;simp only[aF];exact⟨SeqAt.EqAt.str_tuple _ _ p nz,SeqAt.RcAt.str_tuple _ _ p nz⟩
   | lst es=>simp only[Is] at hw;obtain⟨a,vs,rfl,h1,_⟩:=hw;cases ru;obtain⟨_,_,p⟩:=dG I h1;simp only[aF];exact⟨SeqAt.EqAt.str_list _ _ p nz,SeqAt.RcAt.str_list _ _ p nz⟩
 | succ n ih =>
  intro A d e v u x y hd hu hv hw rv ru
  have nz:A.units < cLine:=by omega
  have step:∀ {ds es:List D} {vs us:List V} {ah bc:List Value} (r1:Vals vs ah) (r2:Vals us bc),cu ds <= n->af H ds vs->af H es us →
    ∀ (j:Nat) (h1:j < ah.toArray.size) (h2:j < bc.toArray.size),SeqAt.EqAt A.in1 s ah.toArray[j] bc.toArray[j] (pW ds es j):=fun {ds es vs us ah bc} r1 r2 hl i1 i2 j h1 h2=>by
   obtain⟨v1,e1,q1⟩:=ub r1 h1
   obtain⟨v2,e2,q2⟩:=ub r2 h2
   obtain⟨d1,f1,g1⟩:=i1.get e1
   obtain⟨d2,f2,g2⟩:=i2.get e2
   unfold pW
   rw[f1,f2]
   exact (ih (XO (Aa f1) hl) (by rw[in1_units];omega) g1 g2 q1 q2).1
  cases d with
  | tup ds =>
   have hl:cu ds <= n:=by simp only[dep] at hd;omega
   have AZ:=hv
   simp only[Is] at hv
   obtain⟨a,vs,rfl,h1,i1⟩:=hv
   cases rv
   obtain⟨ah,r1,p1⟩:=dH I h1
   cases e with
   | tup es =>
    have A0:=hw
    simp only[Is] at hw
    obtain⟨b,us,rfl,h2,i2⟩:=hw
    cases ru
    obtain⟨bc,r2,p2⟩:=dH I h2
    have rc:SeqAt.RcAt A s (.ref a) (.ref b) (aF (.tup ds) (.tup es)):=by
     have:=SeqAt.RcAt.tuples p1 p2 nz (step r1 r2 hl i1 i2)
     have l1:ah.toArray.size=ds.length:=by rw[zJ,<-r1.length,i1.length]
     have l2:bc.toArray.size=es.length:=by rw[zJ,<-r2.length,i2.length]
     rw[l1,l2] at this
     have eb:((List.range (min ds.length es.length)).all (pW ds es) && ds.length == es.length)=aF (.tup ds) (.tup es):=by
      simp only[aF]
      by_cases c:ds.length=es.length
      ·rw[<-c,Nat.min_self,ua c];simp
      ·rw[t_ c];simp[c]
     rw[eb] at this;exact this
    refine⟨?_,rc⟩
    by_cases c:a=b
    ·subst c
     have:=Is.inj AZ A0
     rw[this,lG];exact SeqAt.EqAt.same _
    ·exact SeqAt.EqAt.of_refs c rc
   | lst es =>
    simp only[Is] at hw
    obtain⟨b,us,rfl,h2,i2⟩:=hw
    cases ru
    obtain⟨bc,r2,p2⟩:=dG I h2
    simp only[aF];exact⟨SeqAt.EqAt.tuple_list p1 p2 nz,SeqAt.RcAt.tuple_list p1 p2 nz⟩
   | non=>cases (show u = .non from hw);cases ru;simp only[aF];exact⟨SeqAt.EqAt.tuple_none p1 nz,SeqAt.RcAt.tuple_none p1 nz⟩
   | bl b=>cases (show u = .bl b from hw);cases ru;simp only[aF];exact⟨SeqAt.EqAt.tuple_bool _ p1 nz,SeqAt.RcAt.tuple_bool _ p1 nz⟩
   | int b=>cases (show u = .int b from hw);obtain⟨t,rfl⟩:=ru;simp only[aF];exact⟨SeqAt.EqAt.tuple_int _ _ p1 nz,SeqAt.RcAt.tuple_int _ _ p1 nz⟩
   | str b=>cases (show u = .str b from hw);obtain⟨t,rfl⟩:=ru;simp only[aF];exact⟨SeqAt.EqAt.tuple_str _ _ p1 nz,SeqAt.RcAt.tuple_str _ _ p1 nz⟩
  | lst ds =>
   have hl:cu ds <= n:=by simp only[dep] at hd;omega
   have AZ:=hv
   simp only[Is] at hv
   obtain⟨a,vs,rfl,h1,i1⟩:=hv
   cases rv
   obtain⟨ah,r1,p1⟩:=dG I h1
   cases e with
   | lst es =>
    have A0:=hw
    simp only[Is] at hw
    obtain⟨b,us,rfl,h2,i2⟩:=hw
    cases ru
    obtain⟨bc,r2,p2⟩:=dG I h2
    have l1:ah.toArray.size=ds.length:=by rw[zJ,<-r1.length,i1.length]
    have l2:bc.toArray.size=es.length:=by rw[zJ,<-r2.length,i2.length]
    have rc:SeqAt.RcAt A s (.ref a) (.ref b) (aF (.lst ds) (.lst es)):=by
     by_cases c:ds.length=es.length
     ·have:=SeqAt.RcAt.lists p1 p2 (by rw[l1,l2];exact c) nz (step r1 r2 hl i1 i2)
      rw[l1,ua c] at this
      simp only[aF];exact this
     ·simp only[aF];rw[t_ c]
      exact SeqAt.RcAt.lists_lengths p1 p2 (by rw[l1,l2];simpa using c) nz
    refine⟨?_,rc⟩
    by_cases c:a=b
    ·subst c
     have:=Is.inj AZ A0
     rw[this,lG];exact SeqAt.EqAt.same _
    ·exact SeqAt.EqAt.of_refs c rc
   | tup es =>
    simp only[Is] at hw
    obtain⟨b,us,rfl,h2,i2⟩:=hw
    cases ru
    obtain⟨bc,r2,p2⟩:=dH I h2
    simp only[aF];exact⟨SeqAt.EqAt.list_tuple p1 p2 nz,SeqAt.RcAt.list_tuple p1 p2 nz⟩
   | non=>cases (show u = .non from hw);cases ru;simp only[aF];exact⟨SeqAt.EqAt.list_none p1 nz,SeqAt.RcAt.list_none p1 nz⟩
   | bl b=>cases (show u = .bl b from hw);cases ru;simp only[aF];exact⟨SeqAt.EqAt.list_bool _ p1 nz,SeqAt.RcAt.list_bool _ p1 nz⟩
   | int b=>cases (show u = .int b from hw);obtain⟨t,rfl⟩:=ru;simp only[aF];exact⟨SeqAt.EqAt.list_int _ _ p1 nz,SeqAt.RcAt.list_int _ _ p1 nz⟩
   | str b=>cases (show u = .str b from hw);obtain⟨t,rfl⟩:=ru;simp only[aF];exact⟨SeqAt.EqAt.list_str _ _ p1 nz,SeqAt.RcAt.list_str _ _ p1 nz⟩
  | non=>exact ih (by simp[dep]) (by omega) hv hw rv ru
  | bl b0=>exact ih (by simp[dep]) (by omega) hv hw rv ru
  | int b0=>exact ih (by simp[dep]) (by omega) hv hw rv ru
  | str b0=>exact ih (by simp[dep]) (by omega) hv hw rv ru
theorem OH (I:Inv X pins σ H s) {A:Around} {d e:D} {v u:V} {x y:Value} (hd:dep d <= 60) (hu:A.units + 61 < cLine) (hv:Is H d v) (hw:Is H e u) (rv:RelV v x) (ru:RelV u y):SeqAt.RcNeAt A s x y (!aF d e):=by
 have nz:A.units < cLine:=by omega
 have step:∀ {ds es:List D} {vs us:List V} {ah bc:List Value} (r1:Vals vs ah) (r2:Vals us bc),cu ds <= 59->af H ds vs->af H es us →
   ∀ (j:Nat) (h1:j < ah.toArray.size) (h2:j < bc.toArray.size),SeqAt.EqAt A.in1 s ah.toArray[j] bc.toArray[j] (pW ds es j):=fun {ds es vs us ah bc} r1 r2 hl i1 i2 j h1 h2=>by
  obtain⟨v1,e1,q1⟩:=ub r1 h1
  obtain⟨v2,e2,q2⟩:=ub r2 h2
  obtain⟨d1,f1,g1⟩:=i1.get e1
  obtain⟨d2,f2,g2⟩:=i2.get e2
  unfold pW
  rw[f1,f2]
  exact (AY I 59 (XO (Aa f1) hl) (by rw[in1_units];omega) g1 g2 q1 q2).1
 cases d with
 | tup ds =>
  have hl:cu ds <= 59:=by simp only[dep] at hd;omega
  simp only[Is] at hv
  obtain⟨a,vs,rfl,h1,i1⟩:=hv
  cases rv
  obtain⟨ah,r1,p1⟩:=dH I h1
  cases e with
  | tup es =>
   simp only[Is] at hw
   obtain⟨b,us,rfl,h2,i2⟩:=hw
   cases ru
   obtain⟨bc,r2,p2⟩:=dH I h2
   have:=SeqAt.RcNeAt.tuples p1 p2 nz (step r1 r2 hl i1 i2)
   have l1:ah.toArray.size=ds.length:=by rw[zJ,<-r1.length,i1.length]
   have l2:bc.toArray.size=es.length:=by rw[zJ,<-r2.length,i2.length]
   rw[l1,l2] at this
   have eb:((List.range (min ds.length es.length)).all (pW ds es) && ds.length == es.length)=aF (.tup ds) (.tup es):=by
    simp only[aF]
    by_cases c:ds.length=es.length
    ·rw[<-c,Nat.min_self,ua c];simp
    ·rw[t_ c];simp[c]
   rw[eb] at this;exact this
  | lst es=>simp only[Is] at hw;obtain⟨b,us,rfl,h2,i2⟩:=hw;cases ru;obtain⟨bc,r2,p2⟩:=dG I h2;simp only[aF];exact SeqAt.RcNeAt.tuple_list p1 p2 nz
  | non=>cases (show u = .non from hw);cases ru;simp only[aF];exact SeqAt.RcNeAt.tuple_none p1 nz
  | bl b=>cases (show u = .bl b from hw);cases ru;simp only[aF];exact SeqAt.RcNeAt.tuple_bool _ p1 nz
  | int b=>cases (show u = .int b from hw);obtain⟨t,rfl⟩:=ru;simp only[aF];exact SeqAt.RcNeAt.tuple_int _ _ p1 nz
  | str b=>cases (show u = .str b from hw);obtain⟨t,rfl⟩:=ru;simp only[aF];exact SeqAt.RcNeAt.tuple_str _ _ p1 nz
 | lst ds =>
  have hl:cu ds <= 59:=by simp only[dep] at hd;omega
  simp only[Is] at hv
  obtain⟨a,vs,rfl,h1,i1⟩:=hv
  cases rv
  obtain⟨ah,r1,p1⟩:=dG I h1
  cases e with
  | lst es =>
   simp only[Is] at hw
   obtain⟨b,us,rfl,h2,i2⟩:=hw
   cases ru
   obtain⟨bc,r2,p2⟩:=dG I h2
   have l1:ah.toArray.size=ds.length:=by rw[zJ,<-r1.length,i1.length]
   have l2:bc.toArray.size=es.length:=by rw[zJ,<-r2.length,i2.length]
   by_cases c:ds.length=es.length
   ·have:=SeqAt.RcNeAt.lists p1 p2 (by rw[l1,l2];exact c) nz (step r1 r2 hl i1 i2)
    rw[l1,ua c] at this
    simp only[aF];exact this
   ·simp only[aF];rw[t_ c]
    exact SeqAt.RcNeAt.lists_lengths p1 p2 (by rw[l1,l2];simpa using c) nz
  | tup es=>simp only[Is] at hw;obtain⟨b,us,rfl,h2,i2⟩:=hw;cases ru;obtain⟨bc,r2,p2⟩:=dH I h2;simp only[aF];exact SeqAt.RcNeAt.list_tuple p1 p2 nz
  | non=>cases (show u = .non from hw);cases ru;simp only[aF];exact SeqAt.RcNeAt.list_none p1 nz
  | bl b=>cases (show u = .bl b from hw);cases ru;simp only[aF];exact SeqAt.RcNeAt.list_bool _ p1 nz
  | int b=>cases (show u = .int b from hw);obtain⟨t,rfl⟩:=ru;simp only[aF];exact SeqAt.RcNeAt.list_int _ _ p1 nz
  | str b=>cases (show u = .str b from hw);obtain⟨t,rfl⟩:=ru;simp only[aF];exact SeqAt.RcNeAt.list_str _ _ p1 nz
 | non =>
  cases (show v = .non from hv);cases rv
  cases e with
  | non=>cases (show u = .non from hw);cases ru;simp only[aF];exact SeqAt.RcNeAt.none_none
  | bl b=>cases (show u = .bl b from hw);cases ru;simp only[aF];exact SeqAt.RcNeAt.none_bool _
  | int b=>cases (show u = .int b from hw);obtain⟨t,rfl⟩:=ru;simp only[aF];exact SeqAt.RcNeAt.none_int _ _
  | str b=>cases (show u = .str b from hw);obtain⟨t,rfl⟩:=ru;simp only[aF];exact SeqAt.RcNeAt.none_str _ _
  | tup es=>simp only[Is] at hw;obtain⟨a,vs,rfl,h1,_⟩:=hw;cases ru;obtain⟨_,_,p⟩:=dH I h1;simp only[aF];exact SeqAt.RcNeAt.none_tuple p nz
  | lst es=>simp only[Is] at hw;obtain⟨a,vs,rfl,h1,_⟩:=hw;cases ru;obtain⟨_,_,p⟩:=dG I h1;simp only[aF];exact SeqAt.RcNeAt.none_list p nz
 | bl b0 =>
  cases (show v = .bl b0 from hv);cases rv
  cases e with
  | non=>cases (show u = .non from hw);cases ru;simp only[aF];exact SeqAt.RcNeAt.bool_none _
  | bl b=>cases (show u = .bl b from hw);cases ru;simp only[aF];exact SeqAt.RcNeAt.bool_bool _ _
  | int b=>cases (show u = .int b from hw);obtain⟨t,rfl⟩:=ru;simp only[aF];exact SeqAt.RcNeAt.bool_int _ _ _
  | str b=>cases (show u = .str b from hw);obtain⟨t,rfl⟩:=ru;simp only[aF];exact SeqAt.RcNeAt.bool_str _ _ _
  | tup es=>simp only[Is] at hw;obtain⟨a,vs,rfl,h1,_⟩:=hw;cases ru;obtain⟨_,_,p⟩:=dH I h1;simp only[aF];exact SeqAt.RcNeAt.bool_tuple _ p nz
  | lst es=>simp only[Is] at hw;obtain⟨a,vs,rfl,h1,_⟩:=hw;cases ru;obtain⟨_,_,p⟩:=dG I h1;simp only[aF];exact SeqAt.RcNeAt.bool_list _ p nz
 | int b0 =>
  cases (show v = .int b0 from hv);obtain⟨t0,rfl⟩:=rv
  cases e with
  | non=>cases (show u = .non from hw);cases ru;simp only[aF];exact SeqAt.RcNeAt.int_none _ _
  | bl b=>cases (show u = .bl b from hw);cases ru;simp only[aF];exact SeqAt.RcNeAt.int_bool _ _ _
  | int b=>cases (show u = .int b from hw);obtain⟨t,rfl⟩:=ru;simp only[aF];exact SeqAt.RcNeAt.int_int _ _ _ _
  | str b=>cases (show u = .str b from hw);obtain⟨t,rfl⟩:=ru;simp only[aF];exact SeqAt.RcNeAt.int_str _ _ _ _
  | tup es=>simp only[Is] at hw;obtain⟨a,vs,rfl,h1,_⟩:=hw;cases ru;obtain⟨_,_,p⟩:=dH I h1;simp only[aF];exact SeqAt.RcNeAt.int_tuple _ _ p nz
  | lst es=>simp only[Is] at hw;obtain⟨a,vs,rfl,h1,_⟩:=hw;cases ru;obtain⟨_,_,p⟩:=dG I h1;simp only[aF];exact SeqAt.RcNeAt.int_list _ _ p nz
 | str b0 =>
  cases (show v = .str b0 from hv);obtain⟨t0,rfl⟩:=rv
  cases e with
  | non=>cases (show u = .non from hw);cases ru;simp only[aF];exact SeqAt.RcNeAt.str_none _ _
  | bl b=>cases (show u = .bl b from hw);cases ru;simp only[aF];exact SeqAt.RcNeAt.str_bool _ _ _
  | int b=>cases (show u = .int b from hw);obtain⟨t,rfl⟩:=ru;simp only[aF];exact SeqAt.RcNeAt.str_int _ _ _ _
  | str b=>cases (show u = .str b from hw);obtain⟨t,rfl⟩:=ru;simp only[aF];exact SeqAt.RcNeAt.str_str _ _ _ _
  | tup es=>simp only[Is] at hw;obtain⟨a,vs,rfl,h1,_⟩:=hw;cases ru;obtain⟨_,_,p⟩:=dH I h1;simp only[aF];exact SeqAt.RcNeAt.str_tuple _ _ p nz
  | lst es=>simp only[Is] at hw;obtain⟨a,vs,rfl,h1,_⟩:=hw;cases ru;obtain⟨_,_,p⟩:=dG I h1;simp only[aF];exact SeqAt.RcNeAt.str_list _ _ p nz
end
variable [aJ]
noncomputable def intsOf:List D->Option (List Int)
 | []=>some []
 | .int i :: r=>match intsOf r with
  | some ns=>some (i :: ns)
  | none=>none
 | _=>none
theorem rF:∀ ns:List Int,intsOf (ns.map D.int)=some ns
 | []=>rfl
 | n :: r=>by show (match intsOf (r.map D.int) with | some ns=>some (n :: ns) | none=>none)=_;rw[rF r]
theorem rG:∀ {ds:List D} {ns:List Int},intsOf ds=some ns->ds=ns.map D.int
 | [],ns,h=>by cases h;rfl
 | .int i :: r,ns,h=>by
  unfold intsOf at h
  split at h
  ·rename_i ms e;cases h;rw[WW,rG e]
  ·cases h
 | .non :: r,ns,h=>by cases h
 | .bl _ :: r,ns,h=>by cases h
 | .str _ :: r,ns,h=>by cases h
 | .tup _ :: r,ns,h=>by cases h
 | .lst _ :: r,ns,h=>by cases h
theorem my {F:Hp}:∀ {ns:List Int} {vs:List V},af F (ns.map D.int) vs->vs=ns.map V.int
 | [],vs,h=>by simp only[YU,af] at h;exact h
 | n :: r,vs,h=>by
  simp only[WW,af] at h
  obtain⟨v,t,rfl,h1,h2⟩:=h
  have h1:v = .int n:=h1
  rw[my h2,h1];rfl
theorem mz {F:Hp}:∀ {ns:List Int},af F (ns.map D.int) (ns.map V.int)
 | [] => .nil
 | n :: r => .cons (show _=_ from rfl) mz
theorem rH {F:Hp}:∀ {as bs:List D} {us vs:List V},af F as us->af F bs vs->af F (as ++ bs) (us ++ vs)
 | [],bs,us,vs,h,q=>by simp only[af] at h;subst h;exact q
 | a :: r,bs,us,vs,h,q=>by
  simp only[af] at h
  obtain⟨v,t,rfl,h1,h2⟩:=h
  exact .cons h1 (rH h2 q)
theorem Gd {F:Hp}:∀ {as:List D} {us:List V} (n:Nat),af F as us->af F (as.take n) (us.take n)
 | as,us,0,_=>by rw[ZC,ZC];exact .nil
 | [],us,n + 1,h=>by simp only[af] at h;subst h;exact .nil
 | a :: r,us,n + 1,h=>by
  simp only[af] at h
  obtain⟨v,t,rfl,h1,h2⟩:=h
  exact .cons h1 (Gd n h2)
theorem Ge {F:Hp}:∀ {as:List D} {us:List V} (n:Nat),af F as us->af F (as.drop n) (us.drop n)
 | as,us,0,h=>h
 | [],us,n + 1,h=>by simp only[af] at h;subst h;exact .nil
 | a :: r,us,n + 1,h=>by
  simp only[af] at h
  obtain⟨v,t,rfl,h1,h2⟩:=h
  exact Ge n h2
theorem Gf {F:Hp}:∀ {as:List D} {us:List V} (n:Nat) {d:D} {v:V},af F as us->Is F d v->af F (as.set n d) (us.set n v)
 | [],us,n,d,v,h,_=>by simp only[af] at h;subst h;exact .nil
 | a :: r,us,0,d,v,h,q=>by
  simp only[af] at h
  obtain⟨w,t,rfl,h1,h2⟩:=h
  exact .cons q h2
 | a :: r,us,n + 1,d,v,h,q=>by
  simp only[af] at h
  obtain⟨w,t,rfl,h1,h2⟩:=h
  exact .cons h1 (Gf n h2 q)
theorem Gg {F:Hp}:∀ {as:List D} {us:List V} (n:Nat),af F as us->af F (as.eraseIdx n) (us.eraseIdx n)
 | [],us,n,h=>by simp only[af] at h;subst h;exact .nil
 | a :: r,us,0,h=>by
  simp only[af] at h
  obtain⟨w,t,rfl,h1,h2⟩:=h
  exact h2
 | a :: r,us,n + 1,h=>by
  simp only[af] at h
  obtain⟨w,t,rfl,h1,h2⟩:=h
  exact .cons h1 (Gg n h2)
theorem nM {F H:Hp} {p:Addr} {ds:List D} {vs:List V} (s:aA F H) (hp:H p=none) (h:af F ds vs):Is (Nw F H (upd H p (.lst vs))) (.lst ds) (.ref p):=by
 rw[Nw.upd s hp]
 simp only[Is]
 exact⟨p,vs,rfl,bw,h.same (de (s.free hp))⟩
theorem A2 {F H:Hp} {p:Addr} {ds:List D} {vs:List V} (s:aA F H) (hp:H p=none) (h:af F ds vs):Is (Nw F H (upd H p (.tup vs))) (.tup ds) (.ref p):=by
 rw[Nw.upd s hp]
 simp only[Is]
 exact⟨p,vs,rfl,bw,h.same (de (s.free hp))⟩
theorem uc {F H:Hp} {d:D} {v:V} (s:aA F H) (h:Is F d v):Is (Nw F H H) d v:=by rw[Nw.refl s];exact h
noncomputable def pX:D->D->(D->Prop)->Prop
 | .int i,.int j,K=>K (.int (i + j))
 | .lst a,.lst b,K=>a.length + b.length <= 1000/\K (.lst (a ++ b))
 | .tup a,.tup b,K=>(a≠[]/\a.length + b.length <= 1000)/\K (.tup (a ++ b))
 | .str a,.str b,K=>a.length + b.length <= 1000/\K (.str (a ++ b))
 | _,_,_=>False
noncomputable def oI (f:Int->Int->D):D->D->(D->Prop)->Prop
 | .int i,.int j,K=>K (f i j)
 | _,_,_=>False
noncomputable def eO (C:Int->Int->Prop) (f:Int->Int->D):D->D->(D->Prop)->Prop
 | .int i,.int j,K=>C i j/\K (f i j)
 | _,_,_=>False
noncomputable def fU:D->D->(D->Prop)->Prop
 | .int i,.int j,K=>lY i j/\K (.int (i * j))
 | .lst a,.int j,K=>(-(2 ^ 63) <= j/\j < 2 ^ 63/\a.length * j.toNat <= 1000)/\K (.lst (List.replicate j.toNat a).flatten)
 | _,_,_=>False
section
variable {X:Cx}
theorem wK {f:Value->Value->Sem Value} {g:Int->Int->V} {h:Int->Int->D} (op:dO X f (lW g)) (hg:∀ F i j,Is F (h i j) (g i j)):f7 X f (oI h):=by
 rintro pins s σ H x y v u Q I rx ry ⟨F,d,e,K,sub,rd,re,q,md⟩
 unfold oI at q
 split at q
 ·rename_i i j
  exact op pins s σ H x y v u Q I rx ry ⟨i,j,rd,re,md _ _ _ q (fun _ _ e=>e) (hg _ i j)⟩
 ·exact q.elim
theorem A3 {f:Value->Value->Sem Value} {C:Int->Int->Prop} {g:Int->Int->V} {h:Int->Int->D} (op:dO X f (rI C g)) (hg:∀ F i j,Is F (h i j) (g i j)):f7 X f (eO C h):=by
 rintro pins s σ H x y v u Q I rx ry ⟨F,d,e,K,sub,rd,re,q,md⟩
 unfold eO at q
 split at q
 ·rename_i i j
  exact op pins s σ H x y v u Q I rx ry ⟨i,j,rd,re,q.1,md _ _ _ q.2 (fun _ _ e=>e) (hg _ i j)⟩
 ·exact q.elim
theorem wL:f7 X (binaryOp .Add) pX:=by
 rintro pins s σ H x y v u Q I rx ry ⟨F,d,e,K,sub,rd,re,q,md⟩
 unfold pX at q
 split at q
 ·rename_i i j
  exact Es pins s σ H x y v u Q I rx ry ⟨i,j,rd,re,md _ _ _ q (fun _ _ e=>e) rfl⟩
 ·rename_i as bs
  obtain⟨a,us,rfl,h1,h2⟩:=rd
  obtain⟨b,ws,rfl,h3,h4⟩:=re
  refine EX pins s σ H _ _ v u Q I rx ry ⟨a,b,us,ws,rfl,rfl,h1,h3,kA (by rw[h2.length,h4.length];exact q.1),fun p hp=>md _ _ _ q.2 (de hp) (nM sub hp (rH h2 h4))⟩
 ·rename_i as bs
  have dI:Is F (.tup as) x:=rd
  have iG:Is F (.tup bs) y:=re
  simp only[Is] at dI iG
  obtain⟨a,us,rfl,h1,h2⟩:=dI
  obtain⟨b,ws,rfl,h3,h4⟩:=iG
  have ne:us≠[]:=fun z=>q.1.1 (YN.mp (by rw[<-h2.length,z];rfl))
  refine Mt pins s σ H _ _ v u Q I rx ry ⟨a,b,us,ws,rfl,rfl,bI.of (sub _ _ h1),bI.of (sub _ _ h3),ne,kA (by rw[h2.length,h4.length];exact q.1.2),fun z => ?_,fun z p hp=>md _ _ _ q.2 (de hp) (A2 sub hp (rH h2 h4))⟩
  have:bs=[]:=YN.mp (by rw[<-h4.length,z];rfl)
  subst this
  refine md _ _ _ q.2 (fun _ _ e=>e) (uc sub ?_)
  rw[XS];exact rd
 ·rename_i as bs
  have dI:x = .str as:=rd
  have iG:y = .str bs:=re
  subst dI iG
  exact LN pins s σ H _ _ v u Q I rx ry ⟨as,bs,rfl,rfl,kA q.1,md _ _ _ q.2 (fun _ _ e=>e) rfl⟩
 ·exact q.elim
theorem rJ:f7 X (binaryOp .Sub) (oI fun i j => .int (i - j)):=wK Lu fun _ _ _=>rfl
theorem nN:f7 X (binaryOp .Mult) fU:=by
 rintro pins s σ H x y v u Q I rx ry ⟨F,d,e,K,sub,rd,re,q,md⟩
 unfold fU at q
 split at q
 ·rename_i i j
  exact Lw pins s σ H x y v u Q I rx ry ⟨i,j,rd,re,q.1,md _ _ _ q.2 (fun _ _ e=>e) rfl⟩
 ·rename_i as j
  obtain⟨a,us,rfl,h1,h2⟩:=rd
  refine MG pins s σ H _ _ v u Q I rx ry ⟨a,j,us,rfl,re,h1,q.1.1,q.1.2.1,kA (by rw[h2.length];exact q.1.2.2),fun p hp=>md _ _ _ q.2 (de hp) (nM sub hp ?_)⟩
  have:∀ k:Nat,af F (List.replicate k as).flatten (List.replicate k us).flatten:=fun k=>by
   induction k with
   | zero=>exact .nil
   | succ k ih=>rw[XH,XH,Xw,Xw];exact rH h2 ih
  exact this _
 ·exact q.elim
theorem OI:f7 X (binaryOp .FloorDiv) (eO sL fun i j => .int (i.fdiv j)):=A3 Lx fun _ _ _=>rfl
theorem j7:f7 X (binaryOp .Mod) (eO (fun _ j=>0 < j) fun i j => .int (i % j)):=A3 zc fun _ _ _=>rfl
theorem pY:f7 X (binaryOp .Pow) (eO gY fun i j => .int (i ^ j.toNat)):=A3 Ly fun _ _ _=>rfl
noncomputable def oEq:D->D->(D->Prop)->Prop:=fun d e K=>dep d <= 60/\K (.bl (aF d e))
noncomputable def nP:D->D->(D->Prop)->Prop:=fun d e K=>dep d <= 60/\K (.bl (!aF d e))
theorem jw (hu:X.A.units + 64 < cLine):f7 X (compareOp .Eq) oEq:=by
 rintro pins s σ H x y v u Q I rx ry ⟨F,d,e,K,sub,rd,re,q,md⟩
 exact (AY I 60 q.1 (by omega) (rd.is sub) (re.is sub) rx ry).2 _ _ _ _ ⟨.bl _,H,I,rfl,md _ _ _ q.2 (fun _ _ e=>e) rfl⟩
theorem rK (hu:X.A.units + 64 < cLine):f7 X (compareOp .NotEq) nP:=by
 rintro pins s σ H x y v u Q I rx ry ⟨F,d,e,K,sub,rd,re,q,md⟩
 exact OH I q.1 (by omega) (rd.is sub) (re.is sub) rx ry _ _ _ _ ⟨.bl _,H,I,rfl,md _ _ _ q.2 (fun _ _ e=>e) rfl⟩
noncomputable def oLt:D->D->(D->Prop)->Prop
 | .int i,.int j,K=>K (.bl (decide (i < j)))
 | .tup a,.tup b,K=>match intsOf a,intsOf b with
  | some ns,some ms=>K (.bl (HT.lexLt ns ms))
  | _,_=>False
 | _,_,_=>False
theorem wM (hu:X.A.units + 64 < cLine):f7 X (compareOp .Lt) oLt:=by
 rintro pins s σ H x y v u Q I rx ry ⟨F,d,e,K,sub,rd,re,q,md⟩
 unfold oLt at q
 split at q
 ·rename_i i j
  exact Lz pins s σ H x y v u Q I rx ry ⟨i,j,rd,re,md _ _ _ q (fun _ _ e=>e) rfl⟩
 ·rename_i as bs
  split at q
  ·rename_i ns ms e1 e2
   rw[rG e1] at rd
   rw[rG e2] at re
   have dI:Is F (.tup (ns.map D.int)) x:=rd
   have iG:Is F (.tup (ms.map D.int)) y:=re
   simp only[Is] at dI iG
   obtain⟨a,us,rfl,h1,h2⟩:=dI
   obtain⟨b,ws,rfl,h3,h4⟩:=iG
   rw[my h2] at h1
   rw[my h4] at h3
   exact Mr (by omega) pins s σ H _ _ v u Q I rx ry ⟨a,b,ns,ms,rfl,rfl,bI.of (sub _ _ h1),bI.of (sub _ _ h3),md _ _ _ q (fun _ _ e=>e) rfl⟩
  ·exact q.elim
 ·exact q.elim
theorem Gh:f7 X (compareOp .LtE) (oI fun i j => .bl (decide (i <= j))):=wK LF fun _ _ _=>rfl
theorem nQ:f7 X (compareOp .Gt) (oI fun i j => .bl (decide (j < i))):=wK LG fun _ _ _=>rfl
theorem OJ:f7 X (compareOp .GtE) (oI fun i j => .bl (decide (j <= i))):=wK LH fun _ _ _=>rfl
noncomputable def kF (neg:Bool):D->D->(D->Prop)->Prop
 | d,.lst es,K=>cu es <= 55/\K (.bl (if neg then !(es.any fun e=>aF e d) else es.any fun e=>aF e d))
 | d,.tup es,K=>cu es <= 55/\K (.bl (if neg then !(es.any fun e=>aF e d) else es.any fun e=>aF e d))
 | _,_,_=>False
noncomputable def iP (H:Hp) (d:D) (u:Value):Bool:=by
 classical exact if ∃ e v,Is H e v/\RelV v u/\aF e d=true then true else false
theorem Gi {H:Hp} {d e:D} {v:V} {u:Value} (h:Is H e v) (r:RelV v u):iP H d u=aF e d:=by
 unfold iP
 split
 ·rename_i z
  obtain⟨e',v',h',r',q⟩:=z
  have:v'=v:=r'.inj r
  subst this
  rw[Is.inj h h'];exact q.symm
 ·rename_i z
  cases q:aF e d with
  | false=>rfl
  | true=>exact absurd ⟨e,v,h,r,q⟩ z
theorem ue {H:Hp} {d:D}:∀ {es:List D} {vs:List V} {us:List Value},af H es vs->Vals vs us->us.any (iP H d)=es.any fun e=>aF e d
 | [],vs,us,h,r=>by simp only[af] at h;subst h;cases r;rfl
 | e :: es,vs,us,h,r=>by
  simp only[af] at h
  obtain⟨v,t,rfl,h1,h2⟩:=h
  cases r with
  | cons r1 r2=>rw[YI,YI,Gi h1 r1,ue h2 r2]
theorem uf {pins:List (Addr × Obj)} {σ : St} {H:Hp} {s:Shared} (I:Inv X pins σ H s) {A:Around} (hu:A.units + 60 < cLine) {d:D} {x:V} {w:Value} (hd:Is H d x) (rd:RelV x w):∀ {es:List D} {vs:List V} {us:List Value},cu es <= 55->af H es vs->Vals vs us->∀ u∈us,SeqAt.EqAt A s u w (iP H d u)
 | [],vs,us,_,h,r=>by simp only[af] at h;subst h;cases r;intro u hu;cases hu
 | e :: es,vs,us,hp,h,r=>by
  simp only[af] at h
  obtain⟨v,t,rfl,h1,h2⟩:=h
  simp only[cu] at hp
  cases r with
  | cons r1 r2 =>
   intro u hu'
   rcases ML.mp hu' with rfl | hu'
   ·rw[Gi h1 r1];exact (AY I 55 (by omega) (by omega) h1 hd r1 rd).1
   ·exact uf I hu hd rd (by omega) h2 r2 u hu'
theorem wN (hu:X.A.units + 64 < cLine):f7 X (compareOp .In) (kF false):=by
 rintro pins s σ H x y v u Q I rx ry ⟨F,d,e,K,sub,rd,re,q,md⟩
 unfold kF at q
 split at q
 ·rename_i es
  obtain⟨a,vs,rfl,h1,h2⟩:=re
  cases ry
  obtain⟨ah,r,p⟩:=dG I h1
  have gf:=h2.same sub
  refine SeqAt.in_listAt (iP H d) p (fun w hw=>uf I (by rw[in1_units];omega) (rd.is sub) rx q.1 gf r w (by simpa using hw)) ⟨.bl _,H,I,rfl,?_⟩
  rw[show ah.toArray.any (iP H d)=ah.any (iP H d) by simp,ue gf r]
  exact md _ _ _ q.2 (fun _ _ e=>e) rfl
 ·rename_i es
  have iG:Is F (.tup es) y:=re
  simp only[Is] at iG
  obtain⟨a,vs,rfl,h1,h2⟩:=iG
  cases ry
  obtain⟨ah,r,p⟩:=dH I (sub _ _ h1)
  have gf:=h2.same sub
  refine SeqAt.in_tupleAt (iP H d) p (fun w hw=>uf I (by rw[in1_units];omega) (rd.is sub) rx q.1 gf r w (by simpa using hw)) ⟨.bl _,H,I,rfl,?_⟩
  rw[show ah.toArray.any (iP H d)=ah.any (iP H d) by simp,ue gf r]
  exact md _ _ _ q.2 (fun _ _ e=>e) rfl
 ·exact q.elim
theorem OK (hu:X.A.units + 64 < cLine):f7 X (compareOp .NotIn) (kF true):=by
 rintro pins s σ H x y v u Q I rx ry ⟨F,d,e,K,sub,rd,re,q,md⟩
 unfold kF at q
 split at q
 ·rename_i es
  obtain⟨a,vs,rfl,h1,h2⟩:=re
  cases ry
  obtain⟨ah,r,p⟩:=dG I h1
  have gf:=h2.same sub
  refine SeqAt.notIn_listAt (iP H d) p (fun w hw=>uf I (by rw[in1_units];omega) (rd.is sub) rx q.1 gf r w (by simpa using hw)) ⟨.bl _,H,I,rfl,?_⟩
  rw[show ah.toArray.any (iP H d)=ah.any (iP H d) by simp,ue gf r]
  exact md _ _ _ q.2 (fun _ _ e=>e) rfl
 ·rename_i es
  have iG:Is F (.tup es) y:=re
  simp only[Is] at iG
  obtain⟨a,vs,rfl,h1,h2⟩:=iG
  cases ry
  obtain⟨ah,r,p⟩:=dH I (sub _ _ h1)
  have gf:=h2.same sub
  refine SeqAt.notIn_tupleAt (iP H d) p (fun w hw=>uf I (by rw[in1_units];omega) (rd.is sub) rx q.1 gf r w (by simpa using hw)) ⟨.bl _,H,I,rfl,?_⟩
  rw[show ah.toArray.any (iP H d)=ah.any (iP H d) by simp,ue gf r]
  exact md _ _ _ q.2 (fun _ _ e=>e) rfl
 ·exact q.elim
noncomputable def bj:D->D->(D->Prop)->Prop
 | .lst ds,.int i,K=>match fB ds i with
  | some d=>K d
  | none=>False
 | .tup ds,.int i,K=>match fB ds i with
  | some d=>K d
  | none=>False
 | .str z,.int i,K=>z.length <= 1000/\match fB z.cps.toList i with
  | some c=>K (.str ⟨#[c]⟩)
  | none=>False
 | _,_,_=>False
theorem Gj {F:Hp} {ds:List D} {vs:List V} {i:Int} {d:D} (h:af F ds vs) (e:fB ds i=some d):∃ v,fB vs i=some v/\Is F d v:=by
 unfold fB at e ⊢
 rw[h.length]
 cases q:jF ds.length i with
 | none=>rw[q] at e;cases e
 | some j =>
  rw[q] at e
  exact rE h (show ds[j]? = some d from e)
theorem bE:FL X bj:=by
 rintro value slice pins s σ H x y v u Q I rx ry ⟨F,d,e,K,sub,rd,re,q,md⟩ hs
 unfold bj at q
 split at q
 ·rename_i ds i
  split at q
  ·rename_i d' e1
   obtain⟨a,vs,rfl,h1,h2⟩:=rd
   obtain⟨w,e2,h3⟩:=Gj h2 e1
   exact EM value slice pins s σ H _ _ v u Q I rx ry ⟨a,vs,i,w,rfl,re,bh.of h1,e2,md _ _ _ q (fun _ _ e=>e) (uc sub h3)⟩ hs
  ·exact q.elim
 ·rename_i ds i
  split at q
  ·rename_i d' e1
   have dI:Is F (.tup ds) x:=rd
   simp only[Is] at dI
   obtain⟨a,vs,rfl,h1,h2⟩:=dI
   obtain⟨w,e2,h3⟩:=Gj h2 e1
   exact Mv value slice pins s σ H _ _ v u Q I rx ry ⟨a,vs,i,w,rfl,re,bI.of (sub _ _ h1),e2,md _ _ _ q (fun _ _ e=>e) (uc sub h3)⟩ hs
  ·exact q.elim
 ·rename_i z i
  obtain⟨hz,q⟩:=q
  split at q
  ·rename_i c e1
   have dI:x = .str z:=rd
   subst dI
   exact Mw value slice pins s σ H _ _ v u Q I rx ry ⟨z,i,c,rfl,re,kA hz,e1,md _ _ _ q (fun _ _ e=>e) rfl⟩ hs
  ·exact q.elim
 ·exact q.elim
noncomputable def cutD (ds:List D) (lo hi:Option Int):List D:=(ds.drop (HT.aY ds.length 0 lo)).take (HT.aY ds.length ds.length hi - HT.aY ds.length 0 lo)
theorem Gk {F:Hp} {ds:List D} {vs:List V} (h:af F ds vs) (lo hi:Option Int):af F (cutD ds lo hi) (dj vs lo hi):=by
 unfold cutD dj
 rw[h.length]
 exact Gd _ (Ge _ h)
noncomputable abbrev WO:=ay->(Option Int->ay->Prop)->Prop
noncomputable def wO (f:WO):TO:=fun σ H Q=>∃ F ad δ K,SR F ad δ σ H/\f δ K/\∀ o δ',K o δ'->∀ F' aE H',Ext F ad δ.mu H F' aE δ'.mu H'->SR F' aE δ' σ H'->Q o H'
noncomputable def pZ:WO:=fun δ K=>K none δ
noncomputable def A4 (f:WE):WO:=fun δ K=>f δ fun x δ1=>match x with
 | .p (.int i)=>K (some i) δ1
 | _=>False
theorem OL:PO X none (wO pZ):=fun pins s σ H Q I h0_ => el7 h0_ fun F ad δ K S q k =>EI pins s σ H Q I (k _ _ q _ _ _ .refl S)
theorem OM {e:Expr} {f:WE} (h:JE X e (tD f)):PO X (some e) (wO (A4 f)):=fun pins s σ H Q I h0_ => el7 h0_ fun F ad δ K S q k =>vV h.out pins s σ H Q I ⟨F,ad,δ,_,S,q,fun x δ1 h1 v F1 aR H1 E1 S1 V1=>by
 split at h1
 ·rename_i i
  exact⟨i,V1,k _ _ h1 _ _ _ E1 S1⟩
 ·exact h1.elim⟩
noncomputable def A5 (f g h:WE) (o o':D->D->(D->Prop)->Prop):WE:=fun δ K=>f δ fun x δ1=>g δ1 fun y δ2=>iB x δ2 fun d=>iB y δ2 fun e=>o d e fun z=>match z with
 | .bl true=>h δ2 fun w δ3=>iB y δ3 fun e'=>iB w δ3 fun c=>o' e' c fun z'=>K (.p z') δ3
 | .bl false=>K (.p (.bl false)) δ2
 | _=>False
theorem ON {a b c:Expr} {f g h:WE} {op km:CmpOp} {o o':D->D->(D->Prop)->Prop} {pos:Pos} (ho:f7 X (compareOp op) o) (jD:f7 X (compareOp km) o') (ha:JE X a (tD f)) (hb:JE X b (tD g)) (hc:JE X c (tD h))
  (hm:lastMarks [op,km] [b,c]=false:=by with_unfolding_all rfl):JE X (.Compare a [op,km] [b,c] pos) (tD (A5 f g h o o')) :=
 (NP ho jD ha hb hc hm).weak fun σ H Q h0_ => el7 h0_ fun F ad δ K S q k =>by
  refine⟨F,ad,δ,_,S,q,fun x δ1 h1 v1 F1 aR H1 E1 S1 V1=>⟨F1,aR,δ1,_,S1,h1,fun y δ2 h2 v2 F2 bP H2 E2 S2 V2 => ?_⟩⟩
  obtain⟨d,h3,rd⟩:=j4 S2 (V1.ext E2) h2
  obtain⟨e,h4,re⟩:=j4 S2 V2 h3
  refine⟨F2,d,e,_,S2.sub,rd,re,h4,fun z v H' hz sm is => ?_⟩
  have S3:=S2.al sm
  have E3:=Ext.al S2 sm
  split at hz
  ·refine⟨true,is,?_⟩
   rw[V8 rfl]
   refine⟨_,bP,δ2,_,S3,hz,fun w δ4 h5 v4 F4 wz H4 E4 S4 V4 => ?_⟩
   obtain⟨d',h6,wu⟩:=j4 S4 ((V2.ext E3).ext E4) h5
   obtain⟨e',h7,OO⟩:=j4 S4 V4 h6
   exact⟨F4,d',e',_,S4.sub,wu,OO,h7,fun z v H' hz sm is=>k _ _ hz _ _ _ _ ((((E1.trans E2).trans E3).trans E4).trans (Ext.al S4 sm)) (S4.al sm) is⟩
  ·refine⟨false,is,?_⟩
   rw[V0 WH]
   exact k _ _ hz _ _ _ _ ((E1.trans E2).trans E3) S3 rfl
  ·exact hz.elim
end
noncomputable def sortI (ns:List Int):List Int:=ns.mergeSort fun a b=>decide (a <= b)
theorem sortI_perm (ns:List Int):(sortI ns).Perm ns:=List.mergeSort_perm ns _
theorem Gm (ns:List Int):(sortI ns).Pairwise (· <= ·):=by
 have:=List.pairwise_mergeSort (le:=fun a b:Int=>decide (a <= b)) (fun a b c h1 h2=>by simp at *;omega) (fun a b=>by simp;omega) ns
 exact this.imp fun h=>by simpa using h
theorem Gn:∀ {as bs:List Int},as.Perm bs->as.Pairwise (· <= ·)->bs.Pairwise (· <= ·)->as=bs
 | [],bs,p,_,_=>p.nil_eq
 | a :: as,[],p,_,_=>absurd p.length_eq (by simp)
 | a :: as,b :: bs,p,s,t=>by
  have e:a=b:=by
   have h1:a <= b:=by
    have hb:b∈a :: as:=p.mem_iff.mpr (vX ..)
    rcases ML.mp hb with h | h
    ·omega
    ·exact (XC.mp s).1 b h
   have h2:b <= a:=by
    have ha:a∈b :: bs:=p.mem_iff.mp (vX ..)
    rcases ML.mp ha with h | h
    ·omega
    ·exact (XC.mp t).1 a h
   omega
  subst e
  rw[Gn (List.perm_cons a |>.mp p) (XC.mp s).2 (XC.mp t).2]
theorem wQ {as bs:List Int} (p:as.Perm bs) (s:as.Pairwise (· <= ·)):as=sortI bs:=Gn (p.trans (sortI_perm bs).symm) s (Gm bs)
theorem OQ (ns:List Int):(sortI ns).length=ns.length:=(sortI_perm ns).length_eq
noncomputable def cN:List D->(D->Prop)->Prop
 | [.lst ds],K=>K (.int ds.length)
 | [.tup ds],K=>K (.int ds.length)
 | [.str z],K=>z.length <= 1000/\K (.int z.length)
 | _,_=>False
noncomputable def p8:List D->(D->Prop)->Prop
 | [.lst ds],K=>K (.lst ds)
 | [.tup ds],K=>K (.lst ds)
 | _,_=>False
noncomputable def wR:List D->(D->Prop)->Prop
 | [.lst ds],K=>K (.tup ds)
 | [.tup ds],K=>K (.tup ds)
 | _,_=>False
noncomputable def wU:List D->(D->Prop)->Prop
 | [.lst ds],K=>match intsOf ds with
  | some ns=>ns.length < 64/\K (.lst ((sortI ns).map D.int))
  | none=>False
 | _,_=>False
noncomputable def p9:List D->Option (List Bool)
 | []=>some []
 | .bl b :: r=>match p9 r with
  | some bs=>some (b :: bs)
  | none=>none
 | _=>none
theorem Gp:∀ bs:List Bool,p9 (bs.map D.bl)=some bs
 | []=>rfl
 | n :: r=>by show (match p9 (r.map D.bl) with | some ns=>some (n :: ns) | none=>none)=_;rw[Gp r]
theorem Gq:∀ {ds:List D} {bs:List Bool},p9 ds=some bs->ds=bs.map D.bl
 | [],ns,h=>by cases h;rfl
 | .bl i :: r,ns,h=>by
  unfold p9 at h
  split at h
  ·rename_i ms e;cases h;rw[WW,Gq e]
  ·cases h
 | .non :: r,ns,h=>by cases h
 | .int _ :: r,ns,h=>by cases h
 | .str _ :: r,ns,h=>by cases h
 | .tup _ :: r,ns,h=>by cases h
 | .lst _ :: r,ns,h=>by cases h
theorem Gr {F:Hp}:∀ {bs:List Bool} {vs:List V},af F (bs.map D.bl) vs->vs=bs.map V.bl
 | [],vs,h=>by simp only[YU,af] at h;exact h
 | n :: r,vs,h=>by
  simp only[WW,af] at h
  obtain⟨v,t,rfl,h1,h2⟩:=h
  have h1:v = .bl n:=h1
  rw[Gr h2,h1];rfl
noncomputable def mB:List D->(D->Prop)->Prop
 | [.lst ds],K=>match p9 ds with
  | some bs=>K (.bl (bs.all id))
  | none=>False
 | _,_=>False
noncomputable def ug:List D->(D->Prop)->Prop
 | [.int i,.int j],K=>K (.int (min i j))
 | _,_=>False
noncomputable def wV:List D->(D->Prop)->Prop
 | [.int i,.int j],K=>K (.int (max i j))
 | _,_=>False
section
variable {X:Cx}
theorem dI {F H:Hp} {d:D} {xs:List V} (h:iC F H [d] xs):∃ v,xs=[v]/\iN F H d v:=by
 obtain⟨v,r,rfl,h1,h2⟩:=h
 have h2:r=[]:=h2
 subst h2
 exact⟨v,rfl,h1⟩
theorem Gs {F H:Hp} {d e:D} {xs:List V} (h:iC F H [d,e] xs):∃ v w,xs=[v,w]/\iN F H d v/\iN F H e w:=by
 obtain⟨v,r,rfl,h1,h2⟩:=h
 obtain⟨w,rfl,h3⟩:=dI h2
 exact⟨v,w,rfl,h1,h3⟩
theorem i_:d6 X (.builtin "len") cN:=by
 rintro pins s σ H xs us Q I r ⟨F,ds,K,sub,rd,q,md⟩
 unfold cN at q
 split at q
 ·obtain⟨v,rfl,a,vs,rfl,h1,h2⟩:=dI rd
  exact EO pins s σ H _ us Q I r ⟨a,vs,rfl,.inl (bh.of h1),by rw[h2.length];exact md _ _ _ q (fun _ _ e=>e) rfl⟩
 ·rename_i es
  obtain⟨v,rfl,h⟩:=dI rd
  have h:Is F (.tup es) v:=h
  simp only[Is] at h
  obtain⟨a,vs,rfl,h1,h2⟩:=h
  exact EO pins s σ H _ us Q I r ⟨a,vs,rfl,.inr (bI.of (sub _ _ h1)),by rw[h2.length];exact md _ _ _ q (fun _ _ e=>e) rfl⟩
 ·rename_i z
  obtain⟨v,rfl,h⟩:=dI rd
  have h:v = .str z:=h
  subst h
  exact MB pins s σ H _ us Q I r ⟨z,rfl,kA q.1,md _ _ _ q.2 (fun _ _ e=>e) rfl⟩
 ·exact q.elim
theorem wW:d6 X (.type "list") p8:=by
 rintro pins s σ H xs us Q I r ⟨F,ds,K,sub,rd,q,md⟩
 unfold p8 at q
 split at q
 ·obtain⟨v,rfl,a,vs,rfl,h1,h2⟩:=dI rd
  exact zA pins s σ H _ us Q I r ⟨a,vs,rfl,.inl (bh.of h1),fun l hl=>md _ _ _ q (de hl) (nM sub hl h2)⟩
 ·rename_i es
  obtain⟨v,rfl,h⟩:=dI rd
  have h:Is F (.tup es) v:=h
  simp only[Is] at h
  obtain⟨a,vs,rfl,h1,h2⟩:=h
  exact zA pins s σ H _ us Q I r ⟨a,vs,rfl,.inr (bI.of (sub _ _ h1)),fun l hl=>md _ _ _ q (de hl) (nM sub hl h2)⟩
 ·exact q.elim
theorem OR:d6 X (.type "tuple") wR:=by
 rintro pins s σ H xs us Q I r ⟨F,ds,K,sub,rd,q,md⟩
 unfold wR at q
 split at q
 ·obtain⟨v,rfl,a,vs,rfl,h1,h2⟩:=dI rd
  exact ER pins s σ H _ us Q I r ⟨a,vs,rfl,.inl ⟨bh.of h1,fun l hl=>md _ _ _ q (de hl) (A2 sub hl h2)⟩⟩
 ·rename_i es
  obtain⟨v,rfl,h⟩:=dI rd
  have h0:Is F (.tup es) v:=h
  have h:Is F (.tup es) v:=h
  simp only[Is] at h
  obtain⟨a,vs,rfl,h1,h2⟩:=h
  exact ER pins s σ H _ us Q I r ⟨a,vs,rfl,.inr ⟨bI.of (sub _ _ h1),md _ _ _ q (fun _ _ e=>e) (uc sub h0)⟩⟩
 ·exact q.elim
theorem OS:d6 X (.builtin "sorted") wU:=by
 rintro pins s σ H xs us Q I r ⟨F,ds,K,sub,rd,q,md⟩
 unfold wU at q
 split at q
 ·rename_i es
  split at q
  ·rename_i ns e
   obtain⟨v,rfl,a,vs,rfl,h1,h2⟩:=dI rd
   rw[rG e] at h2
   rw[my h2] at h1
   refine FG pins s σ H _ us Q I r ⟨a,ns,rfl,bh.of h1,q.1,fun l dZ pm pw hl => ?_⟩
   rw[wQ pm pw]
   exact md _ _ _ q.2 (de hl) (nM sub hl mz)
  ·exact q.elim
 ·exact q.elim
theorem OT (hc:X.calm=true):d6 X (.builtin "all") mB:=by
 rintro pins s σ H xs us Q I r ⟨F,ds,K,sub,rd,q,md⟩
 unfold mB at q
 split at q
 ·rename_i es
  split at q
  ·rename_i bs e
   obtain⟨v,rfl,a,vs,rfl,h1,h2⟩:=dI rd
   rw[Gq e] at h2
   rw[Gr h2] at h1
   exact NZ hc pins s σ H _ us Q I r ⟨a,bs,rfl,bh.of h1,md _ _ _ q (fun _ _ e=>e) rfl⟩
  ·exact q.elim
 ·exact q.elim
theorem Gu (hc:X.calm=true):d6 X (.builtin "min") ug:=by
 rintro pins s σ H xs us Q I r ⟨F,ds,K,sub,rd,q,md⟩
 unfold ug at q
 split at q
 ·rename_i i j
  obtain⟨v,w,rfl,h1,h2⟩:=Gs rd
  have h1:v = .int i:=h1
  have h2:w = .int j:=h2
  subst h1 h2
  refine LP hc pins s σ H _ us Q I r ⟨i,j,rfl,?_⟩
  have:(if j < i then j else i)=min i j:=by split<;>omega
  rw[this]
  exact md _ _ _ q (fun _ _ e=>e) rfl
 ·exact q.elim
theorem OU (hc:X.calm=true):d6 X (.builtin "max") wV:=by
 rintro pins s σ H xs us Q I r ⟨F,ds,K,sub,rd,q,md⟩
 unfold wV at q
 split at q
 ·rename_i i j
  obtain⟨v,w,rfl,h1,h2⟩:=Gs rd
  have h1:v = .int i:=h1
  have h2:w = .int j:=h2
  subst h1 h2
  refine LO hc pins s σ H _ us Q I r ⟨i,j,rfl,?_⟩
  have:(if j > i then j else i)=max i j:=by split<;>omega
  rw[this]
  exact md _ _ _ q (fun _ _ e=>e) rfl
 ·exact q.elim
noncomputable def A6 (fa:WA):WE:=fun δ K=>fa δ fun xs δ1=>match xs with
 | [.p (.int j)]=>(0 <= j/\j <= 1000)/\K (.p (.lst (b8 0 j.toNat))) δ1
 | _=>False
theorem rL (n:Nat):b8 0 n=(aP n).map D.int:=by
 unfold b8 aP
 rw[WU]
 refine Xc fun i _ => ?_
 show D.int (0 + (i:Int))=D.int (i:Int)
 rw[Int.zero_add]
theorem OW {a:Expr} {fa:WA} {p1 p2 q1 q2:Pos} (hc:X.calm=true) (p_:Gl X "list") (hl:X.mg "list" = none) (qa:bootBuiltins "list" = some (.type "list")) (kG:Gl X "range") (hr:X.mg "range" = none) (jO:bootBuiltins "range" = some (.type "range")) (ha:JA X [a] (cE fa))
  (he:starEach [a] X.env=[(false,eval a X.env)]:=by rfl) (qb:starEach [.Call (.Name "range" p2) [a] [] q2] X.env=[(false,eval (.Call (.Name "range" p2) [a] [] q2) X.env)]:=by rfl):JE X (.Call (.Name "list" p1) [.Call (.Name "range" p2) [a] [] q2] [] q1) (tD (A6 fa)) :=
 (lr (FF hc) p_ hl qa (iy (lr Ar kG hr jO ha (he:=he)) a8) (he:=qb)).weak fun σ H Q h0_ => el7 h0_ fun F ad δ K S q k =>⟨F,ad,δ,_,S,q,fun xs δ1 h1 vs F1 aR H1 E1 S1 V1=>by
  split at h1
  ·rename_i j
   obtain⟨v,r,e,W1,W2⟩:=V1
   have W2:r=[]:=W2
   have W1:v = .int j:=W1
   subst W2 W1 e
   refine⟨j,rfl,fun rr uh=>⟨rr,j.toNat,rfl,by rw[bw,Int.toNat_of_nonneg h1.1.1],by omega,fun l hl => ?_⟩⟩
   have s1:aA H1 (upd H1 rr (.rng 0 j)):=de uh
   have S2:=S1.al s1
   have E2:=Ext.al S1 s1
   refine k _ _ h1.2 _ _ _ _ ((E1.trans E2).trans (Ext.al S2 (de hl))) (S2.al (de hl)) ?_
   have:Is (Nw (Nw F1 H1 (upd H1 rr (.rng 0 j))) (upd H1 rr (.rng 0 j)) (upd (upd H1 rr (.rng 0 j)) l (.lst ((aP j.toNat).map V.int)))) (.lst ((aP j.toNat).map D.int)) (.ref l):=nM S2.sub hl mz
   rw[rL]
   exact this
  ·exact h1.elim⟩
noncomputable def ja (T:String):D->(D->Prop)->Prop:=fun d K=>K (.bl (d4 (gF d) T))
theorem ui {T:String} {t:Str} {a:Expr} {f:WE} {p p2 pos:Pos} (hk:∀ d:D,PySem.W.kitOne X.K (.type (gF d)) (.type T)=some (d4 (gF d) T)) (hg:Gl X "isinstance") (hm:X.mg "isinstance" = none) (OX:Gl X t) (OY:X.mg t=none) (OZ:bootBuiltins t=some (.type T)) (ha:JE X a (tD f))
  (tI:t ≠ "__name__" := by decide) (jJ:(t == ("__debug__" : Str))=false:=by decide) (he:starEach [a,.Name t p2] X.env=(false,eval a X.env) :: starEach [.Name t p2] X.env:=by rfl):JE X (.Call (.Name "isinstance" p) [a,.Name t p2] [] pos) (tD (d1 f (ja T))) :=
 (tU Nd hg hm PyProof.Rows.boot_isinstance (pB ha (i7 (Nv OX OY OZ (v := .ty T) rfl tI jJ) a8) he) (he:=he)).weak fun σ H Q h0_ => el7 h0_ fun F ad δ K S q k =>⟨F,ad,δ,_,S,q,fun x δ1 h1 v F1 aR H1 E1 S1 V1=>by
  obtain⟨d,h2,rd⟩:=j4 S1 V1 h1
  refine⟨v,.ty T,.type T,.type (gF d),_,rfl,rfl,Is.ty (rd.is S1.sub),hk d,k _ _ h2 _ _ _ _ E1 S1 rfl⟩⟩
theorem O0 {K:PySem.W.Frag}:∀ d:D,PySem.W.kitOne K (.type (gF d)) (.type "int")=some (d4 (gF d) "int"):=fun d=>Nh _ (v5 d)
theorem O1 {K:PySem.W.Frag}:∀ d:D,PySem.W.kitOne K (.type (gF d)) (.type "bool")=some (d4 (gF d) "bool"):=fun d=>Ng _ (v5 d)
theorem Gv {K:PySem.W.Frag}:∀ d:D,PySem.W.kitOne K (.type (gF d)) (.type "tuple")=some (d4 (gF d) "tuple"):=fun d=>kit_tuple _ (v5 d)
theorem O3 {K:PySem.W.Frag}:∀ d:D,PySem.W.kitOne K (.type (gF d)) (.type "list")=some (d4 (gF d) "list"):=fun d=>Ni _ (v5 d)
noncomputable def gx (x:DV) (δ : ay) (K:Nat->List D->Prop):Prop:=match x with
 | .o k=>match δ.mu[k]? with
  | some (some (.lst ds))=>K k ds
  | _=>False
 | _=>False
theorem qc {F H:Hp} {ad:List Addr} {δ : ay} {σ : St} {x:DV} {v:V} {K:Nat->List D->Prop} (S:SR F ad δ σ H) (V1:gG F ad x v) (h:gx x δ K):∃ k ds a vs,x = .o k/\K k ds/\v = .ref a/\ad[k]? = some a/\H a=some (.lst vs)/\af F ds vs /\ δ.mu[k]? = some (some (.lst ds)):=by
 unfold gx at h
 split at h
 ·rename_i k
  split at h
  ·rename_i ds e
   obtain⟨a,e1,rfl⟩:=V1
   obtain⟨a',o,e2,e3,vs,rfl,h4⟩:=S.mu k _ e
   rw[e1] at e2;cases e2
   exact⟨k,ds,a,vs,rfl,h,rfl,e1,e3,h4,e⟩
  ·exact h.elim
 ·exact h.elim
noncomputable def jP (f:WE) (fa:WA):WE:=fun δ K=>f δ fun x δ1=>gx x δ1 fun _ _=>fa δ1 fun ys δ2=>match ys with
 | [y]=>ma y δ2 fun d δ3=>gx x δ3 fun k ds=>ds.length < 1000/\K (.p .non) ⟨δ3.sl,δ3.mu.set k (some (.lst (ds ++ [d])))⟩
 | _=>False
theorem A7 {f:WE} {fa:WA} {K0:PySem.W.Frag}:∀ σ H Q,tD (jP f fa) σ H Q->o6 K0 "list" zC (tD f) (cE fa) σ H Q:=fun σ H Q h0_ => el7 h0_ fun F ad δ K S q k =>⟨F,ad,δ,_,S,q,fun x δ1 h1 v F1 aR H1 E1 S1 V1=>by
 obtain⟨k0,Gw,a,vs,rfl,h2,rfl,e1,e2,i1,m1⟩:=qc S1 V1 h1
 refine⟨.inl ⟨rfl,vs,bh.of e2⟩,F1,aR,δ1,_,S1,h2,fun ys δ2 h3 us F2 bP H2 E2 S2 V2 => ?_⟩
 match ys,h3,V2 with
 | [y],g3,⟨u,r,e,W1,W2⟩ =>
  have W3:r=[]:=W2
  subst W3 e
  obtain⟨d,δ3,F3,h4,E3,S3,i3⟩:=tZ S2 W1 g3
  obtain⟨k1,ds,b,ws,ek,h5,eb,e3,e4,i4,m4⟩:=qc (x := .o k0) S3 ((V1.ext E2).ext E3) h4
  cases ek
  have uj:a=b:=by injection eb
  subst uj
  have oi:fD F3 (.lst (ds ++ [d])) (.lst (ws ++ [u])):=⟨_,rfl,i4.snoc i3⟩
  refine⟨a,ws,u,rfl,rfl,e4,lj (by rw[i4.length];omega),?_⟩
  exact k _ _ h5.2 _ _ _ _ (((E1.trans E2).trans E3).trans (Ext.put S3 m4 e3)) (S3.put m4 e3 oi) rfl
 | [],g3,_=>exact g3.elim
 | _ :: _ :: _,g3,_=>exact g3.elim⟩
noncomputable def qd (f:WE) (fa:WA):WE:=fun δ K=>f δ fun x δ1=>gx x δ1 fun _ _=>fa δ1 fun ys δ2=>match ys with
 | [.p (.lst es)]=>gx x δ2 fun k ds=>ds.length + es.length <= 1000/\K (.p .non) ⟨δ2.sl,δ2.mu.set k (some (.lst (ds ++ es)))⟩
 | _=>False
theorem O4 {f:WE} {fa:WA} {K0:PySem.W.Frag}:∀ σ H Q,tD (qd f fa) σ H Q->o6 K0 "list" EV (tD f) (cE fa) σ H Q:=fun σ H Q h0_ => el7 h0_ fun F ad δ K S q k =>⟨F,ad,δ,_,S,q,fun x δ1 h1 v F1 aR H1 E1 S1 V1=>by
 obtain⟨k0,Gw,a,vs,rfl,h2,rfl,e1,e2,i1,m1⟩:=qc S1 V1 h1
 refine⟨.inl ⟨rfl,vs,bh.of e2⟩,F1,aR,δ1,_,S1,h2,fun ys δ2 h3 us F2 bP H2 E2 S2 V2 => ?_⟩
 split at h3
 ·rename_i es
  obtain⟨u,r,e,W1,W2⟩:=V2
  have W3:r=[]:=W2
  have W4:Is F2 (.lst es) u:=W1
  simp only[Is] at W4
  obtain⟨b,zs,rfl,z1,z2⟩:=W4
  subst W3 e
  obtain⟨k1,ds,b',ws,ek,h5,eb,e3,e4,i4,m4⟩:=qc (x := .o k0) S2 (V1.ext E2) h3
  cases ek
  have uj:a=b':=by injection eb
  subst uj
  have oi:fD F2 (.lst (ds ++ es)) (.lst (ws ++ zs)):=⟨_,rfl,rH i4 z2⟩
  refine⟨a,b,ws,zs,rfl,rfl,e4,S2.sub _ _ z1,kA (by rw[i4.length,z2.length];exact h5.1),?_⟩
  exact k _ _ h5.2 _ _ _ _ ((E1.trans E2).trans (Ext.put S2 m4 e3)) (S2.put m4 e3 oi) rfl
 ·exact h3.elim⟩
noncomputable def A8 (f:WE) (fa:WA):WE:=fun δ K=>f δ fun x δ1=>gx x δ1 fun _ _=>fa δ1 fun ys δ2=>match ys with
 | [.p (.int i)]=>gx x δ2 fun k ds=>(-(2 ^ 63) <= i/\i < 2 ^ 63)/\match seqIndex? i ds.length with
  | some j=>match ds[j]? with
   | some d=>K (.p d) ⟨δ2.sl,δ2.mu.set k (some (.lst (ds.eraseIdx j)))⟩
   | none=>False
  | none=>False
 | _=>False
theorem O5 {f:WE} {fa:WA} {K0:PySem.W.Frag}:∀ σ H Q,tD (A8 f fa) σ H Q->o6 K0 "list" EW (tD f) (cE fa) σ H Q:=fun σ H Q h0_ => el7 h0_ fun F ad δ K S q k =>⟨F,ad,δ,_,S,q,fun x δ1 h1 v F1 aR H1 E1 S1 V1=>by
 obtain⟨k0,Gw,a,vs,rfl,h2,rfl,e1,e2,i1,m1⟩:=qc S1 V1 h1
 refine⟨.inl ⟨rfl,vs,bh.of e2⟩,F1,aR,δ1,_,S1,h2,fun ys δ2 h3 us F2 bP H2 E2 S2 V2 => ?_⟩
 split at h3
 ·rename_i i
  obtain⟨u,r,e,W1,W2⟩:=V2
  have W3:r=[]:=W2
  have W4:u = .int i:=W1
  subst W3 W4 e
  obtain⟨k1,ds,b',ws,ek,⟨h5,h6⟩,eb,e3,e4,i4,m4⟩:=qc (x := .o k0) S2 (V1.ext E2) h3
  cases ek
  have uj:a=b':=by injection eb
  subst uj
  split at h6
  ·rename_i j hj
   split at h6
   ·rename_i d hd
    obtain⟨w,g1,g2⟩:=rE i4 hd
    have oi:fD F2 (.lst (ds.eraseIdx j)) (.lst (ws.eraseIdx j)):=⟨_,rfl,Gg j i4⟩
    refine⟨a,ws,i,j,w,rfl,rfl,e4,h5.1,h5.2,by rw[i4.length];exact hj,g1,?_⟩
    exact k _ _ h6 _ _ _ _ ((E1.trans E2).trans (Ext.put S2 m4 e3)) (S2.put m4 e3 oi) g2
   ·exact h6.elim
  ·exact h6.elim
 ·exact h3.elim⟩
noncomputable def qe (f fo fi:WE):WS:=fun K δ => f δ fun x δ1=>fo δ1 fun o δ2=>fi δ2 fun i δ3=>ma x δ3 fun d δ4=>gx o δ4 fun k ds=>match i with
 | .p (.int j)=>match jF ds.length j with
  | some m=>K.nx ⟨δ4.sl,δ4.mu.set k (some (.lst (ds.set m d)))⟩
  | none=>False
 | _=>False
theorem wX {f fo fi:WE}:∀ D σ H,eT (qe f fo fi) D σ H->gW (tD f) (oO (tD fo) (tD fi) EN) D σ H:=fun D σ H h0_ => el7 h0_ fun F ad δ K S q k =>⟨F,ad,δ,_,S,q,fun x δ1 h1 v F1 aR H1 E1 S1 V1=>⟨F1,aR,δ1,_,S1,h1,fun o δ2 h2 ov F2 bP H2 E2 S2 V2=>⟨F2,bP,δ2,_,S2,h2,fun i δ3 h3 iv F3 rB H3 E3 S3 V3=>by
 obtain⟨d,δ4,F4,h4,E4,S4,i4⟩:=tZ S3 ((V1.ext E2).ext E3) h3
 obtain⟨k0,ds,a,vs,rfl,h5,rfl,e1,e2,i1,m1⟩:=qc S4 ((V2.ext E3).ext E4) h4
 split at h5
 ·rename_i j
  split at h5
  ·rename_i m hm
   have V3:iv = .int j:=V3
   subst V3
   have oi:fD F4 (.lst (ds.set m d)) (.lst (vs.set m v)):=⟨_,rfl,Gf m i1 i4⟩
   refine⟨a,vs,j,m,rfl,rfl,e2,by rw[i1.length];exact hm,?_⟩
   exact k.nx _ h5 _ _ _ _ ((((E1.trans E2).trans E3).trans E4).trans (Ext.put S4 m1 e1)) (S4.put m1 e1 oi)
  ·exact h5.elim
 ·exact h5.elim⟩⟩⟩
end
end L2
namespace L2
open PySem PySem.Spec PyProof.Rows PySem.W
noncomputable abbrev LK:=List Int
noncomputable def kle (a b:LK):Prop:=HT.lexLt b a=false
theorem um:∀ a:LK,HT.lexLt a a=false
 | []=>rfl
 | x :: r=>by rw[HT.oX,V8 rfl];exact um r
theorem uo:∀ {a b:LK},HT.lexLt a b=false->HT.lexLt b a=false->a=b
 | [],[],_,_=>rfl
 | [],_ :: _,h,_=>by cases h
 | _ :: _,[],_,h=>by cases h
 | x :: r,y :: s,h,q=>by
  rw[HT.oX] at h q
  by_cases c:x=y
  ·subst c
   rw[V8 rfl] at h q
   rw[uo h q]
  ·rw[V0 c] at h
   rw[V0 (fun z=>c z.symm)] at q
   simp at h q;omega
theorem wY:∀ {a b c:LK},HT.lexLt a b=true->HT.lexLt b c=true->HT.lexLt a c=true
 | [],[],_,h,_=>by cases h
 | [],_ :: _,[],_,q=>by cases q
 | [],_ :: _,_ :: _,_,_=>rfl
 | _ :: _,[],_,h,_=>by cases h
 | _ :: _,_ :: _,[],_,q=>by cases q
 | x :: r,y :: s,z :: t,h,q=>by
  rw[HT.oX] at h q ⊢
  by_cases c1:x=y
  ·subst c1
   rw[V8 rfl] at h
   by_cases c2:x=z
   ·subst c2
    rw[V8 rfl] at q ⊢
    exact wY h q
   ·rw[V0 c2] at q ⊢;exact q
  ·rw[V0 c1] at h
   by_cases c2:y=z
   ·subst c2
    rw[V0 c1];exact h
   ·rw[V0 c2] at q
    have h1:x < y:=by simpa using h
    have h2:y < z:=by simpa using q
    rw[V0 (by omega)]
    simp;omega
theorem kle_refl (a:LK):kle a a:=um a
theorem rM {a b:LK} (h:HT.lexLt a b=true):kle a b:=by
 unfold kle
 cases q:HT.lexLt b a with
 | false=>rfl
 | true=>have:=wY h q;rw[um] at this;cases this
theorem kle_trans {a b c:LK} (h1:kle a b) (h2:kle b c):kle a c:=by
 unfold kle at *
 cases q:HT.lexLt c a with
 | false=>rfl
 | true =>
  cases q2:HT.lexLt a b with
  | true=>have:=wY q q2;rw[h2] at this;cases this
  | false =>
   have e:=uo q2 h1
   subst e;rw[h2] at q;cases q
theorem Gx {a b:LK} (h1:kle a b) (h2:kle b a):a=b:=uo h2 h1
section
variable {n:Nat} {k:Nat->LK} {I:Shared->Prop} {cmp:Nat->Nat->(Bool->Shared->Prop)->Shared->Prop}
noncomputable def nU (n:Nat) (k:Nat->LK) (I:Shared->Prop) (cmp:Nat->Nat->(Bool->Shared->Prop)->Shared->Prop):Prop :=
 ∀ (i j:Nat) (C:Bool->Shared->Prop) (s:Shared),i < n->j < n->I s->(∀ s',I s'->C (HT.lexLt (k i) (k j)) s')->cmp i j C s
noncomputable def KA (k:Nat->LK) (p:Array Nat) (i:Nat):LK:=k (p.getD i 0)
structure dU (n:Nat) (p:Array Nat):Prop where
 perm:p.Perm (List.range n).toArray
theorem dU.size {p:Array Nat} (h:dU n p):p.size=n:=by have:=h.perm.size_eq;simpa using this
theorem dU.lt {p:Array Nat} (h:dU n p) {i:Nat} (hi:i < n):p.getD i 0 < n:=by
 have hs:=h.size
 have e:p.getD i 0=p[i]:=by simp[Array.getD,hs,hi]
 rw[e]
 have:p[i]∈(List.range n).toArray:=(h.perm.mem_iff).mp (Array.getElem_mem _)
 simpa using this
theorem uq {p q:Array Nat} {i j:Nat} (h:p[i]? = q[j]?):p.getD i 0=q.getD j 0:=by
 rw[Xp,Xp,h]
theorem wZ {p:Array Nat} {i j:Nat} (hj:j <= p.size) (t:Nat):KA k (kas_rev p i j) t=if i <= t/\t < j then KA k p (i + j - 1 - t) else KA k p t:=by
 have e:=getElem?_mirror_all (xs:=p) (i:=i) hj t
 unfold KA kas_rev
 by_cases c:i <= t/\t < j
 ·rw[V8 c] at e ⊢;rw[uq e]
 ·rw[V0 c] at e ⊢;rw[uq e]
theorem O6 {p:Array Nat} {src d:Nat} (hs:src < p.size) (hd:d <= src) (t:Nat) :
  KA k (bubble p src d) t=if t=src - d then KA k p src else if src - d < t/\t <= src then KA k p (t - 1) else KA k p t:=by
 have e:=getElem?_bubble hs d hd t
 unfold KA
 by_cases c:t=src - d
 ·rw[V8 c] at e ⊢;rw[uq e]
 ·rw[V0 c] at e ⊢
  by_cases c2:src - d < t/\t <= src
  ·rw[V8 c2] at e ⊢;rw[uq e]
  ·rw[V0 c2] at e ⊢;rw[uq e]
noncomputable def Up (k:Nat->LK) (p:Array Nat) (m:Nat):Prop:=∀ i j,i <= j->j < m->kle (KA k p i) (KA k p j)
noncomputable def Dn (k:Nat->LK) (p:Array Nat) (m:Nat):Prop:=∀ i j,i <= j->j < m->kle (KA k p j) (KA k p i)
theorem Up.snoc {p:Array Nat} {m:Nat} (h:Up k p m) (hm:1 <= m) (q:kle (KA k p (m - 1)) (KA k p m)):Up k p (m + 1):=fun i j jQ hj=>by
 by_cases c:j < m
 ·exact h i j jQ c
 ·have e:j=m:=by omega
  subst e
  by_cases c2:i=j
  ·subst c2;exact kle_refl _
  ·exact kle_trans (h i (j - 1) (by omega) (by omega)) q
theorem Dn.snoc {p:Array Nat} {m:Nat} (h:Dn k p m) (hm:1 <= m) (q:kle (KA k p m) (KA k p (m - 1))):Dn k p (m + 1):=fun i j jQ hj=>by
 by_cases c:j < m
 ·exact h i j jQ c
 ·have e:j=m:=by omega
  subst e
  by_cases c2:i=j
  ·subst c2;exact kle_refl _
  ·exact kle_trans q (h i (j - 1) (by omega) (by omega))
theorem Up.one {p:Array Nat}:Up k p 1:=fun i j jQ hj=>by
 have:i=j:=by omega
 subst this;exact kle_refl _
theorem Dn.one {p:Array Nat}:Dn k p 1:=fun i j jQ hj=>by
 have:i=j:=by omega
 subst this;exact kle_refl _
theorem dU.rev {p:Array Nat} (h:dU n p) (i j:Nat):dU n (kas_rev p i j):=⟨(mirror_perm _ _ _ _).trans h.perm⟩
theorem dU.O7 {p:Array Nat} (h:dU n p) (i j:Nat):dU n (bubble p i j):=⟨(bubble_perm _ _ _).trans h.perm⟩
theorem Gy (hc:nU n k I cmp) {p:Array Nat} (hp:dU n p):∀ (f m:Nat) (s:Shared) (Q:Nat->Shared->Prop),1 <= m->m + f=n->Up k p m->I s →
  (∀ m' s',m <= m'->m' <= n->Up k p m'->I s'->Q m' s')->(kas_asc p f m).kasWp cmp Q s
 | 0,m,s,Q,h1,h2,up,hi,fin=>fin m s (qU _) (by omega) up hi
 | f + 1,m,s,Q,h1,h2,up,hi,fin=>by
  show cmp _ _ _ s
  refine hc _ _ _ s (hp.lt (by omega)) (hp.lt (by omega)) hi fun s' cg => ?_
  cases q:HT.lexLt (k (p.getD m 0)) (k (p.getD (m - 1) 0)) with
  | true=>dsimp only;rw[V8 rfl];exact fin m s' (qU _) (by omega) up cg
  | false =>
   dsimp only;rw[V0 WH]
   exact Gy hc hp f (m + 1) s' Q (by omega) (by omega) (up.snoc h1 q) cg fun m' iY a b c d=>fin m' iY (by omega) b c d
noncomputable def A9 (k:Nat->LK) (p:Array Nat) (m q:Nat):Prop:=∀ t,m - (q + 1) <= t->t < m->KA k p t=KA k p (m - 1)
theorem Gz {p:Array Nat} {m q:Nat} (hs:m <= p.size) (hq:q + 1 <= m) (e:A9 k p m q) (t:Nat):KA k (kas_rev p (m - (q + 1)) m) t=KA k p t:=by
 rw[wZ hs]
 split
 ·rename_i c
  rw[e _ (by omega) (by omega),e t c.1 c.2]
 ·rfl
theorem Dn.congr {p p':Array Nat} {m:Nat} (h:Dn k p m) (e:∀ t,KA k p' t=KA k p t):Dn k p' m:=fun i j a b=>by rw[e,e];exact h i j a b
theorem w_ (hc:nU n k I cmp):∀ (f:Nat) (p:Array Nat) (m q:Nat) (s:Shared) (Q:Array Nat × Nat × Nat->Shared->Prop),dU n p->1 <= m->m + f=n->q + 1 <= m->Dn k p m->A9 k p m q->I s →
  (∀ p' m' q' s',dU n p'->m <= m'->m' <= n->q' + 1 <= m'->Dn k p' m'->A9 k p' m' q'->I s'->Q (p',m',q') s')->(kas_desc f p m q).kasWp cmp Q s
 | 0,p,m,q,s,Q,hp,h1,h2,hq,dn,es,hi,fin=>fin p m q s hp (qU _) (by omega) hq dn es hi
 | f + 1,p,m,q,s,Q,hp,h1,h2,hq,dn,es,hi,fin=>by
  show cmp _ _ _ s
  refine hc _ _ _ s (hp.lt (by omega)) (hp.lt (by omega)) hi fun s' cg => ?_
  have sz:=hp.size
  cases c1:HT.lexLt (k (p.getD m 0)) (k (p.getD (m - 1) 0)) with
  | true =>
   dsimp only;rw[V8 rfl]
   have st:kle (KA k p m) (KA k p (m - 1)):=rM c1
   by_cases GA:q > 0
   ·rw[V8 GA]
    have e:=Gz (k:=k) (p:=p) (m:=m) (q:=q) (by omega) hq es
    refine w_ hc f _ (m + 1) 0 s' Q (hp.rev _ _) (by omega) (by omega) (by omega) ((dn.snoc h1 st).congr e) (fun t a b => ?_) cg fun p' m' q' iY a b c d e g i=>fin p' m' q' iY a (by omega) c d e g i
    have:t=m + 1 - 1:=by omega
    rw[this]
   ·rw[V0 GA]
    refine w_ hc f p (m + 1) 0 s' Q hp (by omega) (by omega) (by omega) (dn.snoc h1 st) (fun t a b => ?_) cg fun p' m' q' iY a b c d e g i=>fin p' m' q' iY a (by omega) c d e g i
    have:t=m + 1 - 1:=by omega
    rw[this]
  | false =>
   dsimp only;rw[V0 WH]
   show cmp _ _ _ s'
   refine hc _ _ _ s' (hp.lt (by omega)) (hp.lt (by omega)) cg fun s2 mC => ?_
   cases c2:HT.lexLt (k (p.getD (m - 1) 0)) (k (p.getD m 0)) with
   | true=>dsimp only;rw[V8 rfl];exact fin p m q s2 hp (qU _) (by omega) hq dn es mC
   | false =>
    dsimp only;rw[V0 WH]
    have eq:KA k p m=KA k p (m - 1):=uo c1 c2
    refine w_ hc f p (m + 1) (q + 1) s2 Q hp (by omega) (by omega) (by omega) (dn.snoc h1 (by rw[eq];exact kle_refl _)) (fun t a b => ?_) mC fun p' m' q' iY a b c d e g i=>fin p' m' q' iY a (by omega) c d e g i
    show KA k p t=KA k p m
    by_cases z:t=m
    ·rw[z]
    ·rw[es t (by omega) (by omega),eq]
theorem Dn.rev {p:Array Nat} {m:Nat} (h:Dn k p m) (hs:m <= p.size):Up k (kas_rev p 0 m) m:=fun i j jQ hj=>by
 rw[wZ hs,wZ hs,V8 ⟨Xl _,by omega⟩,V8 ⟨Xl _,hj⟩]
 exact h _ _ (by omega) (by omega)
theorem GB (hc:nU n k I cmp) {p:Array Nat} (hp:dU n p) {m:Nat} {s:Shared} {Q:Nat × Array Nat->Shared->Prop} (h1:1 <= m) (hm:m <= n) (dn:Dn k p m) (hi:I s)
  (fin:∀ p' m' s',dU n p'->1 <= m'->m' <= n->Up k p' m'->I s'->Q (m',p') s'):(kas_tail3 m n p).kasWp cmp Q s:=by
 unfold kas_tail3
 rw[KasT.kasWp_bind]
 have sz:=hp.size
 refine Gy hc (hp.rev 0 m) (n - m) m s _ h1 (by omega) (dn.rev (by omega)) hi fun m' s' a b c d => ?_
 exact fin _ m' s' (hp.rev 0 m) (by omega) b c d
theorem GC (hc:nU n k I cmp) {p:Array Nat} (hp:dU n p) {m:Nat} {s:Shared} {Q:Nat × Array Nat->Shared->Prop} (h1:1 <= m) (hm:m + 1 <= n) (dn:Dn k p (m + 1)) (hi:I s)
  (fin:∀ p' m' s',dU n p'->1 <= m'->m' <= n->Up k p' m'->I s'->Q (m',p') s'):(kas_descPart m n p).kasWp cmp Q s:=by
 unfold kas_descPart
 rw[KasT.kasWp_bind]
 refine w_ hc (n - (m + 1)) p (m + 1) 0 s _ hp (by omega) (by omega) (by omega) dn (fun t a b => ?_) hi fun p' m' q' s' a b c d e g i => ?_
 ·have:t=m + 1 - 1:=by omega
  rw[this]
 ·have sz:=a.size
  dsimp only
  by_cases hq:q' > 0
  ·rw[V8 hq]
   exact GB hc (a.rev _ _) (by omega) c (e.congr (Gz (by omega) d g)) i fin
  ·rw[V0 hq]
   exact GB hc a (by omega) c e i fin
theorem O8 (hc:nU n k I cmp) {p:Array Nat} (hp:dU n p) {s:Shared} {Q:Nat × Array Nat->Shared->Prop} (h1:1 <= n) (hi:I s)
  (fin:∀ p' m' s',dU n p'->1 <= m'->m' <= n->Up k p' m'->I s'->Q (m',p') s'):(kas_count n p).kasWp cmp Q s:=by
 unfold kas_count
 rw[KasT.kasWp_bind]
 have sz:=hp.size
 have key:∀ (f m:Nat) (s:Shared) (Q':Nat->Shared->Prop),1 <= m->m + f=n->Up k p m->I s →
   (∀ m' s',m <= m'->m' <= n->Up k p m'->(m' < n->HT.lexLt (KA k p m') (KA k p (m' - 1))=true)->I s'->Q' m' s')->(kas_asc p f m).kasWp cmp Q' s:=by
  intro f
  induction f with
  | zero=>intro m s Q' a b up hi fin;exact fin m s (qU _) (by omega) up (fun z=>absurd z (by omega)) hi
  | succ f ih =>
   intro m s Q' a b up hi fin
   show cmp _ _ _ s
   refine hc _ _ _ s (hp.lt (by omega)) (hp.lt (by omega)) hi fun s' cg => ?_
   cases q:HT.lexLt (k (p.getD m 0)) (k (p.getD (m - 1) 0)) with
   | true=>dsimp only;rw[V8 rfl];exact fin m s' (qU _) (by omega) up (fun _=>q) cg
   | false =>
    dsimp only;rw[V0 WH]
    exact ih (m + 1) s' Q' (by omega) (by omega) (up.snoc a q) cg fun m' iY a b c d e=>fin m' iY (by omega) b c d e
 refine key (n - 1) 1 s _ (qU _) (by omega) Up.one hi fun m s' a b up nx cg => ?_
 by_cases c1:m=n
 ·subst c1
  rw[V8 (by simp)]
  exact fin p m s' hp a (qU _) up cg
 ·rw[V0 (by simpa using c1)]
  have cj:m < n:=by omega
  have nx:=nx cj
  by_cases c2:m > 1
  ·rw[V8 c2]
   show cmp _ _ _ s'
   refine hc _ _ _ s' (hp.lt (by omega)) (hp.lt (by omega)) cg fun s2 mC => ?_
   cases q:HT.lexLt (k (p.getD 0 0)) (k (p.getD (m - 1) 0)) with
   | true=>dsimp only;rw[V8 rfl];exact fin p m s2 hp a b up mC
   | false =>
    dsimp only;rw[V0 WH]
    have al:∀ t,t < m->KA k p t=KA k p (m - 1):=fun t ht=>by
     refine Gx (up t (m - 1) (by omega) (by omega)) (kle_trans q (up 0 t (Xl _) ht))
    have e:∀ t,KA k (kas_rev p 0 m) t=KA k p t:=fun t=>by
     rw[wZ (by omega)]
     split
     ·rename_i c;rw[al _ (by omega),al t c.2]
     ·rfl
    refine GC hc (hp.rev 0 m) (by omega) (by omega) (Dn.congr (p:=p) ?_ e) mC fin
    refine Dn.snoc (fun i j jQ hj => ?_) (by omega) (rM nx)
    rw[al i (by omega),al j hj];exact kle_refl _
  ·rw[V0 c2]
   have:m=1:=by omega
   subst this
   exact GC hc hp (by omega) (by omega) (Dn.one.snoc (qU _) (rM nx)) cg fin
theorem A_ (hc:nU n k I cmp) {p:Array Nat} (hp:dU n p) {t:Nat} (ht:t < n) (up:Up k p t):∀ (f l r:Nat) (s:Shared) (Q:Nat->Shared->Prop),l <= r->r <= t->r - l <= f →
  (∀ i,i < l->kle (KA k p i) (KA k p t))->(∀ i,r <= i->i < t->kle (KA k p t) (KA k p i))->I s →
  (∀ l' s',l' <= t->(∀ i,i < l'->kle (KA k p i) (KA k p t))->(∀ i,l' <= i->i < t->kle (KA k p t) (KA k p i))->I s'->Q l' s')->(kas_place p t f l r).kasWp cmp Q s
 | 0,l,r,s,Q,h1,h2,h3,lo,rN,hi,fin=>by
  have:l=r:=by omega
  subst this
  exact fin l s h2 lo rN hi
 | f + 1,l,r,s,Q,h1,h2,h3,lo,rN,hi,fin=>by
  unfold kas_place
  by_cases c:l ≥ r
  ·rw[V8 c]
   have:l=r:=by omega
   subst this
   exact fin l s h2 lo rN hi
  ·rw[V0 c]
   show cmp _ _ _ s
   refine hc _ _ _ s (hp.lt ht) (hp.lt (by omega)) hi fun s' cg => ?_
   cases q:HT.lexLt (k (p.getD t 0)) (k (p.getD ((l + r) / 2) 0)) with
   | true =>
    dsimp only;rw[V8 rfl]
    refine A_ hc hp ht up f l ((l + r) / 2) s' Q (by omega) (by omega) (by omega) lo (fun i a b => ?_) cg fin
    exact kle_trans (rM q) (up _ _ a b)
   | false =>
    dsimp only;rw[V0 WH]
    refine A_ hc hp ht up f ((l + r) / 2 + 1) r s' Q (by omega) h2 (by omega) (fun i a => ?_) rN cg fin
    exact kle_trans (up i ((l + r) / 2) (by omega) (by omega)) q
theorem GG (hc:nU n k I cmp):∀ (f:Nat) (p:Array Nat) (t:Nat) (s:Shared) (Q:Array Nat->Shared->Prop),dU n p->t + f=n->Up k p t->I s →
  (∀ p' s',dU n p'->Up k p' n->I s'->Q p' s')->(kas_bin f p t).kasWp cmp Q s
 | 0,p,t,s,Q,hp,h2,up,hi,fin=>by
  have:t=n:=by omega
  subst this
  exact fin p s hp up hi
 | f + 1,p,t,s,Q,hp,h2,up,hi,fin=>by
  unfold kas_bin
  rw[KasT.kasWp_bind]
  have sz:=hp.size
  refine A_ hc hp (by omega) up t 0 t s _ (Xl _) (qU _) (by omega) (fun i a=>absurd a (by omega)) (fun i a b=>absurd b (by omega)) hi fun l s' hl lo rN cg => ?_
  refine GG hc f _ (t + 1) s' Q (hp.O7 _ _) (by omega) (fun i j jQ hj => ?_) cg fin
  have kb:=fun x=>O6 (k:=k) (p:=p) (src:=t) (d:=t - l) (by omega) (by omega) x
  have el:t - (t - l)=l:=by omega
  rw[kb i,kb j,el]
  by_cases c1:i=l
  ·subst c1
   rw[V8 rfl]
   by_cases c2:j=i
   ·rw[V8 c2];exact kle_refl _
   ·rw[V0 c2,V8 ⟨by omega,by omega⟩]
    exact rN (j - 1) (by omega) (by omega)
  ·rw[V0 c1]
   by_cases c2:j=l
   ·subst c2
    rw[V8 rfl,V0 (by omega)]
    exact lo i (by omega)
   ·rw[V0 c2]
    by_cases c3:l < i/\i <= t
    ·rw[V8 c3,V8 ⟨by omega,by omega⟩]
     exact up _ _ (by omega) (by omega)
    ·rw[V0 c3]
     by_cases c4:l < j/\j <= t
     ·rw[V8 c4];exact up _ _ (by omega) (by omega)
     ·rw[V0 c4];exact up _ _ jQ (by omega)
theorem O9 (hc:nU n k I cmp) {s:Shared} {Q:Array Nat->Shared->Prop} (h1:1 <= n) (hi:I s) (fin:∀ p s',dU n p->Up k p n->I s'->Q p s'):(kas_sort n).kasWp cmp Q s:=by
 unfold kas_sort
 rw[KasT.kasWp_bind]
 refine O8 hc ⟨Array.Perm.refl _⟩ h1 hi fun p m s' a b c d e => ?_
 dsimp only
 by_cases q:m < n
 ·rw[V8 q]
  have:max m 1=m:=by omega
  rw[this]
  exact GG hc (n - m) p m s' Q a (by omega) d e fin
 ·rw[V0 q]
  have:m=n:=by omega
  subst this
  exact fin p s' a d e
end
end L2
namespace L2
open PySem PySem.Spec PyProof.Rows
theorem GH {δ0:ay} {br:ay->Prop} {g:WG} {b:WS} {K:KS} (I:Nat->ay->Prop):∀ (items:List D) (i:Nat) (δ : ay),I i δ →
  (∀ j d δ (L:ay->Prop),items[j]? = some d->I (i + j) δ -> (∀ δ',I (i + j + 1) δ'->L δ')->br δ /\ g (.p d) δ fun δ1=>b { nx:=fun δ2=>L (δ0.trim δ2),ct:=fun δ2=>L (δ0.trim δ2),bk:=K.nx,rt:=K.rt } δ1) →
  (∀ δ,I (i + items.length) δ -> br δ /\ K.nx δ)->kC δ0 br g b K items δ
 | [],i,δ,h,_,fin=>fin δ h
 | d :: r,i,δ,h,st,fin=>by
  unfold kC
  refine st 0 d δ (fun δ'=>kC δ0 br g b K r δ') rfl h fun δ' hi => ?_
  refine GH I r (i + 1) _ hi (fun j e δ L hj hI hL => ?_) fun δ hI => ?_
  ·have e:i + 1 + j=i + (j + 1):=by omega
   rw[e] at hI hL
   exact st (j + 1) _ δ L (by simpa using hj) hI hL
  ·exact fin δ (by rw[My];have e:i + 1 + r.length=i + (r.length + 1):=by omega
                   rw[e] at hI;exact hI)
theorem nV {δ0:ay} {br:ay->Prop} {g:WG} {b:WS} {K:KS} {items:List D} {δ : ay} (I:Nat->ay->Prop) (h0:I 0 δ)
  (st:∀ j d δ (L:ay->Prop),items[j]? = some d->I j δ -> (∀ δ',I (j + 1) δ'->L δ')->br δ /\ g (.p d) δ fun δ1=>b { nx:=fun δ2=>L (δ0.trim δ2),ct:=fun δ2=>L (δ0.trim δ2),bk:=K.nx,rt:=K.rt } δ1)
  (fin:∀ δ,I items.length δ -> br δ /\ K.nx δ):kC δ0 br g b K items δ :=
 GH I items 0 δ h0 (fun j d δ L hj hI hL=>by rw[Xd] at hI hL;exact st j d δ L hj hI hL) fun δ hI=>by rw[Xd] at hI;exact fin δ hI
noncomputable def rO (δ0:ay) (br:ay->Prop) (g:WG) (t:WT) (f:WE) (d:D) (acc:List D) (δ : ay) (L:List D->ay->Prop):Prop :=
 br δ /\ g (.p d) δ fun δ1=>t δ1 fun b δ2=>if b=true then f δ2 fun x δ3=>ma x δ3 fun e δ4=>acc.length < 1000/\L (acc ++ [e]) (δ0.trim δ4) else L acc (δ0.trim δ2)
theorem GI {δ0:ay} {br:ay->Prop} {g:WG} {t:WT} {f:WE} {K:List D->ay->Prop} (I:Nat->List D->ay->Prop):∀ (items:List D) (i:Nat) (acc:List D) (δ : ay),I i acc δ →
  (∀ j d acc δ (L:List D->ay->Prop),items[j]? = some d->I (i + j) acc δ -> (∀ bR δ',I (i + j + 1) bR δ'->L bR δ')->rO δ0 br g t f d acc δ L) →
  (∀ acc δ,I (i + items.length) acc δ -> br δ /\ K acc δ)->ju δ0 br g t f K items acc δ
 | [],i,acc,δ,h,_,fin=>fin acc δ h
 | d :: r,i,acc,δ,h,st,fin=>by
  unfold ju
  refine st 0 d acc δ (fun bR δ'=>ju δ0 br g t f K r bR δ') rfl h fun bR δ' hi => ?_
  refine GI I r (i + 1) bR _ hi (fun j e acc δ L hj hI hL => ?_) fun acc δ hI => ?_
  ·have e:i + 1 + j=i + (j + 1):=by omega
   rw[e] at hI hL
   exact st (j + 1) _ acc δ L (by simpa using hj) hI hL
  ·exact fin acc δ (by rw[My];have e:i + 1 + r.length=i + (r.length + 1):=by omega
                       rw[e] at hI;exact hI)
theorem xc {δ0:ay} {br:ay->Prop} {g:WG} {t:WT} {f:WE} {K:List D->ay->Prop} {items:List D} {δ : ay} (I:Nat->List D->ay->Prop) (h0:I 0 [] δ)
  (st:∀ j d acc δ (L:List D->ay->Prop),items[j]? = some d->I j acc δ -> (∀ bR δ',I (j + 1) bR δ'->L bR δ')->rO δ0 br g t f d acc δ L)
  (fin:∀ acc δ,I items.length acc δ -> br δ /\ K acc δ):ju δ0 br g t f K items [] δ :=
 GI I items 0 [] δ h0 (fun j d acc δ L hj hI hL=>by rw[Xd] at hI hL;exact st j d acc δ L hj hI hL) fun acc δ hI=>by rw[Xd] at hI;exact fin acc δ hI
theorem qf {δ0:ay} {br:ay->Prop} {g:WG} {t:WT} {f:WE} {K:List D->ay->Prop} {items:List D} (p:D->Bool) (fn:D->D) (hl:items.length <= 1000) (hc:br δ0)
  (st:∀ d∈items,∀ acc (L:List D->ay->Prop),acc.length < 1000->(p d=true->L (acc ++ [fn d]) δ0)->(p d=false->L acc δ0)->rO δ0 br g t f d acc δ0 L)
  (fin:K ((items.filter p).map fn) δ0):ju δ0 br g t f K items [] δ0:=by
 refine xc (fun i acc δ => δ = δ0/\acc=((items.take i).filter p).map fn) ⟨rfl,rfl⟩ ?_ ?_
 ·rintro j d acc δ L hj ⟨rfl,rfl⟩ hL
  have cj:=(pe.mp hj).1
  have hm:d∈items:=Xb hj
  have hn:(((items.take j).filter p).map fn).length < 1000:=by
   rw[pd]
   have:=ZG p (items.take j)
   rw[W5] at this;omega
  have e:items.take (j + 1)=items.take j ++ [d]:=by rw[Yj,hj];rfl
  refine st d hm _ L hn (fun q=>hL _ _ ⟨rfl,?_⟩) (fun q=>hL _ _ ⟨rfl,?_⟩)
  ·rw[e,YV,WR];simp[List.filter,q]
  ·rw[e,YV,WR];simp[List.filter,q]
 ·rintro acc δ ⟨rfl,rfl⟩
  rw[Xm (qU _)]
  exact⟨hc,fin⟩
theorem rP {δ0:ay} {br:ay->Prop} {g:WG} {t:WT} {f:WE} {K:List D->ay->Prop} {items:List D} (fn:D->D) (hl:items.length <= 1000) (hc:br δ0)
  (st:∀ d∈items,∀ acc (L:List D->ay->Prop),acc.length < 1000->L (acc ++ [fn d]) δ0->rO δ0 br g t f d acc δ0 L)
  (fin:K (items.map fn) δ0):ju δ0 br g t f K items [] δ0 :=
 qf (fun _=>true) fn hl hc (fun d hd acc L ha h _=>st d hd acc L ha (h rfl)) (by rw[List.filter_eq_self.mpr fun _ _=>rfl];exact fin)
end L2
namespace LJ
open PySem L2
theorem Ba:bootBuiltins "range" = some (.type "range"):=by decide +kernel
theorem O_:bootBuiltins "max" = some (.builtin "max"):=by decide +kernel
theorem Bb:bootBuiltins "min" = some (.builtin "min"):=by decide +kernel
theorem xf:bootBuiltins "sorted" = some (.builtin "sorted"):=by decide +kernel
structure BT (mg:Str->Option Value):Prop where
 len:mg "len" = none
 range:mg "range" = none
 list:mg "list" = none
 tuple:mg "tuple" = none
 set:mg "set" = none
 sorted:mg "sorted" = none
 min:mg "min" = none
 max:mg "max" = none
 sum:mg "sum" = none
 all:mg "all" = none
 any:mg "any" = none
 enumerate:mg "enumerate" = none
 zip:mg "zip" = none
 isinstance:mg "isinstance" = none
 int:mg "int" = none
 bool:mg "bool" = none
 str:mg "str" = none
end LJ
namespace L2
open PySem PySem.Spec PyProof.Rows
variable [aJ]
noncomputable def GJ (X:Cx) (f:Value) (g:List D->(List D->Prop)->Prop):Prop :=
 fY X f fun xs H Q=>∃ F ds K,aA F H/\iC F H ds xs/\g ds K/\∀ zs vs a,K zs->H a=none->af F zs vs->Q (.ref a) (upd H a (.lst vs))
noncomputable def xg (fa:WA) (op:List D->(List D->Prop)->Prop):WE:=fun δ K=>fa δ fun xs δ1=>jL xs δ1 fun ds=>op ds fun zs=>K (.o δ1.mu.length) ⟨δ1.sl,δ1.mu ++ [some (.lst zs)]⟩
noncomputable def xh:List D->(List D->Prop)->Prop
 | [.lst ds],K=>match intsOf ds with
  | some ns=>ns.length < 64/\K ((sortI ns).map D.int)
  | none=>False
 | _,_=>False
section
variable {X:Cx} {fa:WA} {pos:Pos}
theorem xi {F H:Hp} {ad:List Addr} {δ : ay} {σ : St} {p:Addr} (S:SR F ad δ σ H):gG F (ad ++ [p]) (.o δ.mu.length) (.ref p) :=
 ⟨p,by rw[<-S.b_,Wx (qU _),Xo];rfl,rfl⟩
theorem Pa {r:List V->Hp->VK->Prop} {op:List D->(List D->Prop)->Prop} (hr:∀ xs H Q,(∃ F ds K,aA F H/\iC F H ds xs/\op ds K/\∀ zs vs a,K zs->H a=none->af F zs vs->Q (.ref a) (upd H a (.lst vs)))->r xs H Q):∀ σ H Q,tD (xg fa op) σ H Q->oW r (cE fa) σ H Q:=by
 rintro σ H Q ⟨F,ad,δ,K,S,q,k⟩
 refine⟨F,ad,δ,_,S,q,fun xs δ1 h1 vs F1 aR H1 E1 S1 V1=>hr _ _ _ ?_⟩
 obtain⟨ds,h2,l_⟩:=tX S1 V1 h1
 refine⟨F1,ds,_,S1.sub,l_,h2,fun zs us a hz hp is => ?_⟩
 have oi:fD F1 (.lst zs) (.lst us):=⟨us,rfl,is⟩
 exact k _ _ hz _ _ _ _ (E1.trans (Ext.own S1 hp)) (S1.own hp oi) (xi S1)
theorem Pb {x:Str} {p:Pos} {e:Expr} {es:List Expr} {id:String} {o:List D->(List D->Prop)->Prop} (hc:GJ X (.builtin id) o) (hg:Gl X x) (hm:X.mg x=none) (hv:bootBuiltins x=some (.builtin id)) (ha:JA X (e :: es) (cE fa)) (hn:x ≠ "__name__" := by decide) (gq:(x == ("__debug__" : Str))=false:=by decide)
  (he:starEach (e :: es) X.env=(false,eval e X.env) :: starEach es X.env:=by rfl) (f6:(backTo pos (starEach es X.env)).any (·.1)=false:=by rfl):JE X (.Call (.Name x p) (e :: es) [] pos) (tD (xg fa o)) :=
 (tU hc hg hm hv ha hn gq he f6).weak (Pa fun _ _ _ h=>h)
theorem Pc:GJ X (.builtin "sorted") xh:=by
 rintro pins s σ H xs us Q I r ⟨F,ds,K,sub,rd,q,md⟩
 unfold xh at q
 split at q
 ·rename_i es
  split at q
  ·rename_i ns e
   obtain⟨v,rfl,a,vs,rfl,h1,h2⟩:=dI rd
   rw[rG e] at h2
   rw[my h2] at h1
   refine FG pins s σ H _ us Q I r ⟨a,ns,rfl,bh.of h1,q.1,fun l dZ pm pw hl => ?_⟩
   rw[wQ pm pw]
   exact md _ _ _ q.2 hl mz
  ·exact q.elim
 ·exact q.elim
noncomputable def Bc (fa:WA):WE:=fun δ K=>fa δ fun xs δ1=>match xs with
 | [.p (.int j)]=>(0 <= j/\j <= 1000)/\K (.o δ1.mu.length) ⟨δ1.sl,δ1.mu ++ [some (.lst (b8 0 j.toNat))]⟩
 | _=>False
theorem Pd {a:Expr} {p1 p2 q1 q2:Pos} (hc:X.calm=true) (p_:Gl X "list") (hl:X.mg "list" = none) (qa:bootBuiltins "list" = some (.type "list")) (kG:Gl X "range") (hr:X.mg "range" = none) (jO:bootBuiltins "range" = some (.type "range")) (ha:JA X [a] (cE fa))
  (he:starEach [a] X.env=[(false,eval a X.env)]:=by rfl) (qb:starEach [.Call (.Name "range" p2) [a] [] q2] X.env=[(false,eval (.Call (.Name "range" p2) [a] [] q2) X.env)]:=by rfl):JE X (.Call (.Name "list" p1) [.Call (.Name "range" p2) [a] [] q2] [] q1) (tD (Bc fa)) :=
 (lr (FF hc) p_ hl qa (iy (lr Ar kG hr jO ha (he:=he)) a8) (he:=qb)).weak fun σ H Q h0_ => el7 h0_ fun F ad δ K S q k =>⟨F,ad,δ,_,S,q,fun xs δ1 h1 vs F1 aR H1 E1 S1 V1=>by
  split at h1
  ·rename_i j
   obtain⟨v,r,e,W1,W2⟩:=V1
   have W2:r=[]:=W2
   have W1:v = .int j:=W1
   subst W2 W1 e
   refine⟨j,rfl,fun rr uh=>⟨rr,j.toNat,rfl,by rw[bw,Int.toNat_of_nonneg h1.1.1],by omega,fun l hl => ?_⟩⟩
   have s1:aA H1 (upd H1 rr (.rng 0 j)):=de uh
   have S2:=S1.al s1
   have E2:=Ext.al S1 s1
   have oi:fD (Nw F1 H1 (upd H1 rr (.rng 0 j))) (.lst (b8 0 j.toNat)) (.lst ((aP j.toNat).map V.int)):=⟨_,rfl,by rw[rL];exact mz⟩
   exact k _ _ h1.2 _ _ _ _ ((E1.trans E2).trans (Ext.own S2 hl)) (S2.own hl oi) (xi S2)
  ·exact h1.elim⟩
noncomputable def Bd (f g:WE):WE:=fun δ K=>f δ fun x δ1=>g δ1 fun y δ2=>iB x δ2 fun d=>iB y δ2 fun e=>match d,e with
 | .lst a,.lst b=>a.length + b.length <= 1000/\K (.o δ2.mu.length) ⟨δ2.sl,δ2.mu ++ [some (.lst (a ++ b))]⟩
 | _,_=>False
theorem Pe {a b:Expr} {f g:WE} (ha:JE X a (tD f)) (hb:JE X b (tD g)):JE X (.BinOp a .Add b pos) (tD (Bd f g)) :=
 (tT EX ha hb).weak fun σ H Q h0_ => el7 h0_ fun F ad δ K S q k =>⟨F,ad,δ,_,S,q,fun x δ1 h1 v1 F1 aR H1 E1 S1 V1=>⟨F1,aR,δ1,_,S1,h1,fun y δ2 h2 v2 F2 bP H2 E2 S2 V2=>by
  obtain⟨d,h3,rd⟩:=j4 S2 (V1.ext E2) h2
  obtain⟨e,h4,re⟩:=j4 S2 V2 h3
  split at h4
  ·rename_i as bs
   obtain⟨a,us,rfl,g1,g2⟩:=rd
   obtain⟨b,ws,rfl,g3,g4⟩:=re
   have oi:fD F2 (.lst (as ++ bs)) (.lst (us ++ ws)):=⟨_,rfl,rH g2 g4⟩
   exact⟨a,b,us,ws,rfl,rfl,g1,g3,kA (by rw[g2.length,g4.length];exact h4.1),fun p hp=>k _ _ h4.2 _ _ _ _ ((E1.trans E2).trans (Ext.own S2 hp)) (S2.own hp oi) (xi S2)⟩
  ·exact h4.elim⟩⟩
theorem Be {st:Stmt}:JS X st (eT t5):=⟨fun pins s D σ H I q=>by obtain⟨F,ad,δ,K,S,q,k⟩:=q;exact q.elim⟩
end
end L2
namespace LJS
open PySem PySem.SetTable PyProof.Rows
section
variable {prog:Program} {w:World} {A:Around} {S:Addr} {ks:List Int}
theorem jx:∀ {l:List (Int × Value)},(∀ e∈l,∃ k tk,e=(hashInt k,Value.int k tk))->IntsAre (l.map (·.2)) (l.map keyOf)
 | [],_ => .nil
 | e :: r,h=>by
  obtain⟨k,tk,rfl⟩:=h e vX
  exact .cons k tk (jx fun e he=>h e (E6 _ he))
theorem Pf {E:Value->Shared->Prop} {s:Shared} {Q:Value->Shared->Prop} (hh:A.handled=none) (hS:eR s.heap S (h_ w) ks) (hn:ks.length < 64)
  (h:∀ (h':Heap) (tk:Nat) (r:Addr) (out:Array Value) (dZ:List Int) (e:Nat),(∀ b ob,s.heap.get? b=some ob->h'.get? b=some ob)->s.heap.objs.size <= r->h'.get? r=some (seqObj "list" out e)->IntsAre out.toList dZ->dZ.Perm ks->dZ.Pairwise (· <= ·)->Q (.ref r) { s with heap:=h',toks:=tk }) :
  wpAny (model prog w) A (call (.builtin "sorted") [.ref S]) Q E s:=by
 obtain⟨o,es,ep,t,ho,hex,hd,T⟩:=hS
 have hsz:=T.num
 have lS:S < s.heap.objs.size:=MK ho
 refine Calls.call_function_entry kind_sorted plain_sorted entry_sorted (args_sorted1 _) ?_
 unfold Builtin.«sorted»
 refine l8 (m:=checkCount "sorted" 1 1 _) (vW ?_)
 refine l8 (Km (by simp[hh]) ho hex hd T (by omega) fun h1 jr qY le => ?_)
 have allI:∀ e∈(hU w S ep es).toList,∃ k tk,e=(hashInt k,Value.int k tk):=fun e he=>T.vJ e ((yH w S ep es).mem_iff.mp he)
 have hI:IntsAre ((hU w S ep es).toList.map (·.2)) ((hU w S ep es).toList.map keyOf):=jx allI
 have hP:((hU w S ep es).toList.map keyOf).Perm ks:=((yH w S ep es).map keyOf).trans T.keys
 have hL:((hU w S ep es).toList.map (·.2)).length=ks.length:=by rw[pd,E7,vL,hsz]
 generalize (hU w S ep es).toList.map (·.2)=vs at hI hL ⊢
 generalize (hU w S ep es).toList.map keyOf=ns at hI hP
 refine l8 (q0o ?_)
 have m9:(h1.push (seqObj "list" vs.toArray 0)).get? h1.objs.size=some (seqObj "list" vs.toArray 0):=MM _ rfl
 refine l8 (W6 (Ya (s:={ s with heap:=h1.push (seqObj "list" vs.toArray 0),toks:=jr }) slot_list_sort ⟨_,m9,rfl⟩ entry_list_sort (list_sort_tree m9 hI (by omega) fun out dZ a1 a2 a3=>⟨_,rfl,?_⟩) (args_list_sort _)))
 obtain⟨e,he⟩:=sortedHeap_at (out:=out) m9
 refine vW ⟨_,rfl,h _ _ _ out dZ e (fun b ob eb => ?_) le he a1 (a2.trans hP) a3⟩
 have hb:b < h1.objs.size:=MK (qY b ob eb)
 show (sortedHeap (h1.push (seqObj "list" vs.toArray 0)) h1.objs.size vs out).get? b=some ob
 rw[sortedHeap_old (Ww hb) (by rw[size_push'];exact Xh hb)]
 exact sW _ (qY b ob eb)
end
end LJS
namespace L2
open PySem PySem.Spec PyProof.Rows
noncomputable def ur (led:Bool) (S:Addr) (ks:List Int):HO := .ext fun h=>LJS.eR h S led ks
theorem Pg {P:Program} {w:World} {H:Hp} {h:Heap} {S:Addr} {led:Bool} {ks:List Int} (e:LJS.eR h S led ks):aI P w H h S (ur led S ks) :=
 ⟨e,let ⟨o,_,_,_,ho,_⟩:=e; ⟨o,ho⟩,fun h1 h2 e1 k=>LJS.yw e1 fun o eo=>k o eo⟩
noncomputable def mD (ns:List Int):List Int:=LJS.jY ns ns.length
section
variable {X:Cx}
theorem Ph (hc:X.calm=true):fY X (.type "set") (fun xs H Q=>∃ (l:Addr) (ns:List Int),xs=[.ref l]/\bh X.K H l (ns.map V.int)/\ns.length <= 40/\∀ p,H p=none->Q (.ref p) (upd H p (ur (LJS.h_ X.w) p (mD ns)))):=by
 intro pins s σ H xs us Q I r h
 obtain⟨l,ns,rfl,hq,D0,q⟩:=h
 obtain⟨u,rfl,rx⟩:=vals1 r
 cases rx
 obtain⟨ah,r',pl,_⟩:=I.list hq
 have hl:=r'.length
 rw[pd] at hl
 refine LJS.J_ ns (I.ok.hd hc) pl.isList (fun i v hv => ?_) (by rw[zJ];omega) fun h' tk se kp => ?_
 ·rw[Y2] at hv
  have hi:=(pe.mp hv).1
  obtain⟨x,hx,rv⟩:=ub r' (j:=i) (by rw[zJ];exact hi)
  rw[show ah.toArray[i]'(by rw[zJ];exact hi)=v by simpa using (pe.mp hv).2] at rv
  rw[MJ] at hx
  obtain⟨n,hn,rfl⟩:=V7.mp hx
  obtain⟨t,rfl⟩:=rv
  rw[E5,hn]
  exact⟨t,rfl⟩
 ·have Bf:LJS.eR h' s.heap.objs.size (LJS.h_ X.w) (mD ns):=by
   have e:ah.toArray.size=ns.length:=by rw[zJ];omega
   rw[e] at se;exact se
  exact⟨.ref s.heap.objs.size,upd H s.heap.objs.size (ur (LJS.h_ X.w) s.heap.objs.size (mD ns)),I.laid (t':=tk) (fun b o e=>kp b o (MK e) e) (qU _) (Pg Bf),rfl,q _ (I.aM.fresh (qU _))⟩
theorem Pj (hc:X.calm=true):fY X (.builtin "sorted") (fun xs H Q=>∃ (p:Addr) (ks:List Int),xs=[.ref p]/\H p=some (ur (LJS.h_ X.w) p ks)/\ks.length < 64/\∀ (r:Addr) (dZ:List Int),dZ.Perm ks->dZ.Pairwise (· <= ·)->H r=none->Q (.ref r) (upd H r (.lst (dZ.map V.int)))):=by
 intro pins s σ H xs us Q I r h
 obtain⟨p,ks,rfl,hp,hn,q⟩:=h
 obtain⟨u,rfl,rx⟩:=vals1 r
 cases rx
 obtain⟨se,_⟩:=I.aM p _ hp
 refine LJS.Pf (I.ok.hd hc) se hn fun h' tk r out dZ e kp le he hI pm pw => ?_
 refine⟨.ref r,_,I.laid (t':=tk) (o := .lst (dZ.map V.int)) kp le ?_,rfl,q _ dZ pm pw (I.aM.fresh le)⟩
 refine⟨XY (lj (by rw[pd,pm.length_eq];omega)),out.toList,e,Au hI,?_⟩
 simpa [seqObj] using he
end
end L2
namespace LJS
open PySem PySem.SetTable PyProof.Rows
noncomputable def gy (m:Nat) (p:Probe):Probe :=
 if p.more > 0 then { p with j:=p.j + 1,more:=p.more - 1 } else
 { p with j:=(leap m p.i p.perturb).1,more:=runEnd m (leap m p.i p.perturb).1 - (leap m p.i p.perturb).1,i:=(leap m p.i p.perturb).1,perturb:=(leap m p.i p.perturb).2 }
theorem GK (t:SetTable) (p:Probe):t.advance p=gy t.mask p:=rfl
noncomputable def bQ (m:Nat):Nat->Probe->Probe
 | 0,p=>p
 | k + 1,p=>bQ m k (gy m p)
theorem xj (m:Nat):∀ (a b:Nat) (p:Probe),bQ m (a + b) p=bQ m b (bQ m a p)
 | 0,b,p=>by rw[Xd];rfl
 | a + 1,b,p=>by rw[show a + 1 + b=a + b + 1 by omega];exact xj m a b (gy m p)
noncomputable def stM (m i q:Nat):Probe:=⟨i,runEnd m i - i,i,q,none⟩
noncomputable def startM (m:Nat) (h:Int):Probe:=stM m (bits h % (m + 1)) (bits h)
theorem Bg (m:Nat):∀ (l:Nat) (p:Probe),l <= p.more->bQ m l p={ p with j:=p.j + l,more:=p.more - l }
 | 0,p,_=>rfl
 | l + 1,p,h=>by
  show bQ m l (gy m p)=_
  have e:gy m p={ p with j:=p.j + 1,more:=p.more - 1 }:=by unfold gy;rw[V8 (by omega)]
  rw[e,Bg m l _ (by show l <= p.more - 1;omega)]
  congr 1<;>(dsimp only;omega)
theorem GL (m i q:Nat):bQ m (runEnd m i - i + 1) (stM m i q)=stM m (leap m i q).1 (leap m i q).2:=by
 rw[xj m (runEnd m i - i) 1,Bg m (runEnd m i - i) (stM m i q) (qU _)]
 show gy m _=_
 unfold gy
 rw[V0 (by show ¬ (runEnd m i - i - (runEnd m i - i) > 0);omega)]
 rfl
theorem GP {m i:Nat} (h:i <= m):runEnd m i <= m/\i <= runEnd m i:=by unfold runEnd;split<;>omega
noncomputable def nW (m:Nat) (p:Probe):Prop:=p.j + p.more <= m
theorem Pk {m:Nat} {p:Probe} (h:nW m p):nW m (gy m p):=by
 unfold gy nW
 split
 ·rename_i c;have:p.j + p.more <= m:=h;dsimp only;omega
 ·have:=GP (DB m p.i p.perturb)
  dsimp only;omega
theorem GQ {m:Nat}:∀ (k:Nat) {p:Probe},nW m p->nW m (bQ m k p)
 | 0,_,h=>h
 | k + 1,_,h=>GQ k (Pk h)
theorem Pl (m:Nat) (h:Int):nW m (startM m h):=by
 have h0:bits h % (m + 1) <= m:=Y3 (Nat.mod_lt _ (ZZ _))
 have:=GP h0
 unfold startM stM nW
 dsimp only;omega
theorem GR (m:Nat) (h:Int) (k:Nat):(bQ m k (startM m h)).j <= m:=by
 have:=GQ k (Pl m h)
 unfold nW at this;omega
noncomputable def nY (m:Nat) (xk:Nat->Prop) (h:Int) (j:Nat):Prop:=∃ k,k < 10 * turns m/\(bQ m k (startM m h)).j=j/\∀ l,l < k->xk (bQ m l (startM m h)).j
theorem nY.mono {m:Nat} {xk uu:Nat->Prop} {h:Int} {j:Nat} (r:nY m xk h j) (k:∀ x,x <= m->xk x->uu x):nY m uu h j:=by
 obtain⟨n,h1,h2,h3⟩:=r
 exact⟨n,h1,h2,fun l hl=>k _ (GR m h l) (h3 l hl)⟩
theorem GS {m:Nat} {owner:Array (Option Nat)}:∀ (F i q j:Nat),layClean.free m owner F i q=some j->∃ k,k < 10 * F/\(bQ m k (stM m i q)).j=j/\∀ l,l < k->(owner.getD (bQ m l (stM m i q)).j (some 0)).isSome=true
 | 0,i,q,j,h=>by unfold layClean.free at h;cases h
 | F + 1,i,q,j,h=>by
  rw[yg] at h
  have r9:=DF m i
  have ri:i <= runEnd m i:=by unfold runEnd;split<;>omega
  have kH:∀ l,l <= runEnd m i - i->(bQ m l (stM m i q)).j=i + l:=fun l hl=>by rw[Bg m l _ hl];rfl
  split at h
  ·rename_i k0 hk
   cases h
   have h1:=Zh hk
   have h2:=WL.mp (Za hk)
   refine⟨k0,by omega,kH k0 (by omega),fun l hl => ?_⟩
   rw[kH l (by omega)]
   have h3:∀ l,l < k0->¬ (owner.getD (i + l) (some 0)).isNone=true:=by
    intro l hl hn
    obtain⟨as,bs,e,hb⟩:=List.find?_eq_some_iff_append.mp hk |>.2
    have hlen:as.length=k0:=by
     have:=congrArg (fun x=>x[as.length]?) e
     simp at this
     have h5:as.length < runEnd m i + 1 - i:=by
      have:=congrArg List.length e
      simp at this;omega
     rw[Xr h5] at this
     exact WY this
    have:l∈as:=by
     have h6:=congrArg (fun x=>x[l]?) e
     simp only[V9 (show l < as.length by omega)] at h6
     rw[Xr (by omega)] at h6
     exact Xb h6.symm
    have:=hb l this
    rw[hn] at this
    exact absurd this (by decide)
   have:=h3 l hl
   cases q:owner.getD (i + l) (some 0) with
   | none=>rw[q] at this;exact absurd rfl this
   | some _=>rfl
  ·rename_i hk
   have h1:=Zj.mp hk
   obtain⟨k,Wf,Pn,Po⟩:=GS F _ _ j h
   refine⟨runEnd m i - i + 1 + k,by omega,by rw[xj,GL];exact Pn,fun l hl => ?_⟩
   by_cases c:l <= runEnd m i - i
   ·rw[kH l c]
    have:=h1 l (WL.mpr (by omega))
    cases q:owner.getD (i + l) (some 0) with
    | none=>rw[q] at this;exact absurd rfl this
    | some _=>rfl
   ·have:=Po (l - (runEnd m i - i + 1)) (by omega)
    rw[show l=runEnd m i - i + 1 + (l - (runEnd m i - i + 1)) by omega,xj,GL]
    exact this
section
variable {t:SetTable} {f:Nat->Int} {h:Int}
theorem GU (u:Up t.place) {i:Nat} (hi:i < t.place.size):t.slot t.place[i] = .live i:=by
 obtain⟨h0,h1,h2⟩:=qJ u t.place[i]
 have a:¬ i < below t.place t.place[i]:=fun z=>by have:=h1 i hi z;omega
 have b:¬ below t.place t.place[i] < i:=fun z=>by
  have:=h2 (below t.place t.place[i]) (by omega) (qU _)
  have:=u.lt z hi
  omega
 have eb:below t.place t.place[i]=i:=by omega
 unfold slot
 rw[eb]
 have:(t.place[i]? == some t.place[i])=true:=by rw[MN hi];simp
 simp only[this,YL]
theorem GV (hd:t.dummies = #[]):∀ (F:Nat) (p:Probe) (j:Nat) (d:Option Nat),probe.go t f h F p=some (.empty j d)->∃ k,k < F/\(bQ t.mask k p).j=j/\∀ l,l < k->(bQ t.mask l p).j∈t.place.toList
 | 0,p,j,d,e=>by unfold probe.go at e;cases e
 | F + 1,p,j,d,e=>by
  rw[ou] at e
  rcases sg hd p.j with q | ⟨i,q,hi,hm⟩
  ·rw[q] at e
   cases e
   exact⟨0,ZZ _,rfl,fun l hl=>absurd hl (Nat.not_lt_zero _)⟩
  ·rw[q] at e
   dsimp only at e
   split at e
   ·cases e
   ·obtain⟨k,h1,h2,h3⟩:=GV hd F _ j d e
    rw[GK] at h2 h3
    refine⟨k + 1,by omega,h2,fun l hl => ?_⟩
    cases l with
    | zero=>exact hm
    | succ l=>exact h3 l (by omega)
theorem GW (hd:t.dummies = #[]) (u:Up t.place):∀ (k F:Nat) (p:Probe) (i0:Nat),k < F->t.slot (bQ t.mask k p).j = .live i0->f i0=h->(∀ l,l < k->(bQ t.mask l p).j∈t.place.toList)->∃ j i nx,probe.go t f h F p=some (.candidate j i nx)/\f i=h/\i < t.place.size
 | k,0,p,i0,hk,_,_,_=>absurd hk (Nat.not_lt_zero _)
 | 0,F + 1,p,i0,_,hs,hf,_=>by
  rw[ou,show t.slot p.j = .live i0 from hs]
  dsimp only
  rw[V8 (by rw[hf];simp)]
  refine⟨_,_,_,rfl,hf,?_⟩
  rcases sg hd p.j with q | ⟨i,q,hi,_⟩
  ·rw[show t.slot p.j = .live i0 from hs] at q;cases q
  ·rw[show t.slot p.j = .live i0 from hs] at q;cases q;exact hi
 | k + 1,F + 1,p,i0,hk,hs,hf,ho=>by
  have hm:=ho 0 (ZZ _)
  obtain⟨i,hi,ei⟩:=Xa.mp hm
  have cg:i < t.place.size:=by rw[<-E7];exact hi
  have yo:t.place[i]=p.j:=by simpa [bQ] using ei
  have sl:=GU u cg
  rw[yo] at sl
  rw[ou,sl]
  dsimp only
  by_cases c:f i=h
  ·rw[V8 (by rw[c];simp)]
   exact⟨_,_,_,rfl,c,cg⟩
  ·rw[V0 (by simpa using c),GK]
   exact GW hd u k F _ i0 (by omega) hs hf fun l hl=>ho (l + 1) (by omega)
end
noncomputable def qg (owner:Array (Option Nat)) (j:Nat):Prop:=∃ k,owner[j]? = some (some k)
structure rQ (m:Nat) (hs:List Int) (owner:Array (Option Nat)) (k:Nat):Prop where
 ow:Ow m owner k
 rR:∀ (j i:Nat),owner[j]? = some (some i)->∃ h,hs[i]? = some h/\nY m (qg owner) h j
theorem GX {owner:Array (Option Nat)} {j k x:Nat} (h:qg owner x):qg (owner.setIfInBounds j (some k)) x:=by
 obtain⟨i,e⟩:=h
 have hx:=(XQ.mp e).1
 by_cases c:j=x
 ·subst c
  exact⟨k,by rw[Y0];simp[hx]⟩
 ·exact⟨i,by rw[Y0];simp[c];exact e⟩
theorem Pp {m:Nat} {hs:List Int} {owner:Array (Option Nat)} {k:Nat} (hm:Mk m) (O:rQ m hs owner k) (hk:k <= m) {h:Int} (hh:hs[k]? = some h) :
  ∃ j,layClean.free m owner (turns m) (bits h % (m + 1)) (bits h)=some j/\rQ m hs (owner.setIfInBounds j (some k)) (k + 1):=by
 obtain⟨j,ej,O'⟩:=JJ hm O.ow hk h
 refine⟨j,ej,O',fun x i e => ?_⟩
 rw[Y0] at e
 by_cases c:j=x
 ·subst c
  have Pq:j < owner.size:=by
   by_cases z:j < owner.size
   ·exact z
   ·simp[z] at e
  simp[Pq] at e
  subst e
  refine⟨h,hh,?_⟩
  obtain⟨n,n1,n2,n3⟩:=GS _ _ _ _ ej
  refine⟨n,n1,n2,fun l hl=>GX ?_⟩
  have hW:=n3 l hl
  have le:=GR m h l
  have cj:(bQ m l (startM m h)).j < owner.size:=by rw[O.ow.size];omega
  have uv:(owner.getD (bQ m l (startM m h)).j (some 0)).isSome=true:=hW
  rw[show owner.getD (bQ m l (startM m h)).j (some 0)=owner[(bQ m l (startM m h)).j] by simp[Array.getD,cj]] at uv
  obtain⟨v,hv⟩:=Zf.mp uv
  exact⟨v,by rw[MN cj,hv]⟩
 ·simp[c] at e
  obtain⟨h',e1,e2⟩:=O.rR x i e
  exact⟨h',e1,e2.mono fun y _ hy=>GX hy⟩
theorem GY {m:Nat} (hm:Mk m) {all:List Int}:∀ (hs:List Int) (owner:Array (Option Nat)) (k:Nat),rQ m all owner k->all.drop k=hs->k + hs.length <= m + 1 →
  ∃ aS,(hs.foldl (init:=some (owner,k)) fun acc h=>do
   let (owner,k) <- acc
   let j <- layClean.free m owner (turns m) (bits h % (m + 1)) (bits h)
   pure (owner.setIfInBounds j (some k),k + 1))=some (aS,k + hs.length)/\rQ m all aS (k + hs.length)
 | [],owner,k,O,_,_=>⟨owner,rfl,O⟩
 | h :: hs,owner,k,O,hd,hl=>by
  rw[My] at hl ⊢
  have hk:k < all.length:=by
   have:=congrArg List.length hd
   rw[Yo,My] at this;omega
  rw[YB hk] at hd
  have hh:all[k]? = some h:=by rw[pb hk];exact congrArg some (List.cons.inj hd).1
  obtain⟨j,ej,O'⟩:=Pp hm O (by omega) hh
  obtain⟨o2,e2,O2⟩:=GY hm hs _ (k + 1) O' (List.cons.inj hd).2 (by omega)
  refine⟨o2,?_,by rw[show k + (hs.length + 1)=k + 1 + hs.length by omega];exact O2⟩
  rw[ZR,show k + (hs.length + 1)=k + 1 + hs.length by omega,<-e2]
  congr 1
  show (do let j <- layClean.free m owner (turns m) (bits h % (m + 1)) (bits h);pure (owner.setIfInBounds j (some k),k + 1))=_
  rw[ej];rfl
theorem Pr (m:Nat) (hs:List Int):rQ m hs (Array.replicate (m + 1) none) 0:=by
 refine⟨DK m,fun j i e => ?_⟩
 rw[Array.getElem?_replicate] at e
 split at e<;>cases e
theorem Pt {m:Nat} (hm:Mk m) (hs:Array Int) (hz:hs.size <= m + 1):∃ owner,layClean m hs=some owner/\rQ m hs.toList owner hs.size:=by
 obtain⟨o,e,O⟩:=GY hm hs.toList _ 0 (Pr m hs.toList) rfl (by rw[E7];omega)
 rw[Xd,E7] at O
 refine⟨o,?_,O⟩
 unfold layClean
 rw[<-Array.foldl_toList,e];rfl
theorem Pu {m:Nat} (hm:Mk m) (t:SetTable) (hs:Array Int) (wanted:Nat) (hw:sizeAbove wanted - 1=m) (hz:hs.size <= m + 1) :
  ∃ t' order,t.relaid hs wanted=some (t',order)/\t'.mask=m/\t'.dummies = #[]/\t'.place.size=hs.size/\Up t'.place/\order.size=hs.size/\order.toList.Perm (List.range hs.size) ∧
   ∀ (i j k:Nat),t'.place[i]? = some j->order[i]? = some k->∃ h,hs[k]? = some h/\nY m (· ∈ t'.place.toList) h j:=by
 obtain⟨owner,e,O⟩:=Pt hm hs hz
 obtain⟨aS,e',_,OP⟩:=DT hm hs hz
 have:aS=owner:=WY (e'.symm.trans e)
 subst this
 refine⟨{ mask:=m,place:=((h9 m aS).map (·.1)).toArray,dummies := #[],finger:=t.finger,led:=t.led,moves:=t.movedTo m,plain:=t.plain },((h9 m aS).map (·.2)).toArray,?_,rfl,rfl,?_,DP m aS,?_,?_,fun i j k h1 h2 => ?_⟩
 ·unfold relaid laid
  rw[hw,e];rfl
 ·rw[zJ,pd,yj O.ow]
 ·rw[zJ,pd,yj O.ow]
 ·show ((h9 m aS).map (·.2)).Perm _
  rw[DU O.ow.size]
  exact OP
 ·have h1:((h9 m aS).map (·.1))[i]? = some j:=by simpa using h1
  have h2:((h9 m aS).map (·.2))[i]? = some k:=by simpa using h2
  rw[MJ] at h1 h2
  obtain⟨z,GZ,rfl⟩:=V7.mp h1
  obtain⟨z',G0,rfl⟩:=V7.mp h2
  rw[GZ] at G0;cases G0
  have zm:=Xb GZ
  have own:∀ z∈h9 m aS,aS[z.1]? = some (some z.2):=fun z hz=>by
   unfold h9 at hz
   obtain⟨j',Pw,Px⟩:=Yx.mp hz
   obtain⟨k',xm,rfl⟩:=V7.mp Px
   have:j' < aS.size:=by rw[O.ow.size];exact WL.mp Pw
   rw[show aS.getD j' none=aS[j'] by simp[Array.getD,this]] at xm
   rw[MN this,xm]
  obtain⟨h,e1,e2⟩:=O.rR _ _ (own z zm)
  refine⟨h,by rw[<-WJ];exact e1,e2.mono fun x hx Py => ?_⟩
  obtain⟨kx,G1⟩:=Py
  show x∈(h9 m aS).map (·.1)
  refine V6.mpr ⟨(x,kx),?_,rfl⟩
  unfold h9
  refine Yx.mpr ⟨x,WL.mpr (by omega),?_⟩
  have Pz:=(XQ.mp G1).1
  rw[show aS.getD x none=aS[x] by simp[Array.getD,Pz],(XQ.mp G1).2];rfl
structure mE (hk:Nat->Int) (ad:Nat->Addr) (t:SetTable) (es:Array (Int × Value)) (js:List Nat):Prop where
 P:gb t es (js.map hk)
 up:Up t.place
 lM:(js.map hk).Nodup
 el:∀ e∈es.toList,∃ j∈js,e=(hk j,Value.ref (ad j))
 all:∀ j∈js,∃ e∈es.toList,e.1=hk j
 rR:∀ (i:Nat) (e:Int × Value) (j:Nat),es[i]? = some e->t.place[i]? = some j->nY t.mask (· ∈ t.place.toList) e.1 j
noncomputable def g8 (hk:Nat->Int) (ad:Nat->Addr) (h:Heap) (S:Addr) (js:List Nat):Prop:=∃ o es ep t,h.get? S=some o/\o.ExactSet/\o.data = .set es ep t/\mE hk ad t es js
theorem G2 {hk:Nat->Int} {ad:Nat->Addr} {h h':Heap} {S:Addr} {js:List Nat} (x:g8 hk ad h S js) (k:∀ o,h.get? S=some o->h'.get? S=some o):g8 hk ad h' S js:=by
 obtain⟨o,es,ep,t,ho,r⟩:=x
 exact⟨o,es,ep,t,k o ho,r⟩
theorem G3 {α : Type} {xs:Array α} {p:Nat} {x : α} (hp:p <= xs.size) (i:Nat):(insertAt xs p x)[i]? = if i < p then xs[i]? else if i=p then some x else xs[i - 1]? := by
 have e:(insertAt xs p x).toList=xs.toList.take p ++ x :: xs.toList.drop p:=by
  unfold insertAt
  simp only[Array.toList_append,YF,Array.toList_extract,q0d,Z2,Nat.sub_zero,XJ,List.singleton_append]
  rw[Xm (l:=xs.toList.drop p) (by rw[Yo,E7];exact qU _)]
 rw[<-WJ,e]
 have hl:(xs.toList.take p).length=p:=by rw[W5,E7];omega
 by_cases c:i < p
 ·rw[V8 c,V9 (by omega),Xg c,WJ]
 ·rw[V0 c,Wx (by omega),hl]
  by_cases c2:i=p
  ·rw[V8 c2,c2,Xo];rfl
  ·rw[V0 c2]
   obtain⟨d,rfl⟩:∃ d,i=p + 1 + d:=⟨i - p - 1,by omega⟩
   rw[show p + 1 + d - p=d + 1 by omega,Yv,List.getElem?_drop,WJ]
   congr 1
   omega
theorem PB {α : Type} {es:Array α} {order:Array Nat} (h:∀ k∈order.toList,k < es.size) (i:Nat):(order.filterMap (es[·]?))[i]? = (order[i]?).bind fun k=>es[k]? := by
 have:∀ l:List Nat,(∀ k∈l,k < es.size)->∀ i:Nat,(l.filterMap fun k=>es[k]?)[i]? = (l[i]?).bind fun k=>es[k]? := by
  intro l
  induction l with
  | nil=>intro _ i;simp
  | cons k r ih =>
   intro hk i
   have rS:=hk k vX
   rw[Zb]
   rw[MN rS]
   dsimp only
   cases i with
   | zero=>simp[MN rS]
   | succ i=>simpa using ih (fun k' i9=>hk k' (E6 _ i9)) i
 have e:=this order.toList h i
 rw[<-WJ,YS,e,WJ]
section
variable {hk:Nat->Int} {ad:Nat->Addr} {t:SetTable} {es:Array (Int × Value)} {js:List Nat}
theorem mE.found (T:mE hk ad t es js) {h:Int} (hm:h∈js.map hk):∃ j i nx,t.probe (fun i=>(es[i]?.map (·.1)).getD 0) h (t.probeStart h)=some (.candidate j i nx)/\∃ e,es[i]? = some e/\e.1=h:=by
 obtain⟨j,hj,rfl⟩:=V6.mp hm
 obtain⟨e,he,e1⟩:=T.all j hj
 obtain⟨i,hi,ei⟩:=Xa.mp he
 have cg:i < es.size:=by rw[<-E7];exact hi
 have ee:es[i]? = some e:=by rw[MN cg];exact congrArg some (by simpa using ei)
 have hp:i < t.place.size:=by rw[T.P.hJ];exact cg
 have r:=T.rR i e _ ee (MN hp)
 rw[e1] at r
 obtain⟨k,k1,k2,k3⟩:=r
 have sl:=GU T.up hp
 obtain⟨j',i',nx,h1,h2,h3⟩:=GW (t:=t) (f:=fun i=>(es[i]?.map (·.1)).getD 0) (h:=hk j) T.P.k6 T.up k (10 * turns t.mask) (startM t.mask (hk j)) i k1 (by rw[k2];exact sl) (by rw[ee];exact e1) k3
 refine⟨j',i',nx,h1,?_⟩
 have cj:i' < es.size:=by rw[<-T.P.hJ];exact h3
 exact⟨es[i'],MN cj,by have:=h2;rw[MN cj] at this;exact this⟩
end
section
variable {prog:Program} {w:World} {A:Around} {E:Value->Shared->Prop} {s:Shared} {ad:Nat->Addr} {ks:Nat->List Int} {js:List Nat} {S:Addr}
noncomputable abbrev aG (prog:Program) (w:World) (ks:Nat->List Int) (j:Nat):Int:=hT prog w (ks j)
theorem G4 {k:List Int} {a:Addr} {Q:Bool->Shared->Prop} (hk:IsTupleKey (intKind prog w) s.heap k a) (h:Q false s):wpAny (model prog w) A (ofAClassStatement 8 (.ref a)) Q E s:=by
 have hT:=hk.typeIs
 obtain⟨o,ah,n,ho,_,hd,hi⟩:=hk
 show wpAny _ _ (ofAClassStatement (7 + 1) (.ref a)) _ _ _
 unfold ofAClassStatement
 refine l8 (Zx hT ?_)
 dsimp only
 refine l8 ?_
 refine vW ?_
 simp only[YH,WC,Xx]
 refine l8 (Y5 ho hd ?_)
 dsimp only
 refine l8 ?_
 show wpAny _ _ (forIn ah _ _) _ _ s
 rw[<-Zl]
 refine ZK _ (fun rest r s'=>s'=s/\r=(none,PUnit.unit)/\∀ v∈rest,∃ i t,v=Value.int i t) _ ?_ ?_ _ _ ⟨rfl,rfl,DZ hi⟩
 ·rintro v rest r s' ⟨rfl,rfl,gc⟩
  obtain⟨i,t,rfl⟩:=gc v vX
  have e:ofAClassStatement 7 (.int i t)=pure false:=by unfold ofAClassStatement;rfl
  rw[e]
  refine l8 (vW ?_)
  simp only[WC,Xx]
  exact vW ⟨rfl,rfl,fun u hu=>gc u (E6 _ hu)⟩
 ·rintro r s' ⟨rfl,rfl,_⟩
  exact vW h
theorem PD {k:List Int} {a:Addr} {Q:Bool->Shared->Prop} {stored:List Value} (hx:IsTupleKey (intKind prog w) s.heap k a) (hy:∀ y∈stored,∃ k' b,y=Value.ref b/\IsTupleKey (intKind prog w) s.heap k' b) (h:Q false s):wpAny (model prog w) A (searchCouldBeSeen (.ref a) stored) Q E s:=by
 unfold searchCouldBeSeen
 refine l8 ?_
 refine ZK _ (fun rest r s'=>s'=s/\r=(none,PUnit.unit)/\∀ y∈rest,∃ k' b,y=Value.ref b/\IsTupleKey (intKind prog w) s.heap k' b) _ ?_ ?_ _ _ ⟨rfl,rfl,hy⟩
 ·rintro v rest r s' ⟨rfl,rfl,gc⟩
  obtain⟨k',b,rfl,hb⟩:=gc v vX
  have nZ:∀ y∈rest,∃ k' b,y=Value.ref b/\IsTupleKey (intKind prog w) s'.heap k' b:=fun u hu=>gc u (E6 _ hu)
  dsimp only
  refine YC (fun _=>vW ⟨rfl,rfl,nZ⟩) (fun _ => ?_)
  refine l8 (wpAny_eqIsQuiet_tuple hx ?_)
  simp only[YH,WC,Xx]
  refine l8 (wpAny_eqIsQuiet_tuple hb ?_)
  simp only[YH,WC,Xx]
  refine l8 (G4 hx ?_)
  simp only[WC,Xx]
  refine l8 (G4 hb ?_)
  simp only[WC,Xx]
  exact vW ⟨rfl,rfl,nZ⟩
 ·rintro r s' ⟨rfl,rfl,_⟩
  exact vW h
theorem PH {i:Nat} {o:Obj} {es:Array (Int × Value)} {ep:Nat} {t:SetTable} {Q:SetFound->Shared->Prop} (ho:s.heap.get? S=some o) (hd:o.data = .set es ep t) (T:mE (aG prog w ks) ad t es js) (hu:A.units < cLine)
  (keys:∀ j∈i :: js,IsTupleKey (intKind prog w) s.heap (ks j) (ad j)) (inj:∀ j∈js,aG prog w ks j=aG prog w ks i->ks j=ks i) (hm:aG prog w ks i∈js.map (aG prog w ks))
  (k:Q (.there none) s):wpAny (model prog w) A (setSearch S (.ref (ad i)) (aG prog w ks i) true) Q E s:=by
 unfold setSearch
 show wpAny _ _ (setSearchFrom S (.ref (ad i)) (aG prog w ks i) true (99999 + 1) none) _ _ _
 unfold setSearchFrom
 refine l8 (XN ho hd T.P.fits ?_)
 dsimp only
 rw[T.P.si]
 simp only[WC,↓reduceIte]
 obtain⟨j',i',nx,ej,e,ee,eh⟩:=T.found hm
 simp only[ZM]
 generalize hP:t.probe _ (aG prog w ks i) (t.probeStart (aG prog w ks i))=P
 have eP:P=some (.candidate j' i' nx):=hP.symm.trans ej
 rw[eP]
 dsimp only
 have em:e∈es.toList:=Xb (by rw[WJ];exact ee)
 obtain⟨j,hj,rfl⟩:=T.el e em
 have ek:=inj j hj eh
 have kx:=keys i vX
 have ky:=keys j (E6 _ hj)
 have tail:wpAny (model prog w) A (do
   let some (_,y):=es[i']? | unsupported "internal:set-entry"
   let equal <- holding [y] (eqBool y (.ref (ad i)))
   let (sA,_,t') <- setState S
   if true && equal then return SetFound.there none
   let some same:=t'.sameMemory t.moves t.mask | unsupported "set.changed-during-lookup:is-the-new-block-at-the-old-address"
   let uw <- match (if same then t'.slot j' else .empty) with
    | .live i'=>match sA[i']? with
     | some (_,y')=>do pure (if <- isSame y' y then some i' else none)
     | none=>pure none
    | _=>pure none
   match uw with
   | none=>rule "set.search.anew";setSearchFrom S (.ref (ad i)) (aG prog w ks i) true 99999 none
   | some i'=>if equal then return SetFound.there (some i') else setSearchFrom S (.ref (ad i)) (aG prog w ks i) true 99999 (some nx)) Q E s:=by
  rw[ee]
  dsimp only
  refine l8 (W6 (wpAny_eqBool_tuple hu ky kx ?_))
  refine l8 (XN ho hd T.P.fits ?_)
  dsimp only
  rw[Wz ek]
  exact vW k
 refine YC (fun _ => ?_) (fun _=>tail)
 refine l8 (PD kx (fun y hy => ?_) ?_)
 ·obtain⟨z,hz,rfl⟩:=V6.mp hy
  have PJ:z∈es.toList:=by
   have:=ZO.mp hz
   exact ZO.mpr (Array.mem_filter.mp this).1
  obtain⟨q,hq,rfl⟩:=T.el z PJ
  exact⟨_,_,rfl,keys q (E6 _ hq)⟩
 ·exact tail
theorem PK {i:Nat} {Q:Bool->Shared->Prop} (hS:g8 (aG prog w ks) ad s.heap S js) (hl:js.length < 60) (hu:A.units < cLine)
  (keys:∀ j∈i :: js,IsTupleKey (intKind prog w) s.heap (ks j) (ad j)) (inj:∀ j∈js,aG prog w ks j=aG prog w ks i->ks j=ks i)
  (k:∀ (b:Bool) h',Heap.SameBut S s.heap h'->g8 (aG prog w ks) ad h' S (if aG prog w ks i∈js.map (aG prog w ks) then js else js ++ [i])->Q b { s with heap:=h' }) :
  wpAny (model prog w) A (setAddHashed S (.ref (ad i)) (aG prog w ks i)) Q E s:=by
 obtain⟨o,es,ep,t,ho,hex,hd,T⟩:=hS
 unfold setAddHashed
 refine W6 ?_
 show wpAny _ _ (setAddHashedIn S (.ref (ad i)) (aG prog w ks i) (99999 + 1)) _ _ _
 unfold setAddHashedIn
 refine l8 (XN ho hd T.P.fits ?_)
 have hb:byScan (.ref (ad i)) es=false:=by unfold byScan;rfl
 dsimp only
 rw[hb]
 simp only[WC,↓reduceIte]
 by_cases hm:aG prog w ks i∈js.map (aG prog w ks)
 ·refine l8 (PH ho hd T hu keys inj hm ?_)
  dsimp only
  refine vW ?_
  have e:s={ s with heap:=s.heap }:=by cases s;rfl
  rw[e]
  exact k false s.heap (Heap.SameBut.refl S s.heap) (by rw[V8 hm];exact⟨o,es,ep,t,ho,hex,hd,T⟩)
 rw[V0 hm] at k
 have kx:=keys i vX
 have hz:t.place.size <= t.mask:=by have:=T.P.lt;rw[T.P.hJ];omega
 obtain⟨j0,Bh⟩:=DI (t:=t) (f:=fun i=>(es[i]?.map (·.1)).getD 0) (h:=aG prog w ks i) T.P.k6 T.P.k7 hz (fun i' cg z=>by
  rw[T.P.hJ] at cg
  rw[MN cg] at z
  exact hm (by rw[<-show es[i'].1=aG prog w ks i from z];exact T.P.ins _ (q0l cg)))
 have nj:j0∉t.place.toList:=DR T.up (vI Bh)
 have rj:nY t.mask (· ∈ t.place.toList) (aG prog w ks i) j0:=GV T.P.k6 _ _ _ _ Bh
 have sf:wpAny (model prog w) A (setSearch S (.ref (ad i)) (aG prog w ks i) true) (fun r s'=>r = .free j0 false/\s'=s) E s:=by
  unfold setSearch
  show wpAny _ _ (setSearchFrom S (.ref (ad i)) (aG prog w ks i) true (99999 + 1) none) _ _ _
  unfold setSearchFrom
  refine l8 (XN ho hd T.P.fits ?_)
  dsimp only
  rw[T.P.si]
  simp only[WC,↓reduceIte]
  simp only[ZM]
  generalize hP:t.probe _ (aG prog w ks i) (t.probeStart (aG prog w ks i))=P
  have eP:P=some (.empty j0 none):=hP.symm.trans Bh
  rw[eP]
  exact vW ⟨rfl,rfl⟩
 refine l8 (Yq sf ?_ fun _ _ e=>e)
 rintro r s' ⟨rfl,rfl⟩
 dsimp only
 refine l8 (XN ho hd T.P.fits ?_)
 dsimp only
 obtain⟨p1,p2,p3,p4,p5,p6,p7⟩:=yk t T.P.k6 j0
 have up1:=DO T.up nj
 have pz:(t.put j0).2 <= t.place.size:=(qJ T.up j0).1
 have fin:∀ b:Bool,wpAny (model prog w) A (do
   storeSet S (SetTable.insertAt es (t.put j0).2 (aG prog w ks i,.ref (ad i))) (if b=true then (t.put j0).1 else { (t.put j0).1 with plain:=false })
   if (!false && (if b=true then (t.put j0).1 else { (t.put j0).1 with plain:=false }:SetTable).tooFull)=true then do
       setRelay S (SetTable.grown (es.size + 1))
       pure true
    else pure true) Q E s':=by
  intro b
  generalize jJ:(if b=true then (t.put j0).1 else { (t.put j0).1 with plain:=false }:SetTable)=t2
  have q1:t2.dummies = #[]:=by rw[<-jJ];cases b<;>exact p1
  have q2:t2.mask=t.mask:=by rw[<-jJ];cases b<;>exact p2
  have q3:t2.place.size=es.size + 1:=by rw[<-jJ,<-T.P.hJ];cases b<;>exact p3
  have q4:t2.place=insertAt t.place (t.put j0).2 j0:=by rw[<-jJ];cases b<;>rfl
  have q5:Up t2.place:=by rw[<-jJ];cases b<;>exact up1
  have gR:=ym es (t.put j0).2 (aG prog w ks i,Value.ref (ad i))
  have mU:(insertAt es (t.put j0).2 (aG prog w ks i,Value.ref (ad i))).toList.Perm (es.toList ++ [(aG prog w ks i,Value.ref (ad i))]):=by
   have:=Zt es (t.put j0).2 (aG prog w ks i,Value.ref (ad i))
   rw[YF] at this
   exact this
  have PL:t2.place.toList.Perm (t.place.toList ++ [j0]):=by
   rw[q4]
   have:=Zt t.place (t.put j0).2 j0
   rw[YF] at this
   exact this
  have ux:∀ (x:Nat) (e:Int × Value) (j:Nat),(insertAt es (t.put j0).2 (aG prog w ks i,Value.ref (ad i)))[x]? = some e->t2.place[x]? = some j->nY t2.mask (· ∈ t2.place.toList) e.1 j:=by
   intro x e j h1 h2
   rw[q4,G3 pz] at h2
   rw[G3 (by rw[<-T.P.hJ];exact pz)] at h1
   rw[q2]
   have more:∀ y,y <= t.mask->y∈t.place.toList->y∈t2.place.toList:=fun y _ hy=>PL.mem_iff.mpr (Xf _ hy)
   by_cases c:x < (t.put j0).2
   ·rw[V8 c] at h1 h2
    exact (T.rR x e j h1 h2).mono more
   ·rw[V0 c] at h1 h2
    by_cases c2:x=(t.put j0).2
    ·rw[V8 c2] at h1 h2
     cases h1;cases h2
     exact rj.mono more
    ·rw[V0 c2] at h1 h2
     exact (T.rR _ e j h1 h2).mono more
  generalize insertAt es (t.put j0).2 (aG prog w ks i,Value.ref (ad i))=bK at gR mU ux
  have Bi:∀ e∈bK.toList,∃ j∈js ++ [i],e=(aG prog w ks j,Value.ref (ad j)):=fun e he=>by
   rcases WX.mp (mU.mem_iff.mp he) with q | q
   ·obtain⟨j,hj,e1⟩:=T.el e q
    exact⟨j,Xf _ hj,e1⟩
   ·exact⟨i,VZ _ vX,WZ.mp q⟩
  have all2:∀ j∈js ++ [i],∃ e∈bK.toList,e.1=aG prog w ks j:=fun j hj=>by
   rcases WX.mp hj with q | q
   ·obtain⟨e,he,e1⟩:=T.all j q
    exact⟨e,mU.mem_iff.mpr (Xf _ he),e1⟩
   ·rw[WZ.mp q]
    exact⟨_,mU.mem_iff.mpr (VZ _ vX),rfl⟩
  have ka:((js ++ [i]).map (aG prog w ks)).Nodup:=by
   rw[WR]
   exact Xi.mpr ⟨T.lM,by simp,fun a ha b hb z=>hm (by rw[<-WZ.mp hb,<-z];exact ha)⟩
  have uy:∀ e∈bK.toList,e.1∈(js ++ [i]).map (aG prog w ks):=fun e he=>by
   obtain⟨j,hj,rfl⟩:=Bi e he
   exact V6.mpr ⟨j,hj,rfl⟩
  have uz:bK.size=((js ++ [i]).map (aG prog w ks)).length:=by rw[gR,T.P.num,pd,pd,EZ];rfl
  have JY:es.size < 60:=by rw[T.P.num,pd];exact hl
  refine l8 (Zu ho hd ?_ (by rw[gR,X1];omega))
  have gT:(s'.heap.update S (Obj.putSet bK t2)).get? S=some { o with data := .set bK (ep + 1) t2 }:=by
   have:=Xk (Obj.putSet bK t2) ho (by rw[ZJ bK t2 hd];rfl)
   rw[ZJ bK t2 hd] at this;exact this
  have fl:t2.fill=es.size + 1:=by unfold SetTable.fill;rw[q1,q3];rfl
  have lt:=T.P.lt
  have mW:t2.fits bK.size=true:=by
   unfold SetTable.fits
   rw[fl,q3,gR,q2]
   simp
   rcases T.P.k7 with e | e | e<;>rw[e] at lt ⊢ <;> omega
  by_cases tf:t2.tooFull=true
  ·rw[V8 (by rw[tf];rfl)]
   have oy:t.mask * 3 <= (es.size + 1) * 5:=by
    unfold tooFull at tf
    rw[fl,q2] at tf
    have:=X0 tf
    omega
   obtain⟨m,Bj,hw,hsz⟩:∃ m,Mk m/\sizeAbove (grown (es.size + 1)) - 1=m/\(es.size + 1) * 5 < m * 3:=by
    rcases T.P.k7 with e | e | e
    ·rw[e] at lt oy
     have:es.size + 1=5:=by omega
     rw[this]
     exact⟨31,.inr (.inl rfl),DM,by omega⟩
    ·rw[e] at lt oy
     have:es.size + 1=19:=by omega
     rw[this]
     exact⟨127,.inr (.inr rfl),DN,by omega⟩
    ·rw[e] at oy;omega
   refine l8 ?_
   unfold setRelay
   refine l8 (XN gT rfl mW ?_)
   dsimp only
   have yJ:¬ SetTable.sizeAbove (SetTable.grown (es.size + 1)) > sizeLine:=by
    rw[X1]
    rcases Bj with e | e | e<;>omega
   rw[V0 yJ]
   obtain⟨t3,order,er,r1,r2,r3,r4,r5,r6,r7⟩:=Pu Bj t2 (bK.map (·.1)) (grown (es.size + 1)) hw (by rw[Zv,gR];omega)
   rw[er]
   rw[Zv,gR] at r3 r5
   rw[Zv] at r6
   have G5:∀ k∈order.toList,k < bK.size:=fun k hk=>WL.mp (r6.mem_iff.mp hk)
   obtain⟨o1,o2⟩:=DL (es:=bK) (order:=order) G5
   have og:=PB (es:=bK) (order:=order) G5
   refine l8 ?_
   show wpAny _ _ (do
    if (order.filterMap (bK[·]?)).size != bK.size then
     unsupported "internal:set-table-lost-an-element"
    pure (order.filterMap (bK[·]?),t3)) _ _ _
   rw[V0 (by rw[o1,r5,gR];simp)]
   refine vW ?_
   dsimp only
   refine Zu gT rfl ?_ (by rw[o1,r5,X1];omega)
   have gC:((s'.heap.update S (Obj.putSet bK t2)).update S (Obj.putSet (order.filterMap (bK[·]?)) t3)).get? S=some { o with data := .set (order.filterMap (bK[·]?)) (ep + 1 + 1) t3 }:=by
    have:=Xk (Obj.putSet (order.filterMap (bK[·]?)) t3) gT (by rw[ZJ _ t3 rfl];rfl)
    rw[ZJ _ t3 rfl] at this;exact this
   refine vW (k true _ ((W7 ..).trans (W7 ..)) ⟨_,_,_,_,gC,hex,rfl,⟨r2,by rw[r1];exact Bj,by rw[r3,o1,r5],by rw[o1,r5,<-gR];exact uz,?_,fun e he=>uy e (o2 e he)⟩,r4,ka,fun e he=>Bi e (o2 e he),fun j hj => ?_,fun x e j h1 h2 => ?_⟩)
   ·unfold tooFull SetTable.fill
    rw[r2,r3,r1]
    simp
    omega
   ·obtain⟨e,he,e1⟩:=all2 j hj
    obtain⟨x,hx,ex⟩:=Xa.mp he
    have iM:x < bK.size:=by rw[<-E7];exact hx
    have:x∈order.toList:=r6.mem_iff.mpr (WL.mpr iM)
    refine⟨e,?_,e1⟩
    rw[YS]
    exact Yx.mpr ⟨x,this,by rw[MN iM];exact congrArg some (by simpa using ex)⟩
   ·rw[og] at h1
    cases q:order[x]? with
    | none=>rw[q] at h1;cases h1
    | some G6 =>
     rw[q] at h1
     have h1:bK[G6]? = some e:=h1
     obtain⟨hh,g1,g2⟩:=r7 x j G6 h2 q
     rw[Array.getElem?_map,h1] at g1
     cases g1
     rw[r1]
     exact g2
  ·have so:t2.tooFull=false:=by cases q:t2.tooFull<;>simp_all
   rw[V0 (by rw[so];decide)]
   exact vW (k true _ (W7 ..) ⟨_,_,_,_,gT,hex,rfl,⟨q1,by rw[q2];exact T.P.k7,by rw[q3,gR],uz,so,uy⟩,q5,ka,Bi,all2,ux⟩)
 by_cases hp:(t.put j0).1.plain=true
 ·rw[V8 hp]
  refine l8 (J0 kx fun b => ?_)
  exact fin b
 ·rw[V0 hp]
  refine l8 (vW ?_)
  exact fin true
end
noncomputable def hX (hk:Nat->Int):Nat->List Nat
 | 0=>[]
 | i + 1=>if hk i∈(hX hk i).map hk then hX hk i else hX hk i ++ [i]
theorem G7 (hk:Nat->Int):∀ i,(hX hk i).length <= i
 | 0=>qU _
 | i + 1=>by
  have:=G7 hk i
  unfold hX
  split
  ·omega
  ·rw[EZ,WM];omega
theorem xn (hk:Nat->Int):∀ i,∀ j∈hX hk i,j < i
 | 0,j,h=>nomatch h
 | i + 1,j,h=>by
  unfold hX at h
  split at h
  ·have:=xn hk i j h;omega
  ·rcases WX.mp h with h | h
   ·have:=xn hk i j h;omega
   ·rw[WZ.mp h];omega
theorem PM {hk:Nat->Int} {ad:Nat->Addr} {h:Heap} {S:Addr} {led:Bool} (e:h.get? S=some (cH led)):g8 hk ad h S [] :=
 ⟨_,#[],0,_,e,⟨rfl,rfl,rfl⟩,rfl,⟨rfl,.inl rfl,rfl,rfl,by cases led<;>decide,fun _ h=>nomatch h⟩,List.Pairwise.nil,XR,(fun _ h=>nomatch h),(fun _ h=>nomatch h),fun i e j h=>by simp at h⟩
section
variable {prog:Program} {w:World} {A:Around} {R:Result->Shared->Prop} {I S:Addr} {fp wr:List Addr} {G:Array GenState->Array GenState->Prop} {n:Nat} {P:Nat->Value->Prop} {St:Nat->Shared->Prop}
theorem PN (W:WalksS prog w A.in1 I fp wr G n P St) (out:S∉fp) (ad:Nat->Addr) (ks:Nat->List Int) (qh:∀ i v,P i v->v = .ref (ad i)) (apart:∀ i,i < n->ad i∉S :: wr) (room:A.in1.units < cLine)
  (inj:∀ i j,i < n->j < i->hT prog w (ks j)=hT prog w (ks i)->ks j=ks i) (iU:n <= 30) :
  ∀ (left i:Nat) (s:Shared),i + left=n->St i s->(∀ j,j < n->IsTupleKey (intKind prog w) s.heap (ks j) (ad j))->g8 (aG prog w ks) ad s.heap S (hX (aG prog w ks) i) →
   (∀ s',Moved (S :: wr) G s s'->g8 (aG prog w ks) ad s'.heap S (hX (aG prog w ks) n)->R (.ok (.ret .none)) s') →
   codeAny (model prog w) A (.builtin "set.update.loop" ⟨[.ref S,.ref I],[]⟩) R s:=by
 have kc:S∉wr:=fun z=>out (W.sub _ z)
 have more:∀ b,b∈wr->b∈S :: wr:=fun b hb=>E6 _ hb
 intro left
 induction left with
 | zero =>
  intro i s hi st tk se fin
  obtain rfl:i=n:=by omega
  refine Xs YQ ?_
  rw[Xe X9 _]
  show wpAny _ A.in1 (pyNext (.ref I) >>= _) _ _ s
  refine l8 (W.done s _ _ st fun s' mv => ?_)
  show wpAny _ A.in1 (ret Value.none) _ _ s'
  exact vW (fin s' (mv.mono more) (G2 se fun o e=>mv.heap S o kc e))
 | succ left ih =>
  intro i s hi st tk se fin
  have cj:i < n:=by omega
  refine Xs YQ ?_
  rw[Xe X9 _]
  show wpAny _ A.in1 (pyNext (.ref I) >>= _) _ _ s
  refine l8 (W.item i s _ _ cj st fun v s1 hP lN mv => ?_)
  obtain rfl:=qh i v hP
  have jr:∀ j,j < n->IsTupleKey (intKind prog w) s1.heap (ks j) (ad j):=fun j hj=>yu (tk j hj) fun o e=>mv.heap _ o (fun z=>apart j hj (more _ z)) e
  show wpAny _ A.in1 (holding [Value.ref (ad i)] (setAdd S (.ref (ad i))) >>= _) _ _ s1
  refine l8 (W6 ?_)
  unfold setAdd
  refine W6 (l8 (wpAny_pyHash_tuple room (jr i cj) ?_))
  have fl:=xn (aG prog w ks) i
  refine PK (s:={ s1 with toks:=s1.toks + ((ks i).length + 1) }) (i:=i) (js:=hX (aG prog w ks) i) (G2 se fun o e=>mv.heap S o kc e) (by have:=G7 (aG prog w ks) i;omega) room (fun j hj => ?_) (fun j hj e=>inj i j cj (fl j hj) e) fun bb h2 sb yy => ?_
  ·rcases ML.mp hj with rfl | hj
   ·exact jr _ cj
   ·exact jr j (by have:=fl j hj;omega)
  ·have nS:∀ b,b∈fp->b≠S:=fun b hb z=>out (by rw[<-z];exact hb)
   refine vW ⟨Ye X9 _,ih (i + 1) _ (by omega) (W.frame _ s1 _ _ lN (ZL _ _) fun b hb o e=>by rw[sb.2 b (nS b hb)];exact e) (fun j hj=>yu (jr j hj) fun o e => ?_) yy fun s3 yz yA => ?_⟩
   ·rw[sb.2 _ (fun z=>apart j hj (by rw[z];exact vX))];exact e
   ·refine fin s3 (Moved.trans W.gtrans ((mv.mono more).then_heap (ZL _ _) fun b o hb e => ?_) yz) yA
    rw[sb.2 b (fun z=>hb (by rw[z];exact vX))];exact e
end
section
variable {prog:Program} {w:World} {A:Around} {E:Value->Shared->Prop} {s:Shared}
set_option maxHeartbeats 3200000 in
theorem PQ {l:Addr} {items:Array Value} {Q:Value->Shared->Prop} (ad:Nat->Addr) (ks:Nat->List Int) (hh:A.handled=none) (room:A.units + 8 < cLine) (yB:s.heap.IsList l items) (qh:∀ (i:Nat) (v:Value),items[i]? = some v->v = .ref (ad i))
  (tk:∀ i,i < items.size->IsTupleKey (intKind prog w) s.heap (ks i) (ad i)) (inj:∀ i j,i < items.size->j < i->hT prog w (ks j)=hT prog w (ks i)->ks j=ks i) (iU:items.size <= 30)
  (fin:∀ (h':Heap) (tk:Nat),g8 (aG prog w ks) ad h' s.heap.objs.size (hX (aG prog w ks) items.size)->(∀ b o,b < s.heap.objs.size->s.heap.get? b=some o->h'.get? b=some o)->Q (.ref s.heap.objs.size) { s with heap:=h',toks:=tk }) :
  wpAny (model prog w) A (call (.type "set") [.ref l]) Q E s:=by
 obtain⟨c,tl,yC⟩:=XD.mro
 have m1:=XD.made
 have m2:=XD.sub
 have m3:=XD.notType
 have m4:=XD.canCreate
 have m5:=F.typeCall_set_1 (.ref l)
 refine wpAny_call (codeAny_of_tree ?_)
 show wpAny _ _ (callAny (.type "set") _) _ _ _
 refine vW ⟨Code.quiet_builtin _ (by decide +kernel),Xs F.entry_type_call ?_⟩
 rw[Around.under_plain (weight_type_call_type "set" [.ref l] []) rfl]
 repeat (any_goals (first | assumption | wp_step))
 refine Y7 (code_set_new_1 (.ref l) (E:=E) (Q₁ := fun r s1=>∃ led:Bool,r = .ref s.heap.objs.size/\s1={ s with heap:=s.heap.push (cH led) }) fun led=>⟨led,rfl,rfl⟩) fun r s1 hr => ?_
 cases r with
 | error e=>exact hr
 | ok fl =>
  cases fl with
  | ret obj =>
   obtain⟨led,rfl,rfl⟩:=hr
   have gS:(s.heap.push (cH led)).get? s.heap.objs.size=some (cH led):=MM _ rfl
   have tS:Shared.TypeIs { s with heap:=s.heap.push (cH led) } (.ref s.heap.objs.size) "set" := ⟨_,gS,rfl⟩
   have m6:=XD.init.lookup
   have m7:=XD.init.bind (.ref s.heap.objs.size)
   repeat (any_goals (first | assumption | wp_step))
   refine Y7 (codeAny_call_builtin (R:=wants (fun r s2=>r = .none/\∃ h' tk,s2={ s with heap:=h',toks:=tk }/\g8 (aG prog w ks) ad h' s.heap.objs.size (hX (aG prog w ks) items.size) ∧
     ∀ b o,b < s.heap.objs.size->s.heap.get? b=some o->h'.get? b=some o) E) XD.init.plain F.entry_set_init (check_set_init_1 tS ?_)) fun r2 s2 ke => ?_
   ·obtain⟨ol,gl,cl,nl,dl⟩:=yB
    obtain⟨c0,d0,Kb,yD⟩:=ol
    simp only at cl dl
    subst cl
    subst dl
    have yE:(s.heap.push (cH led)).get? l=some { cls := .type "list",dict:=d0,data := .seq items nl,slots:=yD }:=sW _ gl
    have x1:=F.sub_list_set
    have x2:=F.sub_list_frozenset
    have x3:(Value.type "list" == Value.type "dict")=false:=by decide
    have kg:(s.heap.push (cH led)).IsList l items:=⟨_,yE,rfl,nl,rfl⟩
    have ll:l < s.heap.objs.size:=MK gl
    unfold Builtin.«set.__init__» noKeywords Builtin.Frozenset.updateFrom
    generalize yF:pyIter=PI
    wp_walk
    subst yF
    refine YG kg (l8 (Z6 ?_))
    have h3:A.in1.in1.in1.handled=none:=by simp[hh]
    have ez:(s.heap.push (cH led)).objs.size=s.heap.objs.size + 1:=Yt ..
    have nI:l≠(s.heap.push (cH led)).objs.size:=by rw[ez];exact Ww (Xh ll)
    have lt:∀ i,i < items.size->ad i < s.heap.objs.size:=fun i hi=>by
     obtain⟨o,_,_,e,_⟩:=tk i hi
     exact MK e
    refine PN ((Z7 h3 _ l nI items).toS) (S:=s.heap.objs.size) ?out ad ks (fun i v hv=>qh i v hv) ?apart ?room inj iU items.size 0 _ (Xd _)
     ⟨⟨_,MM _ rfl,rfl,rfl⟩,kg.push _⟩ ?tk ?fresh ?fin
    case out =>
     simp only[ML,W_,YX,not_or,ez]
     exact⟨Ww (Xt _),Yr ll⟩
    case apart =>
     intro i hi
     have:=lt i hi
     simp only[ML,W_,YX,not_or,ez]
     exact⟨Ww this,Ww (Xh this)⟩
    case room =>
     show A.units + 1 + 1 + 1 < cLine
     exact Zk (Nat.add_le_add_left (by decide:3 <= 8) _) room
    case tk =>
     intro j hj
     exact yu (tk j hj) fun o e=>sW _ (sW _ e)
    case fresh =>
     exact PM (led:=led) (sW _ gS)
    case fin =>
     intro s' mv se
     obtain⟨h',g',d',k9,sq⟩:=s'
     obtain rfl:g'=s.gens:=mv.gens
     obtain rfl:d'=s.drawn:=mv.drawn
     obtain rfl:sq=s.os:=mv.os
     show wpAny _ _ _ _ _ _
     refine vW ?_
     show wpAny _ _ (ret Value.none) _ _ _
     refine vW ⟨rfl,h',k9,rfl,se,fun b o hb e => ?_⟩
     refine mv.heap b o ?_ (sW _ (sW _ e))
     simp only[ML,W_,YX,not_or,ez]
     exact⟨Ww hb,Ww (Xh hb)⟩
   ·cases r2 with
    | error e=>exact ke
    | ok yG =>
     cases yG with
     | ret r =>
      obtain⟨rfl,h',k9,rfl,se,kp⟩:=ke
      repeat (any_goals (first | assumption | wp_step))
      exact fin _ _ se kp
     | next=>exact ke
     | brk=>exact ke
     | cont=>exact ke
  | next=>exact hr
  | brk=>exact hr
  | cont=>exact hr
end
end LJS
namespace L2
open PySem PySem.Spec PyProof.Rows
variable [aJ]
noncomputable def n5:List D->Option (List (Int × Int))
 | []=>some []
 | .tup [.int i,.int j] :: r=>match n5 r with
  | some ps=>some ((i,j) :: ps)
  | none=>none
 | _=>none
theorem G8:∀ {ds:List D} {ps:List (Int × Int)},n5 ds=some ps->ds=ps.map fun p => .tup [.int p.1,.int p.2]
 | [],ps,h=>by cases h;rfl
 | .tup [.int i,.int j] :: r,ps,h=>by
  unfold n5 at h
  split at h
  ·rename_i qs e
   cases h
   rw[G8 e];rfl
  ·cases h
theorem G9:∀ ps:List (Int × Int),n5 (ps.map fun p=>D.tup [.int p.1,.int p.2])=some ps
 | []=>rfl
 | p :: r=>by
  show n5 (.tup [.int p.1,.int p.2] :: r.map _)=_
  unfold n5
  rw[G9 r]
noncomputable def gK (ps:List (Int × Int)):Nat->List (Int × Int)
 | 0=>[]
 | i + 1=>if ps.getD i (0,0)∈gK ps i then gK ps i else gK ps i ++ [ps.getD i (0,0)]
theorem Bk (ps:List (Int × Int)):∀ i,(gK ps i).length <= i
 | 0=>qU _
 | i + 1=>by
  have:=Bk ps i
  unfold gK
  split
  ·omega
  ·rw[EZ,WM];omega
theorem G_ {ps:List (Int × Int)} (hn:ps.Nodup):∀ i,i <= ps.length->gK ps i=ps.take i
 | 0,_=>rfl
 | i + 1,h=>by
  have hi:i < ps.length:=by omega
  have e:ps.getD i (0,0)=ps[i]:=by rw[E5,pb hi];rfl
  unfold gK
  rw[G_ hn i (by omega),e,V0 ?_,Yj,pb hi]
  ·rfl
  ·intro hm
   obtain⟨j,hj,ej⟩:=Xa.mp hm
   rw[W5] at hj
   rw[q0e] at ej
   have:=(Yw (h₀ := by omega) (h₁ := hi) hn).mp ej
   omega
theorem PR {ps:List (Int × Int)} (hl:(gK ps ps.length).length=ps.length):ps.Nodup:=by
 have key:∀ i,i <= ps.length->(gK ps i).length=i->(ps.take i).Nodup/\gK ps i=ps.take i:=by
  intro i
  induction i with
  | zero=>intro _ _;exact⟨XR,rfl⟩
  | succ i ih =>
   intro hi hlen
   have cg:i < ps.length:=by omega
   have le:=Bk ps i
   have e:ps.getD i (0,0)=ps[i]:=by rw[E5,pb cg];rfl
   unfold gK at hlen ⊢
   split at hlen
   ·omega
   ·rename_i hn
    rw[EZ,WM] at hlen
    obtain⟨h1,h2⟩:=ih (by omega) (by omega)
    rw[V0 hn,h2,Yj,pb cg,e]
    refine⟨?_,rfl⟩
    rw[h2,e] at hn
    exact Xi.mpr ⟨h1,by simp,fun a ha b hb z=>hn (by
     have hb:b=ps[i]:=by simpa using hb
     rw[<-hb,<-z];exact ha)⟩
 have:=(key ps.length (qU _) hl).1
 rwa [Xm (qU _)] at this
noncomputable def xo:List D->(D->Prop)->Prop
 | [.lst ds],K=>match intsOf ds with
  | some ns=>ns.length <= 40/\K (.lst ((sortI (mD ns)).map D.int))
  | none=>False
 | _,_=>False
theorem PU (ns:List Int):(mD ns).length <= ns.length:=LJS.yx ns ns.length
section
variable {X:Cx} {fa:WA}
theorem PV {a:Expr} {p1 p2 q1 q2:Pos} (hc:X.calm=true) (p_:Gl X "sorted") (hl:X.mg "sorted" = none) (qa:bootBuiltins "sorted" = some (.builtin "sorted")) (kG:Gl X "set") (hr:X.mg "set" = none) (jO:bootBuiltins "set" = some (.type "set")) (ha:JA X [a] (cE fa))
  (he:starEach [a] X.env=[(false,eval a X.env)]:=by rfl) (qb:starEach [.Call (.Name "set" p2) [a] [] q2] X.env=[(false,eval (.Call (.Name "set" p2) [a] [] q2) X.env)]:=by rfl):JE X (.Call (.Name "sorted" p1) [.Call (.Name "set" p2) [a] [] q2] [] q1) (tD (dN fa xo)) :=
 (tU (Pj hc) p_ hl qa (iy (lr (Ph hc) kG hr jO ha (he:=he)) a8) (he:=qb)).weak fun σ H Q h0_ => el7 h0_ fun F ad δ K S q k =>⟨F,ad,δ,_,S,q,fun xs δ1 h1 vs F1 aR H1 E1 S1 V1=>by
  obtain⟨ds,h2,l_⟩:=tX S1 V1 h1
  unfold xo at h2
  split at h2
  ·split at h2
   ·rename_i es ns e
    obtain⟨v,rfl,a,vs,rfl,g1,g2⟩:=dI l_
    rw[rG e] at g2
    rw[my g2] at g1
    refine⟨a,ns,rfl,bh.of g1,h2.1,fun p hp=>⟨p,mD ns,rfl,bw,by have:=PU ns;omega,fun r dZ pm pw hr => ?_⟩⟩
    have s1:aA H1 (upd H1 p (ur (LJS.h_ X.w) p (mD ns))):=de hp
    have S2:=S1.al s1
    have E2:=Ext.al S1 s1
    refine k _ _ h2.2 _ _ _ _ ((E1.trans E2).trans (Ext.al S2 (de hr))) (S2.al (de hr)) ?_
    rw[<-wQ pm pw]
    exact nM S2.sub hr mz
   ·exact h2.elim
  ·exact h2.elim⟩
theorem Ha {F:Hp}:∀ {ps:List (Int × Int)} {vs:List V},af F (ps.map fun p=>D.tup [.int p.1,.int p.2]) vs->∃ as:List Addr,vs=as.map V.ref/\as.length=ps.length/\∀ (i:Nat) (a:Addr) (k:Int × Int),as[i]? = some a->ps[i]? = some k->F a=some (.tup [.int k.1,.int k.2])
 | [],vs,h=>by
  have h:vs=[]:=by simpa only [YU,af] using h
  subst h
  exact⟨[],rfl,rfl,fun i a k e=>by simp at e⟩
 | p :: r,vs,h=>by
  rw[WW] at h
  simp only[af] at h
  obtain⟨v,r',rfl,h1,h2⟩:=h
  obtain⟨as,rfl,hl,g⟩:=Ha h2
  simp only[Is] at h1
  obtain⟨a,us,rfl,e1,e2⟩:=h1
  simp only[af,Is] at e2
  obtain⟨_,_,rfl,rfl,_,_,rfl,rfl,rfl⟩:=e2
  refine⟨a :: as,rfl,by rw[My,My,hl],fun i b k eb ek => ?_⟩
  cases i with
  | zero =>
   cases (show some a=some b by simpa using eb)
   cases (show some p=some k by simpa using ek)
   exact e1
  | succ i=>exact g i b k (by simpa using eb) (by simpa using ek)
theorem PX (hc:X.calm=true) (hu:X.A.units + 64 < cLine):fY X (.type "set") (fun xs H Q=>∃ (l:Addr) (ps:List Addr) (ks:List (Int × Int)),xs=[.ref l]/\bh X.K H l (ps.map V.ref)/\ps.length=ks.length ∧
  (∀ (i:Nat) (a:Addr) (k:Int × Int),ps[i]? = some a->ks[i]? = some k->H a=some (.tup [.int k.1,.int k.2]))/\(∀ k∈ks,0 <= k.1/\k.1 < k.2/\k.2 < 12)/\ks.length <= 30/\∀ p,H p=none->Q (.ref p) (upd H p (kz p (gK ks ks.length).length))):=by
 intro pins s σ H xs us Q I r h
 obtain⟨l,ps,ks,rfl,hq,hl,fH,bd,iU,q⟩:=h
 obtain⟨u,rfl,rx⟩:=vals1 r
 cases rx
 obtain⟨ah,r',pl,_⟩:=I.list hq
 obtain rfl:=Fy r'
 have sz:(ps.map Value.ref).toArray.size=ks.length:=by rw[zJ,pd,hl]
 have qi:∀ i,i < ks.length->∃ k,ks[i]? = some k/\ks.getD i (0,0)=k:=fun i hi=>⟨ks[i],pb hi,by rw[E5,pb hi];rfl⟩
 have Bl:∀ i,i < ks.length->∃ a,ps[i]? = some a/\ps.getD i 0=a:=fun i hi=>⟨ps[i]'(by rw[hl];exact hi),pb (by rw[hl];exact hi),by rw[E5,pb (by rw[hl];exact hi)];rfl⟩
 have same:∀ i j,i < ks.length->j < ks.length->LJS.hT X.prog X.w [(ks.getD j (0,0)).1,(ks.getD j (0,0)).2]=LJS.hT X.prog X.w [(ks.getD i (0,0)).1,(ks.getD i (0,0)).2]->ks.getD j (0,0)=ks.getD i (0,0):=fun i j hi hj z=>by
  obtain⟨k,ek,dk⟩:=qi i hi
  obtain⟨k',xm,Hb⟩:=qi j hj
  rw[dk,Hb,LJS.Fw,LJS.Fw] at z
  rw[dk,Hb]
  have b1:=bd k (WB.mpr ⟨i,ek⟩)
  have b2:=bd k' (WB.mpr ⟨j,xm⟩)
  exact LJS.NW (k'.1,k'.2) (LJS.Fx b2.1 b2.2.1 b2.2.2) (k.1,k.2) (LJS.Fx b1.1 b1.2.1 b1.2.2) z
 refine LJS.PQ (fun i=>ps.getD i 0) (fun i=>[(ks.getD i (0,0)).1,(ks.getD i (0,0)).2]) (I.ok.hd hc) (by omega) pl.isList (fun i v hv => ?_) (fun i hi => ?_) (fun i j hi hj z => ?_) (by rw[sz];exact iU) fun h' tk se kp => ?_
 ·rw[Y2,MJ] at hv
  obtain⟨a,ea,rfl⟩:=V7.mp hv
  rw[E5,ea];rfl
 ·rw[sz] at hi
  obtain⟨k,ek,dk⟩:=qi i hi
  obtain⟨a,ea,da⟩:=Bl i hi
  show IsTupleKey _ _ [(ks.getD i (0,0)).1,(ks.getD i (0,0)).2] (ps.getD i 0)
  rw[dk,da]
  obtain⟨_,bc,r2,o,ho,lH,n,hd⟩:=I.aM a _ (fH i a k ea ek)
  cases r2 with
  | cons ra rr =>
   cases rr with
   | cons rb rn =>
    cases rn
    obtain⟨t1,rfl⟩:=ra
    obtain⟨t2,rfl⟩:=rb
    exact⟨o,_,n,ho,lH,hd,.cons (Z4 ..) (.cons (Z4 ..) .nil)⟩
 ·rw[sz] at hi
  have:=same i j hi (by omega) z
  show [(ks.getD j (0,0)).1,(ks.getD j (0,0)).2]=[(ks.getD i (0,0)).1,(ks.getD i (0,0)).2]
  rw[this]
 ·have key:∀ n,n <= ks.length->(LJS.hX (LJS.aG X.prog X.w fun i=>[(ks.getD i (0,0)).1,(ks.getD i (0,0)).2]) n).map (fun i=>ks.getD i (0,0))=gK ks n:=by
   intro n
   induction n with
   | zero=>intro _;rfl
   | succ n ih =>
    intro hn
    have ih:=ih (by omega)
    unfold LJS.hX gK
    rw[<-ih]
    by_cases c:ks.getD n (0,0)∈(LJS.hX (LJS.aG X.prog X.w fun i=>[(ks.getD i (0,0)).1,(ks.getD i (0,0)).2]) n).map (fun i=>ks.getD i (0,0))
    ·obtain⟨j,hj,ej⟩:=V6.mp c
     have:LJS.aG X.prog X.w (fun i=>[(ks.getD i (0,0)).1,(ks.getD i (0,0)).2]) n∈(LJS.hX (LJS.aG X.prog X.w fun i=>[(ks.getD i (0,0)).1,(ks.getD i (0,0)).2]) n).map (LJS.aG X.prog X.w fun i=>[(ks.getD i (0,0)).1,(ks.getD i (0,0)).2]):=by
      refine V6.mpr ⟨j,hj,?_⟩
      have ej:ks.getD j (0,0)=ks.getD n (0,0):=ej
      show LJS.hT _ _ [(ks.getD j (0,0)).1,(ks.getD j (0,0)).2]=LJS.hT _ _ [(ks.getD n (0,0)).1,(ks.getD n (0,0)).2]
      rw[ej]
     rw[V8 c,V8 this]
    ·have:LJS.aG X.prog X.w (fun i=>[(ks.getD i (0,0)).1,(ks.getD i (0,0)).2]) n∉(LJS.hX (LJS.aG X.prog X.w fun i=>[(ks.getD i (0,0)).1,(ks.getD i (0,0)).2]) n).map (LJS.aG X.prog X.w fun i=>[(ks.getD i (0,0)).1,(ks.getD i (0,0)).2]):=fun z=>by
      obtain⟨j,hj,ej⟩:=V6.mp z
      have PY:=LJS.xn _ n j hj
      exact c (V6.mpr ⟨j,hj,same n j (by omega) (by omega) ej⟩)
     rw[V0 c,V0 this,WR];rfl
  obtain⟨o,es,ep,t,ho,hex,hd,T⟩:=se
  have hlen:((LJS.hX (LJS.aG X.prog X.w fun i=>[(ks.getD i (0,0)).1,(ks.getD i (0,0)).2]) ks.length).map (LJS.aG X.prog X.w fun i=>[(ks.getD i (0,0)).1,(ks.getD i (0,0)).2])).length=(gK ks ks.length).length:=by
   rw[<-key ks.length (qU _),pd,pd]
  have T':=T.P
  rw[sz] at T'
  have Bf:LJS.j_ h' s.heap.objs.size _:=⟨o,es,ep,t,ho,hex,hd,T'⟩
  exact⟨.ref s.heap.objs.size,upd H s.heap.objs.size (kz s.heap.objs.size (gK ks ks.length).length),I.laid (t':=tk) (fun b o e=>kp b o (MK e) e) (qU _) (NX Bf hlen),rfl,q _ (I.aM.fresh (qU _))⟩
end
end L2
namespace HT
open PySem PySem.Spec PyProof.Rows
section
variable {prog:Program} {w:World} {A:Around} {E:Value->Shared->Prop} {s:Shared}
theorem PZ {t b:Addr} {ws:List Value} {Q:Value->Shared->Prop} (ht:IsTup s.heap t #[]) (hb:IsTup s.heap b ws.toArray) (h:Q (.ref b) s):wpAny (model prog w) A (binaryOp .Add (.ref t) (.ref b)) Q E s:=by
 obtain⟨⟨cls,dd,data,sl⟩,ho,hc,n,hd⟩:=id ht
 obtain⟨⟨sS,ni,data2,nk⟩,gC,jn,n2,hd2⟩:=id hb
 simp only at hc hd jn hd2
 subst hc hd jn hd2
 exact concat_meets ⟨_,ho,rfl⟩ ⟨_,gC,rfl⟩ noFill_tuple_add seq_tuple_add ZA Zp (Zg _ _)
  (tuple_addW0 t b #[] ws.toArray n n2 dd ni sl nk rfl) ⟨ho,gC,h⟩
theorem P0 {t sl:Addr} {items:Array Value} {vl vu:Value} {lo hi:Option Int} {Q:Value->Shared->Prop} (ht:IsTup s.heap t items) (hs:s.heap.IsSliceOf sl vl vu .none) (pl:IsPart vl lo) (pu:IsPart vu hi)
  (hw:aY items.size 0 lo=0/\aY items.size items.size hi=items.size) (h:Q (.ref t) s):wpAny (model prog w) A (getItem (.ref t) (.ref sl)) Q E s:=by
 obtain⟨os,oY,qR,sT⟩:=id hs
 have zp:s.TypeIs (.ref sl) "slice" := ⟨os,oY,qR⟩
 unfold getItem
 try with_reducible refine W6 ?_
 first | refine l8 (vW ?_) | skip
 refine l8 (wpAny_sequenceKey ht.typeIs (by decide) ?_)
 refine l8 (X_ (name:=Str.ofString "__getitem__") ht.typeIs Xq
  (Ya Xq ht.typeIs entry_tuple_getitem ?_ (args_tuple_getitem _ _)))
 show wpAny _ _ (Builtin.Tuple.tupleItemsOf (.ref t) >>= _) _ _ s
 refine l8 (tupleItemsOf_ ht ?_)
 refine l8 (Zx zp ?_)
 rw[V8 (by decide)]
 refine l8 (EH hs pl pu ?_)
 show wpAny _ _ (if (((aY items.size 0 lo:Nat):Int) == 0 && (1:Int) == 1 && (aY items.size items.size hi - aY items.size 0 lo) == items.size)=true then _ else _) _ _ s
 rw[V8 (by rw[hw.1,hw.2];simp)]
 unfold Builtin.Tuple.tupleIsExact
 refine l8 (l8 (Zx ht.typeIs (vW ?_)))
 rw[V8 (by decide)]
 refine l8 (Z5 ?_)
 exact vW ⟨_,rfl,vW h⟩
end
end HT
namespace L2
open PySem PySem.Spec PyProof.Rows
variable [aJ]
section
variable {X:Cx} {e:Expr} {te:TE} {pos p2 p3 p4:Pos}
noncomputable def P5 (K:PySem.W.Frag):V->Option Int->Option Int->Hp->VK->Prop:=fun x lo hi H Q=>∃ a xs,x = .ref a/\bI K H a xs ∧
 (HT.aY xs.length 0 lo=0/\HT.aY xs.length xs.length hi=xs.length->Q (.ref a) H)/\(¬ (HT.aY xs.length 0 lo=0/\HT.aY xs.length xs.length hi=xs.length)->∀ p,H p=none->Q (.ref p) (upd H p (.tup (dj xs lo hi))))
theorem P6:l5 X (P5 X.K):=by
 intro pins s σ H x v vl vu lo hi sl Q I rx hs pl pu h
 obtain⟨a,xs,rfl,hx,q1,q2⟩:=h
 by_cases hw:HT.aY xs.length 0 lo=0/\HT.aY xs.length xs.length hi=xs.length
 ·cases rx
  obtain⟨ah,r,ht,hz⟩:=I.tuple hx
  have hlen:ah.toArray.size=xs.length:=by rw[zJ];exact r.length.symm
  refine⟨"tuple",_,Xq.lookup,ht.typeIs,?_⟩
  exact HT.P0 ht hs pl pu (by rw[hlen];exact hw) ⟨.ref a,H,I,rfl,q1 hw⟩
 ·exact Mq pins s σ H _ v vl vu lo hi sl Q I rx hs pl pu ⟨a,xs,rfl,hx,hw,q2 hw⟩
theorem P7:dO X (binaryOp .Add) (fun x y H Q=>∃ a b ys,x = .ref a/\y = .ref b/\bI X.K H a []/\bI X.K H b ys/\Q (.ref b) H):=by
 intro pins s σ H x y v u Q I rx ry h
 obtain⟨a,b,ys,rfl,rfl,ha,hb,q⟩:=h
 cases rx
 cases ry
 obtain⟨ah,r1,p1,_⟩:=I.tuple ha
 obtain⟨bc,r2,p2,_⟩:=I.tuple hb
 have:ah=[]:=r1.fA.mpr rfl
 subst this
 exact HT.PZ p1 p2 ⟨.ref b,H,I,rfl,q⟩
noncomputable def eQ:D->D->(D->Prop)->Prop
 | .int i,.int j,K=>K (.int (i + j))
 | .lst a,.lst b,K=>a.length + b.length <= 1000/\K (.lst (a ++ b))
 | .tup a,.tup b,K=>a.length + b.length <= 1000/\K (.tup (a ++ b))
 | .str a,.str b,K=>a.length + b.length <= 1000/\K (.str (a ++ b))
 | _,_,_=>False
theorem fG:f7 X (binaryOp .Add) eQ:=by
 rintro pins s σ H x y v u Q I rx ry ⟨F,d,e,K,sub,rd,re,q,md⟩
 unfold eQ at q
 split at q
 ·exact wL pins s σ H x y v u Q I rx ry ⟨F,_,_,K,sub,rd,re,q,md⟩
 ·exact wL pins s σ H x y v u Q I rx ry ⟨F,_,_,K,sub,rd,re,q,md⟩
 ·rename_i as bs
  by_cases c:as=[]
  ·subst c
   have dI:Is F (.tup []) x:=rd
   have iG:Is F (.tup bs) y:=re
   have P8:=iG
   simp only[Is] at dI iG
   obtain⟨a,us,rfl,h1,h2⟩:=dI
   obtain⟨b,ws,rfl,h3,h4⟩:=iG
   have:us=[]:=by simpa only [af] using h2
   subst this
   exact P7 pins s σ H _ _ v u Q I rx ry ⟨a,b,ws,rfl,rfl,bI.of (sub _ _ h1),bI.of (sub _ _ h3),md _ _ _ q.2 (fun _ _ e=>e) (uc sub P8)⟩
  ·exact wL pins s σ H x y v u Q I rx ry ⟨F,_,_,K,sub,rd,re,⟨⟨c,q.1⟩,q.2⟩,md⟩
 ·exact wL pins s σ H x y v u Q I rx ry ⟨F,_,_,K,sub,rd,re,q,md⟩
 ·exact q.elim
noncomputable def qj:D->Option Int->Option Int->(D->Prop)->Prop
 | .lst ds,lo,hi,K=>K (.lst (cutD ds lo hi))
 | .tup ds,lo,hi,K=>K (.tup (cutD ds lo hi))
 | _,_,_,_=>False
noncomputable def qk (f:WE) (l h:WO):WE:=fun δ K=>f δ fun x δ1=>l δ1 fun lo δ2=>h δ2 fun hi δ3=>iB x δ3 fun d=>qj d lo hi fun z=>K (.p z) δ3
theorem P9 {ds:List D} {lo hi:Option Int} (h:HT.aY ds.length 0 lo=0/\HT.aY ds.length ds.length hi=ds.length):cutD ds lo hi=ds:=by
 unfold cutD
 rw[h.1,h.2,Z2,Nat.sub_zero,Xm (qU _)]
theorem P_ {e:Expr} {f:WE} {lo hi:Option Expr} {l h:WO} {pos p2:Pos} (he:JE X e (tD f)) (hl:PO X lo (wO l)) (hh:PO X hi (wO h)):JE X (.Subscript e (.Slice lo hi none p2) pos) (tD (qk f l h)) :=
 (Ak (gZ.or P6) he hl hh).weak fun σ H Q h0_ => el7 h0_ fun F ad δ K S q k =>⟨F,ad,δ,_,S,q,fun x δ1 h1 v F1 aR H1 E1 S1 V1=>⟨F1,aR,δ1,_,S1,h1,fun lo δ2 h2 F2 bP H2 E2 S2=>⟨F2,bP,δ2,_,S2,h2,fun hi δ3 h3 F3 rB H3 E3 S3=>by
  obtain⟨d,h4,rd⟩:=j4 S3 ((V1.ext E2).ext E3) h3
  have Bm:=(E1.trans E2).trans E3
  unfold qj at h4
  split at h4
  ·rename_i ds
   obtain⟨a,vs,rfl,g1,g2⟩:=rd
   refine .inl ⟨a,vs,rfl,bh.of g1,fun p hp => ?_⟩
   exact k _ _ h4 _ _ _ _ (Bm.trans (Ext.al S3 (de hp))) (S3.al (de hp)) (nM S3.sub hp (Gk g2 _ _))
  ·rename_i ds
   have dI:Is F3 (.tup ds) v:=rd
   have Qa:=dI
   simp only[Is] at dI
   obtain⟨a,vs,rfl,g1,g2⟩:=dI
   refine .inr ⟨a,vs,rfl,bI.of (S3.sub _ _ g1),fun hw => ?_,fun _ p hp => ?_⟩
   ·rw[g2.length] at hw
    rw[P9 hw] at h4
    exact k _ _ h4 _ _ _ _ Bm S3 Qa
   ·exact k _ _ h4 _ _ _ _ (Bm.trans (Ext.al S3 (de hp))) (S3.al (de hp)) (A2 S3.sub hp (Gk g2 _ _))
  ·exact h4.elim⟩⟩⟩
end
end L2
open L2
open Lean in
local macro_rules
 | `(tactic| simp? only [$ls,*] $[$loc:location]?) => do
  let a ← ("Y8 dep cu Xl Nat.max_self Nat.max_zero Nat.zero_max Nat.reduceLeDiff av aK dN xg ak ag d1 d2 dC aa jL iB ma jM ay.fix FO g6 fx q_ dT rh jN nE gu AA nG AB fQ ly aV bJ cy pJ lz rA pK fy iD pO g7 cL rD pV AU kE AV dF aq wF passes lF f_ pQ pR bj pX eQ qj qk t5 mB xo fU oI eO oEq nP oLt kF cN p8 wR ug wV ja A6 Bc Bd pZ A4 qe gx jP qd A8 A5 dq rO ay.trim gw wx Option.join_some Option.join_none WW YU List.cons_append q0M XH List.replicate_zero Zr Yv List.getElem?_nil XA XB My YY ZY ZC List.take_nil List.any_nil YI q00 YH Bool.and_true Bool.and_self Bool.or_false WC Bool.true_eq_false YL Xx true_and and_true and_self reduceCtorEq beq_self_eq_true Xd Nat.reduceAdd Nat.reduceLT Nat.reduceEqDiff Nat.reduceSub pd EZ".splitOn " ").toArray.mapM fun s => `(Parser.Tactic.simpLemma| $(mkIdent s.toName):ident)
  let r ← `(Parser.Tactic.simpLemma| ↓reduceIte)
  let a : Syntax.TSepArray [`Lean.Parser.Tactic.simpStar, `Lean.Parser.Tactic.simpErase, `Lean.Parser.Tactic.simpLemma] "," := ⟨(Syntax.SepArray.ofElems (sep := ",") ((a.push r).map (·.raw) ++ ls.getElems.map (·.raw))).elemsAndSeps⟩
  `(tactic| simp only [$a,*] $[$loc]?)
set_option maxHeartbeats 8000000
namespace LJ
open PySem L2
variable [aJ]
theorem Hc {ns:List Int} {k:Int} (h0:0 <= k) (h1:k < (ns.length:Int)):∃ n,fB (ns.map D.int) k=some (.int n):=by
 obtain⟨i,rfl⟩:∃ i:Nat,k=i:=⟨k.toNat,by omega⟩
 have hi:i < ns.length:=by omega
 refine⟨ns[i],nq ?_⟩
 rw[MJ,pb hi];rfl
theorem jc {α : Type} {x : α} {r:List α}:fB (x :: r) 0=some x:=nq (j:=0) rfl
theorem iQ {α : Type} {x y : α} {r:List α}:fB (x :: y :: r) 1=some y:=nq (j:=1) rfl
theorem at2 {α : Type} {x y z : α} {r:List α}:fB (x :: y :: z :: r) 2=some z:=nq (j:=2) rfl
theorem uA {a b A B:Int} (h0:0 <= a) (h1:a <= A) (h2:0 <= b) (h3:b <= B):0 <= a * b/\a * b <= A * B :=
 ⟨Int.mul_nonneg h0 h2,Int.mul_le_mul h1 h3 h2 (Int.le_trans h0 h1)⟩
noncomputable def iH:List Int:=[2147483629,2147483587,2147483579,2147483563,2147483549,2147483543,2147483497,2147483489,2147483477,2147483423,2147483399,2147483353,2147483323]
theorem Bo (n:Int):∃ q:Int,fB (iH.map D.int) (n % 13)=some (.int q)/\0 < q/\q < 2147483648:=by
 have h0:0 <= n % 13:=X8 _ (by decide)
 have h1:n % 13 < 13:=Xz _ (by decide)
 generalize n % 13=j at h0 h1
 obtain⟨i,rfl⟩:∃ i:Nat,j=i:=⟨j.toNat,by omega⟩
 have hi:i < 13:=by omega
 have hl:(iH.map D.int)[i]? = some (.int (iH[i]'(by show i < 13;exact hi))):=by
  rw[MJ,pb (by show i < 13;exact hi)];rfl
 refine⟨_,nq hl,?_⟩
 have all:∀ q∈iH,0 < q/\q < 2147483648:=by decide
 exact all _ (Yp _)
theorem Qb:jF 3 1=some 1:=rfl
theorem Hd:jF 3 2=some 2:=rfl
theorem bp {A B:WS} {K:KS} {δ : ay} (h:∀ N:ay->Prop,N=B K->A { K with nx:=N } δ):av A B K δ := h _ rfl
theorem mF {t:WT} {G G':WS} {K:KS} {δ : ay} (h:∀ A B:ay->Prop,A=G K->B=G' K->t δ fun b δ1=>if b=true then A δ1 else B δ1):bJ t G G' K δ := h _ _ rfl rfl
theorem uB {w:WI} {g:WG} {b:WS} {K:KS} {δ : ay} (h:∀ g' b' K',g'=g->b'=b->K'=K->w δ fun it δ1=>kC δ1 it.br g' b' K' it.items δ1):fy w g b K δ := h _ _ _ rfl rfl rfl
theorem xp {f:WE} {g:WA} {δ : ay} {K:List DV->ay->Prop} (h:∀ K',K'=(fun x δ1=>g δ1 fun xs δ2=>K (x :: xs) δ2)->f δ K'):ak f g δ K:=h _ rfl
noncomputable def uC:GD:=fun ys aj K=>∃ cell at_:Int,ys=[.p (.int cell),.p (.int at_)]/\aj=[]/\0 <= at_/\at_ < 2 ^ 30/\∀ z:Int,K (.p (.int z)) []
noncomputable def Bp:WS:=(av (bJ (dT (d2 (aa 0) (d2 (dC (.int 10)) (dC (.int 18)) (eO gY fun i j => .int (i ^ j.toNat))) (oI fun i j => .bl (decide (j <= i))))) (aV (aa 0)) fQ) (av (aK 2 (fx (ak (dC (.int 2147483629)) (ak (dC (.int 2147483587)) (ak (dC (.int 2147483579)) (ak (dC (.int 2147483563)) (ak (dC (.int 2147483549)) (ak (dC (.int 2147483543)) (ak (dC (.int 2147483497)) (ak (dC (.int 2147483489)) ag)))))))))) (av (aK 2 (d2 (aa 2) (fx (ak (dC (.int 2147483477)) (ak (dC (.int 2147483423)) (ak (dC (.int 2147483399)) (ak (dC (.int 2147483353)) (ak (dC (.int 2147483323)) ag)))))) eQ)) (av (aK 3 (d2 (d2 (d2 (d2 (d2 (d2 (aa 0) (dC (.int 1000000007)) (eO (fun _ j=>0 < j) fun i j => .int (i % j))) (d2 (d2 (dC (.int 2)) (aa 1) fU) (dC (.int 69069)) eQ) fU) (d2 (aa 1) (dC (.int 40503)) fU) eQ) (dC (.int 977)) eQ) (dC (.int 3)) (eO gY fun i j => .int (i ^ j.toNat))) (d2 (aa 2) (d2 (aa 1) (dC (.int 13)) (eO (fun _ j=>0 < j) fun i j => .int (i % j))) bj) (eO (fun _ j=>0 < j) fun i j => .int (i % j)))) (av (aK 4 (d2 (d2 (d2 (d2 (d2 (aa 3) (d2 (aa 1) (dC (.int 3)) eQ) fU) (d2 (aa 0) (dC (.int 65537)) (eO (fun _ j=>0 < j) fun i j => .int (i % j))) eQ) (dC (.int 5)) eQ) (dC (.int 5)) (eO gY fun i j => .int (i ^ j.toNat))) (d2 (aa 2) (d2 (d2 (aa 1) (dC (.int 5)) eQ) (dC (.int 13)) (eO (fun _ j=>0 < j) fun i j => .int (i % j))) bj) (eO (fun _ j=>0 < j) fun i j => .int (i % j)))) (av (aK 5 (d2 (d2 (d2 (d2 (aa 4) (d2 (aa 3) (dC (.int 1009)) (eO (fun _ j=>0 < j) fun i j => .int (i % j))) eQ) (aa 1) eQ) (dC (.int 3)) (eO gY fun i j => .int (i ^ j.toNat))) (d2 (aa 2) (d2 (d2 (aa 1) (dC (.int 7)) eQ) (dC (.int 13)) (eO (fun _ j=>0 < j) fun i j => .int (i % j))) bj) (eO (fun _ j=>0 < j) fun i j => .int (i % j)))) (aV (d2 (d2 (d2 (d2 (aa 3) (dC (.int 2147483647)) fU) (aa 4) eQ) (dC (.int 2147483647)) fU) (aa 5) eQ))))))))
theorem Qc:∀ ys aj K',ys.length=2->uC ys aj K'->Bp (dq aj.length K') ⟨ys.map some ++ List.replicate 4 none,aj.map some⟩:=by
 rintro ys aj K' - ⟨cell,k,rfl,rfl,h0,h1,fin⟩
 unfold Bp
 have uD:∀ (z:Int) (sl:List (Option DV)),iE 0 K' (.p (.int z)) ⟨sl,[]⟩:=fun z sl=>⟨[],rfl,rfl,fin z⟩
 simp? only []
 refine⟨⟨by decide,by decide,by decide⟩,?_⟩
 split
 ·exact uD _ _
 obtain⟨q1,e1,p1,b1⟩:=Bo k
 obtain⟨q2,e2,p2,b2⟩:=Bo (k + 5)
 obtain⟨q3,e3,p3,b3⟩:=Bo (k + 7)
 simp only[iH,WW,YU] at e1 e2 e3
 simp only[e1,e2,e3]
 have c0:0 <= cell % 1000000007:=X8 _ (by decide)
 have c1:cell % 1000000007 < 1000000007:=Xz _ (by decide)
 have m1:=uA c0 (Int.le_of_lt c1) (show (0:Int) <= 2 * k + 69069 by omega) (show 2 * k + 69069 <= 2147552717 by omega)
 refine⟨by decide,.inl ⟨by decide,by decide⟩,.inl ⟨by omega,by omega⟩,.inr ⟨by decide,by decide⟩,⟨by decide,by decide,?cp1⟩,by decide,p1,?_⟩
 case cp1 =>
  generalize cell % 1000000007 * (2 * k + 69069)=m at m1 ⊢
  omega
 generalize (cell % 1000000007 * (2 * k + 69069) + k * 40503 + 977) ^ (3:Int).toNat=x1
 have o0:0 <= x1 % q1:=X8 _ (by omega)
 have o1:x1 % q1 < q1:=Xz _ p1
 have d0:0 <= cell % 65537:=X8 _ (by decide)
 have d1:cell % 65537 < 65537:=Xz _ (by decide)
 have m2:=uA o0 (show x1 % q1 <= 2147483648 by omega) (show (0:Int) <= k + 3 by omega) (show k + 3 <= 1073741827 by omega)
 refine⟨.inl ⟨by omega,by omega⟩,by decide,⟨by decide,by decide,?cp2⟩,by decide,p2,?_⟩
 case cp2 =>
  generalize x1 % q1 * (k + 3)=m at m2 ⊢
  omega
 have t0:0 <= (x1 % q1 * (k + 3) + cell % 65537 + 5) ^ (5:Int).toNat % q2:=X8 _ (by omega)
 have t1:(x1 % q1 * (k + 3) + cell % 65537 + 5) ^ (5:Int).toNat % q2 < q2:=Xz _ p2
 have u0:0 <= x1 % q1 % 1009:=X8 _ (by decide)
 have u1:x1 % q1 % 1009 < 1009:=Xz _ (by decide)
 generalize (x1 % q1 * (k + 3) + cell % 65537 + 5) ^ (5:Int).toNat % q2=m at t0 t1 ⊢
 exact⟨by decide,⟨by decide,by decide,by omega⟩,by decide,p3,.inr ⟨by decide,by decide⟩,.inr ⟨by decide,by decide⟩,uD _ _⟩
noncomputable def jd (ns:List Int) (k z:Int):OV := .lst [.lst (ns.map D.int),.int k,.int z]
structure bg (n:Int) (o:OV):Prop where
 out:∃ ns k z,o=jd ns k z/\ns.length <= 63/\0 <= k/\k <= n
theorem bg.mono {n m:Int} {o:OV} (h:bg n o) (l:n <= m):bg m o:=by
 obtain⟨ns,k,z,e,h1,h2,h3⟩:=h.out
 exact⟨ns,k,z,e,h1,h2,by omega⟩
noncomputable def uE:GD:=fun ys aj K=>∃ n o,ys=[.o 0]/\aj=[o]/\bg n o/\∀ o',bg n o'->K (.a 0) [o']
noncomputable def Bq:WS:=(av (qe (dC (.int 0)) (aa 0) (dC (.int 2))) (aV (aa 0)))
theorem Qd:∀ ys aj K',ys.length=1->uE ys aj K'->Bq (dq aj.length K') ⟨ys.map some ++ List.replicate 0 none,aj.map some⟩:=by
 rintro ys aj K' - ⟨n,o,rfl,rfl,P,fin⟩
 obtain⟨ns,k,z,rfl,h1,h2,h3⟩:=P.out
 unfold Bq jd
 simp? only []
 exact⟨[jd ns k 0],rfl,rfl,fin _ ⟨ns,k,0,rfl,h1,h2,h3⟩⟩
noncomputable def g9:GD:=fun ys aj K=>∃ (n m:Int) (o:OV),ys=[.o 0,.p (.int m)]/\aj=[o]/\bg n o/\n < 2 ^ 30/\0 < m/\m < 1073741824/\∀ r o',0 <= r->r < m->bg (n + 1) o'->K (.p (.int r)) [o']
noncomputable def Br:WS:=(av (bJ (dT (d2 (d2 (aa 0) (dC (.int 2)) bj) (aa 1) oLt)) (av (aK 2 (d2 (aa 0) (dC (.int 1)) bj)) (av (aK 3 (dC (.int 0))) (av (bJ (dT (d2 (aa 2) (dN (ak (d2 (aa 0) (dC (.int 0)) bj) ag) cN) oLt)) (aK 3 (d2 (d2 (aa 0) (dC (.int 0)) bj) (aa 2) bj)) (bJ (dT (d2 (dN (ak (d2 (aa 0) (dC (.int 0)) bj) ag) cN) (dC (.int 0)) (oI fun i j => .bl (decide (j < i))))) (aK 3 (d2 (d2 (d2 (aa 0) (dC (.int 0)) bj) (d2 (d2 (d2 (aa 2) (dC (.int 5)) fU) (dC (.int 3)) eQ) (dN (ak (d2 (aa 0) (dC (.int 0)) bj) ag) cN) (eO (fun _ j=>0 < j) fun i j => .int (i % j))) bj) (d2 (d2 (dC (.int 10)) (dC (.int 17)) (eO gY fun i j => .int (i ^ j.toNat))) (aa 2) eQ) (eO (fun _ j=>0 < j) fun i j => .int (i % j)))) fQ)) (av (qe (d2 (aa 2) (dC (.int 1)) eQ) (aa 0) (dC (.int 1))) (qe (aq 2 uC (ak (aa 3) (ak (aa 2) ag))) (aa 0) (dC (.int 2))))))) fQ) (av (aK 4 (d2 (d2 (aa 0) (dC (.int 2)) bj) (aa 1) (eO (fun _ j=>0 < j) fun i j => .int (i % j)))) (av (qe (d2 (d2 (aa 0) (dC (.int 2)) bj) (aa 1) (eO sL fun i j => .int (i.fdiv j))) (aa 0) (dC (.int 2))) (aV (aa 4)))))
theorem Qe:∀ ys aj K',ys.length=2->g9 ys aj K'->Br (dq aj.length K') ⟨ys.map some ++ List.replicate 3 none,aj.map some⟩:=by
 rintro ys aj K' - ⟨n,m,o,rfl,rfl,P,hn,He,Wg,fin⟩
 obtain⟨ns,k,z,rfl,h1,h2,h3⟩:=P.out
 unfold Br jd
 have last:∀ (k' z':Int) (sl:List (Option DV)),0 <= k'->k' <= n + 1->iE 1 K' (.p (.int (z' % m))) ⟨sl,[some (.lst [.lst (ns.map D.int),.int k',.int (z'.fdiv m)])]⟩:=fun k' z' sl a b =>
  ⟨[jd ns k' (z'.fdiv m)],rfl,rfl,fin _ _ (X8 _ (by omega)) (Xz _ He) ⟨ns,k',_,rfl,h1,a,b⟩⟩
 have Qf:∀ z,sL z m:=fun z=>⟨by omega,by omega⟩
 have rest:∀ (k' z':Int) (s2 s3 s4:Option DV),0 <= k'->k' <= n + 1->(av (aK 4 (d2 (d2 (aa 0) (dC (.int 2)) bj) (aa 1) (eO (fun _ j=>0 < j) fun i j => .int (i % j)))) (av (qe (d2 (d2 (aa 0) (dC (.int 2)) bj) (aa 1) (eO sL fun i j => .int (i.fdiv j))) (aa 0) (dC (.int 2))) (aV (aa 4)))) (dq 1 K') ⟨[some (.o 0),some (.p (.int m)),s2,s3,s4],[some (.lst [.lst (ns.map D.int),.int k',.int z'])]⟩:=fun k' z' s2 s3 s4 a b=>by
  simp? only [at2,Hd]
  exact⟨He,Qf _,last _ _ _ a b⟩
 refine bp fun N hN => ?_
 refine mF fun A B hA hB => ?_
 simp? only [at2]
 split
 ·subst hA
  refine bp fun N2 dJ => ?_
  simp? only [iQ]
  subst dJ
  refine bp fun N2 dJ => ?_
  simp? only []
  subst dJ
  refine bp fun N2 dJ => ?_
  have go:∀ (c:Int) (s4:Option DV),N2 ⟨[some (.o 0),some (.p (.int m)),some (.p (.int k)),some (.p (.int c)),s4],[some (.lst [.lst (ns.map D.int),.int k,.int z])]⟩:=fun c s4=>by
   subst dJ
   simp? only [Qb]
   refine⟨c,k,rfl,rfl,h2,by omega,fun z' => ?_⟩
   simp? only [Hd]
   subst hN
   exact rest _ _ _ _ _ (by omega) (by omega)
  refine mF fun A B hA hB => ?_
  simp? only [jc]
  split
  ·rename_i cj
   obtain⟨c,ec⟩:=Hc h2 (X0 cj)
   subst hA
   simp? only [jc]
   rw[ec]
   exact go _ _
  ·subst hB
   refine mF fun A B hA hB => ?_
   simp? only [jc]
   split
   ·rename_i mG
    have mG:=X0 mG
    obtain⟨c,ec⟩:=Hc (ns:=ns) (k:=(k * 5 + 3) % (ns.length:Int)) (X8 _ (by omega)) (Xz _ mG)
    subst hA
    simp? only [jc]
    refine⟨.inr ⟨by decide,by decide⟩,mG,?_⟩
    rw[ec]
    exact⟨⟨by decide,by decide,by decide⟩,by show (0:Int) < 10 ^ 17 + k;omega,go _ _⟩
   ·subst hB
    exact go _ _
 ·subst hB hN
  exact rest _ _ _ _ _ (by omega) (by omega)
noncomputable def c7 (p:Int × Int):D := .tup [.int p.1,.int p.2]
structure dP (many:Int) (ps:List (Int × Int)):Prop where
 ends:∀ p∈ps,0 <= p.1/\p.1 < p.2/\p.2 < many
 lM:ps.Nodup
 iT:ps.length <= 66
theorem dP.sub {many:Int} {ps qs:List (Int × Int)} (h:dP many ps) (s:qs.Sublist ps):dP many qs :=
 ⟨fun p hp=>h.ends p (s.subset hp),h.lM.sublist s,XO s.length_le h.iT⟩
noncomputable def uF:GD:=fun ys aj K=>∃ (n kind many:Int) (o:OV),ys=[.o 0,.p (.int kind),.p (.int many)]/\aj=[o]/\bg n o/\n + 100 < 2 ^ 30/\1 <= many/\many <= 12/\∀ ps o',dP many ps->bg (n + 67) o'->K (.n (ps.map c7)) [o']
noncomputable def Bs:WS:=(av (aK 3 (q_ ag)) (av (fy (pV (ak (aa 2) ag)) (cy 4) (ly (qd (aa 3) (ak (iD (pV (ak (aa 4) ag)) [none,some 4] (cy 0) g7 (g6 (ak (aa 0) (ak (aa 1) ag)))) ag)))) (av (bJ (dT (d2 (aa 1) (dC (.int 1)) oEq)) (aV (pO (AU (ak (dC (.int 1)) (ak (aa 2) ag))) [none,some 0] (cy 0) g7 (g6 (ak (aq 2 g9 (ak (aa 1) (ak (aa 0) ag))) (ak (aa 0) ag))))) fQ) (av (bJ (dT (d2 (aa 1) (dC (.int 2)) oEq)) (av (aK 5 (iD (pV (ak (d2 (aa 2) (dC (.int 1)) (oI fun i j => .int (i - j))) ag)) [none] (cy 0) g7 (g6 (ak (aa 0) (ak (d2 (aa 0) (dC (.int 1)) eQ) ag))))) (aV (Bd (aa 5) (iD (cL (aa 3)) [none,some 2] (cy 0) (jN (dT (d2 (aa 0) (g6 (ak (dC (.int 0)) (ak (d2 (aa 1) (dC (.int 1)) (oI fun i j => .int (i - j))) ag))) oEq)) (dT (d2 (aa 1) (dC (.int 2)) (oI fun i j => .bl (decide (j < i)))))) (aa 0))))) fQ) (av (bJ (dT (d2 (aa 1) (dC (.int 3)) oEq)) (aV (aa 3)) fQ) (av (bJ (dT (d2 (aa 1) (dC (.int 4)) oEq)) (aV (pO (cL (aa 3)) [none,some 0] (cy 0) (dT (d2 (aq 2 g9 (ak (aa 1) (ak (dC (.int 4)) ag))) (dC (.int 0)) oEq)) (aa 0))) fQ) (av (bJ (dT (d2 (aa 1) (dC (.int 5)) oEq)) (av (aK 6 (aq 2 g9 (ak (aa 0) (ak (d2 (aa 2) (dC (.int 1)) eQ) ag)))) (aV (pO (cL (aa 3)) [none,some 6,some 0] (cy 0) (jN (dT (d2 (d2 (d2 (aa 0) (dC (.int 0)) bj) (aa 1) oLt) (d2 (d2 (aa 0) (dC (.int 1)) bj) (aa 1) oLt) oEq)) (dT (d2 (aq 2 g9 (ak (aa 2) (ak (dC (.int 3)) ag))) (dC (.int 0)) (oI fun i j => .bl (decide (j < i)))))) (aa 0)))) fQ) (aV (pO (cL (aa 3)) [none,some 0] (cy 0) (dT (d2 (aq 2 g9 (ak (aa 1) (ak (dC (.int 2)) ag))) (dC (.int 0)) oEq)) (aa 0))))))))))
theorem sub_snoc {α : Type} {zs ps:List α} {i:Nat} {x : α} (h:zs.Sublist (ps.take i)) (e:ps[i]? = some x):(zs ++ [x]).Sublist (ps.take (i + 1))/\zs.Sublist (ps.take (i + 1)):=by
 have:ps.take (i + 1)=ps.take i ++ [x]:=by rw[Yj,e];rfl
 rw[this]
 exact⟨h.append (ZD _),h.trans (q0p _ _)⟩
theorem Qg {α : Type} {l:List α} {c : α} (h:l.Nodup) (hc:∀ x∈l,x=c):l.length <= 1:=by
 match l,h,hc with
 | [],_,_=>exact Xl _
 | [_],_,_=>exact qU _
 | x :: y :: r,h,hc =>
  have:=(XC.mp h).1 y (vX)
  exact absurd ((hc x vX).trans (hc y (E6 _ vX)).symm) this
theorem Bt {n:Int} {o:OV} {ps:List (Int × Int)} {t:WT} {K:List D->ay->Prop} {rest:List (Option DV)} {ev:Option OV} {br:ay->Prop} (hc:∀ sl o',br ⟨sl,[some o',ev]⟩) (hw:ps.length <= 66) (P:bg n o) (hn:n + 70 < 2 ^ 30)
  (ht:∀ (p:Int × Int) (i:Nat) (o':OV) (Q:Bool->ay->Prop),p∈ps->i <= 66->bg (n + i) o'->(∀ b jy,bg (n + i + 1) jy->Q b ⟨some (.p (c7 p)) :: rest,[some jy,ev]⟩)->t ⟨some (.p (c7 p)) :: rest,[some o',ev]⟩ Q)
  (hr:gw 2 rest rest=rest)
  (fin:∀ (zs:List (Int × Int)) o',zs.Sublist ps->bg (n + ps.length) o'->K (zs.map c7) ⟨none :: rest,[some o',ev]⟩) :
  ju ⟨none :: rest,[some o,ev]⟩ br (cy 0) t (aa 0) K (ps.map c7) [] ⟨none :: rest,[some o,ev]⟩:=by
 refine xc (fun i acc δ => ∃ (zs:List (Int × Int)) (o':OV),zs.Sublist (ps.take i)/\acc=zs.map c7/\bg (n + i) o' /\ δ = ⟨none :: rest,[some o',ev]⟩) ⟨[],o,ZD _,rfl,P.mono (by omega),rfl⟩ ?_ ?_
 ·rintro j d acc δ L hj ⟨zs,o',hz,rfl,P',rfl⟩ hL
  rw[MJ] at hj
  obtain⟨p,hp,rfl⟩:=V7.mp hj
  have PY:j < ps.length:=(pe.mp hp).1
  refine⟨hc _ _,?_⟩
  show t ⟨some (.p (c7 p)) :: rest,[some o',ev]⟩ _
  refine ht p j o' _ (Xb hp) (by omega) P' fun b jy j8 => ?_
  have hlen:(zs.map c7).length < 1000:=by
   rw[pd]
   have:=hz.length_le
   rw[W5] at this;omega
  have P3:bg (n + ((j + 1:Nat):Int)) jy:=j8.mono (by omega)
  cases b with
  | true =>
   rw[V8 rfl]
   refine⟨hlen,hL _ _ ⟨zs ++ [p],jy,(sub_snoc hz hp).1,by rw[WR];rfl,P3,?_⟩⟩
   show (⟨none :: gw 2 rest rest,_⟩:ay)=_
   rw[hr];rfl
  | false =>
   rw[V0 (by decide)]
   refine hL _ _ ⟨zs,jy,(sub_snoc hz hp).2,rfl,P3,?_⟩
   show (⟨none :: gw 2 rest rest,_⟩:ay)=_
   rw[hr];rfl
 ·rintro acc δ ⟨zs,o',hz,rfl,P',rfl⟩
  rw[pd] at P' hz
  rw[Xm (qU _)] at hz
  exact⟨hc _ _,fin zs o' hz P'⟩
theorem Qh:∀ ys aj K',ys.length=3->uF ys aj K'->Bs (dq aj.length K') ⟨ys.map some ++ List.replicate 4 none,aj.map some⟩:=by
 rintro ys aj K' - ⟨n,kind,many,o,rfl,rfl,P,hn,m1,lu,fin⟩
 obtain⟨mm,rfl⟩:∃ mm:Nat,many=mm:=⟨many.toNat,by omega⟩
 have Bu:mm <= 12:=by omega
 unfold Bs
 have bU:dP mm (jq mm):=⟨fun p hp=>Aq hp,FD mm,FE mm Bu⟩
 refine bp fun N hN => ?_
 simp? only []
 subst hN
 refine bp fun N hN => ?_
 simp? only []
 refine⟨by omega,?_⟩
 refine nV (fun i δ => δ = ⟨[some (.o 0),some (.p (.int kind)),some (.p (.int mm)),some (.o 1),none,none,none],[some o,some (.lst ((jq i).map c7))]⟩) rfl ?_ ?_
 ·rintro j d δ L hj rfl hL
  obtain⟨hj,rfl⟩:=nL hj
  simp? only []
  have e:(0 + (j:Int))=j:=by omega
  rw[e]
  refine⟨by omega,?_⟩
  refine rP (fun d=>match d with
   | .int a=>c7 (a,j)
   | _ => .non) (by rw[mx];omega) trivial ?_ ?_
  ·intro d hd acc L' ha h
   obtain⟨i,hi⟩:=WB.mp hd
   obtain⟨hi,rfl⟩:=nL hi
   simp? only []
   exact⟨ha,h⟩
  ·have e2:(jq j).map c7 ++ (b8 0 (j:Int).toNat).map (fun d=>match d with
    | .int a=>c7 (a,j)
    | _ => .non)=(jq (j + 1)).map c7:=by
    show _=(jq j ++ _).map c7
    unfold b8
    rw[WR,WU,WU]
    congr 1
    refine Xc fun a _ => ?_
    simp[Function.comp]
   simp? only []
   have Wh:=FE j (by omega)
   refine⟨by rw[mx];omega,?_⟩
   rw[e2]
   exact hL _ rfl
 ·rintro δ rfl
  refine⟨trivial,?_⟩
  subst hN
  have eL:((mm:Int)).toNat=mm:=by omega
  rw[mx,eL]
  dsimp only
  have back:∀ (ps:List (Int × Int)) (o':OV) (sl:List (Option DV)) (m:List (Option OV)),dP mm ps->bg (n + 67) o'->iE 1 K' (.o (m.length + 1)) ⟨sl,some o' :: (m ++ [some (.lst (ps.map c7))])⟩:=fun ps o' sl m h1 h2=>by
   refine⟨[o'],rfl,rfl,?_⟩
   show if m.length + 1 < 1 then _ else _
   rw[V0 (by omega)]
   have:(some o' :: (m ++ [some (OV.lst (ps.map c7))]))[m.length + 1]? = some (some (.lst (ps.map c7))):=by
    rw[Yv,Wx (qU _),Xo];rfl
   dsimp only
   rw[this]
   exact .inl (fin ps o' h1 h2)
  refine bp fun N hN => ?_
  simp? only [aF]
  split
  ·refine⟨by omega,?_⟩
   refine xc (fun i acc δ => ∃ (zs:List (Int × Int)) (o':OV),zs.length=i/\(∀ (q:Nat) (p:Int × Int),zs[q]? = some p->p.2=q + 1/\0 <= p.1/\p.1 < p.2)/\acc=zs.map c7/\bg (n + i) o' /\ δ = ⟨[none,some (.o 0)],[some o',some (.lst ((jq mm).map c7))]⟩) ⟨[],o,rfl,fun q p e=>by simp at e,rfl,P.mono (by omega),rfl⟩ ?_ ?_
   ·rintro j d acc δ L hj ⟨zs,o',hz,hq,rfl,P',rfl⟩ hL
    obtain⟨hj,rfl⟩:=nL hj
    simp? only []
    refine⟨n + j,1 + j,o',rfl,rfl,P',by omega,by omega,by omega,fun r jy r0 r1 j8 => ?_⟩
    simp? only []
    refine⟨by omega,hL _ _ ⟨zs ++ [(r,1 + (j:Int))],jy,by rw[EZ,hz];rfl,fun q p e => ?_,by rw[WR];rfl,j8.mono (by omega),rfl⟩⟩
    by_cases c:q < zs.length
    ·rw[V9 c] at e
     exact hq q p e
    ·have hl:=(pe.mp e).1
     rw[EZ,WM] at hl
     have:q=zs.length:=by omega
     subst this
     rw[Wx (qU _),Xo] at e
     cases (show some (r,1 + (j:Int))=some p by simpa using e)
     exact⟨by show 1 + (j:Int)=_;omega,r0,r1⟩
   ·rintro acc δ ⟨zs,o',hz,hq,rfl,P',rfl⟩
    rw[mx] at hz P'
    refine⟨trivial,?_⟩
    refine back zs o' _ [_] ⟨fun p hp => ?_,?_,by omega⟩ (P'.mono (by omega))
    ·obtain⟨q,Hf⟩:=WB.mp hp
     have:=hq q p Hf
     have hl:=(pe.mp Hf).1
     omega
    ·refine Y_.mpr fun i j hi hj jQ e => ?_
     have q1:=hq i _ (pb hi)
     have q2:=hq j _ (pb hj)
     rw[e] at q1
     omega
  subst hN
  refine bp fun N hN => ?_
  simp? only [aF]
  split
  ·clear hN
   refine⟨by omega,?_⟩
   refine rP (fun d=>match d with
    | .int a=>c7 (a,a + 1)
    | _ => .non) (by rw[mx];omega) trivial ?_ ?_
   ·intro d hd acc L' ha h
    obtain⟨i,hi⟩:=WB.mp hd
    obtain⟨hi,rfl⟩:=nL hi
    simp? only []
    exact⟨ha,h⟩
   ·simp? only []
    refine qf (fun d=>aF d (c7 (0,mm - 1)) && decide ((2:Int) < mm)) id (by rw[pd];have:=bU.iT;omega) rfl ?_ ?_
    ·intro d hd acc L' ha h h'
     obtain⟨p,hp,rfl⟩:=V6.mp hd
     simp only[c7] at h h'
     simp? only [c7]
     split
     ·rename_i q1
      split
      ·rename_i q2
       exact⟨ha,h (by rw[q1,q2];rfl)⟩
      ·rename_i q2
       exact h' (by rw[q1,Bool.not_eq_true _ |>.mp q2];rfl)
     ·rename_i q1
      exact h' (by rw[Bool.not_eq_true _ |>.mp q1];rfl)
    ·simp? only []
     have er:(b8 0 ((mm:Int) - 1).toNat).map (fun d=>match d with
       | D.int a=>c7 (a,a + 1)
       | x=>D.non)=((List.range (mm - 1)).map fun i:Nat=>((i:Int),(i:Int) + 1)).map c7:=by
      unfold b8
      rw[WU,WU]
      have:((mm:Int) - 1).toNat=mm - 1:=by omega
      rw[this]
      refine Xc fun a _ => ?_
      simp[Function.comp]
     have ef:(((jq mm).map c7).filter fun d=>aF d (c7 (0,mm - 1)) && decide ((2:Int) < mm))=((jq mm).filter fun p=>aF (c7 p) (c7 (0,mm - 1)) && decide ((2:Int) < mm)).map c7:=by
      rw[ZV];rfl
     rw[er,List.map_id,ef,<-WR]
     have hf:∀ p∈(jq mm).filter (fun p=>aF (c7 p) (c7 (0,mm - 1)) && decide ((2:Int) < mm)),p=(0,(mm:Int) - 1)/\(2:Int) < mm:=fun p hp=>by
      have:=(W9.mp hp).2
      simp[c7,aF,cM] at this
      obtain⟨a,b⟩:=p
      simp at this ⊢
      omega
     have h1:((jq mm).filter (fun p=>aF (c7 p) (c7 (0,mm - 1)) && decide ((2:Int) < mm))).length <= 1:=Qg (bU.lM.sublist List.filter_sublist) fun p hp=>(hf p hp).1
     refine⟨by rw[mx,pd];omega,back _ o _ [_] ⟨fun p hp => ?_,?_,?_⟩ (P.mono (by omega))⟩
     ·rcases WX.mp hp with hp | hp
      ·obtain⟨i,hi,rfl⟩:=V6.mp hp
       have:=WL.mp hi
       exact⟨by omega,by omega,by show (i:Int) + 1 < mm;omega⟩
      ·exact bU.ends p (W9.mp hp).1
     ·refine Xi.mpr ⟨?_,bU.lM.sublist List.filter_sublist,fun a ha b hb e => ?_⟩
      ·refine XM.mpr (ZH.imp fun {a b} ne e=>ne ?_)
       have:=congrArg Prod.fst e
       exact Int.ofNat.inj this
      ·subst e
       obtain⟨i,hi,rfl⟩:=V6.mp ha
       have:=hf _ hb
       have h2:=congrArg Prod.fst this.1
       have h3:=congrArg Prod.snd this.1
       simp at h2 h3
       omega
     ·rw[EZ,pd,Xv];omega
  subst hN
  refine bp fun N hN => ?_
  simp? only [aF]
  split
  ·exact⟨[o],rfl,rfl,.inl (fin _ _ bU (P.mono (by omega)))⟩
  subst hN
  refine bp fun N hN => ?_
  simp? only [aF]
  split
  ·refine Bt (fun _ _=>rfl) bU.iT P (by omega) (fun p i o' Q hp hi P' hQ => ?_) rfl fun zs o' hz P' => ?_
   ·simp? only [aF]
    refine⟨n + i,4,o',rfl,rfl,P',by omega,by omega,by omega,fun r jy r0 r1 j8 => ?_⟩
    simp? only []
    exact hQ _ _ j8
   ·exact back zs o' _ [_] (bU.sub hz) (P'.mono (by have:=bU.iT;omega))
  subst hN
  refine bp fun N hN => ?_
  simp? only [aF]
  split
  ·refine⟨n,mm + 1,o,rfl,rfl,P,by omega,by omega,by omega,fun half o1 r0 r1 P1 => ?_⟩
   simp? only []
   refine Bt (n:=n + 1) (fun _ _=>rfl) bU.iT P1 (by omega) (fun p i o' Q hp hi P' hQ => ?_) rfl fun zs o' hz P' => ?_
   ·simp? only [aF,c7,jc,iQ]
    split
    ·refine⟨n + 1 + i,3,o',rfl,rfl,P',by omega,by omega,by omega,fun r jy r0 r1 j8 => ?_⟩
     simp? only []
     exact hQ _ _ j8
    ·exact hQ _ _ (P'.mono (by omega))
   ·exact back zs o' _ [_] (bU.sub hz) (P'.mono (by have:=bU.iT;omega))
  subst hN
  simp? only [aF]
  refine Bt (fun _ _=>rfl) bU.iT P (by omega) (fun p i o' Q hp hi P' hQ => ?_) rfl fun zs o' hz P' => ?_
  ·simp? only [aF]
   refine⟨n + i,2,o',rfl,rfl,P',by omega,by omega,by omega,fun r jy r0 r1 j8 => ?_⟩
   simp? only []
   exact hQ _ _ j8
  ·exact back zs o' _ [_] (bU.sub hz) (P'.mono (by have:=bU.iT;omega))
theorem Hg {α : Type}:∀ {l:List α} {j:Nat} (h:j < l.length),List.Perm (l[j] :: l.eraseIdx j) l
 | x :: r,0,h=>YO _
 | x :: r,j + 1,h=>by
  have hj:j < r.length:=by simpa using h
  show List.Perm (r[j] :: x :: r.eraseIdx j) (x :: r)
  exact (List.Perm.swap x r[j] _).trans ((Hg hj).cons x)
theorem Hh {α β : Type} (f : α -> β):∀ (l:List α) (j:Nat),(l.map f).eraseIdx j=(l.eraseIdx j).map f
 | [],_=>rfl
 | _ :: _,0=>rfl
 | x :: r,j + 1=>by
  show f x :: (r.map f).eraseIdx j=f x :: (r.eraseIdx j).map f
  rw[Hh f r j]
noncomputable def cz (y:Int × Int × Int):D := .tup [.int y.1,.int y.2.1,.int y.2.2]
noncomputable def aX (m:Int) (ys:List (Int × Int × Int)):D := .tup [.int m,.tup (ys.map cz)]
noncomputable def ql (y:Int × Int × Int):Int × Int:=(y.1,y.2.1)
theorem dP.perm {many:Int} {ps qs:List (Int × Int)} (h:dP many ps) (p:qs.Perm ps):dP many qs :=
 ⟨fun x hx=>h.ends x (p.mem_iff.mp hx),p.nodup_iff.mpr h.lM,by rw[p.length_eq];exact h.iT⟩
noncomputable def uG:GD:=fun ys aj K=>∃ (n dR most:Int) (o:OV),ys=[.o 0,.p (.int dR),.p (.int most)]/\aj=[o]/\bg n o/\n + 400 < 2 ^ 30/\1 <= dR/\dR <= 12/\0 <= most/\most <= 30 ∧
 ∀ m ws o',cK m ws->m <= dR->(ws.length:Int) <= most->bg (n + 300) o'->K (.p (aX m ws)) [o']
noncomputable def Bv:WS:=(av (aK 3 (aq 2 g9 (ak (aa 0) (ak (dC (.int 8)) ag)))) (av (aK 4 (aq 2 g9 (ak (aa 0) (ak (dC (.int 4)) ag)))) (av (aK 5 (d2 (dC (.int 1)) (aq 2 g9 (ak (aa 0) (ak (aa 1) ag))) eQ)) (av (aK 6 (wF 3 uF (ak (aa 0) (ak (aa 3) (ak (aa 5) ag))))) (av (aK 7 (q_ ag)) (av (fy (pV (ak (dN (ak (aa 2) (ak (dN (ak (aa 6) ag) cN) ag)) ug) ag)) (cy 8) (av (pK (A8 (aa 6) (ak (aq 2 g9 (ak (aa 0) (ak (dN (ak (aa 6) ag) cN) ag))) ag)) (rA 2 (lz (cy 9) (lz (cy 10) pJ)))) (av (aK 11 (d2 (fx (ak (dC (.int 7)) (ak (aq 2 g9 (ak (aa 0) (ak (dC (.int 3)) ag))) (ak (d2 (d2 (dC (.int 10)) (dC (.int 9)) (eO gY fun i j => .int (i ^ j.toNat))) (aq 2 g9 (ak (aa 0) (ak (dC (.int 2)) ag))) (oI fun i j => .int (i - j))) (ak (aq 2 g9 (ak (aa 0) (ak (d2 (d2 (dC (.int 10)) (dC (.int 9)) (eO gY fun i j => .int (i ^ j.toNat))) (dC (.int 1)) eQ) ag))) ag))))) (aa 4) bj)) (ly (jP (aa 7) (ak (g6 (ak (aa 9) (ak (aa 10) (ak (aa 11) ag)))) ag)))))) (aV (g6 (ak (aa 5) (ak (dN (ak (aa 7) ag) wR) ag))))))))))
theorem Qi:∀ ys aj K',ys.length=3->uG ys aj K'->Bv (dq aj.length K') ⟨ys.map some ++ List.replicate 9 none,aj.map some⟩:=by
 rintro ys aj K' - ⟨n,dR,most,o,rfl,rfl,P,hn,h1,Hi,s0,Wi,fin⟩
 unfold Bv
 refine bp fun N hN => ?_
 simp? only []
 refine⟨n,8,o,rfl,rfl,P,by omega,by omega,by omega,fun kind o1 _ _ P1 => ?_⟩
 simp? only []
 subst hN
 refine bp fun N hN => ?_
 simp? only []
 refine⟨n + 1,4,o1,rfl,rfl,P1,by omega,by omega,by omega,fun eU o2 p0 p4 P2 => ?_⟩
 simp? only []
 subst hN
 refine bp fun N hN => ?_
 simp? only []
 refine⟨n + 1 + 1,dR,o2,rfl,rfl,P2,by omega,by omega,by omega,fun mm o3 m0 mh P3 => ?_⟩
 simp? only []
 subst hN
 refine bp fun N hN => ?_
 simp? only []
 refine⟨n + 1 + 1 + 1,kind,1 + mm,o3,rfl,rfl,P3,by omega,by omega,by omega,fun ps o4 Hj P4 => ?_⟩
 simp? only []
 subst hN
 refine bp fun N hN => ?_
 simp? only []
 subst hN
 refine bp fun N hN => ?_
 have Wj:=Hj.iT
 simp? only []
 refine⟨by omega,?_⟩
 have ek:(min most (ps.length:Int)).toNat=min most.toNat ps.length:=by omega
 rw[ek]
 generalize hk:min most.toNat ps.length=k
 refine nV (fun i δ => ∃ (qs:List (Int × Int)) (ws:List (Int × Int × Int)) (o':OV),qs.length + i=ps.length/\ws.length=i/\dP (1 + mm) (ws.map ql ++ qs)/\(∀ y∈ws,0 <= y.2.2/\y.2.2 <= 1000000000)/\bg (n + 70 + 4 * i) o' ∧
  δ = ⟨[some (.o 0),some (.p (.int dR)),some (.p (.int most)),some (.p (.int kind)),some (.p (.int eU)),some (.p (.int (1 + mm))),some (.o 1),some (.o 2),none,none,none,none],[some o',some (.lst (qs.map c7)),some (.lst (ws.map cz))]⟩)
  ⟨ps,[],o4,by omega,rfl,Hj,fun y hy=>absurd hy W_,P4.mono (by omega),rfl⟩ ?_ ?_
 ·rintro j d δ L hj ⟨qs,ws,o',hq,hw,hp,hy,P',rfl⟩ hL
  obtain⟨hj,rfl⟩:=nL hj
  have q0:0 < qs.length:=by omega
  have Qj:=hp.iT
  rw[EZ,pd] at Qj
  refine⟨trivial,?_⟩
  simp only[cy,XA,XB]
  refine bp fun N2 dJ => ?_
  simp? only []
  refine⟨n + 70 + 4 * j,qs.length,o',rfl,rfl,P',by omega,by omega,by omega,fun r o1 r0 r1 P1 => ?_⟩
  obtain⟨rn,rfl⟩:∃ rn:Nat,r=rn:=⟨r.toNat,by omega⟩
  have hr:rn < qs.length:=by omega
  have ix:seqIndex? (rn:Int) qs.length=some rn:=N6 hr
  have eq:(qs.map c7)[rn]? = some (.tup [.int qs[rn].1,.int qs[rn].2]):=by rw[MJ,pb hr];rfl
  simp? only [ix,eq]
  refine⟨⟨by omega,by omega⟩,?_⟩
  subst dJ
  refine bp fun N2 dJ => ?_
  simp only[aK,d2,fx]
  refine xp fun K3 qm => ?_
  simp? only []
  subst qm
  refine xp fun K3 qm => ?_
  simp? only []
  refine⟨n + 70 + 4 * j + 1,3,o1,rfl,rfl,P1,by omega,by omega,by omega,fun a1 o2 Wk Wl P2 => ?_⟩
  simp? only []
  subst qm
  refine xp fun K3 qm => ?_
  simp? only []
  refine⟨⟨by decide,by decide,by decide⟩,n + 70 + 4 * j + 1 + 1,2,o2,rfl,rfl,P2,by omega,by omega,by omega,fun a2 o3 Wm Wn P3 => ?_⟩
  simp? only []
  subst qm
  refine xp fun K3 qm => ?_
  simp? only []
  refine⟨⟨by decide,by decide,by decide⟩,n + 70 + 4 * j + 1 + 1 + 1,10 ^ Int.toNat 9 + 1,o3,rfl,rfl,P3,by omega,by decide,by decide,fun a3 o4 Wo Qk P4 => ?_⟩
  simp? only []
  subst qm
  simp? only []
  have e9:(10:Int) ^ Int.toNat 9=1000000000:=by decide
  rw[e9] at Qk ⊢
  obtain⟨pr,Ql,Qm,Qn⟩:∃ pr:Int,fB [D.int 7,D.int a1,D.int (1000000000 - a2),D.int a3] eU=some (.int pr)/\0 <= pr/\pr <= 1000000000:=by
   have:eU=0\/eU=1\/eU=2\/eU=3:=by omega
   rcases this with rfl | rfl | rfl | rfl
   ·exact⟨7,rfl,by omega,by omega⟩
   ·exact⟨a1,rfl,by omega,by omega⟩
   ·exact⟨1000000000 - a2,rfl,by omega,by omega⟩
   ·exact⟨a3,rfl,by omega,by omega⟩
  rw[Ql]
  show N2 _
  subst dJ
  simp? only []
  refine⟨by omega,hL _ ⟨qs.eraseIdx rn,ws ++ [(qs[rn].1,qs[rn].2,pr)],o4,?_,?_,?_,?_,P4.mono (by omega),?_⟩⟩
  ·rw[Z3 hr];omega
  ·rw[EZ,hw];rfl
  ·refine hp.perm ?_
   rw[WR,XJ]
   refine List.Perm.append_left _ ?_
   exact Hg hr
  ·intro y xq
   rcases WX.mp xq with h | h
   ·exact hy y h
   ·rw[WZ.mp h];exact⟨Qm,Qn⟩
  ·rw[WR,Hh];rfl
 ·rintro δ ⟨qs,ws,o',hq,hw,hp,hy,P',rfl⟩
  refine⟨trivial,?_⟩
  subst hN
  simp? only []
  rw[mx] at hw P'
  refine⟨[o'],rfl,rfl,?_⟩
  refine fin (1 + mm) ws o' ⟨by omega,by omega,by omega,fun y xq => ?_,?_⟩ (by omega) (by omega) (P'.mono (by omega))
  ·have:=hp.ends (ql y) (Xf _ (V6.mpr ⟨y,xq,rfl⟩))
   have h2:=hy y xq
   simp only[ql] at this
   omega
  ·exact (Xi.mp hp.lM).1
end LJ
namespace L2
open PySem PySem.Spec PyProof.Rows
variable [aJ]
noncomputable def xr:List D->(D->Prop)->Prop
 | [.lst ds],K=>match n5 ds with
  | some ps=>(ps.length <= 30/\∀ p∈ps,0 <= p.1/\p.1 < p.2/\p.2 < 12)/\K (.int (gK ps ps.length).length)
  | none=>False
 | _,_=>False
section
variable {X:Cx} {fa:WA}
theorem Qo {a:Expr} {p1 p2 q1 q2:Pos} (hc:X.calm=true) (hu:X.A.units + 64 < cLine) (p_:Gl X "len") (hl:X.mg "len" = none) (qa:bootBuiltins "len" = some (.builtin "len")) (kG:Gl X "set") (hr:X.mg "set" = none) (jO:bootBuiltins "set" = some (.type "set")) (ha:JA X [a] (cE fa))
  (he:starEach [a] X.env=[(false,eval a X.env)]:=by rfl) (qb:starEach [.Call (.Name "set" p2) [a] [] q2] X.env=[(false,eval (.Call (.Name "set" p2) [a] [] q2) X.env)]:=by rfl):JE X (.Call (.Name "len" p1) [.Call (.Name "set" p2) [a] [] q2] [] q1) (tD (dN fa xr)) :=
 (tU (NY) p_ hl qa (iy (lr (PX hc hu) kG hr jO ha (he:=he)) a8) (he:=qb)).weak fun σ H Q h0_ => el7 h0_ fun F ad δ K S q k =>⟨F,ad,δ,_,S,q,fun xs δ1 h1 vs F1 aR H1 E1 S1 V1=>by
  obtain⟨ds,h2,l_⟩:=tX S1 V1 h1
  unfold xr at h2
  split at h2
  ·split at h2
   ·rename_i es ps e
    obtain⟨v,rfl,a,vs,rfl,g1,g2⟩:=dI l_
    rw[G8 e] at g2
    obtain⟨as,rfl,hl,g⟩:=Ha g2
    refine⟨a,as,ps,rfl,bh.of g1,hl,fun i b k' e1 e2=>S1.sub _ _ (g i b k' e1 e2),h2.1.2,h2.1.1,fun p hp=>⟨p,(gK ps ps.length).length,rfl,bw,by have:=h2.1.1;have:=Bk ps ps.length;omega,?_⟩⟩
    have s1:aA H1 (upd H1 p (kz p (gK ps ps.length).length)):=de hp
    exact k _ _ h2.2 _ _ _ _ (E1.trans (Ext.al S1 s1)) (S1.al s1) rfl
   ·exact h2.elim
  ·exact h2.elim⟩
end
end L2
namespace LJ
open PySem L2
variable [aJ]
noncomputable def Hk:D->Bool
 | .int _=>true
 | _=>false
noncomputable def jR:D->Int->Int->Bool
 | .int i,lo,hi=>decide (lo <= i) && decide (i <= hi)
 | _,_,_=>false
noncomputable def mH:D->Int->Bool
 | .tup ds,n=>(ds.length:Int) == n
 | _,_=>false
theorem dr {K:RV->List OV->Prop} {d:D} {sl:List (Option DV)} (h:K (.p d) []):iE 0 K (.p d) ⟨sl,[]⟩:=⟨[],rfl,rfl,h⟩
noncomputable def uH:GD:=fun ys aj K=>∃ d,ys=[.p d]/\aj=[]/\K (.p (.bl (Hk d))) []
noncomputable def Bw:WS:=(aV (nG (d1 (aa 0) (ja "int")) (AB (d1 (aa 0) (ja "bool")))))
theorem Qp:∀ ys aj K',ys.length=1->uH ys aj K'->Bw (dq aj.length K') ⟨ys.map some ++ List.replicate 0 none,aj.map some⟩:=by
 rintro ys aj K' - ⟨d,rfl,rfl,k⟩
 unfold Bw
 simp? only []
 cases d<;>simp only[gF,d4]<;>exact dr k
noncomputable def j9:GD:=fun ys aj K=>∃ d lo hi,ys=[.p d,.p (.int lo),.p (.int hi)]/\aj=[]/\K (.p (.bl (jR d lo hi))) []
noncomputable def Bx:WS:=(aV (nG (aq 1 uH (ak (aa 0) ag)) (A5 (aa 1) (aa 0) (aa 2) (oI fun i j => .bl (decide (i <= j))) (oI fun i j => .bl (decide (i <= j))))))
theorem Qq:∀ ys aj K',ys.length=3->j9 ys aj K'->Bx (dq aj.length K') ⟨ys.map some ++ List.replicate 0 none,aj.map some⟩:=by
 rintro ys aj K' - ⟨d,lo,hi,rfl,rfl,k⟩
 unfold Bx
 simp? only []
 refine⟨d,rfl,rfl,?_⟩
 cases d<;>simp? only [Hk,jR] at k ⊢ <;> first | exact dr k | skip
 rename_i i
 by_cases c:lo <= i
 ·rw[Wz c] at k ⊢
  simp only[ZN] at k
  exact dr k
 ·rw[WK c] at k ⊢
  simp only[q0Z] at k
  exact dr k
noncomputable def qo:GD:=fun ys aj K=>∃ d n,ys=[.p d,.p (.int n)]/\aj=[]/\K (.p (.bl (mH d n))) []
noncomputable def By:WS:=(aV (nG (d1 (aa 0) (ja "tuple")) (d2 (dN (ak (aa 0) ag) cN) (aa 1) oEq)))
theorem Qr:∀ ys aj K',ys.length=2->qo ys aj K'->By (dq aj.length K') ⟨ys.map some ++ List.replicate 0 none,aj.map some⟩:=by
 rintro ys aj K' - ⟨d,n,rfl,rfl,k⟩
 unfold By
 simp? only []
 cases d<;>simp? only [gF,d4,mH,aF] at k ⊢ <;> exact dr k
noncomputable def Hl (m:Int):D->D->Bool
 | .int i,b=>jR b (i + 1) (m - 1)
 | _,_=>false
noncomputable def uI (m:Int) (a b:D):Bool:=jR a 0 (m - 1) && Hl m a b
theorem uJ {d:D} {lo hi:Int} (h:jR d lo hi=true):∃ i,d = .int i/\lo <= i/\i <= hi:=by
 cases d with
 | int i =>
  have h:(decide (lo <= i) && decide (i <= hi))=true:=h
  rw[Xu,W8,W8] at h
  exact⟨i,rfl,h⟩
 | _=>cases h
noncomputable def uK:GD:=fun ys aj K=>∃ m a b,ys=[.p (.int m),.p a,.p b]/\aj=[]/\K (.p (.bl (uI m a b))) []
noncomputable def Bz:WS:=(aV (nG (aq 3 j9 (ak (aa 1) (ak (dC (.int 0)) (ak (d2 (aa 0) (dC (.int 1)) (oI fun i j => .int (i - j))) ag)))) (aq 3 j9 (ak (aa 2) (ak (d2 (aa 1) (dC (.int 1)) eQ) (ak (d2 (aa 0) (dC (.int 1)) (oI fun i j => .int (i - j))) ag))))))
theorem Qs:∀ ys aj K',ys.length=3->uK ys aj K'->Bz (dq aj.length K') ⟨ys.map some ++ List.replicate 0 none,aj.map some⟩:=by
 rintro ys aj K' - ⟨m,a,b,rfl,rfl,k⟩
 unfold Bz
 simp? only []
 refine⟨a,0,m - 1,rfl,rfl,?_⟩
 simp? only []
 unfold uI at k
 cases q:jR a 0 (m - 1)
 ·rw[q] at k
  exact dr k
 ·rw[q] at k
  obtain⟨i,rfl,_,_⟩:=uJ q
  simp? only [ZN,Hl] at k ⊢
  refine⟨b,i + 1,m - 1,rfl,rfl,?_⟩
  simp? only []
  exact dr k
noncomputable def cO (m:Int):D->Bool
 | .tup [a,b,p]=>uI m a b && jR p 0 1000000000
 | _=>false
noncomputable def uL:GD:=fun ys aj K=>∃ m d,ys=[.p (.int m),.p d]/\aj=[]/\K (.p (.bl (cO m d))) []
noncomputable def BA:WS:=(av (bJ (gu (dT (aq 2 qo (ak (aa 1) (ak (dC (.int 3)) ag))))) (aV (dC (.bl false))) fQ) (aV (nG (aq 3 uK (ak (aa 0) (ak (d2 (aa 1) (dC (.int 0)) bj) (ak (d2 (aa 1) (dC (.int 1)) bj) ag)))) (aq 3 j9 (ak (d2 (aa 1) (dC (.int 2)) bj) (ak (dC (.int 0)) (ak (dC (.int 1000000000)) ag)))))))
theorem Qt {m:Int} {d:D} (h:mH d 3=false):cO m d=false:=by
 unfold cO
 split
 ·exact absurd h (by simp[mH])
 ·rfl
theorem BB {d:D} (h:mH d 3=true):∃ a b c,d = .tup [a,b,c]:=by
 cases d with
 | tup ds =>
  have h:((ds.length:Int) == 3)=true:=h
  have h:=X7 h
  match ds,h with
  | [a,b,c],_=>exact⟨a,b,c,rfl⟩
  | [],h=>simp at h
  | [_],h=>simp at h
  | [_,_],h=>simp at h
  | _ :: _ :: _ :: _ :: r,h=>simp at h;omega
 | _=>cases h
theorem BC {d:D} (h:mH d 2=true):∃ a b,d = .tup [a,b]:=by
 cases d with
 | tup ds =>
  have h:((ds.length:Int) == 2)=true:=h
  have h:=X7 h
  match ds,h with
  | [a,b],_=>exact⟨a,b,rfl⟩
  | [],h=>simp at h
  | [_],h=>simp at h
  | _ :: _ :: _ :: r,h=>simp at h;omega
 | _=>cases h
theorem Qu:∀ ys aj K',ys.length=2->uL ys aj K'->BA (dq aj.length K') ⟨ys.map some ++ List.replicate 0 none,aj.map some⟩:=by
 rintro ys aj K' - ⟨m,d,rfl,rfl,k⟩
 unfold BA
 refine bp fun N hN => ?_
 simp? only []
 refine⟨d,3,rfl,rfl,?_⟩
 simp? only []
 cases q:mH d 3
 ·rw[Qt q] at k
  simp only[q00,YL]
  exact dr k
 ·simp only[YH,WC,Xx]
  subst hN
  obtain⟨a,b,c,rfl⟩:=BB q
  simp? only [jc,iQ,at2]
  refine⟨m,a,b,rfl,rfl,?_⟩
  simp? only [cO] at k ⊢
  cases q2:uI m a b
  ·rw[q2] at k
   exact dr k
  ·rw[q2] at k
   refine⟨c,0,1000000000,rfl,rfl,?_⟩
   simp? only [ZN] at k ⊢
   exact dr k
noncomputable def pairOf:D->Int × Int
 | .tup [.int i,.int j,_]=>(i,j)
 | _=>(0,0)
theorem Hm {m:Int} {d:D} (h:cO m d=true):∃ i j p,d = .tup [.int i,.int j,.int p]/\0 <= i/\i < j/\j < m/\0 <= p/\p <= 1000000000:=by
 unfold cO at h
 split at h
 ·rename_i a b p
  rw[Xu] at h
  obtain⟨h1,h2⟩:=h
  unfold uI at h1
  rw[Xu] at h1
  obtain⟨i,rfl,i0,i1⟩:=uJ h1.1
  have h3:jR b (i + 1) (m - 1)=true:=h1.2
  obtain⟨j,rfl,j0,j1⟩:=uJ h3
  obtain⟨p',rfl,p0,p1⟩:=uJ h2
  exact⟨i,j,p',rfl,i0,by omega,by omega,p0,p1⟩
 ·cases h
noncomputable def qp (m:Int):D->Bool
 | .tup ws=>decide (ws.length <= 30) && (ws.all (cO m) && decide ((ws.map pairOf).Nodup))
 | _=>false
noncomputable def uM:GD:=fun ys aj K=>∃ m d,ys=[.p (.int m),.p d]/\aj=[]/\m <= 12/\K (.p (.bl (qp m d))) []
noncomputable def BE:WS:=(av (bJ (nE (gu (dT (d1 (aa 1) (ja "tuple")))) (dT (d2 (dN (ak (aa 1) ag) cN) (dC (.int 30)) (oI fun i j => .bl (decide (j < i)))))) (aV (dC (.bl false))) fQ) (av (bJ (gu (dT (dN (ak (iD (cL (aa 1)) [none,some 0] (cy 0) g7 (aq 2 uL (ak (aa 1) (ak (aa 0) ag)))) ag) mB))) (aV (dC (.bl false))) fQ) (aV (d2 (dN (ak (iD (cL (aa 1)) [none] (cy 0) g7 (qk (aa 0) pZ (A4 (dC (.int 2))))) ag) xr) (dN (ak (aa 1) ag) cN) oEq))))
theorem Qv:∀ ys aj K',ys.length=2->uM ys aj K'->BE (dq aj.length K') ⟨ys.map some ++ List.replicate 0 none,aj.map some⟩:=by
 rintro ys aj K' - ⟨m,d,rfl,rfl,hm,k⟩
 unfold BE
 refine bp fun N hN => ?_
 by_cases ht:∃ ws,d = .tup ws
 ·obtain⟨ws,rfl⟩:=ht
  simp? only [gF,show d4 "tuple" "tuple" = true from rfl]
  by_cases Hn:(30:Int) < ws.length
  ·rw[V8 (Wz Hn)]
   have:qp m (.tup ws)=false:=by
    show (decide (ws.length <= 30) && _)=false
    rw[WK (by omega)];rfl
   rw[this] at k
   exact dr k
  ·rw[V0 (by rw[WK Hn];decide)]
   subst hN
   have uN:ws.length <= 30:=by omega
   refine bp fun N hN => ?_
   simp? only []
   refine rP (fun d => .bl (cO m d)) (by omega) trivial ?_ ?_
   ·intro d hd acc L ha h
    simp? only []
    refine⟨m,d,rfl,rfl,?_⟩
    simp? only []
    exact⟨ha,h⟩
   ·have e:p9 (ws.map fun d=>D.bl (cO m d))=some (ws.map (cO m)):=by
     have:=Gp (ws.map (cO m))
     rw[WU] at this
     exact this
    simp? only [e]
    have ea:(ws.map (cO m)).all id=ws.all (cO m):=by rw[List.all_map];rfl
    rw[ea]
    cases q:ws.all (cO m)
    ·have:qp m (.tup ws)=false:=by
      show (decide (ws.length <= 30) && (ws.all (cO m) && _))=false
      rw[q];simp
     rw[this] at k
     exact dr k
    ·simp only[YH,WC,Xx]
     subst hN
     have hw:∀ w∈ws,cO m w=true:=XW.mp q
     simp? only []
     refine rP (fun d => .tup [.int (pairOf d).1,.int (pairOf d).2]) (by omega) trivial ?_ ?_
     ·intro d hd acc L ha h
      obtain⟨i,j,p,rfl,_⟩:=Hm (hw d hd)
      have ec:cutD [D.int i,D.int j,D.int p] none (some 2)=[D.int i,D.int j]:=by
       unfold cutD;rfl
      simp? only [ec]
      exact⟨ha,h⟩
     ·have ep:n5 (ws.map fun d=>D.tup [.int (pairOf d).1,.int (pairOf d).2])=some (ws.map pairOf):=by
       have:=G9 (ws.map pairOf)
       rw[WU] at this
       exact this
      have kk:qp m (.tup ws)=decide ((ws.map pairOf).Nodup):=by
       show (decide (ws.length <= 30) && (ws.all (cO m) && _))=_
       rw[q,Wz uN];rfl
      rw[kk] at k
      simp? only [xr,ep,aF]
      refine⟨⟨uN,fun p hp => ?_⟩,dr ?_⟩
      ·obtain⟨w,Qw,rfl⟩:=V6.mp hp
       obtain⟨i,j,p,rfl,a1,a2,a3,_⟩:=Hm (hw w Qw)
       exact⟨a1,a2,by show j < 12;omega⟩
      ·have:(((gK (ws.map pairOf) ws.length).length:Int) == (ws.length:Int))=decide ((ws.map pairOf).Nodup):=by
        by_cases c:(ws.map pairOf).Nodup
        ·have e2:=G_ c (ws.map pairOf).length (qU _)
         rw[pd] at e2
         rw[Wz c,e2,W5,pd,Nat.min_self]
         simp
        ·rw[WK c]
         refine beq_false_of_ne fun z=>c (PR ?_)
         rw[pd];omega
       rw[this];exact k
 ·have:qp m d=false:=by
   cases d with
   | tup ws=>exact absurd ⟨ws,rfl⟩ ht
   | _=>rfl
  rw[this] at k
  cases d with
  | tup ws=>exact absurd ⟨ws,rfl⟩ ht
  | _=>simp? only [gF];exact dr k
noncomputable def kI:D->Bool
 | .tup [m,ws]=>jR m 1 12 && (match m with
  | .int i=>qp i ws
  | _=>false)
 | _=>false
noncomputable def uO:GD:=fun ys aj K=>∃ d,ys=[.p d]/\aj=[]/\K (.p (.bl (kI d))) []
noncomputable def BF:WS:=(av (bJ (gu (dT (aq 2 qo (ak (aa 0) (ak (dC (.int 2)) ag))))) (aV (dC (.bl false))) fQ) (aV (nG (aq 3 j9 (ak (d2 (aa 0) (dC (.int 0)) bj) (ak (dC (.int 1)) (ak (dC (.int 12)) ag)))) (aq 2 uM (ak (d2 (aa 0) (dC (.int 0)) bj) (ak (d2 (aa 0) (dC (.int 1)) bj) ag))))))
theorem Qx:∀ ys aj K',ys.length=1->uO ys aj K'->BF (dq aj.length K') ⟨ys.map some ++ List.replicate 0 none,aj.map some⟩:=by
 rintro ys aj K' - ⟨d,rfl,rfl,k⟩
 unfold BF
 refine bp fun N hN => ?_
 simp? only []
 refine⟨d,2,rfl,rfl,?_⟩
 simp? only []
 cases q:mH d 2
 ·have:kI d=false:=by
   unfold kI
   split
   ·exact absurd q (by simp[mH])
   ·rfl
  rw[this] at k
  simp only[q00,YL]
  exact dr k
 ·simp only[YH,WC,Xx]
  subst hN
  obtain⟨a,b,rfl⟩:=BC q
  simp? only [jc,iQ]
  refine⟨a,1,12,rfl,rfl,?_⟩
  simp? only [kI] at k ⊢
  cases q2:jR a 1 12
  ·rw[q2] at k
   exact dr k
  ·rw[q2] at k
   obtain⟨i,rfl,_,hi⟩:=uJ q2
   refine⟨i,b,rfl,rfl,hi,?_⟩
   simp? only [ZN] at k ⊢
   exact dr k
noncomputable def a_ (ns:List Int):D := .lst (ns.map D.int)
noncomputable def hZ (fs:List Int) (i j:Nat):List Int:=fs.map fun x=>if x=max (fs.getD i 0) (fs.getD j 0) then min (fs.getD i 0) (fs.getD j 0) else x
theorem rT (fs:List Int) (i j:Nat):(hZ fs i j).length=fs.length:=by unfold hZ;rw[pd]
theorem xt {ns:List Int} {i:Nat} (h:i < ns.length):fB (ns.map D.int) (i:Int)=some (.int (ns.getD i 0)):=by
 refine nq ?_
 rw[MJ,pb h,E5,pb h];rfl
theorem gz {K:RV->List OV->Prop} {d:D} {sl:List (Option DV)} {mu:List (Option OV)} (h:K (.p d) []):iE 0 K (.p d) ⟨sl,mu⟩:=⟨[],rfl,rfl,h⟩
noncomputable def n6:GD:=fun ys aj K=>∃ (fs:List Int) (i j:Nat),ys=[.p (a_ fs),.p (.int i),.p (.int j)]/\aj=[]/\i < fs.length/\j < fs.length/\fs.length <= 12/\K (.p (a_ (hZ fs i j))) []
noncomputable def BG:WS:=(av (aK 3 (dN (ak (d2 (aa 0) (aa 1) bj) (ak (d2 (aa 0) (aa 2) bj) ag)) wV)) (av (aK 4 (dN (ak (d2 (aa 0) (aa 1) bj) (ak (d2 (aa 0) (aa 2) bj) ag)) ug)) (aV (iD (cL (aa 0)) [none,some 4,some 3] (cy 0) g7 (AA (dT (d2 (aa 0) (aa 2) oEq)) (aa 1) (aa 0))))))
theorem Qy:∀ ys aj K',ys.length=3->n6 ys aj K'->BG (dq aj.length K') ⟨ys.map some ++ List.replicate 2 none,aj.map some⟩:=by
 rintro ys aj K' - ⟨fs,i,j,rfl,rfl,hi,hj,Hi,k⟩
 have a1:=xt hi
 have a2:=xt hj
 unfold BG a_
 refine bp fun N hN => ?_
 simp? only [a1,a2]
 subst hN
 refine bp fun N hN => ?_
 simp? only [a1,a2]
 subst hN
 simp? only []
 refine rP (fun d=>match d with
  | .int x => .int (if x=max (fs.getD i 0) (fs.getD j 0) then min (fs.getD i 0) (fs.getD j 0) else x)
  | _ => .non) (by rw[pd];omega) trivial ?_ ?_
 ·intro d hd acc L ha h
  obtain⟨x,_,rfl⟩:=V6.mp hd
  simp? only []
  cases q:aF (.int x) (.int (max (fs.getD i 0) (fs.getD j 0)))
  ·have:¬ x=max (fs.getD i 0) (fs.getD j 0):=fun z=>by rw[z,lG] at q;cases q
   simp only[this,Xx] at h
   exact⟨ha,h⟩
  ·have:x=max (fs.getD i 0) (fs.getD j 0):=by simp only[aF] at q;exact X7 q
   simp only[this,YL] at h
   exact⟨ha,h⟩
 ·refine gz ?_
  have e:(fs.map D.int).map (fun d=>match d with
   | .int x=>D.int (if x=max (fs.getD i 0) (fs.getD j 0) then min (fs.getD i 0) (fs.getD j 0) else x)
   | _ => .non)=(hZ fs i j).map D.int:=by
   unfold hZ
   rw[WU,WU];rfl
  rw[e]
  exact k
noncomputable def cB (ws:List (Int × Int × Int)) (n:Int):Nat × Nat:=((ws.getD n.toNat (0,0,0)).1.toNat,(ws.getD n.toNat (0,0,0)).2.1.toNat)
noncomputable def jz (ws:List (Int × Int × Int)) (fs:List Int) (ns:List Int):List Int:=ns.foldl (fun fs n=>hZ fs (cB ws n).1 (cB ws n).2) fs
theorem BH (ws:List (Int × Int × Int)):∀ (ns:List Int) (fs:List Int),(jz ws fs ns).length=fs.length
 | [],fs=>rfl
 | n :: r,fs=>by
  show (jz ws (hZ fs _ _) r).length=_
  rw[BH ws r,rT]
noncomputable def h8 (m:Int) (ws:List (Int × Int × Int)) (ns:List Int):List Int:=jz ws (aP m.toNat) ns
noncomputable def Nums (ws:List (Int × Int × Int)) (ns:List Int):Prop:=∀ n∈ns,0 <= n/\n < (ws.length:Int)
theorem rU {m:Int} {ws:List (Int × Int × Int)} (W:cK m ws) {n:Int} (h0:0 <= n) (h1:n < (ws.length:Int)):∃ y,ws.getD n.toNat (0,0,0)=y/\y∈ws/\fB (ws.map cz) n=some (cz y)/\∃ i j:Nat,y.1=i/\y.2.1=j/\i < m.toNat/\j < m.toNat/\i < j:=by
 obtain⟨k,rfl⟩:∃ k:Nat,n=k:=⟨n.toNat,by omega⟩
 have hk:k < ws.length:=by omega
 refine⟨ws[k],?_,Yp hk,nq ?_,?_⟩
 ·rw[WQ,E5,pb hk];rfl
 ·rw[MJ,pb hk];rfl
 ·obtain⟨a,b,c,_,_⟩:=W.ends _ (Yp hk)
  exact⟨ws[k].1.toNat,ws[k].2.1.toNat,by omega,by omega,by omega,by omega,by omega⟩
noncomputable def qq:GD:=fun ys aj K=>∃ (m:Int) (ws:List (Int × Int × Int)) (ns:List Int),cK m ws/\Nums ws ns/\((ys=[.p (aX m ws),.p (a_ ns)]/\aj=[]/\K (.p (a_ (h8 m ws ns))) [])\/(ys=[.p (aX m ws),.o 0]/\aj=[.lst (ns.map D.int)]/\K (.p (a_ (h8 m ws ns))) [.lst (ns.map D.int)]))
noncomputable def xu:WS:=(av (aK 2 (A6 (ak (d2 (aa 0) (dC (.int 0)) bj) ag))) (av (fy (cL (aa 1)) (cy 3) (av (aK 4 (d2 (d2 (aa 0) (dC (.int 1)) bj) (aa 3) bj)) (aK 2 (aq 3 n6 (ak (aa 2) (ak (d2 (aa 4) (dC (.int 0)) bj) (ak (d2 (aa 4) (dC (.int 1)) bj) ag))))))) (aV (aa 2))))
theorem Qz:∀ ys aj K',ys.length=2->qq ys aj K'->xu (dq aj.length K') ⟨ys.map some ++ List.replicate 3 none,aj.map some⟩:=by
 rintro ys aj K' - ⟨m,ws,ns,W,hn,h⟩
 have m1:=W.m1
 have lu:=W.lu
 have il:(aP m.toNat).length=m.toNat:=by unfold aP;simp
 have core:∀ (x:DV) (mu:List (Option OV)) (br:ay->Prop) (K:KS),(∀ sl,br ⟨sl,mu⟩)->(∀ fs,fs=h8 m ws ns->K.nx ⟨[some (.p (aX m ws)),some x,some (.p (a_ fs)),none,none],mu⟩)->(∀ k,x = .o k->k < mu.length) →
   kC ⟨[some (.p (aX m ws)),some x,some (.p (a_ (aP m.toNat))),none,none],mu⟩ br (cy 3) (av (aK 4 (d2 (d2 (aa 0) (dC (.int 1)) bj) (aa 3) bj)) (aK 2 (aq 3 n6 (ak (aa 2) (ak (d2 (aa 4) (dC (.int 0)) bj) (ak (d2 (aa 4) (dC (.int 1)) bj) ag)))))) K (ns.map D.int) ⟨[some (.p (aX m ws)),some x,some (.p (a_ (aP m.toNat))),none,none],mu⟩:=by
  intro x mu br K hc hK hx
  refine nV (fun i δ => δ = ⟨[some (.p (aX m ws)),some x,some (.p (a_ (jz ws (aP m.toNat) (ns.take i)))),none,none],mu⟩) rfl ?_ ?_
  ·rintro j d δ L hj rfl hL
   rw[MJ] at hj
   obtain⟨n,qr,rfl⟩:=V7.mp hj
   obtain⟨n0,n1⟩:=hn n (Xb qr)
   obtain⟨y,ey,hy,ea,i,k,e1,e2,h1,h2,_⟩:=rU W n0 n1
   refine⟨hc _,?_⟩
   simp only[cy,XA,XB]
   refine bp fun N hN => ?_
   simp? only [iQ,aX,ea]
   subst hN
   simp? only [jc,iQ,cz]
   have hlen:(jz ws (aP m.toNat) (ns.take j)).length=m.toNat:=by rw[BH,il]
   refine⟨jz ws (aP m.toNat) (ns.take j),i,k,by rw[e1,e2],rfl,by omega,by omega,by omega,?_⟩
   have ej:hZ (jz ws (aP m.toNat) (ns.take j)) i k=jz ws (aP m.toNat) (ns.take (j + 1)):=by
    have:ns.take (j + 1)=ns.take j ++ [n]:=by rw[Yj,qr];rfl
    rw[this]
    unfold jz
    rw[q0j]
    show _=hZ _ (cB ws n).1 (cB ws n).2
    have:cB ws n=(i,k):=by
     unfold cB
     rw[ey,e1,e2,WQ,WQ]
    rw[this]
   rw[ej]
   have eq:(ay.trim ⟨[some (.p (aX m ws)),some x,some (.p (a_ (aP m.toNat))),none,none],mu⟩ ⟨[some (.p (aX m ws)),some x,some (.p (a_ (jz ws (aP m.toNat) (ns.take (j + 1))))),some (.p (.int n)),some (.p (cz y))],mu⟩)=⟨[some (.p (aX m ws)),some x,some (.p (a_ (jz ws (aP m.toNat) (ns.take (j + 1))))),none,none],mu⟩:=by
    unfold ay.trim
    rw[Y8]
    cases x with
    | p d=>rfl
    | o q =>
     have:=hx q rfl
     simp only[gw,wx,this,YL]
   have:=hL _ rfl
   rw[<-eq] at this
   exact this
  ·rintro δ rfl
   rw[pd,Xm (qU _)]
   exact⟨hc _,hK _ rfl⟩
 have rg:b8 0 m.toNat=(aP m.toNat).map D.int:=rL m.toNat
 rcases h with⟨rfl,rfl,k⟩ | ⟨rfl,rfl,k⟩
 ·unfold xu
  refine bp fun N hN => ?_
  simp? only [jc,aX]
  refine⟨⟨by omega,by omega⟩,?_⟩
  subst hN
  rw[rg]
  refine bp fun N hN=>uB fun g' b' K2 hg dD hK => ?_
  simp? only [a_]
  subst hg dD hK
  refine core (.p (a_ ns)) [] _ _ (fun _=>trivial) (fun fs e => ?_) (fun k z=>by cases z)
  subst e
  show N _
  subst hN
  simp? only []
  exact gz k
 ·unfold xu
  refine bp fun N hN => ?_
  simp? only [jc,aX]
  refine⟨⟨by omega,by omega⟩,?_⟩
  subst hN
  rw[rg]
  refine bp fun N hN=>uB fun g' b' K2 hg dD hK => ?_
  simp? only []
  subst hg dD hK
  refine core (.o 0) [some (.lst (ns.map D.int))] _ _ (fun _=>rfl) (fun fs e => ?_) (fun k z=>by cases z;exact Nat.zero_lt_one)
  subst e
  show N _
  subst hN
  simp? only []
  exact⟨[.lst (ns.map D.int)],rfl,rfl,k⟩
noncomputable def uP:GD:=fun ys aj K=>∃ (m:Int) (ws:List (Int × Int × Int)),cK m ws/\ys=[.p (aX m ws)]/\aj=[]/\K (.n ((aP ws.length).map D.int)) []
noncomputable def BI:WS:=(aV (Bc (ak (dN (ak (d2 (aa 0) (dC (.int 1)) bj) ag) cN) ag)))
theorem QA:∀ ys aj K',ys.length=1->uP ys aj K'->BI (dq aj.length K') ⟨ys.map some ++ List.replicate 0 none,aj.map some⟩:=by
 rintro ys aj K' - ⟨m,ws,W,rfl,rfl,k⟩
 have:=W.iU
 unfold BI
 simp? only [iQ,aX]
 refine⟨⟨by omega,by omega⟩,[],rfl,rfl,.inl ?_⟩
 rw[WQ,rL]
 exact k
noncomputable def n8 (ls:List (List Int)):D := .lst (ls.map a_)
theorem QB {m:Int} {ws:List (Int × Int × Int)} {ns:List Int}:(h8 m ws ns).length=m.toNat:=by
 unfold h8
 rw[BH];unfold aP;simp
theorem rV {n:Nat} {z:Int} (h:z∈aP n):0 <= z/\z < (n:Int):=by
 unfold aP at h
 obtain⟨i,hi,rfl⟩:=V6.mp h
 have:=WL.mp hi
 simp;omega
theorem Ho (n:Nat):(aP n).Nodup:=by
 unfold aP
 refine XM.mpr (ZH.imp fun {a b} ne e=>ne ?_)
 exact Int.ofNat.inj e
theorem lI {H:Hp} {a:Addr} {o:HO} (h:H a=none):aA H (upd H a o):=fun b u e=>by rw[aO (dg e h)];exact e
structure xv (H:Hp) (p c:Addr) (at_ z:Int):Prop where
 lst:H p=some (.lst [.ref c,.int at_,.int z])
 cells:∃ ns:List Int,H c=some (.lst (ns.map V.int))/\ns.length <= 63
 pos:0 <= at_
theorem xv.ne {H:Hp} {p c:Addr} {k z:Int} (P:xv H p c k z):c≠p:=by
 obtain⟨ns,h,_⟩:=P.cells
 intro e
 subst e
 rw[P.lst] at h
 have h':=WY h
 injection h' with qZ
 cases ns with
 | nil=>cases qZ
 | cons n r=>injection qZ with h1 _;cases h1
theorem QC {ns:List Int} {k:Int} (h0:0 <= k) (h1:k < (ns.length:Int)):∃ n,fB (ns.map V.int) k=some (.int n):=by
 obtain⟨i,rfl⟩:∃ i:Nat,k=i:=⟨k.toNat,by omega⟩
 have hi:i < ns.length:=by omega
 refine⟨ns[i],nq ?_⟩
 rw[MJ,pb hi];rfl
noncomputable def BJ (K:PySem.W.Frag):Sp:=fun vs H Q _=>∃ (a:Addr) (ns:List Int),vs=[.ref a]/\bh K H a (ns.map V.int)/\ns.length <= 63/\∀ (p c:Addr) (H':Hp),aA H H'->H p=none->xv H' p c 0 0->Q (.ref p) H'
noncomputable def xw (K:PySem.W.Frag):Sp:=fun vs H Q _=>∃ (a:Addr) (ns:List Int),vs=[.ref a]/\bh K H a (ns.map V.int)/\ns.length <= 63/\aJ.ok H/\∀ H',Q (.bl true) H'
theorem BK (ns:List Int) (lo hi:Option Int):dj (ns.map V.int) lo hi=((ns.drop (HT.aY ns.length 0 lo)).take (HT.aY ns.length ns.length hi - HT.aY ns.length 0 lo)).map V.int:=by
 unfold dj
 rw[pd,List.map_take,List.map_drop]
theorem QD {H:Hp} {p c a:Addr} {n:Nat} (hT:aJ.ok H) (N:xv H p c 0 0):∃ (F:Hp) (ns:List Int),ns.length <= 63/\SR F [p] ⟨none :: some (.o 0) :: List.replicate n none,[some (.lst [.lst (ns.map D.int),.int 0,.int 0])]⟩ (some (.ref a) :: some (.ref p) :: List.replicate n none) H:=by
 obtain⟨ns,hc,hn⟩:=N.cells
 have ne:=N.ne
 refine⟨upd (fun _=>none) c (.lst (ns.map V.int)),ns,hn,⟨fun b o e => ?_,fun b ⟨k,ov,e1,e2⟩ => ?_,rfl,fun k l a ov ow e1 e2 _ _ => ?_,fun k ov e => ?_,fun i x e => ?_,by simp,hT,fun b hb=>by
  obtain⟨ps,q⟩:=aJ.tb hT hb
  rw[aO fun z=>by subst z;rw[hc] at q;cases q]⟩⟩
 ·by_cases z:b=c
  ·subst z;rw[bw] at e;cases e;exact hc
  ·rw[aO z] at e;cases e
 ·cases k with
  | zero=>cases (show some p=some b by simpa using e1);rw[aO (Ys ne)]
  | succ k=>simp at e1
 ·cases k with
  | zero =>
   cases l with
   | zero=>rfl
   | succ l=>simp at e2
  | succ k=>simp at e1
 ·cases k with
  | zero =>
   cases (show OV.lst [.lst (ns.map D.int),.int 0,.int 0]=ov by simpa using e)
   refine⟨p,_,rfl,N.lst,_,rfl,?_⟩
   refine .cons ?_ (.cons rfl (.cons rfl .nil))
   simp only[Is]
   exact⟨c,_,rfl,bw,mz⟩
  | succ k=>simp at e
 ·cases i with
  | zero=>simp at e
  | succ i =>
   cases i with
   | zero =>
    cases (show DV.o 0=x by simpa using e)
    exact⟨_,rfl,p,rfl,rfl⟩
   | succ i =>
    exfalso
    have e:(List.replicate n (none:Option DV))[i]? = some (some x):=by simpa using e
    rw[Zo] at e
    split at e<;>cases e
theorem QE {B:WS} {F:Hp} {ad:List Addr} {δ : ay} {σ : St} {H:Hp} {Q:VK} (S:SR F ad δ σ H) (h:B ⟨fun _=>False,fun x _=>x = .p (.bl true),fun _=>False,fun _=>False⟩ δ) (q:∀ H',Q (.bl true) H'):eT B { nx:=fun _ H'=>Q .non H',rt:=Q } σ H :=
 ⟨F,ad,δ,_,S,h,⟨fun δ' h=>h.elim,fun δ' h=>h.elim,fun δ' h=>h.elim,fun x δ' h v F' aE σ' H' E' S' V=>by
  have h:x = .p (.bl true):=h
  subst h
  have V:v = .bl true:=V
  subst V
  exact q H'⟩⟩
end LJ
namespace L2
open PySem PySem.Spec PyProof.Rows
noncomputable def BL (Ts:List (Addr × Array Value)) (H:Hp):Prop:=∀ b,(∃ ps,Ts.lookup b=some ps/\H b=some (.tbl ps))\/(Ts.lookup b=none/\(H b=none\/∃ o xs,H b=some (.frz o (.lst xs))))
theorem QF {P:Program} {w:World} {K:PySem.W.Frag} {mg mb:Str->Option Value} {CX:jE} {k:Nat} {fa a:Addr} {fd:FuncData} {x:Str} {sp:Sp} {s₁ : Shared} {vs:List Value} {ns:List Int} (Ts:List (Addr × Array Value))
  (hT:∀ b ps,Ts.lookup b=some ps->s₁.heap.get? b=some { cls := .none,data := .fields ps }/\isCodeTable s₁.heap b/\K.lookup b=none)
  (KX:K.In s₁.heap) (uQ:s₁.heap.Ns mainGlobals mg) (hb:s₁.heap.Ns builtinsNs mb) (QG:∀ x:Str,x ≠ "__name__" -> mb x=bootBuiltins x) (BM:s₁.heap.NoLimit) (hg:s₁.gens = #[])
  (ha:s₁.heap.get? a=some { cls := .type "list",data := .seq vs.toArray }) (hi:IntsAre vs ns) (hl:ns.length <= sizeLine) (hr:a7 k callerA)
  (hB:∃ bm ob,mg "__builtins__" = some (.ref bm)/\bm≠builtinsNs/\s₁.heap.get? bm=some ob/\ob.cls = .type "module" /\ ob.dict=some builtinsNs/\ob.data = .plain)
  (F:∀ base:Heap,K.In base->base.Ns mainGlobals mg->(∀ b ps,Ts.lookup b=some ps->base.BuiltinsAt mg b)->aU P w K mg base CX k fa fd [x] sp) (uR:∀ (s:Shared) (u:Value),BindsTo s fd ⟨[u],[]⟩ [(x,u)])
  (nh:∀ H:Hp,BL Ts H->bh K H a (ns.map V.int)->sp [.ref a] H (fun v _=>v = .bl true) fun _ _ _=>False)
  (BN:∀ H e s',CX [] H s₁ (fun _ _ _=>False) e s'->False) :
  codeAny (model P w) callerA (.call (.ref fa) ⟨[.ref a],[]⟩) (fun r s'=>r = .ok (.ret (.bool true))/\OldK s₁.heap s'.heap/\s'.os=s₁.os/\AllBare s'.gens) s₁ := by
 have rv:=EY hi
 have BO:=hi.length
 have aT:Ts.lookup a=none:=by
  cases q:Ts.lookup a with
  | none=>rfl
  | some ps =>
   have:=(hT a ps q).1
   rw[ha] at this
   have z:=congrArg Obj.cls (WY this)
   cases (show Value.type "list" = Value.none from z)
 have core:∀ H:Hp,BL Ts H->bh K H a (ns.map V.int)->dS P w H s₁.heap->(∀ b,Ts.lookup b=none->H b≠none->b=a)->(H a≠none->K.lookup a=none) →
   codeAny (model P w) callerA (.call (.ref fa) ⟨[.ref a],[]⟩) (fun r s'=>r = .ok (.ret (.bool true))/\OldK s₁.heap s'.heap/\s'.os=s₁.os/\AllBare s'.gens) s₁ := by
  intro H hO hS aM hA hK
  have g_:∀ {b:Addr} {o:Obj},s₁.heap.get? b=some o->H b=none->(gj s₁.heap H).get? b=some o:=fun e n=>KD e n
  have l3:∀ {b:Addr} {o:Obj} {es:Array DictEntry} {ep:Nat},s₁.heap.get? b=some o->o.data = .dict es ep->H b=none:=fun {b o es ep} e d=>by
   cases q:H b with
   | none=>rfl
   | some u =>
    cases t:Ts.lookup b with
    | some ps =>
     have:=(hT b ps t).1
     rw[e] at this;cases this
     cases d
    | none =>
     have e':b=a:=hA b t (by rw[q];simp)
     subst e'
     rw[ha] at e;cases e
     have d':Data.seq vs.toArray _=Data.dict es ep:=d
     cases d'
  have xx:∀ {b:Addr} {m:Str->Option Value},s₁.heap.Ns b m->(gj s₁.heap H).Ns b m:=fun {b m} ⟨o,es,ep,e,d,r⟩=>⟨o,es,ep,g_ e (l3 e d),d,r⟩
  have Hq:K.In (gj s₁.heap H):=fun b o e=>g_ (KX b o e) (by
   cases q:H b with
   | none=>rfl
   | some u =>
    cases t:Ts.lookup b with
    | some ps=>rw[(hT b ps t).2.2] at e;cases e
    | none =>
     have e':b=a:=hA b t (by rw[q];simp)
     subst e'
     rw[hK (by rw[q];simp)] at e;cases e)
  have QH:∀ b ps,Ts.lookup b=some ps->(gj s₁.heap H).BuiltinsAt mg b:=fun b ps t=>by
   obtain⟨bm,ob,b1,b2,b3,b4,b5,b6⟩:=hB
   refine⟨bm,ob,b1,b2,fun z => ?_,fun z => ?_,g_ b3 ?_,b4,b5,b6⟩
   ·obtain⟨o,es,ep,e1,e2,_⟩:=uQ
    rw[z,e1] at b3;cases b3
    rw[e2] at b6;cases b6
   ·have:=(hT b ps t).1
    rw[z,this] at b3;cases b3
    cases b6
   ·cases q:H bm with
    | none=>rfl
    | some u =>
     cases t':Ts.lookup bm with
     | some QI =>
      have:=(hT bm QI t').1
      rw[b3] at this;cases this
      cases b6
     | none =>
      have e':bm=a:=hA bm t' (by rw[q];simp)
      rw[e',ha] at b3;cases b3
      cases b6
  have hM:Mod K mg (gj s₁.heap H):=⟨Hq,xx uQ,⟨mb,xx hb,QG⟩,let ⟨mc,h1,h2⟩:=BM; ⟨mc,xx h1,h2⟩⟩
  have e0:lZ P w K mg (gj s₁.heap H) callerA [] s₁ H:=⟨rfl,hM,fun b o e=>KG e,Nat.le_of_eq (KC _ _),trivial,fun b hb=>absurd (show b∈([]:List Addr) from hb) (by simp),aM,.of_eq hg⟩
  refine Y7 ((F _ Hq (xx uQ) QH).run callerA [] s₁ H ⟨[.ref a],[]⟩ [.ref a] [.ref a] _ _ hr e0 (uR s₁ (.ref a)) (.cons rfl .nil) (nh H hO hS)) fun r s' h => ?_
  cases r with
  | error e=>exact (BN H e s' h).elim
  | ok fl =>
   cases fl with
   | next=>exact False.elim h
   | brk=>exact False.elim h
   | cont=>exact False.elim h
   | ret u =>
    obtain⟨v,H',os,bare,un,uS,r',q⟩:=h
    have q':v = .bl true:=q
    subst q'
    obtain rfl:u=Value.bool true:=r'
    have all:∀ b o,s₁.heap.get? b=some o->asItWas s₁.heap s'.heap b o/\∃ o',s'.heap.get? b=some o':=fun b o e=>by
     rcases hO b with⟨ps,t,z⟩ | ⟨t,z | ⟨ob,xs,z⟩⟩
     ·obtain⟨more,z2⟩:=un.gi b ps z
      have e2:s'.heap.get? b=some { cls := .none,data := .fields (ps ++ more) }:=uS b _ z2
      have e1:=(hT b ps t).1
      rw[e] at e1;cases e1
      exact⟨.inr (.inl ⟨(hT b ps t).2.1,rfl,ps,more,rfl,e2⟩),_,e2⟩
     ·have e2:=un.keep b o e z (by intro z;exact absurd (show b∈([]:List Addr) from z) (by simp)) (by simp)
      exact⟨.inl e2,_,e2⟩
     ·have z2:=un.gh b ob _ z
      obtain⟨e1,_⟩:=aM b _ z
      obtain⟨e2,_⟩:=uS b _ z2
      rw[e] at e1;cases e1
      exact⟨.inl e2,_,e2⟩
    exact⟨rfl,⟨fun b o e=>(all b o e).1,fun b o e=>(all b o e).2⟩,os,bare⟩
 have n9:∀ (H:Hp) b ps,Ts.lookup b=some ps->aI P w H s₁.heap b (.tbl ps):=fun H b ps t=>(hT b ps t).1
 cases hk:K.lookup a with
 | some o =>
  have e:=KX a o hk
  rw[ha] at e
  cases e
  have hv:∀ b,(fun b=>(Ts.lookup b).map HO.tbl:Hp) b=(Ts.lookup b).map HO.tbl:=fun _=>rfl
  refine core (fun b=>(Ts.lookup b).map HO.tbl) (fun b => ?_) (.inr ⟨_,vs.toArray,_,hk,rfl,rfl,rfl,by rw[zJ,BO];exact hl,by simpa using rv⟩) (fun b u z => ?_) (fun b t z => ?_) fun z => ?_
  ·cases t:Ts.lookup b with
   | some ps=>exact .inl ⟨ps,rfl,by show (Ts.lookup b).map HO.tbl=_;rw[t];rfl⟩
   | none=>exact .inr ⟨rfl,.inl (by show (Ts.lookup b).map HO.tbl=_;rw[t];rfl)⟩
  ·obtain⟨ps,t,rfl⟩:=V7.mp (show (Ts.lookup b).map HO.tbl=some u from z)
   exact n9 _ b ps t
  ·exact absurd (show (Ts.lookup b).map HO.tbl=none by rw[t];rfl) z
  ·exact absurd (show (Ts.lookup a).map HO.tbl=none by rw[aT];rfl) z
 | none =>
  refine core (fun b=>if b=a then some (.frz { cls := .type "list",data := .seq vs.toArray } (.lst (ns.map V.int))) else (Ts.lookup b).map HO.tbl) (fun b => ?_) (.inl (.inr ⟨{ cls := .type "list",data := .seq vs.toArray },V8 rfl⟩)) (fun b u z => ?_) (fun b t z => ?_) fun _=>hk
  ·by_cases hb:b=a
   ·subst hb
    exact .inr ⟨aT,.inr ⟨_,_,V8 rfl⟩⟩
   ·cases t:Ts.lookup b with
    | some ps=>exact .inl ⟨ps,rfl,(V0 hb).trans (by rw[t];rfl)⟩
    | none=>exact .inr ⟨rfl,.inl ((V0 hb).trans (by rw[t];rfl))⟩
  ·by_cases hb:b=a
   ·have z':=(V8 hb).symm.trans z
    cases z'
    subst hb
    exact⟨ha,by rw[pd];exact hl,vs,_,rv,ha⟩
   ·have z':=(V0 hb).symm.trans z
    obtain⟨ps,t,rfl⟩:=V7.mp z'
    exact n9 _ b ps t
  ·by_cases hb:b=a
   ·exact hb
   ·exact absurd ((V0 hb).trans (by rw[t];rfl)) z
theorem QJ {l:PySem.W.OpenLaw} {n k:Nat} {q:Program} {loose:List Str} {XP:(Str->Option Value)->Heap->Prop} {YP:World->Heap->Prop} {d:DefRec} {K:World->PySem.W.Frag} {CX:World->jE} {sp:World->Sp} {x:Str} {Ts:World->List (Addr × Array Value)}
  (hn:l.most=some n) (QK:n <= sizeLine) (s_:d.params.defaults=[]) (hr:a7 k callerA)
  (hY:∀ (w:World) (h:Heap),YP w h->(K w).In h)
  (hT:∀ (w:World) (h:Heap),YP w h->∀ b ps,(Ts w).lookup b=some ps->h.get? b=some { cls := .none,data := .fields ps }/\isCodeTable h b/\(K w).lookup b=none)
  (F:∀ (w:World) (mg:Str->Option Value) (fa:Addr) (h:Heap),(K w).In h->h.Ns mainGlobals mg->mg d.name=some (.ref fa) →
   ∃ fd:FuncData,(∀ (s:Shared) (u:Value),BindsTo s fd ⟨[u],[]⟩ [(x,u)]) ∧
    ∀ base:Heap,(K w).In base->base.Ns mainGlobals mg->(∀ b ps,(Ts w).lookup b=some ps->base.BuiltinsAt mg b)->aU l.prog w (K w) mg base (CX w) k fa fd [x] (sp w))
  (nh:∀ (w:World) (H:Hp) (a:Addr) (ns:List Int),ns.length <= n->BL (Ts w) H->bh (K w) H a (ns.map V.int)->sp w [.ref a] H (fun v _=>v = .bl true) fun _ _ _=>False)
  (BN:∀ (w:World) (H:Hp) (s:Shared) (e:Value) (s':Shared),CX w [] H s (fun _ _ _=>False) e s'->False) :
  PySem.W.WalkO q loose XP YP l.row.toRowW d [] (fun f vs=>PySem.call f vs):=by
 refine Att.ip hn s_ fun w s₀ s₁ mg mb fa o pm cd doc a vs ns G Y ho hd fJ l7 o_ hints hlen hg => ?_
 have KX:=hY w _ Y
 obtain⟨fd,hb,hF⟩:=F w mg fa _ KX G.T.g l7
 exact QF (Ts w) (hT w _ Y) KX G.T.g G.T.b G.T.builtins G.T.nolimit hg o_ hints (XO hlen QK) hr G.T.bmain hF hb (fun H hO hS=>nh w H a ns hlen hO hS) fun H e s'=>BN w H s₁ e s'
section
variable {X:Cx} {pins:List (Addr × Obj)} {σ : St} {H:Hp} {s:Shared} {h':Heap}
theorem Inv.grow {T c f:Addr} {ps more:Array Value} {oc of:HO} {t':Nat} (I:Inv X pins σ H s) (hT:H T=some (.tbl ps)) (k:∀ b u,b≠T->s.heap.get? b=some u->h'.get? b=some u) (xy:h'.get? T=some { cls := .none,data := .fields (ps ++ more) })
  (hc:s.heap.objs.size <= c) (hf:s.heap.objs.size <= f) (BP:c≠f) (QL:∀ H2,aI X.prog X.w H2 h' c oc) (QM:∀ H2,aI X.prog X.w H2 h' f of) :
  Inv X pins σ (upd (upd (upd H T (.tbl (ps ++ more))) c oc) f of) { s with heap:=h',toks:=t' }:=by
 have tl:T < s.heap.objs.size:=(I.aM T _ hT).lt
 have cT:c≠T:=Yr (WD tl hc)
 have fT:f≠T:=Yr (WD tl hf)
 have Wq:H c=none:=I.aM.fresh hc
 have Hr:H f=none:=I.aM.fresh hf
 have old:∀ b,b < s.heap.objs.size->b≠T->upd (upd (upd H T (.tbl (ps ++ more))) c oc) f of b=H b:=fun b hb nT=>by
  rw[aO (Ww (WD hb hf)),aO (Ww (WD hb hc)),aO nT]
 have atT:upd (upd (upd H T (.tbl (ps ++ more))) c oc) f of T=some (.tbl (ps ++ more)):=by
  rw[aO (Ys fT),aO (Ys cT),bw]
 have lt:∀ b u,H b=some u->b < s.heap.objs.size:=fun b u e=>(I.aM b u e).lt
 have d9:∀ b u,H b=some u->(∀ qs,u ≠ .tbl qs)->upd (upd (upd H T (.tbl (ps ++ more))) c oc) f of b=some u:=fun b u e n=>by
  rw[old b (lt b u e) (fun z=>by subst z;rw[hT] at e;cases e;exact n _ rfl)];exact e
 refine I.un (t':=t') ⟨fun b o e n _ _=>k b o (fun z=>by subst z;rw[hT] at n;cases n) e,fun b o e n _ _=>⟨o.slots,k b o (fun z=>by subst z;rw[hT] at n;cases n) e⟩,fun b o e n _ => ?_,fun b o e _ => ?_,fun b xs e=>d9 b _ e (fun _ z=>by cases z),fun b o u e=>d9 b _ e (fun _ z=>by cases z),fun b qs e => ?_⟩ fun b u e => ?_
 ·rw[old b (MK e) (fun z=>by subst z;rw[hT] at n;cases n)];exact n
 ·by_cases z:b=T
  ·subst z;exact⟨_,xy⟩
  ·exact⟨o,k b o z e⟩
 ·by_cases z:b=T
  ·subst z;rw[hT] at e;cases e;exact⟨more,atT⟩
  ·exact⟨#[],by rw[old b (lt b _ e) z,e];simp⟩
 ·by_cases z1:b=f
  ·subst z1;rw[bw] at e;cases e;exact QM _
  ·rw[aO z1] at e
   by_cases z2:b=c
   ·subst z2;rw[bw] at e;cases e;exact QL _
   ·rw[aO z2] at e
    by_cases z3:b=T
    ·subst z3;rw[bw] at e;cases e;exact xy
    ·rw[aO z3] at e
     refine aI.gg (I.aM b u e) (fun d v hd q => ?_) (fun d q=>d9 d _ q (fun _ z=>by cases z)) (fun d xs q=>d9 d _ q (fun _ z=>by cases z))
     ·refine k d v (fun y => ?_) q
      subst y
      rcases hd with y | y
      ·exact z3 y.symm
      ·rw[hT] at y;cases y
noncomputable def kJ (c:Addr) (q:Str):HO := .ext fun h=>∃ o vs tq,h.get? c=some o/\o.data = .fields vs/\vs[1]? = some (.str q tq)
theorem QN {P:Program} {w:World} {H:Hp} {h:Heap} {c:Addr} {q:Str} (e:h.CodeRec (.ref c) q):aI P w H h c (kJ c q):=by
 obtain⟨c',o,vs,tq,z,ho,hd,hq⟩:=e
 cases z
 exact⟨⟨o,vs,tq,ho,hd,hq⟩,⟨o,ho⟩,fun h1 h2 ⟨o,vs,tq,e1,e2,e3⟩ k=>⟨o,vs,tq,k o e1,e2,e3⟩⟩
theorem QO {P:Program} {w:World} {H:Hp} {h:Heap} {c:Addr} {q:Str} (x:aI P w H h c (kJ c q)):h.CodeRec (.ref c) q:=by
 obtain⟨⟨o,vs,tq,ho,hd,hq⟩,_⟩:=x
 exact⟨c,o,vs,tq,rfl,ho,hd,hq⟩
end
end L2
namespace L2
open PySem PySem.Spec PyProof.Rows PySem.W
section
variable {X:Cx} {pins:List (Addr × Obj)} {σ : St} {H:Hp} {s:Shared} {params:Arguments} {body:Expr} {scope:Scope} {pos:Pos} {iI:List (Str × Addr)} {cc T:Addr} {ps:Array Value} {E:Value->Shared->Prop} {Q:Value->Shared->Prop}
noncomputable def iJ (f:Addr) (name qual:Str) (params:Arguments) (body:Expr) (scope:Scope) (iI:List (Str × Addr)) (pm cd:Value):HO := .ext fun h=>∃ uT,h.get? f=some { cls := .type "function",data := .func (kla_fn name qual params body scope iI pm cd uT) }
noncomputable def d_ (H:Hp) (T:Addr) (pos:Pos) (qual:Str):Prop:=∃ ps,H T=some (.tbl ps)/\TriplesOk ps.toList/\(codeAmong pos ps.toList=none\/∃ c,codeAmong pos ps.toList=some (.ref c)/\H c=some (kJ c qual))
theorem Hs (I:Inv X pins σ H s) (hT:d_ H T pos (X.env.qual ++ "<lambda>")) (BQ:defaultsOf params X.env=([],[])) (lH:closureFor scope X.env=pure iI) (gM:X.env.code = .ref cc) (C:CodeHd s.heap cc T) (QP:mainGlobals≠T) (hg:s.heap.Ns mainGlobals X.mg) (hb:s.heap.BuiltinsAt X.mg T)
  (h:∀ f H' s' c,Inv X pins σ H' s'->d_ H' T pos (X.env.qual ++ "<lambda>")->(∀ b o,H b=some o->b≠T->H' b=some o)->H f=none->H' f=some (iJ f "<lambda>" (X.env.qual ++ "<lambda>") params body scope iI ((X.mg "__name__").getD .none) (.ref c))->H' c=some (kJ c (X.env.qual ++ "<lambda>"))->Q (.ref f) s') :
  wpAny (model X.prog X.w) X.A (eval (.Lambda params body scope pos) X.env) Q E s:=by
 obtain⟨ps,hP,ht,hf⟩:=hT
 have BR:s.heap.get? T=some { cls := .none,data := .fields ps }:=I.aM T _ hP
 refine kla_eval BQ ?_
 rcases hf with Ht | ⟨c,hf,xA⟩
 ·refine kla_makeFunction lH I.ok.glob hg gM C BR ht Ht QP hb fun c' uT h' tk hx xB cj BS QQ => ?_
  have hsz:s.heap.objs.size <= h'.objs.size:=XY (Zk xB cj)
  have tl:T < s.heap.objs.size:=MK BR
  have QR:T≠h'.objs.size:=Ww (WD tl hsz)
  have QS:T≠c':=Ww (WD tl xB)
  have BP:c'≠h'.objs.size:=Ww cj
  have Hu:(ps ++ #[rawInt pos.line,rawInt pos.col,Value.ref c']).toList=ps.toList ++ [rawInt pos.line,rawInt pos.col,Value.ref c']:=by simp
  have atT:upd (upd (upd H T (.tbl (ps ++ #[rawInt pos.line,rawInt pos.col,.ref c']))) c' (kJ c' (X.env.qual ++ "<lambda>"))) h'.objs.size (iJ h'.objs.size "<lambda>" (X.env.qual ++ "<lambda>") params body scope iI ((X.mg "__name__").getD .none) (.ref c')) T=some (.tbl (ps ++ #[rawInt pos.line,rawInt pos.col,.ref c'])):=by
   rw[aO QR,aO QS,bw]
  have atC:upd (upd (upd H T (.tbl (ps ++ #[rawInt pos.line,rawInt pos.col,.ref c']))) c' (kJ c' (X.env.qual ++ "<lambda>"))) h'.objs.size (iJ h'.objs.size "<lambda>" (X.env.qual ++ "<lambda>") params body scope iI ((X.mg "__name__").getD .none) (.ref c')) c'=some (kJ c' (X.env.qual ++ "<lambda>")):=by
   rw[aO BP,bw]
  refine h h'.objs.size _ _ c' (I.grow (t':=tk) (oc:=kJ c' (X.env.qual ++ "<lambda>")) (of:=iJ h'.objs.size "<lambda>" (X.env.qual ++ "<lambda>") params body scope iI ((X.mg "__name__").getD .none) (.ref c')) hP (fun b u nb e=>sW _ (hx b u nb e)) (sW _ QQ) xB hsz BP (fun _=>QN (BS.push _)) fun _ => ?_) ⟨_,atT,?_,.inr ⟨c',?_,atC⟩⟩ (fun b o e nb => ?_) (I.aM.fresh hsz) bw atC
  ·exact⟨⟨uT,MM _ rfl⟩,⟨_,MM _ rfl⟩,fun h1 h2 ⟨v,e⟩ k=>⟨v,k _ e⟩⟩
  ·rw[Hu];exact TriplesOk_snoc _ _ _ _ ht
  ·rw[Hu];exact codeAmong_snoc _ ht Ht
  ·have bl:b < s.heap.objs.size:=(I.aM b o e).lt
   rw[aO (Ww (WD bl hsz)),aO (Ww (WD bl xB)),aO nb];exact e
 ·refine kla_makeFunctionHit lH I.ok.glob hg gM C BR ht hf hb fun uT h' tk hk hsz => ?_
  have hn:H h'.objs.size=none:=I.aM.fresh hsz
  refine h h'.objs.size _ _ c (I.laid (a:=h'.objs.size) (o:=iJ h'.objs.size "<lambda>" (X.env.qual ++ "<lambda>") params body scope iI ((X.mg "__name__").getD .none) (.ref c)) (t':=tk) (fun b u e=>sW _ (hk b u e)) hsz ?_) ⟨ps,?_,ht,.inr ⟨c,hf,?_⟩⟩ (fun b o e _ => ?_) hn bw ?_
  ·exact⟨⟨uT,MM _ rfl⟩,⟨_,MM _ rfl⟩,fun h1 h2 ⟨v,e⟩ k=>⟨v,k _ e⟩⟩
  ·rw[aO (dg hP hn)];exact hP
  ·rw[aO (dg xA hn)];exact xA
  ·rw[aO (dg e hn)];exact e
  ·rw[aO (dg xA hn)];exact xA
end
structure LD where
 A:Around
 cl:List (Str × Addr)
 f:Addr
 cd:Value
 s:Shared
 H:Hp
@[reducible] noncomputable def mI (X:Cx) (qual:Str) (scope:Scope) (Nb:List Str) (d:LD):Cx where
 prog:=X.prog
 w:=X.w
 K:=X.K
 mg:=X.mg
 base:=X.base
 A:=d.A.deeper (envX qual scope d.s.heap.objs.size d.f d.cd d.cl)
 N:=Nb
 s₀ := d.s
 H₀ := d.H
 env:=envX qual scope d.s.heap.objs.size d.f d.cd d.cl
 outer:=X.stack
 stack:=envX qual scope d.s.heap.objs.size d.f d.cd d.cl :: X.stack
 ex:=[]
 fn:=fun _=>false
 calm:=true
 pn:=[]
 xe:=fun _ _=>False
noncomputable def uU (N:List Str) (vZ scope:Scope) (x:Str) (Nb:List Str) (cp:List (Option Nat)):Bool :=
 lq N vZ scope (x :: Nb) (none :: cp) && (scope.names.all fun y=>decide (y.2 ≠ .cell)) && decide (scope.names.lookup x=some .local) && cp.all (·.isSome)
section
variable {X:Cx} {pins:List (Addr × Obj)} {σ : St} {H:Hp} {s:Shared} {params:Arguments} {body:Expr} {scope:Scope} {cl:List (Str × Addr)} {E:Value->Shared->Prop} {Q:VK} {name qual x:Str} {f c:Addr} {pm:Value} {A:Around} {v:V} {u:Value} {Nb:List Str} {cp:List (Option Nat)} {t:TE}
theorem Hv (I:Inv X pins σ H s) (hf:H f=some (iJ f name qual params body scope cl pm (.ref c))) (hc:H c=some (kJ c qual)) (hA:A.frames=some X.stack) (hh:A.handled=none) (hd:A.depth < recursionLimit)
  (hk:scope.kind = .function) (ho:uU X.N X.env.scope scope x Nb cp=true) (QT:scope.isCoroutine=false) (BU:scope.isGenerator=false)
  (mJ:∀ y c,cl.lookup y=some c->X.env.cells.lookup y=some c) (rW:∀ y∈scope.names,y.2 = .free->∃ c,cl.lookup y.1=some c)
  (hb:∀ (ct:Value),bindArgs (kla_fn name qual params body scope cl pm (.ref c) ct) ⟨[u],[]⟩=pure [(x,u)]) (r:RelV v u)
  (J:JE (mI X qual scope (x :: Nb) ⟨A,cl,f,.ref c,s,H⟩) body t) (h:t (some v :: iL cp σ) H Q):wpAny (model X.prog X.w) A (call (.ref f) [u]) (EP X pins σ Q) E s:=by
 unfold uU at ho
 simp only[Xu,XW,W8] at ho
 obtain⟨⟨⟨ho,Hw⟩,hx⟩,cps⟩:=ho
 have S:=q8Y hk ho
 obtain⟨⟨ct,QU⟩,_⟩:=I.aM f _ hf
 have fJ:=QO (I.aM c _ hc)
 refine wpAny_call (kla_callFunE hd QU rfl QT BU rfl fJ ?_)
 rw[hb ct]
 refine vW (wpAny_newFunctionEnv (fun y hy=>Hw y hy) (fun y hy=>by rw[WZ.mp hy];exact hx) (fun h₁ uQ tG => ?_) hk)
 have uV:∀ b o,s.heap.get? b=some o->h₁.get? b=some o:=fun b o e=>tG.extBut b o (Ww (MK e)) (sW _ e)
 refine⟨I.nolimit.keeps uV,?_⟩
 have e0:=I.sN
 show codeAny _ _ (.expr body (envX qual scope s.heap.objs.size f (.ref c) cl)) _ _
 have l3:∀ b:Addr,b∉(mI X qual scope (x :: Nb) ⟨A,cl,f,.ref c,s,H⟩).ex:=fun b z=>absurd (show b∈([]:List Addr) from z) (by simp)
 have mem:∀ {y:Str} {k:NameKind},scope.names.lookup y=some k->(y,k)∈scope.names:=fun e=>XG e
 have I1:Inv (mI X qual scope (x :: Nb) ⟨A,cl,f,.ref c,s,H⟩) [] (some v :: iL cp σ) H { s with heap:=h₁,toks:=s.toks + [(x,u)].length }:=by
  refine⟨⟨e0.mod,hk,rfl,rfl,qU _,fun y z d h1 h2=>I.ok.inj y z d (mJ y d h1) (mJ z d h2),fun y hy => ?_,fun y d z _=>(by cases z),fun _=>hh,Around.frames_deeper hA,.inr ⟨rfl,rfl⟩,fun b z=>absurd z (l3 b),e0.bs,e0.mY,fun b _ _=>l3 b,fun b z=>absurd z (l3 b),e0.fu,e0.oF⟩,
   rfl,e0.bare,Un.kept uV,⟨_,uQ,fun i y w h1 h2 h3 => ?_⟩,fun y d hy => ?_,e0.aM.fresh (qU _),fun y d hy=>I.c6 y d (mJ y d hy),fun p hp=>absurd (show p∈([]:List (Addr × Obj)) from hp) (by simp),e0.aM.kept uV,?_⟩
  ·have hy:scope.names.lookup y=some .cell\/scope.names.lookup y=some .free:=hy
   rcases hy with hy | hy
   ·exact absurd rfl (Hw _ (mem hy))
   ·exact rW _ (mem hy) rfl
  ·cases i with
   | zero =>
    cases (show some x=some y by simpa using h1)
    cases (show v=w by simpa using h2)
    exact⟨u,r,.inl ⟨hx,by simp⟩⟩
   | succ j =>
    have h1:Nb[j]? = some y:=by simpa using h1
    have h2:(iL cp σ)[j]? = some (some w):=by simpa using h2
    unfold iL at h2
    rw[MJ] at h2
    obtain⟨o,q1,q2⟩:=V7.mp h2
    match o,q2 with
    | none,q2=>cases q2
    | some i',q2 =>
     have q2:(σ[i']?).join=some w:=q2
     obtain⟨n1,n2⟩:=S.tj (j + 1) i' y (by simpa using q1) (by simpa using h1)
     have hs : σ[i']? = some (some w):=by
      cases q : σ[i']? with
      | none=>rw[q] at q2;cases q2
      | some z=>rw[q] at q2;cases (show z=some w from q2);rfl
     have kd:=S.free _ (mem n2) rfl
     obtain⟨m,hn,hl⟩:=I.loc
     obtain⟨u',rv,lk⟩:=hl i' y w n1 hs (by rcases kd with z | z;exact .inr (.inl z);exact .inr (.inr z))
     refine⟨u',rv,?_⟩
     rcases lk with⟨z,_⟩ | ⟨_,d,e1,o,e2,e3⟩
     ·rcases kd with k | k<;>(rw[show X.env.kindOf y=some .local from z] at k;cases k)
     ·obtain⟨d',e4⟩:=rW _ (mem n2) rfl
      have:=mJ _ _ e4
      rw[e1] at this;cases this
      exact .inr ⟨.inr n2,d,e4,o,uV _ _ e2,e3⟩
  ·obtain⟨z,o,e2,e3⟩:=I.cell y d (mJ y d hy)
   exact⟨z,o,uV _ _ e2,e3⟩
  ·have:=S.len
   show (some v :: iL cp σ).length=(x :: Nb).length
   unfold iL
   rw[My,pd]
   simpa using this
 refine kla_codeExpr (Yq (J.out [] _ _ H Q I1 h) (fun u' s' hs => ?_) fun e s' hs=>hs.elim)
 obtain⟨w,H',J',rv,q⟩:=hs
 exact I.after ⟨w,H',J'.os,J'.bare,J'.base,J'.aM,rv,q⟩
end
noncomputable def kK (h:Heap) (k:LK) (v:Value):Prop:=∃ a o xs n,v = .ref a/\h.get? a=some o/\o.cls = .type "tuple" /\ o.data = .seq xs n/\IntsAre xs.toList k
section
variable {prog:Program} {w:World} {A:Around} {E:Value->Shared->Prop} {s:Shared} {Q:Bool->Shared->Prop}
theorem Hx {fin:Bool}:∀ {us ws:List Value} {ks ls:LK} (i:Nat),IntsAre us ks->IntsAre ws ls->fin=decide (us.length < ws.length)->Q (HT.lexLt ks ls) s->KatLex prog w A true fin Q (us.zip ws) i s
 | _,_,_,_,i,.nil,.nil,hf,h=>by
  rw[q0g]
  subst hf
  exact h
 | _,_,_,_,i,.nil,.cons m u r,hf,h=>by
  rw[q0g]
  have:fin=true:=by rw[hf];simp
  subst this
  exact h
 | _,_,_,_,i,.cons n t r,.nil,hf,h=>by
  rw[List.zip_nil_right]
  have:fin=false:=by rw[hf];simp
  subst this
  exact h
 | _,_,_,_,i,.cons n t r,.cons m u r',hf,h=>by
  rw[Z9]
  refine kat_cons (wpAny_eqBool_int (kat_go (fun e => ?_) fun e => ?_))
  ·have e:n=m:=X7 e
   subst e
   rw[HT.oX,V8 rfl] at h
   exact kat_yes (Hx (i + 1) r r' (by rw[hf];simp) h)
  ·have e:¬ n=m:=fun z=>by subst z;simp at e
   rw[HT.oX,V0 e] at h
   refine kat_no ?_
   cases q:(true && i == 0) with
   | true=>exact oneLt_int h
   | false=>exact kat_one _ _ (PyProof.Rows.lt_int h)
theorem QV {k l:LK} {x y:Value} (hx:kK s.heap k x) (hy:kK s.heap l y) (h:Q (HT.lexLt k l) s):wpAny (model prog w) A (keyLt' (tuples' true) x y) Q E s:=by
 obtain⟨a,o,xs,n,rfl,h1,_,h2,h3⟩:=hx
 obtain⟨b,o',ys,n',rfl,g1,_,g2,g3⟩:=hy
 exact kat_lt h1 h2 g1 g2 (Hx 0 h3 g3 (by rw[E7,E7]) h)
theorem Hy {h:Heap}:∀ {keys:List Value} {ks:List LK},(∀ k∈ks,k≠[])->keys.length=ks.length->(∀ (i:Nat) (k:LK) (v:Value),ks[i]? = some k->keys[i]? = some v->kK h k v)->∃ fs,KatTups h keys fs/\fs.length=keys.length/\∀ v∈fs,∃ n t,v=Value.int n t
 | [],[],_,_,_=>⟨[],.nil,rfl,fun v hv=>nomatch hv⟩
 | [],_ :: _,_,hl,_=>by simp at hl
 | _ :: _,[],_,hl,_=>by simp at hl
 | v :: keys,k :: ks,gD,hl,ht=>by
  obtain⟨fs,t,hf,hi⟩:=Hy (h:=h) (keys:=keys) (ks:=ks) (fun k hk=>gD k (E6 _ hk)) (by simpa using hl) fun i k v e1 e2=>ht (i + 1) k v (by simpa using e1) (by simpa using e2)
  obtain⟨a,o,xs,n,rfl,h1,hc,h2,h3⟩:=ht 0 k v rfl rfl
  have hk:=gD k vX
  generalize hx:xs.toList=xl at h3
  cases h3 with
  | nil=>exact absurd rfl hk
  | cons m t' r =>
   have h0:xs[0]? = some (.int m t'):=by rw[<-WJ,hx];rfl
   refine⟨.int m t' :: fs,.cons h1 hc h2 h0 t,by rw[My,My,hf],fun v hv => ?_⟩
   rcases ML.mp hv with rfl | hv
   ·exact⟨m,t',rfl⟩
   ·exact hi v hv
theorem QW {M:Model} {keys:List Value} {ks:List LK} {Q:SortKind->Shared->Prop} (h0:0 < keys.length) (gD:∀ k∈ks,k≠[]) (hl:keys.length=ks.length) (ht:∀ (i:Nat) (k:LK) (v:Value),ks[i]? = some k->keys[i]? = some v->kK s.heap k v) (h:Q (tuples' true) s) :
  wpAny M A (keyKind' keys.toArray) Q E s:=by
 obtain⟨fs,t,hf,hi⟩:=Hy gD hl ht
 refine kat_kind (T := .type "int") t (by omega) (fun v hv => ?_) (by decide) ?_
 ·obtain⟨n,t',rfl⟩:=hi v hv
  exact .now
 ·exact h
theorem getD_some {α : Type} {l:List α} {i:Nat} {d : α} (h:i < l.length):l[i]? = some (l.getD i d):=by
 rw[pb h,E5,pb h];rfl
theorem QX {a kS:Addr} {e1:Nat} {vs keys:List Value} {ks:List LK} {P:PySem.Fin->Shared->Prop} (hv:keys.length=vs.length) (nD:vs.length < 64) (gD:∀ k∈ks,k≠[]) (hl:keys.length=ks.length) (ht:∀ (i:Nat) (k:LK) (v:Value),ks[i]? = some k->keys[i]? = some v->kK s.heap k v)
  (fin:∀ st (p:Array Nat),(arrOf st).map (·.2)=List.toArray (p.toList.map fun i=>vs.getD i Value.none)->failedOf st=none->dU vs.length p->Up (fun i=>ks.getD i []) p vs.length->wpAny (model prog w) A (ksk_tail a false e1 (.ref kS) st) P E s) :
  wpAny (model prog w) A (ksk_end a false vs.toArray e1 (.ref kS) (List.toArray keys)) P E s:=by
 unfold ksk_end
 try dsimp only
 simp only[WC,Xx]
 by_cases h2:vs.toArray.size < 2
 ·rw[V8 h2,V8 h2]
  refine l8 (vW ?_)
  rw[StateT.run_pure]
  refine l8 (vW ?_)
  try dsimp only
  rw[zJ] at h2
  refine fin _ (List.range vs.length).toArray ?_ rfl ⟨Array.Perm.refl _⟩ fun i j jQ hj => ?_
  ·have QY:arrOf (SortSt.mk' general' (keys.toArray.zip vs.toArray) #[] 7 none)=(List.toArray (List.range vs.length)).map (kas_item (keys.toArray.zip vs.toArray)):=by
    have e:=kas_range (keys.toArray.zip vs.toArray)
    rw[show (keys.toArray.zip vs.toArray).size=vs.length by simp[hv]] at e
    rw[e]
   exact kat_snds hv QY
  ·have:i=j:=by omega
   subst this
   exact kle_refl _
 ·rw[V0 h2,V0 h2]
  rw[zJ] at h2
  refine l8 (QW (by omega) gD hl ht ?_)
  refine l8 (Yq (kat_run (κ := tuples' true) (E:=E) (Q:=fun jk s'=>s'=s/\∃ p:Array Nat,arrOf jk=p.map (kas_item (keys.toArray.zip vs.toArray))/\failedOf jk=none/\dU vs.length p/\Up (fun i=>ks.getD i []) p vs.length)
   (G:=fun p s'=>s'=s/\dU vs.length p/\Up (fun i=>ks.getD i []) p vs.length) hv (by omega) nD (fun p jk s' a1 a2 a3 a4=>⟨a4.1,p,a2,a3,a4.2.1,a4.2.2⟩) ?_) ?_ fun _ _ x=>x)
  ·refine O9 (k:=fun i=>ks.getD i []) (I:=fun s'=>s'=s) (fun i j C s' hi hj e hC => ?_) (by omega) rfl fun p s' a1 a2 a3=>⟨a3,a1,a2⟩
   subst e
   exact QV (ht i _ _ (getD_some (by omega)) (getD_some (by omega))) (ht j _ _ (getD_some (by omega)) (getD_some (by omega))) (hC _ rfl)
  ·rintro ⟨⟨⟩,jk⟩ s' ⟨rfl,p,a1,a2,a3,a4⟩
   try dsimp only
   exact fin jk p (kat_snds hv a1) a2 a3 a4
end
theorem ba.at {X:Cx} {pins:List (Addr × Obj)} {H H':Hp} {b:Addr} (f:ba X pins H b) (h:H' b=none):ba X pins H' b:=⟨h,f.2⟩
section
variable {X:Cx} {pins:List (Addr × Obj)} {σ : St} {H:Hp} {s:Shared} {A:Around} {E:Value->Shared->Prop} {a:Addr} {vs:List Value} {f:Value}
theorem Inv.eX {h':Heap} {t':Nat} {b:Addr} (I:Inv X pins σ H s) (fb:ba X pins H b) (k:∀ c o,c≠b->s.heap.get? c=some o->h'.get? c=some o):Inv X pins σ H { s with heap:=h',toks:=t' } :=
 I.turned k fb.1 fb.2.1 fb.2.2.2.1 fb.2.2.2.2.1 fb.2.2.2.2.2
theorem Inv.gA {b:Addr} {o:Obj} (I:Inv X pins σ H s) (fb:ba X pins H b) (e:s.heap.get? b=some o) (hc:∀ v,o.data ≠ .cell v):Inv X ((b,o) :: pins) σ H s :=
 I.fz fun p hp=>by
  rcases ML.mp hp with rfl | hp
  ·exact⟨e,fb.1,fb.2.1,fb.2.2.1,hc⟩
  ·exact I.pin p (VZ _ hp)
theorem Inv.b9 {p:Addr × Obj} (I:Inv X (p :: pins) σ H s):Inv X pins σ H s:=I.fz fun q hq=>I.pin q (VZ _ (E6 _ hq))
theorem ba.cons {b:Addr} {p:Addr × Obj} (f:ba X pins H b) (n:p.1≠b):ba X (p :: pins) H b :=
 ⟨f.1,f.2.1,f.2.2.1,f.2.2.2.1,f.2.2.2.2.1,fun q hq=>by
  rcases WX.mp hq with z | z
  ·exact f.2.2.2.2.2 q (Xf _ z)
  ·rcases ML.mp z with rfl | z
   ·exact n
   ·exact f.2.2.2.2.2 q (VZ _ z)⟩
theorem qt {c:String} {xs:Array Value} {n:Nat}:∀ v,(seqObj c xs n).data ≠ .cell v:=fun v z=>by cases z
theorem QZ {P:List V->Hp->Prop} {n0:Nat} {R:PySem.Fin->Shared->Prop} (I:Inv X pins σ H s) (fa:ba X pins H a) (ha:s.heap.get? a=some (seqObj "list" vs.toArray n0)) (nD:vs.length < 64) (p0:P [] H)
  (je:∀ (bx:List (Addr × Obj)) (v:Value) (kvs:List V) (H':Hp) (s':Shared),vs[kvs.length]? = some v->Inv X bx σ H' s'->P kvs H'->wpAny (model X.prog X.w) A (call f [v]) (EP X bx σ fun k i8=>P (kvs ++ [k]) i8) (fun _ _=>False) s')
  (fin:∀ kvs H',kvs.length=vs.length->P kvs H'->∃ ks:List LK,ks.length=vs.length/\(∀ k∈ks,k≠[])/\(∀ (i:Nat) (k:LK),ks[i]? = some k->∃ t,kvs[i]? = some (.ref t)/\H' t=some (.tup (k.map V.int))) ∧
   ∀ (p:Array Nat) (s':Shared) (c:Nat),dU vs.length p->Up (fun i=>ks.getD i []) p vs.length->Inv X pins σ H' s'->ba X pins H' a->s'.heap.get? a=some (seqObj "list" (List.toArray (p.toList.map fun i=>vs.getD i Value.none)) c)->R (.done (.ret .none)) s') :
  wpAny (model X.prog X.w) A (ksk_tree a f false) R E s:=by
 unfold ksk_tree
 refine l8 (listItems_at ha rfl ?_)
 refine l8 (listUpdate_at ha rfl ?_ (by rw[zJ,X1];omega) (Xl _))
 have sb:=W7 s.heap a (Obj.mapSeq fun _=>(#[]:Array Value))
 obtain⟨e1,gT⟩:∃ e1,(s.heap.update a (Obj.mapSeq fun _=>(#[]:Array Value))).get? a=some (seqObj "list" #[] e1):=⟨_,ZW ha fun _ => #[]⟩
 have I1:Inv X pins σ H { s with heap:=s.heap.update a (Obj.mapSeq fun _=>(#[]:Array Value)) }:=I.eX (t':=s.toks) fa fun c o n e=>(sb.2 c n).trans e
 refine l8 (seqEpoch_at gT rfl ?_)
 refine l8 (wpAny_newTuple ?_ (by show vs.length <= _;rw[X1];omega))
 refine l8 (q0o ?_ (Xl _))
 refine W6 ?_
 generalize Wr:s.heap.update a (Obj.mapSeq fun _=>(#[]:Array Value))=g0 at gT I1
 show wpAny _ _ (ksk_rest a f false vs.toArray e1 (.ref (g0.push (seqObj "tuple" vs.toArray 0)).objs.size)) R E { s with heap:=(g0.push (seqObj "tuple" vs.toArray 0)).push (seqObj "list" #[] 0) }
 have I2:Inv X pins σ H { s with heap:=(g0.push (seqObj "tuple" vs.toArray 0)) }:=I1.kept (h':=g0.push (seqObj "tuple" vs.toArray 0)) (t':=s.toks) fun b u e=>sW _ e
 have gC:(g0.push (seqObj "tuple" vs.toArray 0)).get? a=some (seqObj "list" #[] e1):=sW _ gT
 generalize g0.push (seqObj "tuple" vs.toArray 0)=g1 at I2 gC
 have fk:ba X pins H g1.objs.size:=I2.gX (qU _) (I2.aM.fresh (qU _))
 have I3:Inv X pins σ H { s with heap:=g1.push (seqObj "list" #[] 0) }:=I2.kept (h':=g1.push (seqObj "list" #[] 0)) (t':=s.toks) fun b u e=>sW _ e
 have uW:g1.objs.size≠a:=Yr (MK gC)
 have I4:=(I3.gA fk (MM _ rfl) qt).gA (fa.cons (p:=(g1.objs.size,seqObj "list" #[] 0)) uW) (sW _ gC) qt
 generalize g1.objs.size=kS at I4 uW fk
 unfold ksk_rest
 refine l8 (Z5 ?_)
 first
  | rw[List.forIn_toArray]
  | (rw[<-Zl];simp only[List.toList_toArray])
  | rw[<-Zl]
 refine l8 (ksk_fold (fun i s'=>∃ H' kvs ks e,Inv X ((a,seqObj "list" #[] e1) :: (kS,seqObj "list" (List.toArray ks) e) :: pins) σ H' s'/\P kvs H'/\Vals kvs ks/\kvs.length=i) vs 0 _ ⟨H,[],[],0,I4,p0,.nil,rfl⟩ ?step ?done)
 case step =>
  rintro j x s' hx ⟨H',kvs,ks,e,J,pk,rv,hl⟩
  rw[Xd] at hl
  have hj:j < vs.length:=(pe.mp hx).1
  refine l8 (wpAny_attempt (Yq (je _ x kvs H' s' (by rw[hl];exact hx) J pk) (fun u s2 hs => ?_) fun _ _ z=>z.elim))
  obtain⟨k,H2,J2,r2,p2⟩:=hs
  try dsimp only
  have pa:=J2.pin (a,seqObj "list" #[] e1) (VZ _ (.head _))
  have jS:=J2.pin (kS,seqObj "list" (List.toArray ks) e) (VZ _ (.tail _ (.head _)))
  have lk:ks.length=j:=by rw[<-rv.length];exact hl
  refine l8 (listUpdate_at jS.1 rfl ?_ (by rw[zJ,X1];omega) (XO (Nat.le_of_eq (q0I ..)) (by rw[zJ,X1];omega)))
  have s1:=W7 s2.heap kS (Obj.mapSeq (·.push u))
  have ea:(List.toArray ks).push u=List.toArray (ks ++ [u]):=by simp
  obtain⟨c2,jn⟩:∃ c2,(s2.heap.update kS (Obj.mapSeq (·.push u))).get? kS=some (seqObj "list" (List.toArray (ks ++ [u])) c2):=⟨_,by rw[<-ea];exact ZW jS.1 (·.push u)⟩
  have J3:=J2.b9.b9
  have J4:Inv X pins σ H2 { s2 with heap:=s2.heap.update kS (Obj.mapSeq (·.push u)) }:=J3.eX (t':=s2.toks) (fk.at jS.2.1) fun c o n e=>(s1.2 c n).trans e
  refine vW ⟨rfl,H2,kvs ++ [k],ks ++ [u],c2,?_,p2,rv.append (.cons r2 .nil),by rw[EZ,hl,Xd];rfl⟩
  exact (J4.gA (fk.at jS.2.1) jn qt).gA ((fa.at pa.2.1).cons uW) ((s1.2 a uW.symm).trans pa.1) qt
 case done =>
  rintro s' ⟨H',kvs,ks,e,J,pk,rv,hl⟩
  rw[Xd] at hl
  have pa:=J.pin (a,seqObj "list" #[] e1) (VZ _ (.head _))
  have jS:=J.pin (kS,seqObj "list" (List.toArray ks) e) (VZ _ (.tail _ (.head _)))
  have lk:ks.length=vs.length:=by rw[<-rv.length];exact hl
  obtain⟨kk,k1,k2,k3,k4⟩:=fin kvs H' hl pk
  try dsimp only
  refine l8 (listItems_at jS.1 rfl ?_)
  refine QX (ks:=kk) lk nD k2 (by rw[lk,k1]) (fun i k v e1 e2 => ?_) fun st p BV hf hp up => ?_
  ·obtain⟨t,e3,e4⟩:=k3 i k e1
   obtain⟨u,e5,e6⟩:=rv.get e3
   rw[e2] at e5;cases e5
   cases e6
   obtain⟨ah,r',it,_⟩:=J.tuple (bI.of e4)
   obtain⟨o,o1,o2,n,o3⟩:=it
   exact⟨t,o,_,n,rfl,o1,o2,o3,by simpa using intsAre_of r'⟩
  ·have hz:(p.toList.map fun i=>vs.getD i Value.none).length=vs.length:=by rw[pd,E7,hp.size]
   unfold ksk_tail
   try dsimp only
   rw[BV]
   refine l8 (listUpdate_at jS.1 rfl ?_ (by rw[zJ,X1];omega) (Xl _))
   refine l8 (q0k ?_)
   have s1:=W7 s'.heap kS (Obj.mapSeq fun _=>(#[]:Array Value))
   have na:(s'.heap.update kS (Obj.mapSeq fun _=>(#[]:Array Value))).get? a=some (seqObj "list" #[] e1):=(s1.2 a uW.symm).trans pa.1
   refine l8 (seqEpoch_at na rfl ?_)
   simp only[WC,Xx]
   refine l8 (listUpdate_at na rfl ?_ (Xl _) (XO (Nat.le_of_eq (by rw[zJ,hz])) (by rw[X1];omega)))
   rw[hf]
   simp only[bne_self_eq_false,WC,Xx]
   have J1:Inv X pins σ H' { s' with heap:=s'.heap.update kS (Obj.mapSeq fun _=>(#[]:Array Value)) }:=J.b9.b9.eX (t':=s'.toks) (fk.at jS.2.1) fun c o n e=>(s1.2 c n).trans e
   have s2:=W7 (s'.heap.update kS (Obj.mapSeq fun _=>(#[]:Array Value))) a (Obj.mapSeq fun _=>List.toArray (p.toList.map fun i=>vs.getD i Value.none))
   have J2:Inv X pins σ H' { s' with heap:=(s'.heap.update kS (Obj.mapSeq fun _=>(#[]:Array Value))).update a (Obj.mapSeq fun _=>List.toArray (p.toList.map fun i=>vs.getD i Value.none)) }:=J1.eX (t':=s'.toks) (fa.at pa.2.1) fun c o n e=>(s2.2 c n).trans e
   obtain⟨c2,jn⟩:∃ c2,((s'.heap.update kS (Obj.mapSeq fun _=>(#[]:Array Value))).update a (Obj.mapSeq fun _=>List.toArray (p.toList.map fun i=>vs.getD i Value.none))).get? a=some (seqObj "list" (List.toArray (p.toList.map fun i=>vs.getD i Value.none)) c2):=⟨_,ZW na fun _=>List.toArray (p.toList.map fun i=>vs.getD i Value.none)⟩
   exact vW (k4 p _ c2 hp up J2 (fa.at pa.2.1) jn)
end
section
variable {prog:Program} {w:World} {A:Around} {E:Value->Shared->Prop} {s:Shared}
theorem Q0 {Q:List Value->Shared->Prop} {r:Addr} {a b c:Int} {t u v:Tok} {n:Nat} (hh:A.handled=none) (hr:IsRange s.heap r a b c t u v) (qu:Builtin.Range.small a b c=true)
  (hn:Builtin.Range.rangeSize a b c=n) (hlen:n <= 2 ^ 24)
  (hQ:∀ h' tk bR,(∀ b o,s.heap.get? b=some o->h'.get? b=some o)->ItemsOf (fun i v=>∃ t,v = .int (a + i * c) t) bR n->Q bR.toList { s with heap:=h',toks:=tk }):wpAny (model prog w) A (collect (.ref r)) Q E s:=by
 have key:∀ R:Result->Shared->Prop,(∀ h' tk bR c',(∀ b o,s.heap.get? b=some o->h'.get? b=some o)->h'.get? s.heap.objs.size=some { cls := .type "list",dict:=none,data := .seq bR c',slots := #[] }->ItemsOf (fun i v=>∃ t,v = .int (a + i * c) t) bR n->R (.ok (.ret (.ref s.heap.objs.size))) { s with heap:=h',toks:=tk })->codeAny (model prog w) A (.builtin "proto.collect" ⟨[.ref r],[]⟩) R s:=by
  intro R hR
  refine Xs F.entry_proto_collect ?_
  rw[Xe F.plain_proto_collect _]
  show wpAny _ A.in1 (newList [] >>= fun l=>again (.builtin "list.__iadd__" ⟨[l,.ref r],[]⟩)) _ _ s
  refine l8 (Xn ?_)
  refine vW ⟨Ye Zy _,Xs F.entry_list_iadd ?_⟩
  rw[Xe Zy _]
  show wpAny _ A.in1 (Builtin.List.listExtendWith (.ref s.heap.objs.size) (.ref r) (.ref s.heap.objs.size)) _ _ _
  have Q1:(s.heap.push { cls := .type "list",data := .seq ([]:List Value).toArray }).get? s.heap.objs.size=some { cls := .type "list",data := .seq #[] 0 }:=MM _ rfl
  refine wpAny_extend_range (R:=R) (s:={ s with heap:=s.heap.push { cls := .type "list",data := .seq ([]:List Value).toArray } }) hh (sW _ hr) qu hn hlen s.heap.objs.size (.ref s.heap.objs.size) 0 Q1 fun h' tk bR c' hk k_ iV => ?_
  exact hR h' tk bR c' (fun b o e=>hk b o (Ww (MK e)) (sW _ e)) k_ iV
 unfold collect
 refine l8 (Z6 (key _ fun h' tk bR c' hk k_ iV => ?_))
 show wpAny _ A (load s.heap.objs.size >>= _) _ _ _
 refine l8 (wpAny_load k_ ?_)
 exact vW (hQ h' tk bR hk iV)
end
section
variable {X:Cx} {pins:List (Addr × Obj)} {σ : St} {H:Hp} {s:Shared} {E:Value->Shared->Prop}
theorem Inv.uX {a:Addr} {o:HO} (I:Inv X pins σ H s) (fa:ba X pins H a) (ha:X.s₀.heap.objs.size <= a) (new:aI X.prog X.w (upd H a o) s.heap a o):Inv X pins σ (upd H a o) s:=by
 obtain⟨f0,f1,f2,_,f4,f5⟩:=fa
 have ne:∀ {b u},H b=some u->b≠a:=fun e z=>by rw[z,f0] at e;cases e
 refine⟨I.ok,I.os,I.bare,⟨I.base.keep,I.base.slot,fun b u e n hx => ?_,I.base.there,fun b xs e => ?_,fun b u v e => ?_,fun b ps e => ?_⟩,I.loc,I.cell,?_,fun x c e => ?_,fun p hp => ?_,fun b u e => ?_,I.len⟩
 ·rw[aO (Ww (WD (MK e) ha))];exact I.base.free b u e n hx
 ·have:=I.base.fH b xs e
  rw[aO (ne this)];exact this
 ·have:=I.base.gh b u v e
  rw[aO (ne this)];exact this
 ·obtain⟨more,this⟩:=I.base.gi b ps e
  exact⟨more,by rw[aO (ne this)];exact this⟩
 ·rw[aO (Ys f1)];exact I.free
 ·rw[aO (f4 x c e)];exact I.c6 x c e
 ·obtain⟨e1,e2,e3⟩:=I.pin p hp
  exact⟨e1,by rw[aO (f5 p hp)];exact e2,e3⟩
 ·by_cases z:b=a
  ·subst z;rw[bw] at e;cases e;exact new
  ·rw[aO z] at e
   refine (I.aM b u e).gg (fun c v _ q=>q) (fun c q => ?_) fun c xs q => ?_
   ·rw[aO (ne q)];exact q
   ·rw[aO (ne q)];exact q
theorem Q2 {xs:List V} {vs:List Value} (r:Vals xs vs) {p:List Nat} (hp:∀ i∈p,i < vs.length):Vals (p.map fun i=>xs.getD i .non) (p.map fun i=>vs.getD i Value.none):=by
 induction p with
 | nil=>exact .nil
 | cons i q ih =>
  refine .cons ?_ (ih fun j hj=>hp j (E6 _ hj))
  have hi:=hp i vX
  obtain⟨u,e1,e2⟩:=r.get (getD_some (l:=xs) (d:=V.non) (by rw[r.length];exact hi))
  have:=getD_some (l:=vs) (d:=Value.none) hi
  rw[this] at e1;cases e1
  exact e2
theorem dU.mem {n:Nat} {p:Array Nat} (h:dU n p) {i:Nat} (hi:i∈p.toList):i < n:=by
 have:=(q0a.mp h.perm).mem_iff.mp hi
 simpa using this
theorem Q3 {l q:Addr} {P:List V->Hp->Prop} {xs:List V} {Q:Value->Shared->Prop} (I:Inv X pins σ H s)
  (col:∀ Q':List Value->Shared->Prop,(∀ h' tk vs,(∀ b o,s.heap.get? b=some o->h'.get? b=some o)->Vals xs vs->Q' vs { s with heap:=h',toks:=tk })->wpAny (model X.prog X.w) X.A.in1 (collect (.ref l)) Q' E s)
  (nD:xs.length < 64) (p0:P [] H)
  (je:∀ (bx:List (Addr × Obj)) (x:V) (u:Value) (kvs:List V) (H':Hp) (s':Shared),xs[kvs.length]? = some x->RelV x u->Inv X bx σ H' s'->P kvs H'->wpAny (model X.prog X.w) X.A.in1.in1 (call (.ref q) [u]) (EP X bx σ fun k i8=>P (kvs ++ [k]) i8) (fun _ _=>False) s')
  (fin:∀ kvs H',kvs.length=xs.length->P kvs H'->∃ ks:List LK,ks.length=xs.length/\(∀ k∈ks,k≠[])/\(∀ (i:Nat) (k:LK),ks[i]? = some k->∃ t,kvs[i]? = some (.ref t)/\H' t=some (.tup (k.map V.int))) ∧
   ∀ (p:Array Nat) (s':Shared) (a:Addr),dU xs.length p->Up (fun i=>ks.getD i []) p xs.length->H' a=none->Inv X pins σ (upd H' a (.lst (p.toList.map fun i=>xs.getD i .non))) s'->Q (.ref a) s') :
  wpAny (model X.prog X.w) X.A (call (.builtin "sorted") [.ref l] [(Str.ofString "key",.ref q)]) Q E s:=by
 refine call_function_entry_kw kind_sorted plain_sorted entry_sorted (ksk_s1 _ _) ?_
 unfold Builtin.«sorted»
 refine l8 (m:=checkCount "sorted" 1 1 _) (vW ?_)
 refine l8 (col _ fun h' tk vs kp rv => ?_)
 have lv:vs.length=xs.length:=rv.length.symm
 refine l8 (q0o ?_ (by rw[X1];omega))
 have I1:Inv X pins σ H { s with heap:=h',toks:=tk }:=I.kept kp
 have fa:ba X pins H h'.objs.size:=I1.gX (qU _) (I1.aM.fresh (qU _))
 have Q4:X.s₀.heap.objs.size <= h'.objs.size:=I1.sz
 have I2:Inv X pins σ H { s with heap:=h'.push (seqObj "list" vs.toArray 0),toks:=tk }:=I1.kept (h':=h'.push (seqObj "list" vs.toArray 0)) (t':=tk) fun b u e=>sW _ e
 have m9:(h'.push (seqObj "list" vs.toArray 0)).get? h'.objs.size=some (seqObj "list" vs.toArray 0):=MM _ rfl
 refine l8 (W6 (wpAny_call_entry_kw slot_list_sort ⟨_,m9,rfl⟩ entry_list_sort ?body (ksk_l1 _ _)))
 case body =>
  show wpAny (model X.prog X.w) X.A.in1.in1 (Builtin.«list.sort» ⟨[.ref h'.objs.size],[(Str.ofString "key",.ref q)]⟩) _ _ _
  rw[ksk_t1]
  refine QZ (P:=P) I2 fa m9 (by omega) p0 (fun bx v kvs H' s' hv J pk => ?_) fun kvs H' hl pk => ?_
  ·have hi:kvs.length < xs.length:=by rw[<-lv];exact (pe.mp hv).1
   obtain⟨u,e1,e2⟩:=rv.get (pb hi)
   rw[hv] at e1;cases e1
   exact je bx _ v kvs H' s' (pb hi) e2 J pk
  ·obtain⟨ks,k1,k2,k3,k4⟩:=fin kvs H' (by omega) pk
   refine⟨ks,by omega,k2,k3,fun p s' c hp up J fj e=>⟨_,rfl,?_⟩⟩
   rw[lv] at hp up
   refine vW ⟨_,rfl,k4 p s' h'.objs.size hp up fj.1 (J.uX fj Q4 ?_)⟩
   have hz:(p.toList.map fun i=>xs.getD i V.non).length=xs.length:=by rw[pd,E7,hp.size]
   exact⟨by rw[hz,X1];omega,_,c,Q2 rv fun i hi=>by rw[lv];exact hp.mem hi,e⟩
end
theorem af.at {H:Hp} {ds:List D} {vs:List V} {i:Nat} {d:D} {v:V} (h:af H ds vs) (e1:ds[i]? = some d) (e2:vs[i]? = some v):Is H d v:=by
 obtain⟨d',e3,h'⟩:=h.get e2
 rw[e1] at e3;cases e3
 exact h'
theorem af.uY {H:Hp}:∀ {ds:List D} {vs:List V},vs.length=ds.length->(∀ (i:Nat) (d:D),ds[i]? = some d->∃ v,vs[i]? = some v/\Is H d v)->af H ds vs
 | [],[],_,_ => .nil
 | [],_ :: _,h,_=>by simp at h
 | _ :: _,[],h,_=>by simp at h
 | d :: ds,v :: vs,h,g=>by
  obtain⟨v',e,h1⟩:=g 0 d rfl
  cases (show some v=some v' from e)
  exact .cons h1 (af.uY (by simpa using h) fun i d e=>by simpa using g (i + 1) d (by simpa using e))
structure n_ where
 T:Addr
 pos:Pos
 qual:Str
theorem d_.same {H H':Hp} {T:Addr} {pos:Pos} {q:Str} (h:d_ H T pos q) (s:aA H H'):d_ H' T pos q:=by
 obtain⟨ps,e,t,c⟩:=h
 exact⟨ps,s _ _ e,t,c.imp id fun ⟨c,e1,e2⟩=>⟨c,e1,s _ _ e2⟩⟩
theorem d_.keep {H H':Hp} {T T':Addr} {pos:Pos} {q:Str} (h:d_ H T pos q) (ne:T≠T') (hT:∃ ps,H T'=some (.tbl ps)) (s:∀ b o,H b=some o->b≠T'->H' b=some o):d_ H' T pos q:=by
 obtain⟨ps,e,t,c⟩:=h
 refine⟨ps,s _ _ e ne,t,c.imp id fun ⟨c,e1,e2⟩=>⟨c,e1,s _ _ e2 fun z => ?_⟩⟩
 obtain⟨qs,hT⟩:=hT
 rw[z,hT] at e2;cases e2
theorem d_.put {H:Hp} {T a:Addr} {pos:Pos} {q:Str} {o o':HO} (h:d_ H T pos q) (ha:H a=some o) (hk:(∃ vs,o = .lst vs)\/∃ ws,o = .dK ws):d_ (upd H a o') T pos q:=by
 obtain⟨ps,e,t,c⟩:=h
 have ne:∀ {b u},H b=some u->(∀ vs,u ≠ .lst vs)->(∀ ws,u ≠ .dK ws)->b≠a:=fun {b u} e n1 n2 z=>by
  subst z
  rw[ha] at e;cases e
  rcases hk with⟨_,z⟩ | ⟨_,z⟩
  ·exact n1 _ z
  ·exact n2 _ z
 refine⟨ps,by rw[aO (ne e (fun _ z=>by cases z) fun _ z=>by cases z)];exact e,t,c.imp id fun ⟨c,e1,e2⟩=>⟨c,e1,?_⟩⟩
 rw[aO (ne e2 (fun _ z=>by cases z) fun _ z=>by cases z)];exact e2
@[reducible] noncomputable def qv (ls:List n_):aJ where
 ad:=ls.map (·.T)
 ok:=fun H=>∀ l∈ls,d_ H l.T l.pos l.qual
 same:=fun h s l hl=>(h l hl).same s
 put:=fun h ha hk l hl=>(h l hl).put ha hk
 tb:=fun h ha=>by
  obtain⟨l,hl,rfl⟩:=V6.mp ha
  obtain⟨ps,e,_⟩:=h l hl
  exact⟨ps,e⟩
variable [aJ]
structure BW (T:Addr) (pos:Pos) (q:Str):Prop where
 mem:T∈aJ.ad
 get:∀ H:Hp,aJ.ok H->d_ H T pos q
 put:∀ H H':Hp,aJ.ok H->d_ H' T pos q->(∀ b o,H b=some o->b≠T->H' b=some o)->aJ.ok H'
omit [aJ] in
theorem Hz {ls:List n_} {l:n_} (hl:l∈ls) (nd:∀ a∈ls,∀ b∈ls,a.T=b.T->a=b):@BW (qv ls) l.T l.pos l.qual:=by
 letI:aJ:=qv ls
 refine⟨Zc hl,fun H h=>h l hl,fun H H' h t k l' hW => ?_⟩
 by_cases z:l'.T=l.T
 ·rw[nd _ hW _ hl z];exact t
 ·obtain⟨ps,e,_⟩:=h l hl
  exact (h l' hW).keep z ⟨ps,e⟩ k
structure Q5 (X:Cx) (T:Addr):Prop where
 code:∃ cc,X.env.code = .ref cc/\CodeHd X.base cc T
 ng:mainGlobals≠T
 blt:X.base.BuiltinsAt X.mg T
section
variable {F H H':Hp} {ad:List Addr} {δ : ay} {σ : St}
theorem SR.uZ (S:SR F ad δ σ H) (k:∀ b o,H b=some o->b∉aJ.ad->H' b=some o) (tk:aJ.ok H'):SR (Nw F H H') ad δ σ H':=by
 have sm:=Nw.same (H':=H') S.sub
 have nF:∀ {a o},F a=some o->a∉aJ.ad:=fun {a o} e t=>by rw[S.nt a t] at e;cases e
 have nO:∀ {i a ov},ad[i]? = some a -> δ.mu[i]? = some (some ov)->a∉aJ.ad:=fun {i a ov} e1 e2 t=>by
  obtain⟨a',o,e3,e4,h⟩:=S.mu i ov e2
  rw[e1] at e3;cases e3
  obtain⟨ps,q⟩:=aJ.tb S.tab t
  rw[e4] at q;cases q
  rcases h.kind with⟨_,z⟩ | ⟨_,z⟩<;>cases z
 refine⟨fun a o e => ?_,fun a l => ?_,S.b_,S.inj,fun i ov e => ?_,fun i x e => ?_,S.len,tk,fun a ha => ?_⟩
 ·unfold Nw at e
  cases q:H a with
  | none=>rw[q] at e;exact e
  | some u=>rw[q] at e;exact k a o (S.sub a o e) (nF e)
 ·obtain⟨i,ov,e1,e2⟩:=l
  obtain⟨a',o,e3,e4,_⟩:=S.mu i ov e2
  rw[e1] at e3;cases e3
  unfold Nw;rw[e4];exact S.off a ⟨i,ov,e1,e2⟩
 ·obtain⟨a,o,e1,e2,h⟩:=S.mu i ov e
  exact⟨a,o,e1,k a o e2 (nO e1 e),h.same sm⟩
 ·obtain⟨v,e1,h⟩:=S.sl i x e
  refine⟨v,e1,?_⟩
  cases x with
  | p d=>exact Is.same sm h
  | o k=>exact h
 ·obtain⟨ps,q⟩:=aJ.tb S.tab ha
  unfold Nw;rw[q];exact S.nt a ha
theorem Ext.uZ (S:SR F ad δ σ H) (k:∀ b o,H b=some o->b∉aJ.ad->H' b=some o) (tk:aJ.ok H'):Ext F ad δ.mu H (Nw F H H') ad δ.mu H' where
 same:=Nw.same S.sub
 new:=fun a o e=>by
  unfold Nw at e
  cases q:H a with
  | none=>exact .inr (.inl rfl)
  | some u=>rw[q] at e;exact .inl e
 keep:=fun a o e _ t=>k a o e t
 pre:=fun _ _ e=>e
 cm:=fun _ l => .inl l
 iA:=fun a o e=>by
  by_cases t:a∈aJ.ad
  ·obtain⟨ps,q⟩:=aJ.tb tk t
   exact⟨_,q⟩
  ·exact⟨o,k a o e t⟩
theorem SR.oa {sl:List (Option DV)} {mu:List (Option OV)} {τ : St} {d:D} {v:V} (S:SR F ad ⟨sl,mu⟩ τ H) (h:Is F d v):SR F ad ⟨some (.p d) :: sl,mu⟩ (some v :: τ) H:=by
 refine⟨S.sub,S.off,S.b_,S.inj,S.mu,fun i x e => ?_,by have:=S.len;simp only[My];exact congrArg (· + 1) this,S.tab,S.nt⟩
 cases i with
 | zero=>cases (show some (some (DV.p d))=some (some x) from e);exact⟨v,rfl,h⟩
 | succ i=>exact S.sl i x e
theorem Ext.jA {F' H':Hp} {aE:List Addr} {dE:List (Option OV)} {a:Addr} {o:HO} (S:SR F ad δ σ H) (e:Ext F ad δ.mu H F' aE dE H') (h:H a=some o) (n1:∀ vs,o ≠ .lst vs) (n2:∀ ws,o ≠ .dK ws) (n3:∀ ps,o ≠ .tbl ps):H' a=some o:=by
 refine e.keep a o h (fun ⟨i,ov,e1,e2⟩ => ?_) fun t => ?_
 ·obtain⟨a',u,e3,e4,q⟩:=S.mu i ov e2
  rw[e1] at e3;cases e3
  rw[h] at e4;cases e4
  rcases q.kind with⟨_,z⟩ | ⟨_,z⟩
  ·exact n1 _ z
  ·exact n2 _ z
 ·obtain⟨ps,q⟩:=aJ.tb S.tab t
  rw[h] at q;exact n3 _ (WY q)
end
noncomputable def HA (cp:List (Option Nat)) (fb:WE) (δ : ay) (ds:List D) (key:D->LK):Prop :=
 ∀ d∈ds,key d≠[]/\fb ⟨some (.p d) :: dF cp δ.sl,δ.mu⟩ fun y δ'=>y = .p (.tup ((key d).map D.int)) /\ δ'.mu = δ.mu
noncomputable def sortBy (cp:List (Option Nat)) (fb:WE) (δ : ay) (ds:List D) (K:List D->Prop):Prop :=
 ds.length < 64/\∃ key:D->LK,HA cp fb δ ds key/\∀ out:List D,out.Perm ds->(out.map key).Pairwise kle->K out
section
variable {X:Cx} {params:Arguments} {body:Expr} {scope:Scope} {c9:Pos} {x:Str} {Nb:List Str} {cp:List (Option Nat)} {fb:WE} {T:Addr}
structure fV (X:Cx) (params:Arguments) (body:Expr) (scope:Scope) (c9:Pos) (T:Addr) (x:Str) (Nb:List Str) (cp:List (Option Nat)) (fb:WE):Prop where
 env:Q5 X T
 tbl:BW T c9 (X.env.qual ++ "<lambda>")
 HB:defaultsOf params X.env=([],[])
 kind:scope.kind = .function
 names:uU X.N X.env.scope scope x Nb cp=true
 co:scope.isCoroutine=false
 gen:scope.isGenerator=false
 bind:∀ (cl:List (Str × Addr)) (pm cd ct u:Value),bindArgs (kla_fn "<lambda>" (X.env.qual ++ "<lambda>") params body scope cl pm cd ct) ⟨[u],[]⟩=pure [(x,u)]
 room:∃ k,a7 (k + 3) X.A/\∀ d:LD,a7 k (d.A.deeper (envX (X.env.qual ++ "<lambda>") scope d.s.heap.objs.size d.f d.cd d.cl))->JE (mI X (X.env.qual ++ "<lambda>") scope (x :: Nb) d) body (tD fb)
theorem Q6 {pins:List (Addr × Obj)} {σ : St} {H:Hp} {s:Shared} {E:Value->Shared->Prop} {l:Addr} {F:Hp} {ad:List Addr} {δ : ay} {ds:List D} {xs:List V} {fK pos:Pos} {Q:VK} (L:fV X params body scope c9 T x Nb cp fb)
  (I:Inv X pins σ H s) (S:SR F ad δ σ H) (hx:af F ds xs)
  (col:∀ (s:Shared) (H':Hp),Inv X pins σ H' s->(∀ b o,H b=some o->b∉aJ.ad->H' b=some o)->∀ Q':List Value->Shared->Prop,(∀ h' tk vs,(∀ b o,s.heap.get? b=some o->h'.get? b=some o)->Vals xs vs->Q' vs { s with heap:=h',toks:=tk })->wpAny (model X.prog X.w) X.A.in1 (collect (.ref l)) Q' E s)
  (hs:sortBy cp fb δ ds fun out=>∀ a F' H' us,Ext F ad δ.mu H F' ad δ.mu H'->SR F' ad δ σ H'->H' a=none->af F' out us->Q (.ref a) (upd H' a (.lst us))) :
  wpAny (model X.prog X.w) X.A (evalAll ((backToKw pos (keywordEach [⟨some "key",.Lambda params body scope c9,fK⟩] X.env)).map (·.2))) (fun kvs s₂ => wpAny (model X.prog X.w) X.A (call (.builtin "sorted") [.ref l] (((backToKw pos (keywordEach [⟨some "key",.Lambda params body scope c9,fK⟩] X.env)).filterMap (·.1)).zip kvs)) (EP X pins σ Q) E s₂) E s:=by
 obtain⟨nD,key,hk,K⟩:=hs
 obtain⟨k,kL,J⟩:=L.room
 obtain⟨cc,gM,hC⟩:=L.env.code
 show wpAny _ _ (evalAll [do let v <- eval (.Lambda params body scope c9) X.env;standAt pos;pure v]) _ _ _
 refine evalAll_cons (l8 ?_)
 have qw:=L.names
 unfold uU at qw
 simp only[Xu,XW,W8] at qw
 have SC:=q8Y L.kind qw.1.1.1
 obtain⟨cl,lH,mJ,rW⟩:=zL (scope:=scope) (env:=X.env) fun y hy e=>I.ok.has y.1 (SC.free y hy e)
 refine Hs I (L.tbl.get H S.tab) L.HB lH gM (hC.keeps I.bk) L.env.ng (I.mod.glob.keeps I.bk) (L.env.blt.keeps I.bk) fun f H1 s1 c I1 t1 k1 Hr hf hc => ?_
 refine l8 (Y1 (vW ?_))
 refine evalAll_nil ?_
 show wpAny _ _ (call (.builtin "sorted") [.ref l] [(Str.ofString "key",.ref f)]) _ _ _
 have kT:∀ b o,H b=some o->b∉aJ.ad->H1 b=some o:=fun b o e t=>k1 b o e fun z=>t (by rw[z];exact L.tbl.mem)
 have jr:=L.tbl.put H H1 S.tab t1 k1
 have S1:=S.uZ kT jr
 have E1:=Ext.uZ S kT jr
 have lx:=hx.length
 refine Q3 (xs:=xs) (P:=fun kvs H'=>∃ F',Ext F ad δ.mu H F' ad δ.mu H'/\SR F' ad δ σ H'/\H' f=some (iJ f "<lambda>" (X.env.qual ++ "<lambda>") params body scope cl ((X.mg "__name__").getD .none) (.ref c))/\H' c=some (kJ c (X.env.qual ++ "<lambda>"))/\∀ (i:Nat) (d:D) (kv:V),ds[i]? = some d->kvs[i]? = some kv->Is F' (.tup ((key d).map D.int)) kv)
  I1 (col s1 H1 I1 kT) (by omega) ⟨_,E1,S1,hf,hc,fun i d kv _ e=>by simp at e⟩ (fun bx v u kvs H' s' hv rv I' ⟨F',E',S',oe,ie,oh⟩ => ?_) fun kvs H' hl ⟨F',E',S',oe,ie,oh⟩ => ?_
 ·have hi:kvs.length < ds.length:=by rw[<-lx];exact (pe.mp hv).1
  have hd:=pb hi
  have BX:Is F' ds[kvs.length] v:=af.at (hx.same E'.same) hd hv
  obtain⟨Q7,BY⟩:=hk _ (Yp hi)
  have r2:a7 (k + 1) X.A.in1.in1:=(a7.in1 (a7.in1 (k:=k + 2) kL))
  refine Hv I' oe ie (by rw[show X.A.in1.in1.frames=X.A.frames from rfl];exact I'.ok.frames) r2.hd r2.depth L.kind L.names L.co L.gen mJ rW (fun ct=>L.bind cl _ _ ct u) rv (J ⟨X.A.in1.in1,cl,f,.ref c,s',H'⟩ (r2.deeper _)) ?_
  refine⟨F',ad,_,_,(S'.pN (cp:=cp)).oa BX,BY,fun y δ' ⟨ey,em⟩ w F2 bP H2 E2 S2 V2 => ?_⟩
  subst ey
  have ea:bP=ad:=by
   have l2:bP.length=ad.length:=by rw[S2.b_,em,S'.b_]
   refine YE fun i => ?_
   by_cases hi:i < ad.length
   ·rw[pb hi];exact E2.pre i _ (pb hi)
   ·rw[XI (by omega),XI (by omega)]
  subst ea
  obtain⟨yS,dE⟩ := δ'
  have em:dE = δ.mu:=em
  subst em
  refine⟨F2,E'.trans E2,SR.back S' E2 S2,E2.jA S' oe (fun _ z=>by cases z) (fun _ z=>by cases z) (fun _ z=>by cases z),E2.jA S' ie (fun _ z=>by cases z) (fun _ z=>by cases z) (fun _ z=>by cases z),fun i d kv e1 e2 => ?_⟩
  by_cases mC:i < kvs.length
  ·rw[V9 mC] at e2
   exact Is.same E2.same (oh i d kv e1 e2)
  ·have:i=kvs.length:=by
    have:=(pe.mp e2).1
    rw[EZ,WM] at this
    omega
   subst this
   rw[Wx (qU _),Xo] at e2
   cases (show some w=some kv from e2)
   rw[hd] at e1;cases e1
   exact V2
 ·refine⟨ds.map key,by rw[pd];omega,fun k i9 => ?_,fun i k' e => ?_,fun p s' a hp up ha I' => ?_⟩
  ·obtain⟨d,hd,rfl⟩:=V6.mp i9
   exact (hk d hd).1
  ·rw[MJ] at e
   obtain⟨d,hd,rfl⟩:=V7.mp e
   have hi:i < kvs.length:=by rw[hl,lx];exact (pe.mp hd).1
   have is:=oh i d _ hd (pb hi)
   simp only[Is] at is
   obtain⟨t,us,e1,e2,e3⟩:=is
   refine⟨t,by rw[pb hi,e1],?_⟩
   rw[<-my e3];exact S'.sub _ _ e2
  ·have pm:(p.toList.map fun i=>ds.getD i .non).Perm ds:=by
    have h1:=(q0a.mp hp.perm).map fun i=>ds.getD i .non
    have h2:(List.range xs.length).map (fun i=>ds.getD i D.non)=ds:=by
     refine YE fun i => ?_
     rw[MJ]
     by_cases hi:i < ds.length
     ·rw[Xr (by omega),q0H,pb hi,E5,pb hi];rfl
     ·rw[XI (by rw[Xv];omega),XI (by omega)];rfl
    rw[show (List.range xs.length).toArray.toList=List.range xs.length from rfl,h2] at h1
    exact h1
   refine⟨.ref a,_,I',rfl,K _ pm ?_ a _ _ _ E' S' ha ?_⟩
   ·rw[WU,Y_]
    intro i j hi hj jQ
    rw[pd,E7,hp.size] at hi hj
    have:=up i j (XY jQ) hj
    unfold KA at this
    rw[Yb,Yb]
    have gp:∀ {i:Nat} (h:i < p.toList.length),p.getD i 0=p.toList[i]:=fun {i} h=>by
     have h':i < p.size:=by rw[<-E7];exact h
     simp[Array.getD,h']
    have gk:∀ {i:Nat},i < ds.length->(ds.map key).getD i []=key (ds.getD i .non):=fun {i} h=>by
     rw[E5,MJ,pb h,E5,pb h];rfl
    have pi:=hp.lt hi
    have pj:=hp.lt hj
    dsimp only at this
    rw[gk (by omega),gk (by omega),gp (by rw[E7,hp.size];exact hi),gp (by rw[E7,hp.size];exact hj)] at this
    exact this
   ·refine af.uY ?_ fun i d e => ?_
    ·rw[pd,pd]
    ·rw[MJ] at e ⊢
     obtain⟨z,e1,rfl⟩:=V7.mp e
     rw[e1]
     have hz:=hp.mem (Xb e1)
     refine⟨_,rfl,af.at (hx.same E'.same) (getD_some (by omega)) (getD_some (by omega))⟩
end
structure HC (mg:Str->Option Value) (base:Heap) (fd:FuncData) (T:Addr) (pos:Pos) (q:Str):Prop where
 code:∃ cc,fd.code = .ref cc/\CodeHd base cc T
 ng:mainGlobals≠T
 blt:base.BuiltinsAt mg T
 tbl:BW T pos q
theorem cq.u4 {P:Program} {w:World} {K:PySem.W.Frag} {mg:Str->Option Value} {base:Heap} {x qual:Str} {st:Stmt} {f:Addr} {fd:FuncData} {N ps:List Str} {k:Nat} {G:GD} (F:cq K x qual st f fd) (S:di N ps (bL st))
  (dY:∀ (a5:Value) (A:Around) (outer:List Env) (s:Shared) (H:Hp) (E:XK),fd.code=a5->a7 k (A.deeper (envOfC qual (bL st) s.heap.objs.size f a5)) →
   ∃ B:WS,fO (gr bS P w K mg base N qual (bL st) f a5 A outer s H E).lT (jI st) (eT B)/\∀ ys aj K',ys.length=ps.length->G ys aj K'->B (dq aj.length K') ⟨ys.map some ++ List.replicate (N.length - ps.length) none,aj.map some⟩) :
  aU P w K mg base bS (k + 1) f fd ps (aQ G ps.length):=by
 obtain⟨oc,od,kV,doc,pm,an,a5,ct,l4,rfl,lk,fJ⟩:=F.ex
 refine ED lk fJ S (fun vs H Q E h=>h.1) fun A outer s H vs Q E hr h => ?_
 obtain⟨hl,Fz,ad,ys,aj,K',S0,g,kk⟩:=h
 obtain⟨B,jb,hb⟩:=dY a5 A outer s H E rfl hr
 have hy:ys.length=ps.length:=by
  have:=S0.len
  rw[pd] at this
  rw[<-hl,this];show _=(ys.map some).length;rw[pd]
 refine⟨_,jb.out.lT,Fz,ad,⟨ys.map some ++ List.replicate (N.length - ps.length) none,aj.map some⟩,dq aj.length K',by rw[<-hl];exact S0.start,hb ys aj K' hy g,⟨fun δ' h F' aE σ' H' E' S' => ?_,fun δ' h=>h.elim,fun δ' h=>h.elim,fun y δ' h v F' aE σ' H' E' S' V => ?_⟩⟩
 ·exact wD (σ' := σ') S0 E' S' (x := .p .non) (v := .non) rfl h kk
 ·exact wD (σ' := σ') S0 E' S' V h kk
section
variable {X:Cx} {params:Arguments} {body a e:Expr} {scope:Scope} {c9 p1 p2 q1 q2 fK:Pos} {x:Str} {Nb:List Str} {cp:List (Option Nat)} {fb f:WE} {fa:WA} {T:Addr}
noncomputable def BZ (fa:WA) (cp:List (Option Nat)) (fb:WE):WE:=fun δ K=>fa δ fun xs δ1=>match xs with
 | [.p (.int j)]=>(0 <= j/\j <= 60)/\sortBy cp fb δ1 (b8 0 j.toNat) fun out=>K (.o δ1.mu.length) ⟨δ1.sl,δ1.mu ++ [some (.lst out)]⟩
 | _=>False
theorem Q8 (L:fV X params body scope c9 T x Nb cp fb) (hc:X.calm=true) (u5:Gl X "sorted") (hs:X.mg "sorted" = none) (u6:bootBuiltins "sorted" = some (.builtin "sorted")) (kG:Gl X "range") (hr:X.mg "range" = none) (jO:bootBuiltins "range" = some (.type "range")) (ha:JA X [a] (cE fa))
  (he:starEach [a] X.env=[(false,eval a X.env)]) (M:ay->List D->Prop)
  {pins:List (Addr × Obj)} {s:Shared} {σ : St} {H:Hp} {Q:VK} {F:Hp} {ad:List Addr} {δ : ay} (I:Inv X pins σ H s) (S:SR F ad δ σ H)
  (q:fa δ fun xs δ1=>match xs with
   | [.p (.int j)]=>(0 <= j/\j <= 60)/\sortBy cp fb δ1 (b8 0 j.toNat) (M δ1)
   | _=>False)
  (fin:∀ δ1 out,M δ1 out->∀ a F' aE H' us,Ext F ad δ.mu H F' aE δ1.mu H'->SR F' aE δ1 σ H'->H' a=none->af F' out us->Q (.ref a) (upd H' a (.lst us))) :
  wpAny (model X.prog X.w) X.A (eval (.Call (.Name "sorted" p1) [.Call (.Name "range" p2) [a] [] q2] [⟨some "key",.Lambda params body scope c9,fK⟩] q1) X.env) (EP X pins σ Q) X.xe s:=by
 refine YT (lR I u5 hs u6 ?_)
 refine callWith_kw ?_
 refine a0 ((iy (lr Ar kG hr jO ha (he:=he)) a8).out q1 pins s σ H (fun vs H2=>∃ (r:Addr) (j:Int) (F1:Hp) (aR:List Addr) (δ1:ay) (H1:Hp),vs=[.ref r]/\H2=upd H1 r (.rng 0 j)/\H1 r=none/\Ext F ad δ.mu H F1 aR δ1.mu H1/\SR F1 aR δ1 σ H1/\(0 <= j/\j <= 60)/\sortBy cp fb δ1 (b8 0 j.toNat) (M δ1)) I ?_) fun us s1 B0 => ?_
 ·refine⟨F,ad,δ,_,S,q,fun xs δ1 h1 vs F1 aR H1 E1 S1 V1 => ?_⟩
  split at h1
  ·rename_i j
   obtain⟨v,r,e,W1,W2⟩:=V1
   have W2:r=[]:=W2
   have W1:v = .int j:=W1
   subst W2 W1 e
   exact⟨j,rfl,fun rr uh=>⟨rr,j,F1,aR,δ1,H1,rfl,rfl,uh,E1,S1,h1.1,h1.2⟩⟩
  ·exact h1.elim
 ·obtain⟨vs,H2,I2,r2,r,j,F1,aR,δ1,H1,ev,eH,Q9,E1,S1,hj,xC⟩:=B0
  subst ev eH
  obtain⟨u,rfl,rx⟩:=vals1 r2
  cases rx
  have sm:aA H1 (upd H1 r (.rng 0 j)):=de Q9
  have S2:=S1.al sm
  have E2:=Ext.al S1 sm
  obtain⟨n,rfl⟩:∃ n:Nat,j=n:=⟨j.toNat,by omega⟩
  rw[WQ,rL] at xC
  refine Q6 L I2 S2 (ds:=(aP n).map D.int) (xs:=(aP n).map V.int) mz (fun s' H' I' kp Q' hQ => ?_) ?_
  ·have xD:H' r=some (.rng 0 (n:Int)):=kp r _ bw fun t=>by
    obtain⟨ps,z⟩:=aJ.tb S2.tab t
    rw[bw] at z;cases z
   obtain⟨t,u,v,e⟩:=(show ∃ t u v,s'.heap.get? r=some { cls := .type "range",data := .fields #[.int 0 t,.int (n:Int) u,.int 1 v] } from I'.aM r _ xD)
   have hsz:Builtin.Range.rangeSize 0 (n:Int) 1=n:=by rw[rangeSize_one];split<;>omega
   refine Q0 (n:=n) (by rw[Zm];exact I'.ok.hd hc) e (small_one (by omega) (by omega) (by omega) (by omega)) hsz (by omega) fun h' tk acc Q_ it=>hQ h' tk _ Q_ ?_
   refine As ?_ fun i u e => ?_
   ·rw[E7,it.1,aP,pd,Xv]
   ·rw[WJ] at e
    obtain⟨t',e2⟩:=it.2 i u e
    have hi:i < n:=by rw[<-it.1];exact (XQ.mp e).1
    refine⟨t',e2.trans ?_⟩
    rw[aP,E5,MJ,Xr hi]
    show Value.int (0 + (i:Int) * 1) t'=Value.int (i:Int) t'
    rw[Int.zero_add,Int.mul_one]
  ·obtain⟨nD,key,hk,hK⟩:=xC
   exact⟨nD,key,hk,fun out pm pw a F' H' us E' S' hn is=>fin δ1 out (hK out pm pw) a F' aR H' us ((E1.trans E2).trans E') S' hn is⟩
theorem Ra (L:fV X params body scope c9 T x Nb cp fb) (hc:X.calm=true) (u5:Gl X "sorted") (hs:X.mg "sorted" = none) (u6:bootBuiltins "sorted" = some (.builtin "sorted")) (kG:Gl X "range") (hr:X.mg "range" = none) (jO:bootBuiltins "range" = some (.type "range")) (ha:JA X [a] (cE fa))
  (he:starEach [a] X.env=[(false,eval a X.env)]:=by rfl):JE X (.Call (.Name "sorted" p1) [.Call (.Name "range" p2) [a] [] q2] [⟨some "key",.Lambda params body scope c9,fK⟩] q1) (tD (BZ fa cp fb)) :=
 ⟨fun pins s σ H Q I h0_ => el7 h0_ fun F ad δ K S q k =>Q8 L hc u5 hs u6 kG hr jO ha he (fun δ1 out=>K (.o δ1.mu.length) ⟨δ1.sl,δ1.mu ++ [some (OV.lst out)]⟩) I S q fun δ1 out hM a F' aE H' us E' S' hn is=>by
  have oi:fD F' (.lst out) (.lst us):=⟨us,rfl,is⟩
  exact k _ _ hM _ _ _ _ (E'.trans (Ext.own S' hn)) (S'.own hn oi) (xi S')⟩
end
end L2
namespace L2
open PySem PySem.Spec PyProof.Rows PySem.W
section
variable {prog:Program} {w:World} {A:Around} {E:Value->Shared->Prop} {s:Shared} {Q:Bool->Shared->Prop}
end
section
variable {X:Cx} {pins:List (Addr × Obj)} {σ : St} {H:Hp} {s:Shared} {A:Around} {E:Value->Shared->Prop} {a:Addr} {vs:List Value} {ks:List LK} {κ : SortKind}
end
section
variable [aJ] {X:Cx}
end
end L2
namespace LJ
open PySem L2 PySem.W
theorem Rb {ls:List n_} {b:Addr} {ps:Array Value}:(ls.map fun l=>(l.T,(#[]:Array Value))).lookup b=some ps->(∃ l∈ls,l.T=b)/\ps = #[]:=by
 induction ls with
 | nil=>intro h;cases h
 | cons l ls ih =>
  intro h
  rw[WW,WV] at h
  cases q:b == l.T with
  | true =>
   rw[q] at h
   exact⟨⟨l,vX,(X7 q).symm⟩,(WY h).symm⟩
  | false =>
   rw[q] at h
   obtain⟨⟨l',h1,h2⟩,h3⟩:=ih h
   exact⟨⟨l',E6 _ h1,h2⟩,h3⟩
theorem B2 {ls:List n_} {l:n_} (h:l∈ls):(ls.map fun l=>(l.T,(#[]:Array Value))).lookup l.T=some #[]:=by
 induction ls with
 | nil=>cases h
 | cons l' ls ih =>
  rw[WW,WV]
  cases q:l.T == l'.T with
  | true=>rfl
  | false =>
   rcases ML.mp h with rfl | h
   ·simp at q
   ·exact ih h
theorem Rc {l:OpenLaw} {q:Program} {loose:List Str} {XP:(Str->Option Value)->Heap->Prop} {d:DefRec} {K:Params->Frag} {as:List Addr} {e:∀ P,as=(K P).map (·.1)} {ts:List Addr} {kk:Nat} (ls:List n_) (Rf:ls.map (·.T)=ts) (hn:l.most=some 63) (s_:d.params.defaults=[]) (hr:a7 kk callerA)
  (fJ:∀ (w:World) (h:Heap),(K w.params).In h->∀ t∈ls,∃ cc,CodeHd h cc t.T) (Rg:∀ P,noTabs (K P)=true)
  (F:∀ (w:World) (mg:Str->Option Value) (fa:Addr) (h:Heap),(K w.params).In h->h.Ns mainGlobals mg->mg d.name=some (.ref fa) →
   ∃ fd:FuncData,(∀ (s:Shared) (u:Value),BindsTo s fd ⟨[u],[]⟩ [("script",u)])/\∀ base:Heap,(K w.params).In base->base.Ns mainGlobals mg->(∀ t∈ls,base.BuiltinsAt mg t.T)->aU l.prog w (K w.params) mg base bS kk fa fd ["script"] (@xw (qv ls) (K w.params))) :
  WalkO q loose XP (kmHook K as e ts).says l.row.toRowW d [] (fun f vs=>PySem.call f vs) :=
 L2.QJ (n:=63) (k:=kk) (x := "script") (K:=fun w=>K w.params) (CX:=fun _=>bS) (sp:=fun w=>@xw (qv ls) (K w.params)) (Ts:=fun _=>ls.map fun l=>(l.T,#[])) hn (by decide) s_ hr (fun w h Y=>km_in_of Y)
  (fun w h Y b ps hl=>by
   obtain⟨⟨t,ht,rfl⟩,rfl⟩:=Rb hl
   have e1:h.get? t.T=some (tabObj #[]):=km_tabs_of Y t.T (by rw[<-Rf];exact Zc ht)
   refine⟨e1,?_,?_⟩
   ·obtain⟨cc,o,vs,_,_,_,_,_,_,_,c1,c2,c3,c4,_⟩:=fJ w h (km_in_of Y) t ht
    exact⟨cc,o,vs,c1,c2,c3,c4⟩
   ·cases z:(K w.params).lookup t.T with
    | none=>rfl
    | some o =>
     have e2:=km_in_of Y t.T o z
     rw[e1] at e2;cases e2
     have h2:=XW.mp (Rg w.params) (t.T,tabObj #[]) (mem_of_lookupK z)
     exact absurd (show false=true from h2) WH)
  (fun w mg fa h KX G l7=>by
   obtain⟨fd,hb,hF⟩:=F w mg fa h KX G l7
   exact⟨fd,hb,fun base k1 k2 k3=>hF base k1 k2 fun t ht=>k3 t.T #[] (B2 ht)⟩)
  (fun w H a ns hl hO hS=>by
   letI:aJ:=qv ls
   refine⟨a,ns,rfl,hS,hl,fun t ht => ?_,fun _=>rfl⟩
   rcases hO t.T with⟨ps,z1,z2⟩ | ⟨z1,_⟩
   ·rw[B2 ht] at z1;cases z1
    exact⟨#[],z2,trivial,.inl rfl⟩
   ·rw[B2 ht] at z1;cases z1)
  fun _ _ _ _ _ z=>z
end LJ
namespace LJ
open PySem L2
variable [aJ]
omit [aJ] in
theorem Rh {m:Int} {ws:List (Int × Int × Int)} (h:cK m ws):kI (aX m ws)=true:=by
 show (jR (.int m) 1 12 && qp m (.tup (ws.map cz)))=true
 have h1:jR (.int m) 1 12=true:=by
  show (decide (1 <= m) && decide (m <= 12))=true
  rw[Wz h.m1,Wz h.lu];rfl
 rw[h1,ZN]
 show (decide ((ws.map cz).length <= 30) && ((ws.map cz).all (cO m) && decide (((ws.map cz).map pairOf).Nodup)))=true
 have h2:(ws.map cz).all (cO m)=true:=by
  refine XW.mpr fun d hd => ?_
  obtain⟨y,hy,rfl⟩:=V6.mp hd
  obtain⟨a,b,c,d,e⟩:=h.ends y hy
  show (((decide (0 <= y.1) && decide (y.1 <= m - 1)) && (decide (y.1 + 1 <= y.2.1) && decide (y.2.1 <= m - 1))) && (decide (0 <= y.2.2) && decide (y.2.2 <= 1000000000)))=true
  rw[Wz a,Wz (by omega:y.1 <= m - 1),Wz (by omega:y.1 + 1 <= y.2.1),Wz (by omega:y.2.1 <= m - 1),Wz d,Wz e];rfl
 have h3:(ws.map cz).map pairOf=ws.map fun y=>(y.1,y.2.1):=by rw[WU];rfl
 rw[h2,h3,Wz h.unlike,pd,Wz h.iU];rfl
noncomputable def qx:GD:=fun ys aj K=>∃ (m:Int) (ws:List (Int × Int × Int)),cK m ws/\ys=[.p (aX m ws)]/\aj=[]/\K (.p .non) []
noncomputable def B3:WS:=(bJ (gu (dT (aq 1 uO (ak (aa 0) ag)))) t5 fQ)
theorem Ri:∀ ys aj K',ys.length=1->qx ys aj K'->B3 (dq aj.length K') ⟨ys.map some ++ List.replicate 0 none,aj.map some⟩:=by
 rintro ys aj K' - ⟨m,ws,W,rfl,rfl,k⟩
 unfold B3
 simp? only []
 refine⟨aX m ws,rfl,rfl,?_⟩
 rw[Rh W]
 simp? only []
 exact gz k
noncomputable def qy:GD:=fun ys aj K=>∃ y:Int × Int × Int,ys=[.p (cz y)]/\aj=[]/\K (.p (.tup [.int y.2.2,.int y.1,.int y.2.1])) []
noncomputable def B4:WS:=(aV (g6 (ak (d2 (aa 0) (dC (.int 2)) bj) (ak (d2 (aa 0) (dC (.int 0)) bj) (ak (d2 (aa 0) (dC (.int 1)) bj) ag)))))
theorem Rj:∀ ys aj K',ys.length=1->qy ys aj K'->B4 (dq aj.length K') ⟨ys.map some ++ List.replicate 0 none,aj.map some⟩:=by
 rintro ys aj K' - ⟨y,rfl,rfl,k⟩
 unfold B4
 simp? only [cz,jc,iQ,at2]
 exact gz k
noncomputable def eg (ws:List (Int × Int × Int)) (n:Int):LK:=[(ws.getD n.toNat (0,0,0)).2.2,(ws.getD n.toNat (0,0,0)).1,(ws.getD n.toNat (0,0,0)).2.1]
structure bM (ws:List (Int × Int × Int)) (ns:List Int):Prop where
 perm:ns.Perm (aP ws.length)
 up:(ns.map (eg ws)).Pairwise kle
theorem bM.nums {ws:List (Int × Int × Int)} {ns:List Int} (h:bM ws ns):Nums ws ns:=fun n hn=>rV (h.perm.mem_iff.mp hn)
theorem bM.len {ws:List (Int × Int × Int)} {ns:List Int} (h:bM ws ns):ns.length=ws.length:=by rw[h.perm.length_eq];unfold aP;simp
theorem HD {m:Int} {ws:List (Int × Int × Int)} (W:cK m ws) {a b:Int} (ha:0 <= a/\a < (ws.length:Int)) (hb:0 <= b/\b < (ws.length:Int)) (e:eg ws a=eg ws b):a=b:=by
 obtain⟨i,rfl⟩:∃ i:Nat,a=i:=⟨a.toNat,by omega⟩
 obtain⟨j,rfl⟩:∃ j:Nat,b=j:=⟨b.toNat,by omega⟩
 have hi:i < ws.length:=by omega
 have hj:j < ws.length:=by omega
 unfold eg at e
 rw[WQ,WQ,E5,pb hi,E5,pb hj] at e
 simp only[Option.getD_some,List.cons.injEq,and_true] at e
 have q:(ws.map fun y=>(y.1,y.2.1))[i]'(by rw[pd];exact hi)=(ws.map fun y=>(y.1,y.2.1))[j]'(by rw[pd];exact hj):=by
  rw[Yb,Yb,e.2.1,e.2.2]
 have:=(Yw W.unlike).mp q
 rw[this]
theorem Rk {out:List D} {l:List Int} (h:out.Perm (l.map D.int)):∃ ns:List Int,out=ns.map D.int/\ns.Perm l:=by
 refine⟨out.map fun d=>match d with
  | .int n=>n
  | _=>0,?_,?_⟩
 ·rw[WU]
  refine (List.map_id out).symm.trans (Xc fun d hd => ?_)
  obtain⟨n,_,rfl⟩:=V6.mp (h.mem_iff.mp hd)
  rfl
 ·have:=h.map fun d=>match d with
   | .int n=>n
   | _=>0
  rw[WU] at this
  exact this.trans (List.Perm.of_eq ((Xc fun n _=>rfl).trans (List.map_id l)))
noncomputable def u7:GD:=fun ys aj K=>∃ (m:Int) (ws:List (Int × Int × Int)),cK m ws/\ys=[.p (aX m ws)]/\aj=[]/\∀ ns,bM ws ns->K (.n (ns.map D.int)) []
noncomputable def B5:WS:=(av (ly (aq 1 qx (ak (aa 0) ag))) (av (aK 1 (d2 (aa 0) (dC (.int 1)) bj)) (aV (BZ (ak (dN (ak (aa 1) ag) cN) ag) [some 1] (aq 1 qy (ak (d2 (aa 1) (aa 0) bj) ag))))))
theorem Rl:∀ ys aj K',ys.length=1->u7 ys aj K'->B5 (dq aj.length K') ⟨ys.map some ++ List.replicate 1 none,aj.map some⟩:=by
 rintro ys aj K' - ⟨m,ws,W,rfl,rfl,k⟩
 have rX:=W.iU
 unfold B5
 refine bp fun N hN => ?_
 simp? only []
 refine⟨m,ws,W,rfl,rfl,?_⟩
 simp? only []
 subst hN
 refine bp fun N hN => ?_
 simp? only [iQ,aX]
 subst hN
 simp? only [BZ]
 refine⟨⟨by omega,by omega⟩,by rw[mx];omega,fun d=>match d with
  | .int n=>eg ws n
  | _=>[],fun d hd => ?_,fun out pm pw => ?_⟩
 ·obtain⟨i,hi⟩:=WB.mp hd
  obtain⟨hi,rfl⟩:=nL hi
  have e0:(0 + (i:Int))=i:=by omega
  rw[e0]
  obtain⟨y,ey,hy,ea,_⟩:=rU W (n:=(i:Int)) (by omega) (by omega)
  refine⟨(by intro z;cases z),?_⟩
  simp? only [ea]
  refine⟨y,rfl,rfl,?_⟩
  simp? only []
  unfold eg
  rw[ey]
  rfl
 ·rw[WQ,rL] at pm
  obtain⟨ns,rfl,pn⟩:=Rk pm
  refine⟨[],rfl,rfl,.inl (k ns ⟨pn,?_⟩)⟩
  rw[WU] at pw
  exact pw
end LJ
namespace L2
open PySem PySem.Spec PyProof.Rows
variable [aJ]
noncomputable def c_ (kvs:List (Key × D)) (k:Key):Option D:=(kvs.find? fun kv=>decide (kv.1=k)).map (·.2)
noncomputable def putD (kvs:List (Key × D)) (k:Key) (d:D):List (Key × D) :=
 if (kvs.any fun kv=>decide (kv.1=k))=true then kvs.map (fun kv=>if kv.1=k then (kv.1,d) else kv) else kvs ++ [(k,d)]
theorem fP.val {F:Hp} (k:Key):∀ {gs:List (Key × D)} {ws:List (Key × V)},fP F gs ws->(c_ gs k=none/\bT ws k=none)\/∃ d v,c_ gs k=some d/\bT ws k=some v/\Is F d v
 | [],_,h=>by have h:_=[]:=h;subst h;exact .inl ⟨rfl,rfl⟩
 | kd :: r,_,⟨v,t,e,h1,h2⟩=>by
  subst e
  by_cases c:kd.1=k
  ·refine .inr ⟨kd.2,v,?_,tM c,h1⟩
   unfold c_;rw[List.find?_cons_of_pos (by simpa using c)];rfl
  ·rw[tN c]
   have e:c_ (kd :: r) k=c_ r k:=by unfold c_;rw[List.find?_cons_of_neg (by simpa using c)]
   rw[e]
   exact fP.val k h2
theorem fP.length {F:Hp}:∀ {gs:List (Key × D)} {ws:List (Key × V)},fP F gs ws->ws.length=gs.length
 | [],_,h=>by have h:_=[]:=h;subst h;rfl
 | kd :: r,_,⟨v,t,e,h1,h2⟩=>by subst e;rw[My,My,h2.length]
theorem fP.any {F:Hp} (k:Key):∀ {gs:List (Key × D)} {ws:List (Key × V)},fP F gs ws->(ws.any fun kv=>decide (kv.1=k))=gs.any fun kv=>decide (kv.1=k)
 | [],_,h=>by have h:_=[]:=h;subst h;rfl
 | kd :: r,_,⟨v,t,e,h1,h2⟩=>by subst e;rw[YI,YI,h2.any k]
theorem fP.i5 {F:Hp} (k:Key) {d:D} {v:V} (hd:Is F d v):∀ {gs:List (Key × D)} {ws:List (Key × V)},fP F gs ws->fP F (gs.map fun kv=>if kv.1=k then (kv.1,d) else kv) (ws.map fun kv=>if kv.1=k then (kv.1,v) else kv)
 | [],_,h=>by have h:_=[]:=h;subst h;rfl
 | kd :: r,_,⟨u,t,e,h1,h2⟩=>by
  subst e
  by_cases c:kd.1=k
  ·rw[WW,WW,V8 c,V8 c]
   exact⟨v,_,rfl,hd,h2.i5 k hd⟩
  ·rw[WW,WW,V0 c,V0 c]
   exact⟨u,_,rfl,h1,h2.i5 k hd⟩
theorem fP.snoc {F:Hp} {k:Key} {d:D} {v:V} (hd:Is F d v):∀ {gs:List (Key × D)} {ws:List (Key × V)},fP F gs ws->fP F (gs ++ [(k,d)]) (ws ++ [(k,v)])
 | [],_,h=>by have h:_=[]:=h;subst h;exact⟨v,[],rfl,hd,rfl⟩
 | kd :: r,_,⟨u,t,e,h1,h2⟩=>by subst e;exact⟨u,_,rfl,h1,h2.snoc hd⟩
theorem fP.put {F:Hp} {gs:List (Key × D)} {ws:List (Key × V)} {k:Key} {d:D} {v:V} (h:fP F gs ws) (hd:Is F d v):fP F (putD gs k d) (putK ws k v):=by
 unfold putD putK
 rw[h.any k]
 split
 ·exact h.i5 k hd
 ·exact h.snoc hd
noncomputable def jT (x:DV) (δ : ay) (K:Nat->List (Key × D)->Prop):Prop:=match x with
 | .o k=>match δ.mu[k]? with
  | some (some (.dct kvs))=>K k kvs
  | _=>False
 | _=>False
theorem HE {F H:Hp} {ad:List Addr} {δ : ay} {σ : St} {x:DV} {v:V} {K:Nat->List (Key × D)->Prop} (S:SR F ad δ σ H) (V1:gG F ad x v) (h:jT x δ K):∃ k kvs a ws,x = .o k/\K k kvs/\v = .ref a/\ad[k]? = some a/\H a=some (.dK ws)/\fP F kvs ws /\ δ.mu[k]? = some (some (.dct kvs)):=by
 unfold jT at h
 split at h
 ·rename_i k
  split at h
  ·rename_i kvs e
   obtain⟨a,e1,rfl⟩:=V1
   obtain⟨a',o,e2,e3,ws,rfl,h4⟩:=S.mu k _ e
   rw[e1] at e2;cases e2
   exact⟨k,kvs,a,ws,rfl,h,rfl,e1,e3,h4,e⟩
  ·exact h.elim
 ·exact h.elim
noncomputable def jU (x:DV) (P:Int->Prop):Prop:=match x with
 | .p (.int i)=>P i
 | _=>False
theorem HF {F:Hp} {ad:List Addr} {x:DV} {v:V} {P:Int->Prop} (hv:gG F ad x v) (h:jU x P):∃ i,v=kV (.inl i)/\P i:=by
 unfold jU at h
 split at h
 ·rename_i i;exact⟨i,hv,h⟩
 ·exact h.elim
noncomputable def B6:WE:=fun δ K=>K (.o δ.mu.length) ⟨δ.sl,δ.mu ++ [some (.dct [])]⟩
noncomputable def mK (neg:Bool) (fi fo:WE):WE:=fun δ K=>fi δ fun x δ1=>fo δ1 fun y δ2=>jU x fun i=>jT y δ2 fun _ kvs=>K (.p (.bl (neg != (c_ kvs (.inl i)).isSome))) δ2
noncomputable def B7 (fv fo fi:WE):WS:=fun K δ => fv δ fun z δ1=>fo δ1 fun x δ2=>fi δ2 fun y δ3=>ma z δ3 fun d δ4=>jU y fun i=>jT x δ4 fun k kvs=>kvs.length < 1000/\K.nx ⟨δ4.sl,δ4.mu.set k (some (.dct (putD kvs (.inl i) d)))⟩
section
variable {X:Cx} {o i e v:Expr} {fo fi fv fk fe:WE} {pos:Pos}
theorem Rm:JE X (.Dict [] [] pos) (tD B6):=iw.weak fun σ H Q ⟨F,ad,δ,K,S,q,k⟩ p hp=>by
 have oi:fD F (.dct []) (.dK []):=⟨[],rfl,rfl⟩
 refine k _ _ q _ _ _ _ (Ext.own S hp) (S.own hp oi) ⟨p,?_,rfl⟩
 rw[<-S.b_,Wx (qU _),Xo];rfl
theorem Rn {neg:Bool} (td:TE) (hn:∀ σ H (Q:VK),(tD fi σ H fun y H1=>tD fo σ H1 fun x H2=>∃ a o,x = .ref a/\jK H2 a y o/\Q (.bl (neg != o.isSome)) H2)->td σ H Q):∀ σ H Q,tD (mK neg fi fo) σ H Q->td σ H Q:=fun σ H Q h0_ => el7 h0_ fun F ad δ K S q k =>hn σ H Q ⟨F,ad,δ,_,S,q,fun x δ1 h1 v F1 aR H1 E1 S1 V1=>⟨F1,aR,δ1,_,S1,h1,fun y δ2 h2 u F2 bP H2 E2 S2 V2=>by
  obtain⟨i,rfl,h3⟩:=HF (V1.ext E2) h2
  obtain⟨k0,kvs,a,ws,rfl,h4,rfl,e1,e2,i1,m1⟩:=HE S2 V2 h3
  refine⟨a,_,rfl,jK.k e2,?_⟩
  have es:(bT ws (Sum.inl i:Key)).isSome=(c_ kvs (.inl i)).isSome:=by
   rcases i1.val (.inl i) with⟨z1,z2⟩ | ⟨d,v,z1,z2,_⟩
   ·rw[z1,z2];rfl
   ·rw[z1,z2];rfl
  rw[es]
  exact k _ _ h4 _ _ _ _ (E1.trans E2) S2 rfl⟩⟩
theorem Ro {t:TE} {f:WE} (h:∀ σ H Q,tD f σ H Q->t σ H Q):∀ σ H Q,dB (dT f) σ H Q->tB t σ H Q:=fun σ H Q h0_ => el7 h0_ fun F ad δ K S q k =>h σ H _ ⟨F,ad,δ,_,S,q,fun x δ1 h1 v F1 aR H1 E1 S1 V1=>by
  obtain⟨b,rfl,h2⟩:=t4 V1 h1
  exact⟨b,rfl,k _ _ h2 _ _ _ E1 S1⟩⟩
theorem Rp (hu:X.A.units + 64 < cLine) (hi:JE X i (tD fi)) (ho:JE X o (tD fo)) (hm:behindInMarks .In o=false:=by rfl):JT X (.Compare i [.In] [o] pos) (dB (dT (mK false fi fo))) :=
 (Nx (NS (by omega) hi ho) hm).weak (Ro (Rn (px (tD fi) (tD fo)) fun σ H Q h=>by simp only[Bool.false_bne] at h;exact h))
theorem Rq {pos':Pos} (hu:X.A.units + 64 < cLine) (ho:JE X o (tD fo)) (hi:JE X i (tD fi)) (hv:JE X v (tD fv)) (hs:swapsWith v (some (.Subscript o i pos')) pos.line X.env=pure false:=by rfl):JS X (.Assign [.Subscript o i pos'] v pos) (eT (B7 fv fo fi)) :=
 (NT (by omega) ho hi hv hs).weak fun D σ H h0_ => el7 h0_ fun F ad δ K S q k =>⟨F,ad,δ,_,S,q,fun z δ1 h1 w F1 aR H1 E1 S1 V1=>⟨F1,aR,δ1,_,S1,h1,fun x δ2 h2 u F2 bP H2 E2 S2 V2=>⟨F2,bP,δ2,_,S2,h2,fun y δ3 h3 t F3 rB H3 E3 S3 V3=>by
  obtain⟨d,δ4,F4,h4,E4,S4,i4⟩:=tZ S3 ((V1.ext E2).ext E3) h3
  obtain⟨i,rfl,h5⟩:=HF V3 h4
  obtain⟨k0,kvs,a,ws,rfl,h6,rfl,e1,e2,i1,m1⟩:=HE S4 ((V2.ext E3).ext E4) h5
  have oi:fD F4 (.dct (putD kvs (.inl i) d)) (.dK (putK ws (.inl i) w)):=⟨_,rfl,i1.put i4⟩
  refine⟨a,_,rfl,ku.k e2 (lj (by rw[i1.length];exact XY h6.1)),?_⟩
  exact k.nx _ h6.2 _ _ _ _ ((((E1.trans E2).trans E3).trans E4).trans (Ext.put S4 m1 e1)) (S4.put m1 e1 oi)⟩⟩⟩
end
noncomputable def mL (δ0:ay) (t:WT) (b:WS) (K:KS):Nat->ay->Prop
 | 0,_=>False
 | n + 1,δ => t δ fun bb δ1=>if bb=true then b { nx:=fun δ2=>mL δ0 t b K n (δ0.trim δ2),ct:=fun δ2=>mL δ0 t b K n (δ0.trim δ2),bk:=K.nx,rt:=K.rt } δ1 else K.nx δ1
noncomputable def HG (t:WT) (b:WS):WS:=fun K δ => ∃ n,mL δ t b K n δ
theorem Rr {X:Cx} {c:Expr} {body:List Stmt} {t:WT} {b:WS} {pos:Pos} (hp:PassesOwn (model X.prog X.w) X.A X.env X.xe) (hc:JT X c (dB t)) (hb:fO X body (eT b)):JS X (.While c body [] pos) (eT (HG t b)) :=
 (NK hp hc hb).weak fun D σ H ⟨F,ad,δ,K,S,⟨n,q⟩,k⟩=>by
 refine⟨fun m σ' H'=>∃ F' aE δ',Ext F ad δ.mu H F' aE δ'.mu H'/\SR F' aE δ' σ' H'/\mL δ t b K m δ',⟨n,F,ad,δ,.refl,S,q⟩,?_⟩
 rintro m σ' H' ⟨F',aE,δ',E',S',h⟩
 cases m with
 | zero=>exact h.elim
 | succ m =>
  refine⟨F',aE,δ',_,S',h,fun bb δ1 h1 F1 aR H1 E1 S1 => ?_⟩
  have E2:=E'.trans E1
  cases bb with
  | false =>
   dsimp only at h1 ⊢
   rw[V0 WH] at h1 ⊢
   exact k.nx _ h1 _ _ _ _ E2 S1
  | true =>
   dsimp only at h1 ⊢
   rw[V8 rfl] at h1 ⊢
   refine⟨fun σ2 H2=>∃ F2 bP δ2,Ext F ad δ.mu H F2 bP δ2.mu H2/\SR F2 bP δ2 σ2 H2/\mL δ t b K m δ2,fun σ2 H2 ⟨F2,bP,δ2,e1,e2,e3⟩=>⟨m,by omega,F2,bP,δ2,e1,e2,e3⟩,?_⟩
   refine⟨F1,aR,δ1,_,S1,h1,⟨fun δ2 h2 F2 bP σ2 H2 X2 S2=>⟨F2,_,_,(E2.trans X2).trim S.b_,S2.trim,h2⟩,k.nx.ext E2,fun δ2 h2 F2 bP σ2 H2 X2 S2=>⟨F2,_,_,(E2.trans X2).trim S.b_,S2.trim,h2⟩,(k.ext E2).rt⟩⟩
end L2
namespace LJ
open PySem L2
variable [aJ]
theorem Rt {kvs:List (Key × D)} {k l:Key} {d:D} (h:c_ kvs k=none):c_ (putD kvs k d) l=if l=k then some d else c_ kvs l:=by
 have na:(kvs.any fun kv=>decide (kv.1=k))=false:=by
  cases q:kvs.any fun kv=>decide (kv.1=k) with
  | false=>rfl
  | true =>
   obtain⟨kv,h1,h2⟩:=List.any_eq_true.mp q
   unfold c_ at h
   rw[Option.map_eq_none_iff] at h
   exact absurd h2 (Zj.mp h kv h1)
 unfold putD
 rw[na,V0 WH]
 unfold c_
 rw[List.find?_append]
 cases q:kvs.find? fun kv=>decide (kv.1=l) with
 | some kv =>
  have e:=Zh q
  have e:kv.1=l:=by simpa using e
  rw[V0]
  ·rfl
  ·intro z
   subst z
   have hm:=Za q
   have:=Y4.mp na kv hm
   exact this (by simpa using e)
 | none =>
  by_cases c:l=k
  ·subst c
   rw[V8 rfl]
   simp
  ·rw[V0 c]
   simp[show ¬ k=l from fun z=>c z.symm]
theorem Ru {kvs:List (Key × D)} {k:Key} {d:D}:(putD kvs k d).length <= kvs.length + 1:=by
 unfold putD
 split
 ·rw[pd];omega
 ·rw[EZ];simp
noncomputable def u9:GD:=fun ys aj K=>∃ (m:Int) (ws:List (Int × Int × Int)) (ns:List Int),cK m ws/\Nums ws ns/\ns.Nodup/\ns.length <= 900/\ys=[.p (aX m ws),.p (a_ ns)]/\aj=[]/\K (.p .non) []
noncomputable def B8:WS:=(av (ly (aq 1 qx (ak (aa 0) ag))) (av (bJ (gu (dT (d1 (aa 1) (ja "list")))) t5 fQ) (av (aK 2 (d2 (dN (ak (d2 (aa 0) (dC (.int 1)) bj) ag) cN) (dC (.int 1)) (oI fun i j => .int (i - j)))) (av (aK 3 B6) (fy (kE (ak (aa 1) ag)) (rA 2 (lz (cy 4) (lz (cy 5) pJ))) (av (bJ (nE (gu (dT (aq 3 j9 (ak (aa 5) (ak (dC (.int 0)) (ak (aa 2) ag)))))) (dT (mK false (aa 5) (aa 3)))) t5 fQ) (B7 (dC (.bl true)) (aa 3) (aa 5))))))))
theorem Rv:∀ ys aj K',ys.length=2->u9 ys aj K'->B8 (dq aj.length K') ⟨ys.map some ++ List.replicate 4 none,aj.map some⟩:=by
 rintro ys aj K' - ⟨m,ws,ns,W,hn,nd,hl,rfl,rfl,k⟩
 unfold B8
 refine bp fun N hN => ?_
 simp? only []
 refine⟨m,ws,W,rfl,rfl,?_⟩
 show N _
 subst hN
 refine bp fun N hN => ?_
 simp? only []
 rw[show a_ ns = .lst (ns.map D.int) from rfl]
 simp? only [gF,d4,Bool.true_or]
 subst hN
 refine bp fun N hN => ?_
 simp? only [iQ,aX]
 subst hN
 refine bp fun N hN => ?_
 simp? only [B6]
 subst hN
 have il:∀ (j:Nat) (d:D),(j6 0 (ns.map D.int))[j]? = some d->∃ n:Int,ns[j]? = some n/\d=D.tup [.int (j:Int),.int n]:=fun j d hd=>by
  obtain⟨e,h1,h2⟩:=t8 hd
  rw[MJ] at h1
  obtain⟨n,h3,rfl⟩:=V7.mp h1
  exact⟨n,h3,by rw[h2,Xd]⟩
 have el:(j6 0 (ns.map D.int)).length=ns.length:=by rw[t7,pd]
 simp only[fy,kE,ak,aa,ag,Zr,Yv,rD]
 refine nV (fun i δ => ∃ kvs:List (Key × D),kvs.length <= i/\(∀ n:Int,(c_ kvs (.inl n)).isSome=decide (n∈ns.take i)) /\ δ = ⟨[some (.p (.tup [.int m,.tup (ws.map cz)])),some (.p (.lst (ns.map D.int))),some (.p (.int (ws.length - 1))),some (.o 0),none,none],[some (.dct kvs)]⟩) ?_ ?_ ?_
 ·refine⟨[],qU _,fun n=>by simp[c_],?_⟩
  simp only[pd]
 ·rintro j d δ L hj ⟨kvs,kl,kv,rfl⟩ hL
  obtain⟨n,qr,rfl⟩:=il j d hj
  obtain⟨n0,n1⟩:=hn n (Xb qr)
  have jl:j < ns.length:=(pe.mp qr).1
  have ff:(c_ kvs (.inl n)).isSome=false:=by
   rw[kv n]
   refine WK fun hm => ?_
   obtain⟨i,hi,ei⟩:=Xa.mp hm
   rw[W5] at hi
   rw[q0e] at ei
   have e2:ns[j]=n:=(pe.mp qr).2
   have:=(Yw (h₀ := by omega) (h₁ := jl) nd).mp (ei.trans e2.symm)
   omega
  have fn:c_ kvs (.inl n)=none:=by
   cases q:c_ kvs (.inl n) with
   | none=>rfl
   | some d=>rw[q] at ff;cases ff
  have wb:jR (.int n) 0 (ws.length - 1)=true:=by
   show (decide (0 <= n) && decide (n <= (ws.length:Int) - 1))=true
   rw[Wz n0,Wz (by omega)];rfl
  refine⟨trivial,?_⟩
  simp only[rA,lz,pJ,cy,iB,XA,XB,My,YY]
  refine⟨trivial,?_⟩
  refine bp fun N hN => ?_
  simp? only []
  refine⟨.int n,0,ws.length - 1,rfl,rfl,?_⟩
  simp? only [wb,mK,jU,jT,ff,Bool.false_bne]
  subst hN
  simp? only [B7,jU,jT]
  refine⟨by omega,hL _ ⟨putD kvs (.inl n) (.bl true),?_,fun l => ?_,?_⟩⟩
  ·have:=Ru (kvs:=kvs) (k := .inl n) (d := .bl true);omega
  ·rw[Rt fn,Yj,qr]
   by_cases c:l=n
   ·subst c
    rw[V8 rfl]
    exact (Wz (by simp)).symm
   ·rw[V0 (fun z=>c (Sum.inl.inj z)),kv l]
    simp[c]
  ·simp? only []
 ·rintro δ ⟨kvs,_,_,rfl⟩
  exact⟨trivial,gz k⟩
end LJ
namespace L2
open PySem PySem.Spec PyProof.Rows PySem.W
section
open PySem.SeqAt
open PySem.AutoSeq1 (wpAny_loadPart')
open PySem.MeetsSeq PySem.MeetsSeq2 PySem.MeetsSeq3
end
section
variable {prog:Program} {w:World} {A:Around} {E:Value->Shared->Prop} {s:Shared} {Q:Bool->Shared->Prop}
end
section
variable [aJ] {X:Cx}
end
end L2
namespace LJ
open PySem L2
noncomputable abbrev Lt:=Int × (Addr × List Int)
noncomputable def eu (es:List Lt):List (Key × V):=es.map fun e=>(Sum.inl e.1,V.ref e.2.1)
structure du (H:Hp) (es:List Lt):Prop where
 at_:∀ e∈es,H e.2.1=some (.lst (e.2.2.map V.int))
 mM:(es.map (·.2.1)).Nodup
 mN:(es.map (·.1)).Nodup
noncomputable def strip (es:List Lt):List (Int × List Int):=es.map fun e=>(e.1,e.2.2)
noncomputable def lJ (g:List (Int × List Int)) (x h:Int):List (Int × List Int):=if x∈g.map (·.1) then g.map (fun e=>if e.1=x then (e.1,e.2 ++ [h]) else e) else g ++ [(x,[h])]
noncomputable def cP (fs:List Int):Nat->List (Int × List Int)
 | 0=>[]
 | i + 1=>lJ (cP fs i) (fs.getD i 0) i
theorem HH (x:Int):∀ es:List Lt,bT (eu es) (Sum.inl x:Key)=(es.find? fun e=>decide (e.1=x)).map fun e=>V.ref e.2.1
 | []=>rfl
 | e :: es=>by
  by_cases c:e.1=x
  ·rw[List.find?_cons_of_pos (by simpa using c)]
   exact tM (congrArg Sum.inl c)
  ·rw[List.find?_cons_of_neg (by simpa using c)]
   have:=HH x es
   rw[<-this]
   exact tN (fun z=>c (Sum.inl.inj z))
theorem Rw (es:List Lt):(strip es).map (·.1)=es.map (·.1):=by unfold strip;rw[WU];rfl
noncomputable def grow (es:List Lt) (x h:Int):List Lt:=es.map fun e=>if e.1=x then (e.1,e.2.1,e.2.2 ++ [h]) else e
theorem Rx (es:List Lt) (x h:Int):eu (grow es x h)=eu es:=by
 unfold eu grow
 rw[WU]
 refine Xc fun e _ => ?_
 show ((Sum.inl (if e.1=x then (e.1,e.2.1,e.2.2 ++ [h]) else e).1:Key),V.ref (if e.1=x then (e.1,e.2.1,e.2.2 ++ [h]) else e).2.1)=_
 split<;>rfl
theorem Ry (es:List Lt) (x h:Int):(grow es x h).map (·.2.1)=es.map (·.2.1):=by
 unfold grow
 rw[WU]
 refine Xc fun e _ => ?_
 show (if e.1=x then (e.1,e.2.1,e.2.2 ++ [h]) else e).2.1=_
 split<;>rfl
theorem Rz (es:List Lt) (x h:Int):(grow es x h).map (·.1)=es.map (·.1):=by
 unfold grow
 rw[WU]
 refine Xc fun e _ => ?_
 show (if e.1=x then (e.1,e.2.1,e.2.2 ++ [h]) else e).1=_
 split<;>rfl
theorem RA {es:List Lt} {x h:Int} (hx:x∈es.map (·.1)):strip (grow es x h)=lJ (strip es) x h:=by
 unfold lJ
 rw[V8 (by rw[Rw];exact hx)]
 unfold strip grow
 rw[WU,WU]
 refine Xc fun e _ => ?_
 show ((if e.1=x then (e.1,e.2.1,e.2.2 ++ [h]) else e).1,(if e.1=x then (e.1,e.2.1,e.2.2 ++ [h]) else e).2.2)=if e.1=x then (e.1,e.2.2 ++ [h]) else (e.1,e.2.2)
 split<;>rfl
theorem RB {es:List Lt} (n:(es.map (·.1)).Nodup) {e e':Lt} (h:e∈es) (h':e'∈es) (q:e.1=e'.1):e=e':=by
 obtain⟨i,hi,rfl⟩:=Xa.mp h
 obtain⟨j,hj,rfl⟩:=Xa.mp h'
 have:=(Yw (h₀ := by rw[pd];exact hi) (h₁ := by rw[pd];exact hj) n).mp (by rw[Yb,Yb];exact q)
 subst this;rfl
theorem RC {es:List Lt} (n:(es.map (·.2.1)).Nodup) {e e':Lt} (h:e∈es) (h':e'∈es) (q:e.2.1=e'.2.1):e=e':=by
 obtain⟨i,hi,rfl⟩:=Xa.mp h
 obtain⟨j,hj,rfl⟩:=Xa.mp h'
 have:=(Yw (h₀ := by rw[pd];exact hi) (h₁ := by rw[pd];exact hj) n).mp (by rw[Yb,Yb];exact q)
 subst this;rfl
theorem du.grow {H:Hp} {es:List Lt} {e:Lt} {h:Int} (L:du H es) (he:e∈es):du (upd H e.2.1 (.lst (e.2.2.map V.int ++ [V.int h]))) (grow es e.1 h):=by
 refine⟨fun e' oj => ?_,by rw[Ry];exact L.mM,by rw[Rz];exact L.mN⟩
 unfold LJ.grow at oj
 obtain⟨d,hd,rfl⟩:=V6.mp oj
 by_cases c:d.1=e.1
 ·obtain rfl:=RB L.mN hd he c
  rw[V8 rfl]
  show upd H d.2.1 _ d.2.1=some (.lst ((d.2.2 ++ [h]).map V.int))
  rw[bw,WR];rfl
 ·rw[V0 c]
  rw[aO fun z=>c (by rw[RC L.mM hd he z])]
  exact L.at_ d hd
theorem du.snoc {H H':Hp} {es:List Lt} {x h:Int} {n:Addr} (L:du H es) (hn:H n=none) (hx:x∉es.map (·.1)) (kp:∀ e∈es,H' e.2.1=H e.2.1) (h':H' n=some (.lst [V.int h])):du H' (es ++ [(x,n,[h])]):=by
 refine⟨fun e he => ?_,?_,?_⟩
 ·rcases WX.mp he with q | q
  ·rw[kp e q];exact L.at_ e q
  ·rw[WZ.mp q];exact h'
 ·rw[WR]
  refine Xi.mpr ⟨L.mM,by simp,fun a ha b hb z => ?_⟩
  subst z
  obtain⟨e,he,rfl⟩:=V6.mp ha
  have:e.2.1=n:=by simpa using hb
  rw[<-this,L.at_ e he] at hn
  cases hn
 ·rw[WR]
  refine Xi.mpr ⟨L.mN,by simp,fun a ha b hb z => ?_⟩
  subst z
  have:a=x:=by simpa using hb
  exact hx (by rw[<-this];exact ha)
variable [aJ]
noncomputable def mO:GD:=fun ys aj K=>∃ (m:Int) (ws:List (Int × Int × Int)) (ns:List Int),cK m ws/\Nums ws ns/\ns.Nodup/\ns.length <= 900/\ys=[.p (aX m ws),.p (a_ ns)]/\aj=[]/\K (.p (n8 ((cP (h8 m ws ns) m.toNat).map (·.2)))) []
end LJ
namespace L2
open PySem
variable [aJ]
noncomputable def yL (δ : ay):ay:=⟨δ.sl,δ.mu.map fun _=>none⟩
section
variable {F F' H H':Hp} {ad aE:List Addr} {δ δ':ay} {σ σ':St}
noncomputable def HI (H:Hp) (v:V) (H':Hp):Prop:=∃ a b r,v = .ref a/\H a=none/\H' a=some (.lst (.ref b :: r))/\H b=none
end
section
variable {X:Cx} {Ws lN jZ qO:Stmt} {i n:Nat} {G:GD} {fa:WA} {t:WT} {B:TS} {E:XK}
end
end L2
namespace LJ
open PySem L2
variable [aJ]
noncomputable def RD:V->List V->Hp->VK->Prop:=fun x vs H Q=>∃ (d:Addr) (kvs:List (Key × V)) (k:Key) (dv:V),x = .ref d/\vs=[kV k,dv]/\H d=some (.dK kvs)/\kvs.length < sizeLine/\(∀ v,bT kvs k=some v->Q v H)/\(bT kvs k=none->Q dv (upd H d (.dK (putK kvs k dv))))
noncomputable def RE:V->List V->Hp->VK->Prop:=fun x vs H Q=>∃ (d:Addr) (kvs:List (Key × V)),x = .ref d/\vs=[]/\H d=some (.dK kvs)/\∀ r,H r=none->Q (.ref r) (upd H r (iz r d))
noncomputable def RF:List V->Hp->VK->Prop:=fun xs H Q=>∃ (r d:Addr) (kvs:List (Key × V)),xs=[.ref r]/\H r=some (iz r d)/\H d=some (.dK kvs)/\∀ l,H l=none->Q (.ref l) (upd H l (.lst (kvs.map (·.2))))
noncomputable def RG:TS:=eT (ly (aq 2 u9 (ak (aa 0) (ak (aa 1) ag))))
noncomputable def RH (Kf:PySem.W.Frag):TS:=ki (gW Ag (lh 2)) (ki (oP (zT Kf (fZ (sO (aQ qq 2) [] E0 (fZ (gm 0) (fZ (gm 1) ik))) ik)) (oN Kf 2 (vQ (lh 3) (vQ (lh 4) oM)))
 (yY (o6 Kf "list" zC (o6 Kf "dict" RD (gm 2) (fZ (gm 4) (fZ (oU ik) ik))) (fZ (gm 3) ik))))
 (oJ (oW RF (fZ (o5 Kf "dict" RE (gm 2)) ik))))
theorem RI {fs:List Int}:∀ {i:Nat},0 < i->cP fs i≠[]
 | i + 1,_,z=>by
  unfold cP lJ at z
  split at z
  ·rename_i c
   rw[List.map_eq_nil_iff] at z
   rw[z] at c
   exact nomatch c
  ·simp at z
theorem RJ {Kf:PySem.W.Frag} {H F0:Hp} {ad:List Addr} {vs:List V} {m:Int} {ws:List (Int × Int × Int)} {ns:List Int} {K':RV->List OV->Prop} {Q:VK} {Dd:Ends} (hl:vs.length=2) (W:cK m ws) (hn:Nums ws ns) (hd:ns.Nodup) (B9:ns.length <= 900)
  (hK:K' (.p (n8 ((cP (h8 m ws ns) m.toNat).map (·.2)))) []) (S0:SR F0 ad ⟨[DV.p (aX m ws),DV.p (a_ ns)].map some,([]:List OV).map some⟩ (vs.map some) H) (kk:∀ r ows,K' r ows->∀ v F' H',wC F0 ad H r ows v F' H'->HI H v H'->Q v H') (hD:∀ v H',Q v H'->Dd.rt v H') :
  ki RG (RH Kf) Dd (start ["web", "ways", "lots", "house", "first"] vs) H:=by
 have ea:ad=[]:=by have:=S0.b_;simpa using this
 subst ea
 have S1:=S0.start (N:=["web", "ways", "lots", "house", "first"])
 rw[hl] at S1
 refine⟨F0,[],_,{ nx:=fun δ' => δ'=⟨[some (.p (aX m ws)),some (.p (a_ ns)),none,none,none],[]⟩,rt:=fun _ _=>False },S1,?_,⟨?_,fun _ h=>h.elim,fun _ h=>h.elim,fun _ _ h=>h.elim⟩⟩
 ·simp? only []
  exact⟨m,ws,ns,W,hn,hd,B9,rfl,rfl,rfl⟩
 rintro δ' rfl F1 aR σ1 H1 E1 S1
 have ea:aR=[]:=by have:=S1.b_;simpa using this
 subst ea
 obtain⟨v0,e0,i0⟩:=S1.sl 0 _ rfl
 obtain⟨v1,e1,i1⟩:=S1.sl 1 _ rfl
 have hlen:=S1.len
 obtain⟨w2,w3,w4,rfl⟩:∃ w2 w3 w4,σ1=[some v0,some v1,w2,w3,w4]:=by
  obtain⟨a,r,rfl⟩:=XZ hlen
  obtain⟨b,r,rfl⟩:=XZ (YW hlen)
  have hlen:=YW (YW hlen)
  obtain⟨c,r,rfl⟩:=XZ hlen
  obtain⟨d,r,rfl⟩:=XZ (YW hlen)
  obtain⟨e,rfl⟩:=List.length_eq_one_iff.mp (YW (YW hlen))
  cases (show some a=some (some v0) from e0)
  cases (show some b=some (some v1) from e1)
  exact⟨c,d,e,rfl⟩
 intro dl mq
 have u_:H dl=none:=by
  cases q:H dl with
  | none=>rfl
  | some u=>obtain⟨u',h'⟩:=E1.iA dl u q;rw[mq] at h';cases h'
 have fl:F1 dl=none:=by
  cases q:F1 dl with
  | none=>rfl
  | some u=>rw[S1.sub dl u q] at mq;cases mq
 have nl:¬ Lv [] ([]:List (Option OV)) dl:=fun ⟨k,ov,z,_⟩=>by simp at z
 have S2:=S1.other (o := .dK []) fl nl (aJ.same S1.tab (de mq))
 have E2:=E1.other (o := .dK []) u_
 refine⟨_,rfl,_,rfl,?_⟩
 refine AN (E:=E0) (xs:=[.p (aX m ws),.p (a_ ns)]) (K:=fun r ows=>r = .p (a_ (h8 m ws ns))/\ows=[]) S2 ⟨v0,_,rfl,i0,v1,_,rfl,i1,rfl⟩ rfl rfl rfl ⟨m,ws,ns,W,hn,.inl ⟨rfl,rfl,rfl,rfl⟩⟩ fun res ows v F3 H3 ⟨er,eo⟩ X3 S3 fR => ?_
 subst er eo
 have va:(h8 m ws ns).length=m.toNat:=QB
 have lu:=W.lu
 generalize h8 m ws ns=fs at hK fR va
 have fR:Is F3 (.lst (fs.map D.int)) v:=fR
 simp only[Is] at fR
 obtain⟨g,us,rfl,hg,iu⟩:=fR
 have RK:=my iu
 subst RK
 have B_:Ext F1 [] [] (upd H1 dl (.dK [])) F3 [] [] H3:=X3
 have E3:Ext F0 [] [] H F3 [] [] H3:=E2.trans B_
 have xE:∀ a,¬ Lv [] ([]:List (Option OV)) a:=fun a ⟨k,ov,z,_⟩=>by simp at z
 have RL:dl∉aJ.ad:=fun z=>by obtain⟨ps,q⟩:=aJ.tb S1.tab z;rw[mq] at q;cases q
 have xF:H3 dl=some (.dK []):=B_.keep dl _ bw (xE _) RL
 have xG:H3 g=some (.lst (fs.map V.int)):=S3.sub _ _ hg
 have RM:F3 dl=none:=by
  cases q:F3 dl with
  | none=>rfl
  | some u =>
   rcases B_.new dl u q with z | z | z
   ·rw[fl] at z;cases z
   ·rw[bw] at z;cases z
   ·exact absurd z (xE _)
 have gd:g≠dl:=fun z=>by rw[z,xF] at xG;cases xG
 refine⟨g,rfl,⟨_,bh.of xG⟩,?_⟩
 refine Fh (K:=Kf) (a:=g) (xs:=fs.map V.int) (fun i σ H4=>∃ (es:List Lt) (w3 w4:Option V),σ = [some v0,some v1,some (.ref dl),w3,w4]/\(∀ a o,H3 a=some o->a≠dl->H4 a=some o)/\aJ.ok H4/\H4 dl=some (.dK (eu es))/\du H4 es/\(∀ e∈es,H3 e.2.1=none)/\strip es=cP fs i/\es.length <= i/\∀ e∈es,e.2.2.length <= i) ?_ (fun i σ H4 _ ⟨_,_,_,_,kp,_⟩=>bh.of (kp g _ xG gd)) ?_ ?_
 ·exact⟨[],w3,w4,rfl,fun a o e _=>e,S3.tab,xF,⟨(fun e he=>nomatch he),XR,XR⟩,(fun e he=>nomatch he),rfl,qU _,fun e he=>nomatch he⟩
 ·rintro i x T' σ H4 hx ⟨es,w3,w4,rfl,kp,tk,om,L4,fr,st,le,ll⟩ xy
  rw[MJ] at hx
  obtain⟨y,ey,rfl⟩:=V7.mp hx
  have hi:=(pe.mp ey).1
  have eD:fs.getD i 0=y:=by rw[E5,ey];rfl
  have s5:aA H4 (upd H4 T' (.tup [.int (i:Int),.int y])):=lI xy
  refine⟨T',_,rfl,bI.of bw,rfl,_,_,rfl,_,_,rfl,rfl,?_⟩
  have RN:=s5 _ _ om
  refine⟨_,rfl,.inr (.inr (.inl ⟨rfl,.inl ⟨_,RN⟩⟩)),_,rfl,Xl _,fun en HJ => ?_⟩
  have s6:=s5.trans (lI (o := .lst []) HJ)
  have xH:=s6 _ _ om
  have vc:upd (upd H4 T' (.tup [.int (i:Int),.int y])) en (.lst []) en=some (.lst []):=bw
  have jV:H4 en=none:=s5.free HJ
  have rY:=aJ.same tk s6
  generalize upd (upd H4 T' (.tup [.int (i:Int),.int y])) en (.lst [])=H6 at s6 xH vc rY
  have L6:du H6 es:=⟨fun e he=>s6 _ _ (L4.at_ e he),L4.mM,L4.mN⟩
  have Ca:en≠dl:=fun z=>by rw[z,om] at jV;cases jV
  have vd:H3 en=none:=by
   cases q:H3 en with
   | none=>rfl
   | some u=>rw[kp en u q Ca] at jV;cases jV
  have fv:=HH y es
  refine⟨dl,eu es,Sum.inl y,.ref en,rfl,rfl,xH,lj (by unfold eu;rw[pd];omega),fun v hv => ?_,fun hv => ?_⟩
  ·rw[hv] at fv
   cases ff:es.find? fun e=>decide (e.1=y) with
   | none=>rw[ff] at fv;cases fv
   | some e =>
    rw[ff] at fv
    obtain rfl:v=V.ref e.2.1:=by simpa using fv
    have he:e∈es:=Za ff
    have ek:e.1=y:=by simpa using Zh ff
    have iM:y∈es.map (·.1):=V6.mpr ⟨e,he,ek⟩
    have Cb:=L6.at_ e he
    have Cc:e.2.1≠dl:=fun z=>by have:=fr e he;rw[z,xF] at this;cases this
    refine⟨.inl ⟨rfl,_,bh.of Cb⟩,_,rfl,e.2.1,_,_,rfl,rfl,Cb,?_,?_⟩
    ·refine lj ?_
     rw[pd]
     have:=ll e he
     omega
    ·refine⟨LJ.grow es y i,_,_,rfl,fun b' o eb nb => ?_,aJ.put rY Cb (.inl ⟨_,rfl⟩),?_,?_,?_,?_,?_,?_⟩
     ·rw[aO (dg eb (fr e he))];exact s6 _ _ (kp _ _ eb nb)
     ·rw[aO (Ys Cc),Rx];exact xH
     ·rw[<-ek];exact L6.grow he
     ·intro e' oj
      unfold LJ.grow at oj
      obtain⟨d,hd,rfl⟩:=V6.mp oj
      have:=fr d hd
      split<;>exact this
     ·rw[RA iM,st];show lJ (cP fs i) y i=lJ (cP fs i) (fs.getD i 0) i;rw[eD]
     ·unfold LJ.grow;rw[pd];omega
     ·intro e' oj
      unfold LJ.grow at oj
      obtain⟨d,hd,rfl⟩:=V6.mp oj
      have:=ll d hd
      split
      ·show (d.2.2 ++ [(i:Int)]).length <= i + 1
       rw[EZ,WM];omega
      ·omega
  ·rw[hv] at fv
   have iM:y∉es.map (·.1):=fun z=>by
    obtain⟨e,he,ek⟩:=V6.mp z
    cases ff:es.find? fun e=>decide (e.1=y) with
    | none=>exact absurd (Zj.mp ff e he) (by simpa using ek)
    | some e'=>rw[ff] at fv;cases fv
   have qz:upd H6 dl (.dK (putK (eu es) (Sum.inl y) (.ref en))) en=some (.lst []):=by rw[aO Ca];exact vc
   refine⟨.inl ⟨rfl,_,bh.of qz⟩,_,rfl,en,_,_,rfl,rfl,qz,lj (Xl _),?_⟩
   refine⟨es ++ [(y,en,[(i:Int)])],_,_,rfl,fun b' o eb nb => ?_,aJ.put (aJ.put rY xH (.inr ⟨_,rfl⟩)) qz (.inl ⟨_,rfl⟩),?_,?_,?_,?_,?_,?_⟩
   ·rw[aO (dg eb vd),aO nb];exact s6 _ _ (kp _ _ eb nb)
   ·rw[aO (Ys Ca),bw,Nj _ hv];unfold eu;rw[WR];rfl
   ·refine L4.snoc jV iM (fun e he => ?_) (by rw[bw];rfl)
    have ne1:e.2.1≠en:=dg (L4.at_ e he) jV
    have Cc:e.2.1≠dl:=fun z=>by have:=fr e he;rw[z,xF] at this;cases this
    rw[aO ne1,aO Cc,L4.at_ e he];exact s6 _ _ (L4.at_ e he)
   ·intro e he
    rcases WX.mp he with q | q
    ·exact fr e q
    ·rw[WZ.mp q];exact vd
   ·unfold strip at st ⊢
    rw[WR,st]
    show cP fs i ++ [(y,[(i:Int)])]=lJ (cP fs i) (fs.getD i 0) i
    unfold lJ
    rw[eD,V0 (by rw[<-st,WU];exact iM)]
   ·rw[EZ,WM];omega
   ·intro e he
    rcases WX.mp he with q | q
    ·have:=ll e q;omega
    ·rw[WZ.mp q];show 1 <= i + 1;omega
 ·rintro σ H4 ⟨es,w3,w4,rfl,kp,tk,om,L4,fr,st,le,ll⟩
  rw[pd,va] at st
  refine⟨_,rfl,.inr (.inr (.inl ⟨rfl,.inl ⟨_,om⟩⟩)),dl,_,rfl,rfl,om,fun v hv => ?_⟩
  have s5:aA H4 (upd H4 v (iz v dl)):=lI hv
  refine⟨v,dl,_,rfl,bw,s5 _ _ om,fun r xD => ?_⟩
  have s6:=s5.trans (lI (o := .lst ((eu es).map (·.2))) xD)
  have xI:H4 r=none:=s5.free xD
  have Cd:upd (upd H4 v (iz v dl)) r (.lst ((eu es).map (·.2))) r=some (.lst ((eu es).map (·.2))):=bw
  have rY:=aJ.same tk s6
  generalize upd (upd H4 v (iz v dl)) r (.lst ((eu es).map (·.2)))=H5 at s6 Cd rY
  have RO:r≠dl:=fun z=>by rw[z,om] at xI;cases xI
  have HK:H3 r=none:=by
   cases q:H3 r with
   | none=>rfl
   | some u=>rw[kp r u q RO] at xI;cases xI
  have non:∀ {x:Addr},H3 x=none->H x=none:=fun {x} e=>by
   cases q:H x with
   | none=>rfl
   | some u=>obtain⟨u',z⟩:=E3.iA x u q;rw[e] at z;cases z
  have RP:HI H (.ref r) H5:=by
   cases es with
   | nil=>exact absurd st.symm (RI (by have:=W.m1;omega))
   | cons e es=>exact⟨r,e.2.1,_,rfl,non HK,Cd,non (fr e vX)⟩
  refine hD _ _ (kk _ _ hK _ (Nw F3 H3 H5) _ ?_ RP)
  have sm:aA F3 (Nw F3 H3 H5):=Nw.same S3.sub
  refine⟨fun a o e => ?_,E3.same.trans sm,fun a o e => ?_,fun a o e _ t => ?_,rY,fun a ha => ?_,rfl,fun j ow e=>by simp at e,fun a ha=>by simp at ha,?_⟩
  ·unfold Nw at e
   cases q:H3 a with
   | none=>rw[q] at e;exact e
   | some u =>
    rw[q] at e
    have e:F3 a=some o:=e
    exact s6 _ _ (kp _ _ (S3.sub _ _ e) fun z=>by rw[z,RM] at e;cases e)
  ·unfold Nw at e
   cases q:H3 a with
   | none =>
    refine .inr ?_
    cases q0:H a with
    | none=>rfl
    | some u=>obtain⟨u',h'⟩:=E3.iA a u q0;rw[q] at h';cases h'
   | some u =>
    rw[q] at e
    have e:F3 a=some o:=e
    rcases E3.new a o e with z | z | z
    ·exact .inl z
    ·exact .inr z
    ·exact absurd z (xE _)
  ·exact s6 _ _ (kp _ _ (E3.keep a o e (xE _) t) fun z=>by rw[z,u_] at e;cases e)
  ·obtain⟨ps,q⟩:=aJ.tb S3.tab ha
   unfold Nw;rw[q];exact S3.nt a ha
  ·show Is (Nw F3 H3 H5) (.lst (((cP fs m.toNat).map (·.2)).map a_)) _
   simp only[Is]
   refine⟨r,_,rfl,by unfold Nw;rw[HK];exact Cd,?_⟩
   rw[<-st]
   have key:∀ xs:List Lt,(∀ e∈xs,e∈es)->af (Nw F3 H3 H5) (((strip xs).map (·.2)).map a_) ((eu xs).map (·.2)):=by
    intro xs
    induction xs with
    | nil=>intro _;exact .nil
    | cons e xs ih =>
     intro h
     show af _ (a_ e.2.2 :: _) (V.ref e.2.1 :: _)
     simp only[af]
     refine⟨_,_,rfl,?_,ih fun x hx=>h x (E6 _ hx)⟩
     have he:=h e vX
     show Is _ (.lst (e.2.2.map D.int)) _
     simp only[Is]
     refine⟨e.2.1,e.2.2.map V.int,rfl,by unfold Nw;rw[fr e he];exact s6 _ _ (L4.at_ e he),mz⟩
   exact key es fun _ h=>h
noncomputable def xJ (p q:Int) (fs:List Int):List Int:=fs.map fun x=>if x=p then q else x
theorem RQ {p q x y:Int}:(if x=p then q else x)=(if y=p then q else y)↔x=y\/((x=p\/x=q)/\(y=p\/y=q)):=by
 by_cases h1:x=p<;>by_cases h2:y=p
 ·rw[V8 h1,V8 h2];constructor<;>intro h<;>omega
 ·rw[V8 h1,V0 h2];constructor<;>intro h<;>omega
 ·rw[V0 h1,V8 h2];constructor<;>intro h<;>omega
 ·rw[V0 h1,V0 h2];constructor<;>intro h<;>omega
theorem HL {f:Int->Int} {fs:List Int} {i:Nat} (h:i < fs.length):(fs.map f).getD i 0=f (fs.getD i 0):=by
 rw[E5,MJ,pb h,E5,pb h];rfl
theorem RR (fs:List Int) (i j:Nat):hZ fs i j=xJ (max (fs.getD i 0) (fs.getD j 0)) (min (fs.getD i 0) (fs.getD j 0)) fs:=rfl
theorem RS (a b:Int):(max a b=a/\min a b=b)\/(max a b=b/\min a b=a):=by
 by_cases h:a <= b
 ·exact .inr ⟨Int.max_eq_right h,Int.min_eq_left h⟩
 ·exact .inl ⟨Int.max_eq_left (by omega),Int.min_eq_right (by omega)⟩
noncomputable def kM (ws:List (Int × Int × Int)) (st:List Int × List Int) (n:Int):List Int × List Int :=
 if st.2.getD (cB ws n).1 0=st.2.getD (cB ws n).2 0 then st else (st.1 ++ [n],hZ st.2 (cB ws n).1 (cB ws n).2)
noncomputable def gN (ws:List (Int × Int × Int)) (fs ns:List Int):List Int × List Int:=ns.foldl (kM ws) ([],fs)
noncomputable def kN (m:Int) (ws:List (Int × Int × Int)) (ns:List Int):List Int:=sortI (gN ws (aP m.toNat) ns).1
theorem RT (ws:List (Int × Int × Int)) (st:List Int × List Int) (n:Int):(kM ws st n).2.length=st.2.length:=by
 unfold kM
 split
 ·rfl
 ·exact rT _ _ _
theorem Ce (ws:List (Int × Int × Int)):∀ (ns:List Int) (st:List Int × List Int),∃ l,(ns.foldl (kM ws) st).1=st.1 ++ l/\l.Sublist ns/\(ns.foldl (kM ws) st).2.length=st.2.length
 | [],st=>⟨[],by simp,.slnil,rfl⟩
 | n :: r,st=>by
  obtain⟨l,h1,h2,h3⟩:=Ce ws r (kM ws st n)
  rw[ZR]
  rw[RT] at h3
  unfold kM at h1 h3 ⊢
  split at h1
  ·rename_i q
   rw[V8 q] at h3 ⊢
   exact⟨l,h1,h2.cons _,h3⟩
  ·rename_i q
   rw[V0 q] at h3 ⊢
   exact⟨n :: l,by rw[h1,XJ];rfl,h2.cons₂ _,h3⟩
theorem xK {a b:Int}:aF (.int a) (.int b)=decide (a=b):=by
 cases q:aF (.int a) (.int b)
 ·exact (WK fun z=>by rw[z,lG] at q;cases q).symm
 ·simp only[aF] at q
  exact (Wz (X7 q)).symm
noncomputable def ve:GD:=fun ys aj K=>∃ (m:Int) (ws:List (Int × Int × Int)),cK m ws/\ys=[.p (aX m ws)]/\aj=[]/\∀ ns,bM ws ns->K (.n ((kN m ws ns).map D.int)) []
noncomputable def Cf:WS:=(av (aK 1 (aq 1 u7 (ak (aa 0) ag))) (av (aK 2 (q_ ag)) (av (aK 3 (aq 2 qq (ak (aa 0) (ak (aa 2) ag)))) (av (fy (cL (aa 1)) (cy 4) (av (aK 5 (d2 (d2 (aa 0) (dC (.int 1)) bj) (aa 4) bj)) (bJ (dT (d2 (d2 (aa 3) (d2 (aa 5) (dC (.int 0)) bj) bj) (d2 (aa 3) (d2 (aa 5) (dC (.int 1)) bj) bj) nP)) (av (ly (jP (aa 2) (ak (aa 4) ag))) (aK 3 (aq 3 n6 (ak (aa 3) (ak (d2 (aa 5) (dC (.int 0)) bj) (ak (d2 (aa 5) (dC (.int 1)) bj) ag)))))) fQ))) (aV (xg (ak (aa 2) ag) xh))))))
theorem RU:∀ ys aj K',ys.length=1->ve ys aj K'->Cf (dq aj.length K') ⟨ys.map some ++ List.replicate 5 none,aj.map some⟩:=by
 rintro ys aj K' - ⟨m,ws,W,rfl,rfl,k⟩
 have rX:=W.iU
 have m1:=W.m1
 have lu:=W.lu
 unfold Cf
 refine bp fun N hN => ?_
 simp? only []
 refine⟨m,ws,W,rfl,rfl,fun ns ho => ?_⟩
 simp? only []
 subst hN
 refine bp fun N hN => ?_
 simp? only []
 subst hN
 refine bp fun N hN => ?_
 simp? only []
 refine⟨m,ws,[],W,fun n hn=>absurd hn W_,.inr ⟨rfl,rfl,?_⟩⟩
 simp? only []
 subst hN
 refine bp fun N hN=>uB fun g' b' K2 hg dD hK => ?_
 simp? only []
 subst hg dD hK
 have il:(aP m.toNat).length=m.toNat:=by unfold aP;simp
 have hlen:=ho.len
 have inv:∀ i,(gN ws (aP m.toNat) (ns.take i)).2.length=m.toNat/\(gN ws (aP m.toNat) (ns.take i)).1.length <= 30:=fun i=>by
  obtain⟨l,h1,h2,h3⟩:=Ce ws (ns.take i) ([],aP m.toNat)
  refine⟨h3.trans il,?_⟩
  have:(gN ws (aP m.toNat) (ns.take i)).1=l:=h1
  rw[this]
  have:=h2.length_le
  rw[W5] at this
  omega
 refine nV (fun i δ => δ = ⟨[some (.p (aX m ws)),some (.p (.lst (ns.map D.int))),some (.o 0),some (.p (a_ (gN ws (aP m.toNat) (ns.take i)).2)),none,none],[some (.lst ((gN ws (aP m.toNat) (ns.take i)).1.map D.int))]⟩) rfl ?_ ?_
 ·rintro i d δ L hi rfl hL
  rw[MJ] at hi
  obtain⟨n,HM,rfl⟩:=V7.mp hi
  obtain⟨n0,n1⟩:=ho.nums n (Xb HM)
  obtain⟨y,ey,hy,ea,a,b,e1,e2,h1,h2,_⟩:=rU W n0 n1
  have en:cB ws n=(a,b):=by unfold cB;rw[ey,e1,e2,WQ,WQ]
  obtain⟨hf,hl⟩:=inv i
  have step:gN ws (aP m.toNat) (ns.take (i + 1))=kM ws (gN ws (aP m.toNat) (ns.take i)) n:=by
   have:ns.take (i + 1)=ns.take i ++ [n]:=by rw[Yj,HM];rfl
   rw[this]
   unfold gN
   rw[q0j];rfl
  have kO:=hL _ rfl
  rw[step] at kO
  generalize gN ws (aP m.toNat) (ns.take i)=st at hf hl kO
  obtain⟨acc,fs⟩:=st
  dsimp only at hf hl kO ⊢
  unfold kM at kO
  rw[en] at kO
  dsimp only at kO
  refine⟨trivial,?_⟩
  simp only[cy,XA,XB]
  refine bp fun N2 dJ => ?_
  simp? only [iQ,aX,ea]
  subst dJ
  have a1:=xt (ns:=fs) (i:=a) (by omega)
  have a2:=xt (ns:=fs) (i:=b) (by omega)
  refine mF fun Ay Bn hA hB => ?_
  simp? only [jc,iQ,cz,e1,e2,a_,a1,a2,xK]
  by_cases q:fs.getD a 0=fs.getD b 0
  ·rw[Wz q]
   simp? only []
   subst hB
   rw[V8 q] at kO
   simp? only []
   exact kO
  ·rw[WK q]
   simp? only []
   subst hA
   rw[V0 q] at kO
   refine bp fun N2 dJ => ?_
   simp? only []
   refine⟨by omega,?_⟩
   subst dJ
   simp? only [jc,iQ]
   refine⟨fs,a,b,rfl,rfl,by omega,by omega,by omega,?_⟩
   simp? only []
   rw[WR] at kO
   exact kO
 ·rintro δ rfl
  refine⟨trivial,?_⟩
  obtain⟨hf,hl⟩:=inv ns.length
  rw[pd,Xm (qU _)] at *
  show N _
  subst hN
  simp? only [xh,rF]
  exact⟨by omega,[],rfl,rfl,.inl (k ns ho)⟩
end LJ
namespace LJ
open PySem L2
noncomputable abbrev Wy:=Int × Int × Int
noncomputable def xM (S:Wy->Prop) (a b:Int):Prop:=∃ w,S w/\((w.1=a/\w.2.1=b)\/(w.1=b/\w.2.1=a))
inductive aD (S:Wy->Prop) (a:Int):Int->Prop
 | rf:aD S a a
 | st {b c:Int}:aD S a b->xM S b c->aD S a c
section
variable {S S':Wy->Prop} {a b c:Int}
theorem xM.symm (h:xM S a b):xM S b a:=let ⟨w,h1,h2⟩:=h; ⟨w,h1,h2.symm⟩
theorem aD.trans (h:aD S a b) (h':aD S b c):aD S a c:=by
 induction h' with
 | rf=>exact h
 | st _ e ih=>exact .st ih e
theorem aD.symm (h:aD S a b):aD S b a:=by
 induction h with
 | rf=>exact .rf
 | st _ e ih=>exact (aD.st .rf e.symm).trans ih
theorem aD.bind (h:aD S a b) (k:∀ w,S w->aD S' w.1 w.2.1):aD S' a b:=by
 induction h with
 | rf=>exact .rf
 | st _ e ih =>
  obtain⟨w,h1,h2⟩:=e
  rcases h2 with⟨rfl,rfl⟩ | ⟨rfl,rfl⟩
  ·exact ih.trans (k w h1)
  ·exact ih.trans (k w h1).symm
theorem aD.one {w:Wy} (h:S w):aD S w.1 w.2.1 := .st .rf ⟨w,h,.inl ⟨rfl,rfl⟩⟩
theorem aD.mono (h:aD S a b) (k:∀ w,S w->S' w):aD S' a b:=h.bind fun w hw => .one (k w hw)
theorem aD.none (h:aD S a b) (k:∀ w,¬ S w):a=b:=by
 cases h with
 | rf=>rfl
 | st _ e=>obtain⟨w,h1,_⟩:=e;exact absurd h1 (k w)
theorem aD.add {w:Wy} (k:∀ v,S' v↔S v\/v=w):aD S' a b↔aD S a b\/(aD S a w.1/\aD S w.2.1 b)\/(aD S a w.2.1/\aD S w.1 b):=by
 constructor
 ·intro h
  induction h with
  | rf=>exact .inl .rf
  | st _ e ih =>
   rename_i b c _
   obtain⟨v,h1,h2⟩:=e
   rcases (k v).mp h1 with h1 | rfl
   ·have e':aD S b c := .st .rf ⟨v,h1,h2⟩
    rcases ih with i | ⟨i,j⟩ | ⟨i,j⟩
    ·exact .inl (i.trans e')
    ·exact .inr (.inl ⟨i,j.trans e'⟩)
    ·exact .inr (.inr ⟨i,j.trans e'⟩)
   ·rcases h2 with⟨rfl,rfl⟩ | ⟨rfl,rfl⟩
    ·rcases ih with i | ⟨i,j⟩ | ⟨i,j⟩
     ·exact .inr (.inl ⟨i,.rf⟩)
     ·exact .inr (.inl ⟨i,.rf⟩)
     ·exact .inl i
    ·rcases ih with i | ⟨i,j⟩ | ⟨i,j⟩
     ·exact .inr (.inr ⟨i,.rf⟩)
     ·exact .inl i
     ·exact .inr (.inr ⟨i,.rf⟩)
 ·have up:∀ {x y},aD S x y->aD S' x y:=fun h=>h.mono fun v hv=>(k v).mpr (.inl hv)
  have o:aD S' w.1 w.2.1 := .one ((k w).mpr (.inr rfl))
  rintro (h | ⟨h,h'⟩ | ⟨h,h'⟩)
  ·exact up h
  ·exact ((up h).trans o).trans (up h')
  ·exact ((up h).trans o.symm).trans (up h')
end
variable [aJ]
noncomputable def aW (n:Nat) (fs:List Int) (S:Wy->Prop):Prop:=fs.length=n/\∀ i j:Nat,i < n->j < n->(fs.getD i 0=fs.getD j 0↔aD S i j)
theorem HN {n i:Nat} (h:i < n):(aP n).getD i 0=i:=by
 unfold aP
 rw[E5,MJ,Xr h];rfl
theorem aW.start (n:Nat):aW n (aP n) (fun _=>False):=by
 refine⟨by unfold aP;simp,fun i j hi hj => ?_⟩
 rw[HN hi,HN hj]
 exact⟨fun e=>by rw[e];exact .rf,fun h=>h.none fun _ z=>z⟩
theorem aW.join {n i j:Nat} {fs:List Int} {S S':Wy->Prop} {w:Wy} {p q:Int} (h:aW n fs S) (hi:i < n) (hj:j < n) (e1:w.1=i) (e2:w.2.1=j) (k:∀ v,S' v↔S v\/v=w) (pq:(p=fs.getD i 0/\q=fs.getD j 0)\/(p=fs.getD j 0/\q=fs.getD i 0)):aW n (xJ p q fs) S':=by
 refine⟨by unfold xJ;rw[pd,h.1],fun x y hx hy => ?_⟩
 unfold xJ
 rw[HL (by rw[h.1];exact hx),HL (by rw[h.1];exact hy),RQ,aD.add k,e1,e2,<-h.2 x y hx hy,<-h.2 x i hx hi,<-h.2 x j hx hj,<-h.2 j y hj hy,<-h.2 i y hi hy]
 rcases pq with⟨rfl,rfl⟩ | ⟨rfl,rfl⟩
 ·constructor
  ·rintro (h | ⟨h1 | h1,h2 | h2⟩)
   ·exact .inl h
   ·exact .inl (h1.trans h2.symm)
   ·exact .inr (.inl ⟨h1,h2.symm⟩)
   ·exact .inr (.inr ⟨h1,h2.symm⟩)
   ·exact .inl (h1.trans h2.symm)
  ·rintro (h | ⟨h1,h2⟩ | ⟨h1,h2⟩)
   ·exact .inl h
   ·exact .inr ⟨.inl h1,.inr h2.symm⟩
   ·exact .inr ⟨.inr h1,.inl h2.symm⟩
 ·constructor
  ·rintro (h | ⟨h1 | h1,h2 | h2⟩)
   ·exact .inl h
   ·exact .inl (h1.trans h2.symm)
   ·exact .inr (.inr ⟨h1,h2.symm⟩)
   ·exact .inr (.inl ⟨h1,h2.symm⟩)
   ·exact .inl (h1.trans h2.symm)
  ·rintro (h | ⟨h1,h2⟩ | ⟨h1,h2⟩)
   ·exact .inl h
   ·exact .inr ⟨.inr h1,.inl h2.symm⟩
   ·exact .inr ⟨.inl h1,.inr h2.symm⟩
theorem aW.gg {n i j:Nat} {fs:List Int} {S S':Wy->Prop} {w:Wy} (h:aW n fs S) (hi:i < n) (hj:j < n) (e1:w.1=i) (e2:w.2.1=j) (k:∀ v,S' v↔S v\/v=w) (e:fs.getD i 0=fs.getD j 0):aW n fs S':=by
 refine⟨h.1,fun x y hx hy=>(h.2 x y hx hy).trans ?_⟩
 have ij:=(h.2 i j hi hj).mp e
 rw[aD.add k,e1,e2]
 exact⟨.inl,fun z=>z.elim id fun z=>z.elim (fun ⟨a,b⟩=>(a.trans ij).trans b) fun ⟨a,b⟩=>(a.trans ij.symm).trans b⟩
noncomputable def ax (ws:List Wy) (n:Int):Wy:=ws.getD n.toNat (0,0,0)
theorem RW {m:Int} {ws:List Wy} (W:cK m ws):∀ (ns:List Int),Nums ws ns->ns.Nodup->aW m.toNat (gN ws (aP m.toNat) ns).2 (fun v=>∃ k∈ns,v=ax ws k) ∧
  ∀ n,n∈(gN ws (aP m.toNat) ns).1↔∃ as bs,ns=as ++ n :: bs/\¬ aD (fun v=>∃ k∈as,v=ax ws k) (ax ws n).1 (ax ws n).2.1:=by
 intro ns
 have rev:∀ (rs:List Int),Nums ws rs.reverse->rs.reverse.Nodup->aW m.toNat (gN ws (aP m.toNat) rs.reverse).2 (fun v=>∃ k∈rs.reverse,v=ax ws k) ∧
  ∀ n,n∈(gN ws (aP m.toNat) rs.reverse).1↔∃ as bs,rs.reverse=as ++ n :: bs/\¬ aD (fun v=>∃ k∈as,v=ax ws k) (ax ws n).1 (ax ws n).2.1:=by
  intro rs
  induction rs with
  | nil =>
   intro _ _
   refine⟨?_,fun n=>⟨fun h=>absurd h W_,fun ⟨as,bs,e,_⟩ => ?_⟩⟩
   ·refine⟨(aW.start _).1,fun i j hi hj=>((aW.start _).2 i j hi hj).trans ⟨fun h=>h.mono fun _ z=>z.elim,fun h=>h.mono fun v ⟨k,hk,_⟩=>absurd hk W_⟩⟩
   ·exact absurd e (by simp)
  | cons r rs ih =>
   intro hn nd
   rw[List.reverse_cons] at hn nd ⊢
   have iS:Nums ws rs.reverse:=fun x hx=>hn x (Xf _ hx)
   have RX:=(Xi.mp nd).1
   obtain⟨mk,mem⟩:=ih iS RX
   obtain⟨r0,r1⟩:=hn r (VZ _ vX)
   obtain⟨y,ey,hy,_,i,j,e1,e2,h1,h2,_⟩:=rU W r0 r1
   have ew:ax ws r=y:=ey
   have en:cB ws r=(i,j):=by unfold cB;rw[ey,e1,e2,WQ,WQ]
   have step:gN ws (aP m.toNat) (rs.reverse ++ [r])=kM ws (gN ws (aP m.toNat) rs.reverse) r:=by unfold gN;rw[q0j];rfl
   have kS:∀ v,(∃ k∈rs.reverse ++ [r],v=ax ws k)↔(∃ k∈rs.reverse,v=ax ws k)\/v=ax ws r:=fun v=>by
    constructor
    ·rintro ⟨k,hk,rfl⟩
     rcases WX.mp hk with hk | hk
     ·exact .inl ⟨k,hk,rfl⟩
     ·rw[WZ.mp hk];exact .inr rfl
    ·rintro (⟨k,hk,rfl⟩ | rfl)
     ·exact⟨k,Xf _ hk,rfl⟩
     ·exact⟨r,VZ _ vX,rfl⟩
   have split:∀ n (P:List Int->Prop),(∃ as bs,rs.reverse ++ [r]=as ++ n :: bs/\P as)↔(∃ as bs,rs.reverse=as ++ n :: bs/\P as)\/(n=r/\P rs.reverse):=fun n P=>by
    constructor
    ·rintro ⟨as,bs,e,hp⟩
     rcases List.eq_nil_or_concat bs with rfl | ⟨HP,z,rfl⟩
     ·have:=List.append_inj' e rfl
      obtain⟨rfl,e3⟩:=this
      cases e3
      exact .inr ⟨rfl,hp⟩
     ·have e':rs.reverse ++ [r]=(as ++ n :: HP) ++ [z]:=by rw[e];simp
      obtain⟨e3,_⟩:=List.append_inj' e' rfl
      exact .inl ⟨as,HP,e3,hp⟩
    ·rintro (⟨as,bs,e,hp⟩ | ⟨rfl,hp⟩)
     ·exact⟨as,bs ++ [r],by rw[e];simp,hp⟩
     ·exact⟨rs.reverse,[],rfl,hp⟩
   rw[step]
   unfold kM
   rw[en]
   dsimp only
   have HQ:=mk.2 i j h1 h2
   by_cases q:(gN ws (aP m.toNat) rs.reverse).2.getD i 0=(gN ws (aP m.toNat) rs.reverse).2.getD j 0
   ·rw[V8 q]
    refine⟨mk.gg (w:=ax ws r) h1 h2 (by rw[ew];exact e1) (by rw[ew];exact e2) kS q,fun n => ?_⟩
    rw[split n (fun as=>¬ aD (fun v=>∃ k∈as,v=ax ws k) (ax ws n).1 (ax ws n).2.1),mem n]
    refine⟨.inl,fun z=>z.elim id fun ⟨e,hc⟩ => ?_⟩
    subst e
    rw[ew,e1,e2] at hc
    exact absurd (HQ.mp q) hc
   ·rw[V0 q]
    refine⟨?_,fun n => ?_⟩
    ·dsimp only
     rw[RR]
     exact mk.join (w:=ax ws r) h1 h2 (by rw[ew];exact e1) (by rw[ew];exact e2) kS (RS _ _)
    ·rw[split n (fun as=>¬ aD (fun v=>∃ k∈as,v=ax ws k) (ax ws n).1 (ax ws n).2.1)]
     dsimp only
     rw[WX,mem n,WZ]
     refine or_congr Iff.rfl ⟨fun e=>⟨e,?_⟩,fun h=>h.1⟩
     subst e
     rw[ew,e1,e2]
     exact fun z=>q (HQ.mpr z)
 intro hn nd
 have:=rev ns.reverse (by rw[ZP];exact hn) (by rw[ZP];exact nd)
 rw[ZP] at this
 exact this
noncomputable def jB (w:Wy):LK:=[w.2.2,w.1,w.2.1]
noncomputable def oo (v w:Wy):Prop:=HT.lexLt (jB v) (jB w)=true
noncomputable def jf (ws:List Wy) (w:Wy):Prop:=w∈ws/\¬ aD (fun v=>v∈ws/\oo v w) w.1 w.2.1
theorem HR (ws:List Wy) (n:Int):eg ws n=jB (ax ws n):=rfl
theorem xN {ws:List Wy} {n:Int} (h0:0 <= n) (h1:n < (ws.length:Int)):ax ws n∈ws:=by
 unfold ax
 exact Xb (getD_some (by omega))
theorem Cg {ws:List Wy} {w:Wy} (h:w∈ws):∃ n:Int,(0 <= n/\n < (ws.length:Int))/\ax ws n=w:=by
 obtain⟨i,hi⟩:=WB.mp h
 have hl:=(pe.mp hi).1
 refine⟨i,⟨by omega,by omega⟩,?_⟩
 unfold ax
 rw[WQ,E5,hi];rfl
theorem HS {a b:LK} (h:kle a b) (n:a≠b):HT.lexLt a b=true:=by
 cases q:HT.lexLt a b with
 | true=>rfl
 | false=>exact absurd (uo q h) n
theorem HU {m:Int} {ws:List Wy} (W:cK m ws) {ns:List Int} (ho:bM ws ns) {n:Int}:n∈kN m ws ns↔(0 <= n/\n < (ws.length:Int))/\jf ws (ax ws n):=by
 have nd:ns.Nodup:=ho.perm.nodup_iff.mpr (Ho _)
 unfold kN
 rw[(sortI_perm _).mem_iff,(RW W ns ho.nums nd).2 n]
 have before:∀ as bs,ns=as ++ n :: bs->∀ v,(∃ k∈as,v=ax ws k)↔(v∈ws/\oo v (ax ws n)):=fun as bs e v=>by
  have up:=ho.up
  rw[e,WR,WW,List.pairwise_append,XC] at up
  obtain⟨_,⟨u2,_⟩,u3⟩:=up
  have hn:n∈ns:=by rw[e];exact VZ _ vX
  have nn:=ho.nums n hn
  rw[e] at nd
  have RY:=Xi.mp nd
  constructor
  ·rintro ⟨k,hk,rfl⟩
   have i9:k∈ns:=by rw[e];exact Xf _ hk
   have kn:=ho.nums k i9
   refine⟨xN kn.1 kn.2,HS (u3 _ (Zc hk) _ vX) fun z => ?_⟩
   have:=HD W kn nn z
   subst this
   exact RY.2.2 k hk k vX rfl
  ·rintro ⟨hv,cj⟩
   obtain⟨k,kn,rfl⟩:=Cg hv
   have hk:k∈ns:=ho.perm.mem_iff.mpr (by
    unfold aP
    exact V6.mpr ⟨k.toNat,WL.mpr (by omega),by simp;omega⟩)
   rw[e] at hk
   rcases WX.mp hk with hk | hk
   ·exact⟨k,hk,rfl⟩
   ·exfalso
    rcases ML.mp hk with rfl | hk
    ·have:HT.lexLt (jB (ax ws k)) (jB (ax ws k))=true:=cj
     rw[um] at this;cases this
    ·have:=u2 _ (Zc hk)
     have h2:HT.lexLt (eg ws k) (eg ws n)=true:=cj
     unfold kle at this
     rw[this] at h2;cases h2
 constructor
 ·rintro ⟨as,bs,e,hc⟩
  have nn:=ho.nums n (by rw[e];exact VZ _ vX)
  exact⟨nn,xN nn.1 nn.2,fun z=>hc (z.mono fun v hv=>(before as bs e v).mpr hv)⟩
 ·rintro ⟨nn,_,hc⟩
  have hn:n∈ns:=ho.perm.mem_iff.mpr (by
   unfold aP
   exact V6.mpr ⟨n.toNat,WL.mpr (by omega),by simp;omega⟩)
  obtain⟨as,bs,e⟩:=List.append_of_mem hn
  exact⟨as,bs,e,fun z=>hc (z.mono fun v hv=>(before as bs e v).mp hv)⟩
theorem HV {m:Int} {ws:List Wy} {ns:List Int} (ho:bM ws ns):(kN m ws ns).Nodup:=by
 unfold kN
 refine (sortI_perm _).nodup_iff.mpr ?_
 obtain⟨l,h1,h2,_⟩:=Ce ws ns ([],aP m.toNat)
 have:(gN ws (aP m.toNat) ns).1=l:=h1
 rw[this]
 exact (ho.perm.nodup_iff.mpr (Ho _)).sublist h2
end LJ
namespace LJ
open PySem L2
variable [aJ]
open Classical in
theorem RZ {m:Int} {ws:List Wy} (W:cK m ws):ws.Nodup:=by
 have:=W.unlike
 unfold List.Nodup at this ⊢
 rw[XM] at this
 exact this.imp fun {a b} h e=>h (by rw[e])
open Classical in
open Classical in
noncomputable def mP (ws:List Wy) (w:Wy):Nat:=ws.countP fun v=>HT.lexLt (jB v) (jB w)
theorem HW {α : Type} {p q : α -> Bool} {x : α}:∀ {l:List α},(∀ y∈l,p y=true->q y=true)->x∈l->q x=true->p x=false->l.countP p < l.countP q
 | y :: l,h,hx,h1,h2=>by
  have le:l.countP p <= l.countP q:=List.countP_mono_left fun z hz=>h z (E6 _ hz)
  rw[YM,YM]
  rcases ML.mp hx with rfl | hx
  ·rw[h1,h2];simp;omega
  ·have:=HW (fun z hz=>h z (E6 _ hz)) hx h1 h2
   have hy:=h y vX
   cases q1:p y with
   | false=>simp;split<;>omega
   | true=>rw[hy q1];simp;omega
theorem Ci {ws:List Wy} {u v:Wy} (hu:u∈ws) (h:oo u v):mP ws u < mP ws v :=
 HW (fun y _ hy=>wY hy h) hu h (um _)
noncomputable def k3 (w:Wy):LK:=[w.1,w.2.1,w.2.2]
theorem vf (n:Nat):(aP n).length=n:=by unfold aP;simp
structure Good (fs:List Int):Prop where
 le:∀ h:Nat,h < fs.length->0 <= fs.getD h 0/\fs.getD h 0 <= h
 own:∀ h:Nat,h < fs.length->fs.getD (fs.getD h 0).toNat 0=fs.getD h 0
theorem getD_at {fs:List Int} {h:Nat} (hl:h < fs.length):fs.getD h 0=fs[h]:=by rw[E5,pb hl];rfl
theorem R0 {fs:List Int} {i j h:Nat} (hl:h < fs.length):(hZ fs i j).getD h 0=if fs.getD h 0=max (fs.getD i 0) (fs.getD j 0) then min (fs.getD i 0) (fs.getD j 0) else fs.getD h 0:=by
 rw[getD_at (by rw[rT];exact hl),getD_at hl]
 unfold hZ
 rw[Yb]
theorem R1 (n:Nat):Good (aP n):=by
 have e:∀ h:Nat,h < (aP n).length->(aP n).getD h 0=h:=fun h hl=>by
  rw[vf] at hl
  rw[aP,E5,MJ,Xr hl];rfl
 refine⟨fun h hl=>by rw[e h hl];omega,fun h hl => ?_⟩
 rw[e h hl,WQ,e h hl]
theorem Good.join {fs:List Int} (G:Good fs) {i j:Nat} (hi:i < fs.length) (hj:j < fs.length):Good (hZ fs i j):=by
 have a1:=G.le i hi
 have a2:=G.le j hj
 have o1:=G.own i hi
 have o2:=G.own j hj
 generalize hg:max (fs.getD i 0) (fs.getD j 0)=g
 generalize hk:min (fs.getD i 0) (fs.getD j 0)=k
 have gk:0 <= k/\k <= g/\k.toNat < fs.length/\fs.getD k.toNat 0=k:=by
  rw[<-hg,<-hk]
  rcases Int.le_total (fs.getD i 0) (fs.getD j 0) with c | c
  ·rw[Int.min_eq_left c,Int.max_eq_right c];exact⟨a1.1,c,by omega,o1⟩
  ·rw[Int.min_eq_right c,Int.max_eq_left c];exact⟨a2.1,c,by omega,o2⟩
 have at_:∀ h,h < fs.length->(hZ fs i j).getD h 0=if fs.getD h 0=g then k else fs.getD h 0:=fun h hl=>by rw[R0 hl,hg,hk]
 refine⟨fun h hl => ?_,fun h hl => ?_⟩
 ·rw[rT] at hl
  have:=G.le h hl
  rw[at_ h hl]
  split<;>omega
 ·rw[rT] at hl
  have b:=G.le h hl
  have c:=G.own h hl
  rw[at_ h hl]
  by_cases d:fs.getD h 0=g
  ·rw[V8 d,at_ _ gk.2.2.1,gk.2.2.2]
   split<;>rfl
  ·rw[V0 d,at_ _ (by omega),c,V0 d]
theorem vg {m:Int} {ws:List Wy} (W:cK m ws) {n:Int} (h0:0 <= n) (h1:n < (ws.length:Int)):∃ i k:Nat,cB ws n=(i,k)/\(ax ws n).1=i/\(ax ws n).2.1=k/\i < m.toNat/\k < m.toNat:=by
 obtain⟨y,ey,hy,_,i,k,e1,e2,h1,h2,_⟩:=rU W h0 h1
 refine⟨i,k,?_,by unfold ax;rw[ey];exact e1,by unfold ax;rw[ey];exact e2,h1,h2⟩
 unfold cB
 rw[ey,e1,e2,WQ,WQ]
theorem HX {m:Int} {ws:List Wy} (W:cK m ws):∀ (ns fs:List Int),Nums ws ns->fs.length=m.toNat->Good fs->Good (jz ws fs ns)
 | [],_,_,_,G=>G
 | n :: ns,fs,hn,hl,G=>by
  have b:=hn n (vX ..)
  obtain⟨i,k,e,_,_,h1,h2⟩:=vg W b.1 b.2
  refine HX W ns _ (fun x hx=>hn x (E6 _ hx)) (by rw[rT];exact hl) ?_
  show Good (hZ fs (cB ws n).1 (cB ws n).2)
  rw[e]
  exact G.join (by omega) (by omega)
theorem HY {m:Int} {ws:List Wy} (W:cK m ws):∀ (ns fs:List Int) (S:Wy->Prop),Nums ws ns->aW m.toNat fs S->aW m.toNat (jz ws fs ns) (fun v=>S v\/∃ k∈ns,v=ax ws k)
 | [],fs,S,_,h=>by
  have:(fun v=>S v\/∃ k∈([]:List Int),v=ax ws k)=S:=funext fun v=>propext (by simp)
  rw[this];exact h
 | n :: ns,fs,S,hn,h=>by
  have b:=hn n (vX ..)
  obtain⟨i,k,e,e1,e2,h1,h2⟩:=vg W b.1 b.2
  have step:aW m.toNat (hZ fs i k) (fun v=>S v\/v=ax ws n):=by
   refine aW.join (w:=ax ws n) (p:=max (fs.getD i 0) (fs.getD k 0)) (q:=min (fs.getD i 0) (fs.getD k 0)) h h1 h2 e1 e2 (fun v=>Iff.rfl) ?_
   omega
  have:=HY W ns _ _ (fun x hx=>hn x (E6 _ hx)) step
  have eq:(fun v=>(S v\/v=ax ws n)\/∃ k∈ns,v=ax ws k)=(fun v=>S v\/∃ k∈n :: ns,v=ax ws k):=funext fun v=>propext (by
   constructor
   ·rintro ((h | h) | ⟨k,hk,h⟩)
    ·exact .inl h
    ·exact .inr ⟨n,vX,h⟩
    ·exact .inr ⟨k,E6 _ hk,h⟩
   ·rintro (h | ⟨k,hk,h⟩)
    ·exact .inl (.inl h)
    ·rcases ML.mp hk with rfl | hk
     ·exact .inl (.inr h)
     ·exact .inr ⟨k,hk,h⟩)
  rw[eq] at this
  show aW _ (jz ws (hZ fs (cB ws n).1 (cB ws n).2) ns) _
  rw[e]
  exact this
noncomputable def cQ (ws:List Wy) (ns:List Int):Wy->Prop:=fun v=>∃ k∈ns,v=ax ws k
theorem R3 {m:Int} {ws:List Wy} (W:cK m ws) {ns:List Int} (hn:Nums ws ns):aW m.toNat (h8 m ws ns) (cQ ws ns):=by
 have:=HY W ns _ _ hn (aW.start m.toNat)
 have eq:(fun v=>False\/∃ k∈ns,v=ax ws k)=cQ ws ns:=funext fun v=>propext (by unfold cQ;simp)
 rw[eq] at this
 exact this
theorem R4 {m:Int} {ws:List Wy} (W:cK m ws) {ns:List Int} (hn:Nums ws ns):Good (h8 m ws ns):=HX W ns _ hn (vf _) (R1 _)
noncomputable def bN (fs:List Int) (i:Nat) (x:Int):List Int:=((List.range i).filter fun h=>decide (fs.getD h 0=x)).map fun h:Nat=>(h:Int)
noncomputable def roots (fs:List Int) (i:Nat):List Nat:=(List.range i).filter fun h=>decide (fs.getD h 0=(h:Int))
theorem HZ {fs:List Int} (G:Good fs):∀ i,i <= fs.length->cP fs i=(roots fs i).map fun r:Nat=>((r:Int),bN fs i (r:Int))
 | 0,_=>rfl
 | i + 1,hi=>by
  have ih:=HZ G i (by omega)
  have le:=G.le i (by omega)
  have own:=G.own i (by omega)
  show lJ (cP fs i) (fs.getD i 0) i=_
  rw[ih]
  have keys:((roots fs i).map fun r:Nat=>((r:Int),bN fs i (r:Int))).map (·.1)=(roots fs i).map fun r:Nat=>(r:Int):=by rw[WU];rfl
  have kP:∀ x,bN fs (i + 1) x=if fs.getD i 0=x then bN fs i x ++ [(i:Int)] else bN fs i x:=fun x=>by
   unfold bN
   rw[ZQ,YV]
   by_cases c:fs.getD i 0=x
   ·rw[V8 c,WR,List.filter_cons_of_pos (by simpa using c)];rfl
   ·rw[V0 c,List.filter_cons_of_neg (by simpa using c),List.filter_nil,XS]
  have kQ:∀ r,r∈roots fs i↔r < i/\fs.getD r 0=(r:Int):=fun r=>by
   unfold roots
   rw[W9,WL,W8]
  unfold lJ
  rw[keys]
  by_cases c:fs.getD i 0=(i:Int)
  ·have no:fs.getD i 0∉(roots fs i).map fun r:Nat=>(r:Int):=fun z=>by
    obtain⟨r,hr,e⟩:=V6.mp z
    have:=((kQ r).mp hr).1
    omega
   rw[V0 no]
   have er:roots fs (i + 1)=roots fs i ++ [i]:=by
    unfold roots
    rw[ZQ,YV,List.filter_cons_of_pos (by simpa using c)];rfl
   rw[er,WR]
   congr 1
   ·refine Xc fun r hr => ?_
    have:=((kQ r).mp hr).1
    rw[kP,V0 (by omega)]
   ·show [(fs.getD i 0,[(i:Int)])]=[((i:Int),bN fs (i + 1) i)]
    rw[kP,V8 c,c]
    have:bN fs i (i:Int)=[]:=by
     unfold bN
     rw[List.filter_eq_nil_iff.mpr fun h hh => ?_]
     ·rfl
     ·have h1:=WL.mp hh
      have:=G.le h (by omega)
      rw[W8]
      omega
    rw[this];rfl
  ·obtain⟨x,ex⟩:∃ x:Nat,fs.getD i 0=x:=⟨(fs.getD i 0).toNat,by omega⟩
   rw[ex] at own le c ⊢
   rw[WQ] at own
   have hx:x∈roots fs i:=(kQ x).mpr ⟨by omega,own⟩
   rw[V8 (V6.mpr ⟨x,hx,rfl⟩)]
   have er:roots fs (i + 1)=roots fs i:=by
    unfold roots
    rw[ZQ,YV,List.filter_cons_of_neg (by rw[ex];simpa using c),List.filter_nil,XS]
   rw[er,WU]
   refine Xc fun r hr => ?_
   show (if (r:Int)=(x:Int) then ((r:Int),bN fs i r ++ [(i:Int)]) else ((r:Int),bN fs i r))=((r:Int),bN fs (i + 1) r)
   rw[kP,ex]
   by_cases d:(r:Int)=(x:Int)
   ·rw[V8 d,V8 d.symm]
   ·rw[V0 d,V0 (Ys d)]
theorem Cj:∀ {a b:List Int},a.Pairwise (· < ·)->b.Pairwise (· < ·)->(∀ x,x∈a↔x∈b)->a=b
 | [],[],_,_,_=>rfl
 | [],y :: _,_,_,h=>absurd ((h y).mpr (vX ..)) (by simp)
 | x :: _,[],_,_,h=>absurd ((h x).mp (vX ..)) (by simp)
 | x :: a,y :: b,ha,hb,h=>by
  obtain⟨h1,h2⟩:=XC.mp ha
  obtain⟨h3,h4⟩:=XC.mp hb
  have R5:x=y:=by
   rcases ML.mp ((h x).mp (vX ..)) with e | e
   ·exact e
   ·rcases ML.mp ((h y).mpr (vX ..)) with e' | e'
    ·exact e'.symm
    ·have:=h3 x e
     have:=h1 y e'
     omega
  subst R5
  rw[Cj h2 h4 fun z => ?_]
  constructor
  ·intro hz
   rcases ML.mp ((h z).mp (E6 _ hz)) with e | e
   ·have:=h1 z hz;omega
   ·exact e
  ·intro hz
   rcases ML.mp ((h z).mpr (E6 _ hz)) with e | e
   ·have:=h3 z hz;omega
   ·exact e
open Classical in
noncomputable def cls (n:Nat) (S:Wy->Prop) (h:Int):List Int:=(aP n).filter fun x=>decide (aD S h x)
theorem cC {n:Nat} {x:Int}:x∈aP n↔0 <= x/\x < n:=by
 unfold aP
 constructor
 ·intro h
  obtain⟨k,hk,rfl⟩:=V6.mp h
  have:=WL.mp hk
  omega
 ·intro h
  exact V6.mpr ⟨x.toNat,WL.mpr (by omega),by omega⟩
theorem Ck (n:Nat):(aP n).Pairwise (· < ·):=by
 unfold aP
 exact XM.mpr ((Yh (n:=n)).imp fun h=>by omega)
open Classical in
theorem az {n:Nat} {S:Wy->Prop} {h x:Int}:x∈cls n S h↔(0 <= x/\x < n)/\aD S h x:=by
 unfold cls
 rw[W9,cC,W8]
open Classical in
theorem xO (n:Nat) (S:Wy->Prop) (h:Int):(cls n S h).Pairwise (· < ·):=(Ck n).filter _
structure qA (n:Nat) (S:Wy->Prop) (L:List (List Int)):Prop where
 nd:L.Nodup
 mem:∀ l,l∈L↔∃ h:Int,(0 <= h/\h < n)/\l=cls n S h
theorem xP {n:Nat} {S:Wy->Prop} {a b:Int} (h:aD S a b):cls n S a=cls n S b :=
 Cj (xO _ _ _) (xO _ _ _) fun x=>by
  rw[az,az]
  exact⟨fun ⟨h1,h2⟩=>⟨h1,h.symm.trans h2⟩,fun ⟨h1,h2⟩=>⟨h1,h.trans h2⟩⟩
theorem H_ {n:Nat} {S:Wy->Prop} {a:Int} (h:0 <= a/\a < n):a∈cls n S a:=az.mpr ⟨h,.rf⟩
theorem R6 {x y:Int} {xs ys:List Int} (h:x < y):kle (x :: xs) (y :: ys):=by
 unfold kle
 rw[HT.oX,V0 (by omega)]
 exact WK (by omega)
theorem Ia {n:Nat} {fs:List Int} {S:Wy->Prop} (M:aW n fs S) {r:Nat} (hr:r < n) (e:fs.getD r 0=r):bN fs n r=cls n S r:=by
 refine Cj ?_ (xO _ _ _) fun x => ?_
 ·unfold bN
  exact XM.mpr (((Yh (n:=n)).filter _).imp fun h=>by omega)
 ·rw[az]
  unfold bN
  constructor
  ·intro h
   obtain⟨k,hk,rfl⟩:=V6.mp h
   rw[W9,WL,W8] at hk
   exact⟨by omega,(M.2 r k hr hk.1).mp (by rw[e,hk.2])⟩
  ·rintro ⟨⟨h0,h1⟩,hc⟩
   obtain⟨k,rfl⟩:∃ k:Nat,x=k:=⟨x.toNat,by omega⟩
   refine V6.mpr ⟨k,?_,rfl⟩
   rw[W9,WL,W8]
   have:=(M.2 r k hr (by omega)).mpr hc
   exact⟨by omega,by rw[<-this,e]⟩
noncomputable def qB (fs:List Int) (n:Nat):List (List Int):=(roots fs n).map fun r:Nat=>bN fs n (r:Int)
theorem R7 {fs:List Int} (G:Good fs):(cP fs fs.length).map (·.2)=qB fs fs.length:=by
 rw[HZ G fs.length (qU _),WU];rfl
theorem xQ {n:Nat} {fs:List Int} (G:Good fs) (hl:fs.length=n) {r:Nat} (hr:r < n) (e:fs.getD r 0=r):∃ t,bN fs n r=(r:Int) :: t:=by
 have mem:(r:Int)∈bN fs n r:=by
  unfold bN
  refine V6.mpr ⟨r,?_,rfl⟩
  rw[W9,WL,W8]
  exact⟨hr,e⟩
 have up:(bN fs n r).Pairwise (· < ·):=by
  unfold bN
  exact XM.mpr (((Yh (n:=n)).filter _).imp fun h=>by omega)
 cases q:bN fs n r with
 | nil=>rw[q] at mem;simp at mem
 | cons x t =>
  refine⟨t,?_⟩
  have hx:x∈bN fs n r:=by rw[q];exact vX
  unfold bN at hx
  obtain⟨k,hk,rfl⟩:=V6.mp hx
  rw[W9,WL,W8] at hk
  have l:=G.le k (by omega)
  rw[hk.2] at l
  rw[q] at mem up
  rcases ML.mp mem with z | z
  ·rw[z]
  ·have:=(XC.mp up).1 _ z
   omega
theorem R8 {fs:List Int} (G:Good fs):(qB fs fs.length).Pairwise kle:=by
 unfold qB
 refine XM.mpr ?_
 have:(roots fs fs.length).Pairwise fun a b=>a < b/\(a < fs.length/\fs.getD a 0=a)/\b < fs.length/\fs.getD b 0=b:=by
  have h1:(roots fs fs.length).Pairwise (· < ·):=(Yh (n:=fs.length)).filter _
  have hm:∀ a∈roots fs fs.length,a < fs.length/\fs.getD a 0=a:=fun a ha=>by
   unfold roots at ha
   rw[W9,WL,W8] at ha
   exact ha
  exact h1.imp_of_mem fun ha hb h=>⟨h,hm _ ha,hm _ hb⟩
 refine this.imp fun {a b} h => ?_
 obtain⟨t,e⟩:=xQ G rfl h.2.1.1 h.2.1.2
 obtain⟨u,e'⟩:=xQ G rfl h.2.2.1 h.2.2.2
 rw[e,e']
 exact R6 (by omega)
theorem R9 {n:Nat} {fs:List Int} {S:Wy->Prop} (G:Good fs) (M:aW n fs S):qA n S (qB fs n):=by
 have hl:=M.1
 have hm:∀ a∈roots fs n,a < n/\fs.getD a 0=a:=fun a ha=>by
  unfold roots at ha
  rw[W9,WL,W8] at ha
  exact ha
 refine⟨?_,fun l => ?_⟩
 ·unfold qB
  refine XM.mpr ?_
  have h1:(roots fs n).Pairwise (· < ·):=(Yh (n:=n)).filter _
  refine h1.imp_of_mem fun {a b} ha hb h z => ?_
  obtain⟨t,e⟩:=xQ G hl (hm a ha).1 (hm a ha).2
  obtain⟨u,e'⟩:=xQ G hl (hm b hb).1 (hm b hb).2
  rw[e,e'] at z
  have:=(List.cons.inj z).1
  omega
 ·unfold qB
  constructor
  ·intro h
   obtain⟨r,hr,rfl⟩:=V6.mp h
   obtain⟨h1,h2⟩:=hm r hr
   exact⟨r,by omega,Ia M h1 h2⟩
  ·rintro ⟨h,hh,rfl⟩
   obtain⟨k,rfl⟩:∃ k:Nat,h=k:=⟨h.toNat,by omega⟩
   have le:=G.le k (by omega)
   have own:=G.own k (by omega)
   obtain⟨r,er⟩:∃ r:Nat,fs.getD k 0=r:=⟨(fs.getD k 0).toNat,by omega⟩
   rw[er] at le own
   rw[WQ] at own
   refine V6.mpr ⟨r,?_,?_⟩
   ·unfold roots
    rw[W9,WL,W8]
    exact⟨by omega,own⟩
   ·rw[Ia M (by omega) own]
    exact xP ((M.2 r k (by omega) (by omega)).mp (by rw[own,er]))
noncomputable def cR (m:Int) (ws:List Wy) (ns:List Int):List (List Int):=(cP (h8 m ws ns) m.toNat).map (·.2)
theorem qC {m:Int} {ws:List Wy} (W:cK m ws) {ns:List Int} (hn:Nums ws ns):qA m.toNat (cQ ws ns) (cR m ws ns)/\(cR m ws ns).Pairwise kle:=by
 have M:=R3 W hn
 have G:=R4 W hn
 have e:cR m ws ns=qB (h8 m ws ns) m.toNat:=by
  unfold cR
  have:=R7 G
  rw[M.1] at this
  exact this
 rw[e]
 refine⟨R9 G M,?_⟩
 have:=R8 G
 rw[M.1] at this
 exact this
theorem R_ {n:Nat} {S:Wy->Prop} {L:List (List Int)} (h:qA n S L) {l l':List Int} {x:Int} (hl:l∈L) (hW:l'∈L) (hx:x∈l) (iM:x∈l'):l=l':=by
 obtain⟨a,_,rfl⟩:=(h.mem l).mp hl
 obtain⟨b,_,rfl⟩:=(h.mem l').mp hW
 exact xP ((az.mp hx).2.trans (az.mp iM).2.symm)
theorem Ib {n:Nat} {S:Wy->Prop}:∀ {L L0:List (List Int)},qA n S L0->(∀ l∈L,l∈L0)->L.Nodup->L.flatten.Nodup
 | [],_,_,_,_=>XR
 | l :: L,L0,h,hs,nd=>by
  rw[Xw,Xi]
  rw[Yl] at nd
  refine⟨?_,Ib h (fun x hx=>hs x (E6 _ hx)) nd.2,fun x hx y hy e => ?_⟩
  ·obtain⟨a,_,rfl⟩:=(h.mem l).mp (hs l vX)
   exact (xO _ _ _).imp fun h=>by omega
  ·subst e
   obtain⟨l',h1,h2⟩:=List.mem_flatten.mp hy
   exact nd.1 (by rw[R_ h (hs l vX) (hs l' (E6 _ h1)) hx h2];exact h1)
theorem Sa {l:List Int} (h:l.Pairwise (· < ·)):l.Nodup:=h.imp fun h=>by omega
theorem Ic {xs ys:List Int} (nd:xs.Nodup) (up:ys.Pairwise (· < ·)) (h:∀ x,x∈xs↔x∈ys):sortI xs=ys :=
 (wQ ((List.perm_ext_iff_of_nodup (Sa up) nd).mpr fun x=>(h x).symm) (up.imp fun h=>by omega)).symm
theorem Sb {n:Nat} {S:Wy->Prop} {L:List (List Int)} (h:qA n S L):sortI L.flatten=aP n:=by
 refine Ic (Ib h (fun _ hx=>hx) h.nd) (Ck n) fun x => ?_
 rw[List.mem_flatten,cC]
 constructor
 ·rintro ⟨l,hl,hx⟩
  obtain⟨a,_,rfl⟩:=(h.mem l).mp hl
  exact (az.mp hx).1
 ·intro hx
  exact⟨_,(h.mem _).mpr ⟨x,hx,rfl⟩,H_ hx⟩
theorem Ie:∀ a b:List Int,cM (a.map D.int) (b.map D.int)=decide (a=b)
 | [],[]=>by simp[cM]
 | [],_ :: _=>by simp[cM]
 | _ :: _,[]=>by simp[cM]
 | x :: a,y :: b=>by
  rw[WW,WW]
  simp only[cM]
  rw[xK,Ie a b]
  by_cases e:x=y<;>by_cases e2:a=b<;>simp[e,e2]
theorem vh:∀ us:List Int,cu (us.map D.int)=0
 | []=>by simp[cu]
 | u :: r=>by rw[WW];simp only[cu,dep];rw[vh r];rfl
theorem xR (l:List Int) (x:Int):((l.map D.int).any fun e=>aF e (.int x))=decide (x∈l):=by
 rw[List.any_map]
 cases q:decide (x∈l) with
 | true=>exact List.any_eq_true.mpr ⟨x,X0 q,lG _⟩
 | false =>
  refine Y4.mpr fun y hy => ?_
  show ¬ aF (.int y) (.int x)=true
  rw[xK]
  intro z
  have:=X0 z
  subst this
  exact Z1 q hy
theorem Cm {m:Int} {ws:List Wy} (W:cK m ws) {ns:List Int} (hn:Nums ws ns):(cR m ws ns).length <= 12/\(cR m ws ns).flatten.length <= 12:=by
 have lu:=W.lu
 obtain⟨h,_⟩:=qC W hn
 have e:=Sb h
 have fl:(cR m ws ns).flatten.length=m.toNat:=by
  have:=OQ (cR m ws ns).flatten
  rw[e,vf] at this
  exact this.symm
 refine⟨?_,by omega⟩
 have key:∀ L:List (List Int),(∀ l∈L,l≠[])->L.length <= L.flatten.length:=by
  intro L
  induction L with
  | nil=>intro _;simp
  | cons l r ih =>
   intro h
   have h1:=ih fun x hx=>h x (E6 _ hx)
   have h2:l≠[]:=h l vX
   have h3:0 < l.length:=List.length_pos_iff.mpr h2
   rw[Xw,EZ,My];omega
 have:=key (cR m ws ns) fun l hl=>by
  obtain⟨a,ha,rfl⟩:=(h.mem l).mp hl
  exact List.ne_nil_of_mem (H_ ha)
 omega
end LJ
namespace L2
open PySem PySem.Spec PyProof.Rows PySem.W
theorem Sd (a v d:Value):argsOk "min" ⟨[a],[(Str.ofString "key",v),(Str.ofString "default",d)]⟩:=by unfold argsOk;kernel_rfl
section
variable {X:Cx} {pins:List (Addr × Obj)} {σ : St} {H:Hp} {s:Shared} {E:Value->Shared->Prop} {l q I S:Addr} {P:List V->Hp->Prop} {xs:List V} {d:Value} {R:Result->Shared->Prop}
noncomputable def Se (kf:Nat->LK) (xs kvs:List V) (lK:Array Value):Prop :=
 (kvs=[]/\lK = #[])\/∃ (b:Nat) (x:V) (vb:Value) (t:Addr),b < kvs.length/\xs[b]? = some x/\RelV x vb/\kvs[b]? = some (.ref t)/\lK = #[vb,.ref t]/\∀ j,j < kvs.length->kle (kf b) (kf j)
theorem Sf (kf:Nat->LK) (hh:X.A.handled=none) (hu:X.A.units + 1 < cLine) (vi:l≠I) (vj:S≠I) (fI:∀ H',H' I=none->ba X pins H' I) (fS:∀ H',H' S=none->ba X pins H' S)
  (hl:∀ kvs H',P kvs H'->H' l=some (.lst xs)) (hP:∀ kvs H',P kvs H'->∀ i,i < kvs.length->∃ t,kvs[i]? = some (.ref t)/\H' t=some (.tup ((kf i).map V.int)))
  (je:∀ (bx:List (Addr × Obj)) (x:V) (u:Value) (kvs:List V) (H':Hp) (s':Shared),xs[kvs.length]? = some x->RelV x u->Inv X bx σ H' s'->P kvs H'->wpAny (model X.prog X.w) X.A.in1 (call (.ref q) [u]) (EP X bx σ fun k i8=>P (kvs ++ [k]) i8) (fun _ _=>False) s')
  (fin:∀ kvs H' s',kvs.length=xs.length->P kvs H'->Inv X pins σ H' s'->(xs=[]->R (.ok (.ret d)) s')/\∀ (b:Nat) (x:V) (u:Value),xs[b]? = some x->RelV x u->(∀ j,j < xs.length->kle (kf b) (kf j))->R (.ok (.ret u)) s') :
  ∀ (r:Nat) (kvs:List V) (H':Hp) (s':Shared) (lK:Array Value) (c:Nat) (oI:Obj),kvs.length + r=xs.length->Inv X ((S,seqObj "list" lK c) :: (I,oI) :: pins) σ H' s'->P kvs H'->oI.cls = .type "list_iterator" -> oI.data = .fields #[.ref l,.int kvs.length 0]->Se kf xs kvs lK →
   codeAny (model X.prog X.w) X.A (.builtin "min.loop" ⟨[.ref I,.ref q,.ref S],[(Str.ofString "default",d)]⟩) R s':=by
 have iK:(toString "min" ++ toString ".loop" : String) = "min.loop" := by decide
 intro r
 induction r with
 | zero =>
  intro kvs H' s' lK c oI hr J pk qM Co hb
  have pS:=J.pin (S,seqObj "list" lK c) (VZ _ (.head _))
  have pI:=J.pin (I,oI) (VZ _ (.tail _ (.head _)))
  have Jn:=J.b9.b9
  obtain⟨ah,rv,pl,_⟩:=Jn.list (bh.of (hl kvs H' pk))
  have lv:ah.length=xs.length:=rv.length.symm
  have Sg:kvs.length=ah.length:=by omega
  refine Xs PySem.F.entry_min_loop ?_
  rw[Xe Yk _]
  show wpAny _ X.A.in1 (seqItems? (.ref S) >>= _) _ _ _
  refine l8 (Y5 pS.1 rfl ?_)
  show wpAny _ X.A.in1 (tryCatch (pyNext (.ref I)) _ >>= _) _ _ _
  have W:=Z7 (prog:=X.prog) (w:=X.w) (A:=X.A.in1) hh I l vi ah.toArray
  refine l8 (q0b (W.done _ _ _ ⟨⟨oI,pI.1,qM,by rw[Co,zJ,<-Sg]⟩,PlainL.isList pl⟩ fun h' k9 i9 => ?_))
  have J1:Inv X pins σ H' { s' with heap:=h',toks:=k9 }:=Jn.eX (fI H' pI.2.1) fun c o n e=>i9 c o (by simpa using n) e
  have k_:=i9 S _ (by simpa using vj) pS.1
  rcases hb with⟨rS,rfl⟩ | ⟨b,x,vb,t,hb,hx,rx,ht,rfl,best⟩
  ·refine l8 (Z5 (vW ?_))
   refine (fin kvs H' _ (by omega) pk J1).1 ?_
   cases xs with
   | nil=>rfl
   | cons _ _=>rw[rS] at hr;simp at hr
  ·have s1:=W7 h' S (Obj.mapSeq fun _=>(#[]:Array Value))
   show wpAny _ X.A.in1 (updateSeq S (fun _ => #[]) >>= _) _ _ _
   refine l8 (Zi k_ rfl (l8 (q0k (vW ?_))))
   exact (fin kvs H' _ (by omega) pk (J1.eX (fS H' pS.2.1) fun c o n e=>(s1.2 c n).trans e)).2 b x vb hx rx fun j hj=>best j (by omega)
 | succ r ih =>
  intro kvs H' s' lK c oI hr J pk qM Co hb
  have pS:=J.pin (S,seqObj "list" lK c) (VZ _ (.head _))
  have pI:=J.pin (I,oI) (VZ _ (.tail _ (.head _)))
  have Jn:=J.b9.b9
  obtain⟨ah,rv,pl,_⟩:=Jn.list (bh.of (hl kvs H' pk))
  have lv:ah.length=xs.length:=rv.length.symm
  have cj:kvs.length < ah.length:=by omega
  refine Xs PySem.F.entry_min_loop ?_
  rw[Xe Yk _]
  show wpAny _ X.A.in1 (seqItems? (.ref S) >>= _) _ _ _
  refine l8 (Y5 pS.1 rfl ?_)
  show wpAny _ X.A.in1 (tryCatch (pyNext (.ref I)) _ >>= _) _ _ _
  have W:=Z7 (prog:=X.prog) (w:=X.w) (A:=X.A.in1) hh I l vi ah.toArray
  refine l8 (q0b (W.item kvs.length _ _ _ (by rw[zJ];exact cj) ⟨⟨oI,pI.1,qM,Co⟩,PlainL.isList pl⟩ fun v h' k9 hv Cp i9 => ?_))
  have hv:ah[kvs.length]? = some v:=by simpa using hv
  obtain⟨qD,Cq,vk,vm⟩:=id Cp.1
  have hi:kvs.length < xs.length:=by omega
  obtain⟨u,e1,rx⟩:=rv.get (pb hi)
  rw[hv] at e1
  cases e1
  have hx:=pb hi
  generalize xs[kvs.length]=x at hx rx
  have k_:=i9 S _ (by simpa using vj) pS.1
  have nI:∀ z,qD.data ≠ .cell z:=fun z e=>by rw[vm] at e;cases e
  have J1:Inv X pins σ H' { s' with heap:=h',toks:=k9 }:=Jn.eX (fI H' pI.2.1) fun c o n e=>i9 c o (by simpa using n) e
  have J2:=(J1.gA (fI H' pI.2.1) Cq nI).gA ((fS H' pS.2.1).cons (p:=(I,qD)) vj.symm) k_ qt
  show wpAny _ X.A.in1 (tryCatch (holding [v] (call (.ref q) [v])) _ >>= _) _ _ _
  refine l8 (q0b (W6 (Yq (je _ x v kvs H' _ hx rx J2 pk) (fun kv s2 he => ?_) fun _ _ hF=>hF.elim)))
  obtain⟨kx,H2,J3,rk,jS⟩:=he
  obtain⟨t2,et,jJ⟩:=hP _ H2 jS kvs.length (by rw[EZ];exact Xt _)
  have ek:kx = .ref t2:=by
   rw[Wx (qU _),Xo] at et
   simpa using et
  subst ek
  cases rk
  have qS:=J3.pin (S,seqObj "list" lK c) (VZ _ (.head _))
  have qI:=J3.pin (I,qD) (VZ _ (.tail _ (.head _)))
  have Jm:=J3.b9.b9
  have Ig:(kvs ++ [V.ref t2]).length + r=xs.length:=by rw[EZ,WM];omega
  have vn:qD.data = .fields #[.ref l,.int ((kvs ++ [V.ref t2]).length:Nat) 0]:=by rw[vm,EZ];rfl
  have put:∀ (b:Nat),b < kvs.length + 1->b=kvs.length->(∀ j,j < kvs.length + 1->kle (kf b) (kf j))->codeAny (model X.prog X.w) X.A (.builtin "min.loop" ⟨[.ref I,.ref q,.ref S],[(Str.ofString "default",d)]⟩) R { s2 with heap:=s2.heap.update S (Obj.mapSeq fun _ => #[v,.ref t2]) }:=fun b hb eb best=>by
   subst eb
   have s1:=W7 s2.heap S (Obj.mapSeq fun _ => #[v,Value.ref t2])
   obtain⟨c2,jn⟩:∃ c2,(s2.heap.update S (Obj.mapSeq fun _ => #[v,Value.ref t2])).get? S=some (seqObj "list" #[v,.ref t2] c2):=⟨_,ZW qS.1 fun _ => #[v,Value.ref t2]⟩
   have J4:Inv X pins σ H2 { s2 with heap:=s2.heap.update S (Obj.mapSeq fun _ => #[v,Value.ref t2]) }:=Jm.eX (t':=s2.toks) (fS H2 qS.2.1) fun c o n e=>(s1.2 c n).trans e
   have J5:=(J4.gA (fI H2 qI.2.1) ((s1.2 I vj.symm).trans qI.1) nI).gA ((fS H2 qS.2.1).cons (p:=(I,qD)) vj.symm) jn qt
   refine ih _ H2 _ _ c2 qD Ig J5 jS vk vn (.inr ⟨kvs.length,x,v,t2,by rw[EZ];exact Xt _,hx,rx,et,rfl,fun j hj=>best j (by rw[EZ] at hj;exact hj)⟩)
  rcases hb with⟨rS,rfl⟩ | ⟨b,y,vb,t,hb,hy,ry,ht,rfl,best⟩
  ·show wpAny _ X.A.in1 (updateSeq S (fun _ => #[v,.ref t2]) >>= _) _ _ _
   refine l8 (Zi qS.1 rfl ?_)
   rw[iK]
   refine vW ⟨Ye Yk _,put kvs.length (Xt _) rfl fun j hj => ?_⟩
   rw[rS] at hj ⊢
   have:j=0:=by simp at hj;omega
   subst this
   exact kle_refl _
  ·obtain⟨t',Ih,Sh⟩:=hP _ H2 jS b (by rw[EZ];omega)
   rw[V9 hb,ht] at Ih
   cases Ih
   obtain⟨i1,r1,Si,_⟩:=Jm.tuple (bI.of jJ)
   obtain⟨i2,r2,Sj,_⟩:=Jm.tuple (bI.of Sh)
   show wpAny _ X.A.in1 (tryCatch (holding [v,.ref t2] (richCompare .Lt (.ref t2) (.ref t) >>= _)) _ >>= _) _ _ _
   refine l8 (q0b (W6 (l8 ?_)))
   refine HT.EE (ns:=kf kvs.length) (ms:=kf b) Si Sj (by simpa using intsAre_of r1) (by simpa using intsAre_of r2) hu ?_
   refine l8 (W6 (Yi ?_))
   refine l8 (q0k (vW ?_))
   cases hq:HT.lexLt (kf kvs.length) (kf b) with
   | true =>
    simp only[YL]
    refine l8 (Zi qS.1 rfl (l8 (q0k ?_)))
    rw[iK]
    refine vW ⟨Ye Yk _,put kvs.length (Xt _) rfl fun j hj => ?_⟩
    by_cases e:j=kvs.length
    ·subst e;exact kle_refl _
    ·exact kle_trans (rM hq) (best j (by omega))
   | false =>
    simp only[WC,Xx]
    refine l8 (q0k ?_)
    rw[iK]
    refine vW ⟨Ye Yk _,ih _ H2 _ _ c qD Ig J3 jS vk vn (.inr ⟨b,y,vb,t,by rw[EZ];omega,hy,ry,by rw[V9 hb];exact ht,rfl,fun j hj => ?_⟩)⟩
    by_cases e:j=kvs.length
    ·subst e;exact hq
    ·exact best j (by rw[EZ,WM] at hj;omega)
theorem Sk {Q:Value->Shared->Prop} (kf:Nat->LK) (J:Inv X pins σ H s) (hh:X.A.handled=none) (hu:X.A.units + 1 < cLine) (p0:P [] H)
  (hl:∀ kvs H',P kvs H'->H' l=some (.lst xs)) (hP:∀ kvs H',P kvs H'->∀ i,i < kvs.length->∃ t,kvs[i]? = some (.ref t)/\H' t=some (.tup ((kf i).map V.int)))
  (je:∀ (bx:List (Addr × Obj)) (x:V) (u:Value) (kvs:List V) (H':Hp) (s':Shared),xs[kvs.length]? = some x->RelV x u->Inv X bx σ H' s'->P kvs H'->wpAny (model X.prog X.w) X.A.in1 (call (.ref q) [u]) (EP X bx σ fun k i8=>P (kvs ++ [k]) i8) (fun _ _=>False) s')
  (fin:∀ kvs H' s',kvs.length=xs.length->P kvs H'->Inv X pins σ H' s'->(xs=[]->Q d s')/\∀ (b:Nat) (x:V) (u:Value),xs[b]? = some x->RelV x u->(∀ j,j < xs.length->kle (kf b) (kf j))->Q u s') :
  wpAny (model X.prog X.w) X.A (call (.builtin "min") [.ref l] [(Str.ofString "key",.ref q),(Str.ofString "default",d)]) Q E s:=by
 have iK:(toString "min" ++ toString ".loop" : String) = "min.loop" := by decide
 obtain⟨ah,rv,pl,_⟩:=J.list (bh.of (hl _ _ p0))
 have wJ:=PlainL.lt pl
 refine kmk_tree PySem.F.kind_min PySem.F.plain_min PySem.F.entry_min (Sd _ _ _) ?_
 show wpAny _ X.A.in1 (Builtin.Builtins.bindParams "min" ["key", "default"] 0 ⟨[],[(Str.ofString "key",.ref q),(Str.ofString "default",d)]⟩ >>= _) _ _ s
 refine l8 (wpAny_of_eq (show Builtin.Builtins.bindParams "min" ["key", "default"] 0 ⟨[],[(Str.ofString "key",.ref q),(Str.ofString "default",d)]⟩=pure [some (.ref q),some d] from rfl) ?_)
 refine l8 (vW ?_)
 refine l8 (YG (PlainL.isList pl) ?_)
 refine l8 (q0o ?_ (Xl _))
 rw[iK]
 refine vW ⟨Ye Yk _,?_⟩
 have J1:Inv X pins σ H { s with heap:=s.heap.push { cls := .type "list_iterator",data := .fields #[.ref l,.int 0 0] } }:=J.kept (h':=s.heap.push { cls := .type "list_iterator",data := .fields #[.ref l,.int 0 0] }) (t':=s.toks) fun b u e=>sW _ e
 have gI:(s.heap.push { cls := .type "list_iterator",data := .fields #[.ref l,.int 0 0] }).get? s.heap.objs.size=some { cls := .type "list_iterator",data := .fields #[.ref l,.int 0 0] }:=MM _ rfl
 have hS:(s.heap.push { cls := .type "list_iterator",data := .fields #[.ref l,.int 0 0] }).objs.size≠s.heap.objs.size:=fun z=>Yf _ (Nat.lt_of_lt_of_eq (MK gI) z)
 have fI:∀ H',H' s.heap.objs.size=none->ba X pins H' s.heap.objs.size:=fun H' e=>J.gX (qU _) e
 have Ii:H s.heap.objs.size=none:=J.aM.fresh (qU _)
 have vi:l≠s.heap.objs.size:=Ww wJ
 generalize s.heap.objs.size=I at gI hS fI Ii vi
 generalize s.heap.push { cls := .type "list_iterator",data := .fields #[.ref l,.int 0 0] }=g1 at J1 gI hS
 have fS:∀ H',H' g1.objs.size=none->ba X pins H' g1.objs.size:=fun H' e=>J1.gX (qU _) e
 have Sl:H g1.objs.size=none:=J1.aM.fresh (qU _)
 have J2:Inv X pins σ H { s with heap:=g1.push (seqObj "list" #[] 0) }:=J1.kept (h':=g1.push (seqObj "list" #[] 0)) (t':=s.toks) fun b u e=>sW _ e
 have J3:=(J2.gA (fI H Ii) (sW _ gI) (fun z e=>by cases e)).gA ((fS H Sl).cons (p:=(I,_)) hS.symm) (MM _ rfl) qt
 exact Sf kf hh hu vi hS fI fS hl hP je fin xs.length [] H _ #[] 0 _ (by simp) J3 p0 rfl rfl (.inl ⟨rfl,rfl⟩)
end
variable [aJ]
noncomputable def xS (cp:List (Option Nat)) (fb:WE) (δ : ay) (ds:List D) (K:D->Prop):Prop :=
 ∃ key:D->LK,HA cp fb δ ds key/\(ds=[]->K .non)/\∀ d∈ds,(∀ e∈ds,kle (key d) (key e))->K d
noncomputable def xT (cp:List (Option Nat)) (fb:WE) (x:DV) (δ : ay) (K:D->Prop):Prop:=∃ ds,x = .p (.lst ds)/\xS cp fb δ ds K
theorem Sm {cp:List (Option Nat)} {fb:WE} {x:DV} {δ : ay} {K:D->Prop} (h:xT cp fb x δ K):∃ ds,x = .p (.lst ds)/\xS cp fb δ ds K:=h
noncomputable def Cr (f:WE) (cp:List (Option Nat)) (fb:WE):WE:=fun δ K=>f δ fun x δ1=>xT cp fb x δ1 fun d=>K (.p d) δ1
section
variable {X:Cx} {params:Arguments} {body:Expr} {scope:Scope} {c9:Pos} {x:Str} {Nb:List Str} {cp:List (Option Nat)} {fb:WE} {T:Addr}
theorem Sn {pins:List (Addr × Obj)} {σ : St} {H:Hp} {s:Shared} {E:Value->Shared->Prop} {l:Addr} {F:Hp} {ad:List Addr} {δ : ay} {ds:List D} {xs:List V} {fK mQ pos j p2} {Q:VK} (L:fV X params body scope c9 T x Nb cp fb) (hu:X.A.units + 64 < cLine)
  (I:Inv X pins σ H s) (S:SR F ad δ σ H) (hl:F l=some (.lst xs)) (hx:af F ds xs)
  (hs:xS cp fb δ ds fun d=>∀ v F' H',Ext F ad δ.mu H F' ad δ.mu H'->SR F' ad δ σ H'->Is F' d v->Q v H') :
  wpAny (model X.prog X.w) X.A (evalAll ((backToKw pos (keywordEach [⟨some "key",.Lambda params body scope c9,fK⟩,⟨some "default",.Constant .none j p2,mQ⟩] X.env)).map (·.2))) (fun kvs s₂ => wpAny (model X.prog X.w) X.A (call (.builtin "min") [.ref l] (((backToKw pos (keywordEach [⟨some "key",.Lambda params body scope c9,fK⟩,⟨some "default",.Constant .none j p2,mQ⟩] X.env)).filterMap (·.1)).zip kvs)) (EP X pins σ Q) E s₂) E s:=by
 obtain⟨key,hk,K0,K⟩:=hs
 obtain⟨k,kL,J⟩:=L.room
 obtain⟨cc,gM,hC⟩:=L.env.code
 show wpAny _ _ (evalAll [do let v <- eval (.Lambda params body scope c9) X.env;standAt pos;pure v,do let v <- eval (.Constant .none j p2) X.env;standAt pos;pure v]) _ _ _
 refine evalAll_cons (l8 ?_)
 have qw:=L.names
 unfold uU at qw
 simp only[Xu,XW,W8] at qw
 have SC:=q8Y L.kind qw.1.1.1
 obtain⟨cl,lH,mJ,rW⟩:=zL (scope:=scope) (env:=X.env) fun y hy e=>I.ok.has y.1 (SC.free y hy e)
 refine Hs I (L.tbl.get H S.tab) L.HB lH gM (hC.keeps I.bk) L.env.ng (I.mod.glob.keeps I.bk) (L.env.blt.keeps I.bk) fun f H1 s1 c I1 t1 k1 Hr hf hc => ?_
 refine l8 (Y1 (vW ?_))
 refine evalAll_cons (l8 (vW ?_))
 refine l8 (Y1 (vW ?_))
 refine evalAll_nil ?_
 show wpAny _ _ (call (.builtin "min") [.ref l] [(Str.ofString "key",.ref f),(Str.ofString "default",.none)]) _ _ _
 have kT:∀ b o,H b=some o->b∉aJ.ad->H1 b=some o:=fun b o e t=>k1 b o e fun z=>t (by rw[z];exact L.tbl.mem)
 have jr:=L.tbl.put H H1 S.tab t1 k1
 have S1:=S.uZ kT jr
 have E1:=Ext.uZ S kT jr
 have lx:=hx.length
 have r1:a7 (k + 2) X.A.in1:=a7.in1 (k:=k + 2) kL
 have gd:∀ {i:Nat} {d:D},ds[i]? = some d->ds.getD i .non=d:=fun {i d} e=>by rw[E5,e];rfl
 refine Sk (l:=l) (xs:=xs) (d := .none) (fun i=>key (ds.getD i .non)) (P:=fun kvs H'=>∃ F',Ext F ad δ.mu H F' ad δ.mu H'/\SR F' ad δ σ H'/\H' f=some (iJ f "<lambda>" (X.env.qual ++ "<lambda>") params body scope cl ((X.mg "__name__").getD .none) (.ref c))/\H' c=some (kJ c (X.env.qual ++ "<lambda>"))/\kvs.length <= ds.length/\∀ (i:Nat) (d:D) (kv:V),ds[i]? = some d->kvs[i]? = some kv->Is F' (.tup ((key d).map D.int)) kv)
  I1 r1.hd (by omega) ⟨_,E1,S1,hf,hc,Xl _,fun i d kv _ e=>by simp at e⟩ (fun kvs H' ⟨F',E',S',_⟩=>S'.sub _ _ (E'.same _ _ hl)) (fun kvs H' ⟨F',E',S',oe,ie,hle,oh⟩ i hi => ?_) (fun bx v u kvs H' s' hv rv I' ⟨F',E',S',oe,ie,hle,oh⟩ => ?_) fun kvs H' s' hW ⟨F',E',S',oe,ie,hle,oh⟩ I'=>⟨fun h0 => ?_,fun b y u hy ry best => ?_⟩
 ·have hd:=pb (show i < ds.length by omega)
  have is:=oh i _ _ hd (pb hi)
  simp only[Is] at is
  obtain⟨t,us,e1,e2,e3⟩:=is
  refine⟨t,by rw[pb hi,e1],?_⟩
  rw[gd hd,<-my e3];exact S'.sub _ _ e2
 ·have hi:kvs.length < ds.length:=by rw[<-lx];exact (pe.mp hv).1
  have hd:=pb hi
  have BX:Is F' ds[kvs.length] v:=af.at (hx.same E'.same) hd hv
  obtain⟨Q7,BY⟩:=hk _ (Yp hi)
  refine Hv I' oe ie (by rw[show X.A.in1.frames=X.A.frames from rfl];exact I'.ok.frames) r1.hd (a7.depth (r1.mono (by omega:k + 1 <= k + 2))) L.kind L.names L.co L.gen mJ rW (fun ct=>L.bind cl _ _ ct u) rv (J ⟨X.A.in1,cl,f,.ref c,s',H'⟩ ((r1.mono (by omega:k + 1 <= k + 2)).deeper _)) ?_
  refine⟨F',ad,_,_,(S'.pN (cp:=cp)).oa BX,BY,fun y δ' ⟨ey,em⟩ w F2 bP H2 E2 S2 V2 => ?_⟩
  subst ey
  have ea:bP=ad:=by
   have l2:bP.length=ad.length:=by rw[S2.b_,em,S'.b_]
   refine YE fun i => ?_
   by_cases hi:i < ad.length
   ·rw[pb hi];exact E2.pre i _ (pb hi)
   ·rw[XI (by omega),XI (by omega)]
  subst ea
  obtain⟨yS,dE⟩ := δ'
  have em:dE = δ.mu:=em
  subst em
  refine⟨F2,E'.trans E2,SR.back S' E2 S2,E2.jA S' oe (fun _ z=>by cases z) (fun _ z=>by cases z) (fun _ z=>by cases z),E2.jA S' ie (fun _ z=>by cases z) (fun _ z=>by cases z) (fun _ z=>by cases z),by rw[EZ,WM];exact hi,fun i d kv e1 e2 => ?_⟩
  by_cases mC:i < kvs.length
  ·rw[V9 mC] at e2
   exact Is.same E2.same (oh i d kv e1 e2)
  ·have:i=kvs.length:=by
    have:=(pe.mp e2).1
    rw[EZ,WM] at this
    omega
   subst this
   rw[Wx (qU _),Xo] at e2
   cases (show some w=some kv from e2)
   rw[hd] at e1;cases e1
   exact V2
 ·have So:ds=[]:=YN.mp (by rw[<-lx,h0];rfl)
  exact⟨.non,H',I',rfl,K0 So _ F' H' E' S' (by simp only[Is])⟩
 ·have hb:b < ds.length:=by rw[<-lx];exact (pe.mp hy).1
  have hd:=pb hb
  refine⟨y,H',I',ry,K ds[b] (Yp hb) (fun e he => ?_) _ F' H' E' S' (af.at (hx.same E'.same) hd hy)⟩
  obtain⟨j,hj,rfl⟩:=Xa.mp he
  have:=best j (by omega)
  rw[gd hd,gd (pb hj)] at this
  exact this
variable {e:Expr} {f:WE} {p1 q1 fK mQ:Pos}
theorem Sq {j p2} (L:fV X params body scope c9 T x Nb cp fb) (hu:X.A.units + 64 < cLine) (u5:Gl X "min") (hs:X.mg "min" = none) (u6:bootBuiltins "min" = some (.builtin "min")) (ha:JA X [e] (cE (ak f ag)))
  (he:starEach [e] X.env=[(false,eval e X.env)]:=by rfl):JE X (.Call (.Name "min" p1) [e] [⟨some "key",.Lambda params body scope c9,fK⟩,⟨some "default",.Constant .none j p2,mQ⟩] q1) (tD (Cr f cp fb)) :=
 ⟨fun pins s σ H Q I h0_ => el7 h0_ fun F ad δ K S q k =>by
  refine YT (lR I u5 hs u6 ?_)
  refine callWith_kw ?_ (he:=by rw[he];rfl) (hplain:=by rw[he];rfl)
  refine a0 (ha.out q1 pins s σ H (fun vs H1=>∃ (l:Addr) (F1:Hp) (aR:List Addr) (δ1:ay) (ds:List D) (us:List V),vs=[.ref l]/\F1 l=some (.lst us)/\af F1 ds us/\Ext F ad δ.mu H F1 aR δ1.mu H1/\SR F1 aR δ1 σ H1/\xS cp fb δ1 ds fun d=>K (.p d) δ1) I ?_) fun us s1 B0 => ?_
  ·refine⟨F,ad,δ,fun xs δ1=>match xs with
    | [x]=>xT cp fb x δ1 fun d=>K (.p d) δ1
    | _=>False,S,q,fun xs δ1 h1 vs F1 aR H1 E1 S1 V1 => ?_⟩
   cases xs with
   | nil=>exact h1.elim
   | cons x xs =>
    cases xs with
    | cons _ _=>exact h1.elim
    | nil =>
     obtain⟨v,r,rfl,W1,W2⟩:=V1
     have W2:r=[]:=W2
     subst W2
     obtain⟨ds,rfl,h2⟩:=Sm h1
     have W1:Is F1 (.lst ds) v:=W1
     simp only[Is] at W1
     obtain⟨a,us,rfl,g1,g2⟩:=W1
     exact⟨a,F1,aR,δ1,ds,us,rfl,g1,g2,E1,S1,h2⟩
  ·obtain⟨vs,H1,I1,r1,l,F1,aR,δ1,ds,ws,ev,hl,hi,E1,S1,xC⟩:=B0
   subst ev
   obtain⟨u,rfl,rx⟩:=vals1 r1
   cases rx
   refine Sn L hu I1 S1 hl hi ?_
   obtain⟨key,hk,K0,hK⟩:=xC
   exact⟨key,hk,fun h0 v F' H' E' S' is=>k _ _ (K0 h0) _ _ _ _ (E1.trans E') S' is,fun d hd hb v F' H' E' S' is=>k _ _ (hK d hd hb) _ _ _ _ (E1.trans E') S' is⟩⟩
end
end L2
namespace LJ
open PySem L2
variable [aJ]
noncomputable def Cs:D->D
 | .tup [.int i,_] => .int i
 | _ => .non
noncomputable def Ct (p:Int->Bool):D->Bool
 | .tup [.int i,_]=>p i
 | _=>false
theorem Ij (p:Int->Bool):∀ (ds:List D) (i:Nat),((j6 i ds).filter (Ct p)).map Cs=((List.range' i ds.length).filter fun k:Nat=>p k).map fun k:Nat=>D.int k
 | [],_=>rfl
 | d :: r,i=>by
  have ih:=Ij p r (i + 1)
  show (((D.tup [.int i,d]) :: j6 (i + 1) r).filter _).map _=_
  rw[My,List.range'_succ,List.filter_cons,List.filter_cons]
  show (if p i=true then _ else _:List D).map _=_
  cases q:p i with
  | true=>simp only[YL,WW,ih];rfl
  | false=>simp only[WC,Xx,ih]
noncomputable def iR (l:List Int) (y:Wy):Bool:=decide (y.1∈l) != decide (y.2.1∈l)
noncomputable def eV (ws:List Wy) (l:List Int):List Int:=(aP ws.length).filter fun n=>iR l (ax ws n)
noncomputable def vo:GD:=fun ys aj K=>∃ (y:Wy) (l:List Int),ys=[.p (cz y),.p (a_ l)]/\aj=[]/\K (.p (.bl (iR l y))) []
noncomputable def Cu:WS:=(aV (d2 (d2 (d2 (aa 0) (dC (.int 0)) bj) (aa 1) (kF false)) (d2 (d2 (aa 0) (dC (.int 1)) bj) (aa 1) (kF false)) nP))
theorem Sr:∀ ys aj K',ys.length=2->vo ys aj K'->Cu (dq aj.length K') ⟨ys.map some ++ List.replicate 0 none,aj.map some⟩:=by
 rintro ys aj K' - ⟨y,l,rfl,rfl,k⟩
 unfold Cu
 simp? only [cz,a_,jc,iQ]
 have d0:=vh l
 refine⟨by omega,by omega,?_⟩
 rw[xR,xR]
 unfold iR at k
 generalize decide (y.1∈l)=p at k
 generalize decide (y.2.1∈l)=q at k
 cases p<;>cases q<;>exact gz k
noncomputable def vp:GD:=fun ys aj K=>∃ (m:Int) (ws:List Wy) (l:List Int),cK m ws/\ys=[.p (aX m ws),.p (a_ l)]/\aj=[]/\K (.p (a_ (eV ws l))) []
noncomputable def Cv:WS:=(aV (iD (kE (ak (d2 (aa 0) (dC (.int 1)) bj) ag)) [none,none,some 1] (rA 2 (lz (cy 0) (lz (cy 1) pJ))) (dT (aq 2 vo (ak (aa 1) (ak (aa 2) ag)))) (aa 0)))
theorem Ss:∀ ys aj K',ys.length=2->vp ys aj K'->Cv (dq aj.length K') ⟨ys.map some ++ List.replicate 0 none,aj.map some⟩:=by
 rintro ys aj K' - ⟨m,ws,l,W,rfl,rfl,k⟩
 have rX:=W.iU
 unfold Cv
 simp? only [aX,iQ]
 refine qf (Ct fun i=>iR l (ax ws i)) Cs (by rw[t7,pd];omega) trivial ?_ ?_
 ·intro d hd acc L' ha h1 h2
  obtain⟨z,hz⟩:=WB.mp hd
  obtain⟨e,z1,z2⟩:=t8 hz
  rw[MJ] at z1
  obtain⟨y,z3,rfl⟩:=V7.mp z1
  rw[Xd] at z2
  subst z2
  have ew:ax ws (z:Int)=y:=by unfold ax;rw[WQ,E5,z3];rfl
  simp only[Ct,Cs] at h1 h2
  rw[ew] at h1 h2
  simp? only []
  refine⟨y,l,rfl,rfl,?_⟩
  simp? only []
  cases q:iR l y with
  | true=>simp? only [];exact⟨ha,h1 q⟩
  | false=>simp? only [];exact h2 q
 ·have e:=Ij (fun i=>iR l (ax ws i)) (ws.map cz) 0
  have e2:(eV ws l).map D.int=((List.range' 0 (ws.map cz).length).filter fun k:Nat=>iR l (ax ws k)).map fun k:Nat=>D.int k:=by
   unfold eV aP
   rw[ZV,WU,pd,<-List.range_eq_range']
   rfl
  rw[<-e2] at e
  rw[e]
  exact gz k
noncomputable def vq:GD:=fun ys aj K=>∃ (m:Int) (ws:List Wy) (ns:List Int),cK m ws/\Nums ws ns/\ns≠[]/\ys=[.p (aX m ws),.p (a_ ns)]/\aj=[]/\∀ n∈ns,(∀ e∈ns,kle (eg ws n) (eg ws e))->K (.p (.int n)) []
noncomputable def Cw:WS:=(aV (Cr (aa 1) [some 0] (aq 1 qy (ak (d2 (d2 (aa 1) (dC (.int 1)) bj) (aa 0) bj) ag))))
theorem Su:∀ ys aj K',ys.length=2->vq ys aj K'->Cw (dq aj.length K') ⟨ys.map some ++ List.replicate 0 none,aj.map some⟩:=by
 rintro ys aj K' - ⟨m,ws,ns,W,hn,ne,rfl,rfl,k⟩
 unfold Cw
 simp? only [Cr,xT,aX,a_]
 refine⟨ns.map D.int,rfl,fun d=>match d with
  | .int n=>eg ws n
  | _=>[],fun d hd => ?_,fun h0 => ?_,fun d hd best => ?_⟩
 ·obtain⟨n,h,rfl⟩:=V6.mp hd
  obtain⟨n0,n1⟩:=hn n h
  obtain⟨y,ey,hy,ea,_⟩:=rU W n0 n1
  refine⟨(by intro z;cases z),?_⟩
  simp? only [iQ,ea]
  refine⟨y,rfl,rfl,?_⟩
  simp? only []
  unfold eg
  rw[ey]
  rfl
 ·exact absurd (List.map_eq_nil_iff.mp h0) ne
 ·obtain⟨n,h,rfl⟩:=V6.mp hd
  exact gz (k n h fun e he=>best _ (V6.mpr ⟨e,he,rfl⟩))
open Classical in
noncomputable def jW (ws:List Wy) (ns:List Int):Int:=if h:∃ n,n∈ns/\∀ e∈ns,kle (eg ws n) (eg ws e) then Classical.choose h else 0
theorem Sv {m:Int} {ws:List Wy} (W:cK m ws) {ns:List Int} (hn:Nums ws ns) {n:Int} (h:n∈ns) (b:∀ e∈ns,kle (eg ws n) (eg ws e)):jW ws ns=n:=by
 unfold jW
 have ex:∃ n,n∈ns/\∀ e∈ns,kle (eg ws n) (eg ws e):=⟨n,h,b⟩
 rw[dif_pos ex]
 obtain⟨h1,h2⟩:=Classical.choose_spec ex
 exact HD W (hn _ h1) (hn _ h) (Gx (h2 n h) (b _ h1))
theorem Ik {ws:List Wy} {l:List Int}:Nums ws (eV ws l):=fun n h=>rV (W9.mp h).1
noncomputable def qE (ws:List Wy) (ls:List (List Int)):List Int:=((ls.map (eV ws)).filter fun o=>decide (o≠[])).map (jW ws)
theorem Sw {ws:List Wy} {ls:List (List Int)}:(qE ws ls).length <= ls.length:=by
 unfold qE
 rw[pd]
 have:=ZG (fun o:List Int=>decide (o≠[])) (ls.map (eV ws))
 rw[pd] at this
 exact this
noncomputable def dM (m:Int) (ws:List Wy) (us:List Int):List Int:=sortI (mD (qE ws (cR m ws us)))
noncomputable def rZ (f:List Int->D):D->D
 | .lst ds=>match intsOf ds with
  | some l=>f l
  | none => .non
 | _ => .non
noncomputable def kR (f:List Int->Bool):D->Bool
 | .lst ds=>match intsOf ds with
  | some l=>f l
  | none=>false
 | _=>false
theorem xU (f:List Int->D) (l:List Int):rZ f (a_ l)=f l:=by
 unfold a_
 simp only[rZ,rF]
theorem vt (f:List Int->Bool) (l:List Int):kR f (a_ l)=f l:=by
 unfold a_
 simp only[kR,rF]
noncomputable def kU:GD:=fun ys aj K=>∃ (m:Int) (ws:List Wy) (us:List Int),cK m ws/\Nums ws us/\us.Nodup/\us.length <= 900/\ys=[.p (aX m ws),.p (a_ us)]/\aj=[]/\K (.p (a_ (dM m ws us))) []
noncomputable def Cy:WS:=(av (aK 2 (iD (cL (aq 2 mO (ak (aa 0) (ak (aa 1) ag)))) [none,some 0] (cy 0) g7 (aq 2 vp (ak (aa 1) (ak (aa 0) ag))))) (aV (dN (ak (iD (cL (aa 2)) [none,some 0] (cy 0) (dT (d2 (dN (ak (aa 0) ag) cN) (dC (.int 0)) (oI fun i j => .bl (decide (j < i))))) (aq 2 vq (ak (aa 1) (ak (aa 0) ag)))) ag) xo)))
theorem Sx:∀ ys aj K',ys.length=2->kU ys aj K'->Cy (dq aj.length K') ⟨ys.map some ++ List.replicate 1 none,aj.map some⟩:=by
 rintro ys aj K' - ⟨m,ws,us,W,hu,nd,hl,rfl,rfl,k⟩
 have rX:=W.iU
 obtain⟨ll,lf⟩:=Cm W hu
 unfold Cy
 refine bp fun N hN => ?_
 simp? only []
 refine⟨m,ws,us,W,hu,nd,hl,rfl,rfl,?_⟩
 rw[show ((cP (h8 m ws us) m.toNat).map (·.2))=cR m ws us from rfl,show n8 (cR m ws us) = .lst ((cR m ws us).map a_) from rfl]
 unfold dM at k
 generalize cR m ws us=ls at k ll lf
 simp? only []
 refine rP (rZ fun l=>a_ (eV ws l)) (by rw[pd];omega) trivial ?_ ?_
 ·intro d hd acc L' ha h
  obtain⟨l,_,rfl⟩:=V6.mp hd
  rw[xU] at h
  simp? only []
  refine⟨m,ws,l,W,rfl,rfl,?_⟩
  simp? only []
  exact⟨ha,h⟩
 have e:(ls.map a_).map (rZ fun l=>a_ (eV ws l))=(ls.map (eV ws)).map a_:=by
  rw[WU,WU]
  exact Xc fun l _=>xU _ l
 rw[e]
 subst hN
 simp? only []
 refine L2.qf (kR fun o=>decide (o≠[])) (rZ fun o => .int (jW ws o)) (by rw[pd,pd];omega) trivial ?_ ?_
 ·intro d hd acc L' ha h1 h2
  obtain⟨o,ho,rfl⟩:=V6.mp hd
  obtain⟨l,_,rfl⟩:=V6.mp ho
  rw[xU,vt] at h1
  rw[vt] at h2
  have hn:=Ik (ws:=ws) (l:=l)
  generalize eV ws l=o at h1 h2 hn
  rw[show a_ o = .lst (o.map D.int) from rfl]
  simp? only []
  by_cases c:o=[]
  ·subst c
   rw[show decide ((0:Int) < (([]:List Int).length:Nat))=false from rfl]
   simp? only []
   exact h2 rfl
  ·have c1:decide ((0:Int) < (o.length:Nat))=true:=Wz (by have:=List.length_pos_iff.mpr c;omega)
   rw[c1]
   simp? only []
   refine⟨m,ws,o,W,hn,c,rfl,rfl,fun n hm best => ?_⟩
   rw[Sv W hn hm best] at h1
   simp? only []
   exact⟨ha,h1 (Wz c)⟩
 ·have e2:(((ls.map (eV ws)).map a_).filter (kR fun o=>decide (o≠[]))).map (rZ fun o => .int (jW ws o))=(qE ws ls).map D.int:=by
   unfold qE
   rw[ZV,WU,WU]
   rw[show (kR fun o=>decide (o≠[])) ∘ a_=fun o=>decide (o≠[]) from funext fun o=>vt _ o]
   exact Xc fun o _=>xU _ o
  have cl:=Sw (ws:=ws) (ls:=ls)
  rw[e2]
  simp? only [rF]
  exact⟨by omega,gz k⟩
theorem Cz (ns:List Int):∀ i,i <= ns.length->(LJS.jY ns i).Nodup/\∀ x,x∈LJS.jY ns i↔x∈ns.take i
 | 0,_=>⟨XR,fun x=>by simp[LJS.jY]⟩
 | i + 1,h=>by
  obtain⟨n,m⟩:=Cz ns i (by omega)
  have et:ns.take (i + 1)=ns.take i ++ [ns.getD i 0]:=by
   rw[Yj,E5,pb (show i < ns.length by omega)];rfl
  rw[et]
  unfold LJS.jY LJS.once
  split
  ·rename_i c
   refine⟨n,fun x => ?_⟩
   rw[m x,WX,WZ]
   refine⟨.inl,fun z=>z.elim id fun z => ?_⟩
   subst z;exact (m _).mp c
  ·rename_i c
   refine⟨Xi.mpr ⟨n,by simp,fun a ha b hb z => ?_⟩,fun x => ?_⟩
   ·subst z;rw[WZ.mp hb] at ha;exact c ha
   ·rw[WX,WX,m x]
theorem Il {ws:List Wy}:∀ {ns:List Int},ns≠[]->∃ n,n∈ns/\∀ e∈ns,kle (eg ws n) (eg ws e)
 | [],h=>absurd rfl h
 | [a],_=>⟨a,vX,fun e he=>by rw[WZ.mp he];exact kle_refl _⟩
 | a :: b :: r,_=>by
  obtain⟨n,h1,h2⟩:=Il (ws:=ws) (ns:=b :: r) (by simp)
  cases q:HT.lexLt (eg ws n) (eg ws a) with
  | true=>exact⟨n,E6 _ h1,fun e he=>(ML.mp he).elim (fun z=>by rw[z];exact rM q) (h2 e)⟩
  | false=>exact⟨a,vX,fun e he=>(ML.mp he).elim (fun z=>by rw[z];exact kle_refl _) fun z=>kle_trans q (h2 e z)⟩
theorem Im {ws:List Wy} {ns:List Int} (h:ns≠[]):jW ws ns∈ns/\∀ e∈ns,kle (eg ws (jW ws ns)) (eg ws e):=by
 have ex:=Il (ws:=ws) h
 unfold jW
 rw[dif_pos ex]
 exact Classical.choose_spec ex
theorem Sy {ws:List Wy} {ls:List (List Int)} {n:Int}:n∈qE ws ls↔∃ l∈ls,eV ws l≠[]/\n=jW ws (eV ws l):=by
 unfold qE
 rw[V6]
 constructor
 ·rintro ⟨o,ho,rfl⟩
  obtain⟨h1,h2⟩:=W9.mp ho
  obtain⟨l,hl,rfl⟩:=V6.mp h1
  exact⟨l,hl,X0 h2,rfl⟩
 ·rintro ⟨l,hl,h1,rfl⟩
  exact⟨_,W9.mpr ⟨V6.mpr ⟨l,hl,rfl⟩,Wz h1⟩,rfl⟩
theorem Sz (ns:List Int) (x:Int):x∈mD ns↔x∈ns:=by
 have:=(Cz ns _ (qU _)).2 x
 rw[Y8] at this
 exact this
theorem eW {m:Int} {ws:List Wy} {us:List Int} {n:Int}:n∈dM m ws us↔∃ l∈cR m ws us,eV ws l≠[]/\n=jW ws (eV ws l):=by
 unfold dM
 rw[(sortI_perm _).mem_iff,Sz,Sy]
theorem Io {m:Int} {ws:List Wy} {us:List Int}:(dM m ws us).Nodup:=(sortI_perm _).nodup_iff.mpr (Cz _ _ (qU _)).1
theorem CA {m:Int} {ws:List Wy} {us:List Int} {n:Int} (h:n∈dM m ws us):∃ l∈cR m ws us,n∈eV ws l/\∀ e∈eV ws l,kle (eg ws n) (eg ws e):=by
 obtain⟨l,hl,ne,rfl⟩:=eW.mp h
 exact⟨l,hl,Im ne⟩
theorem CB {m:Int} {ws:List Wy} {us:List Int}:Nums ws (dM m ws us):=fun n h=>by
 obtain⟨l,_,h1,_⟩:=CA h
 exact Ik n h1
theorem SA {m:Int} {ws:List Wy} (W:cK m ws) {us:List Int} (hu:Nums ws us) {l:List Int} (hl:l∈cR m ws us) {n:Int} (h:n∈eV ws l):¬ aD (cQ ws us) (ax ws n).1 (ax ws n).2.1:=fun c=>by
 obtain⟨g,_,rfl⟩:=((qC W hu).1.mem l).mp hl
 obtain⟨h1,h2⟩:=W9.mp h
 obtain⟨n0,n1⟩:=rV h1
 obtain⟨i,k,_,e1,e2,b1,b2⟩:=vg W n0 n1
 unfold iR at h2
 by_cases p:(ax ws n).1∈cls m.toNat (cQ ws us) g
 ·have q:(ax ws n).2.1∈cls m.toNat (cQ ws us) g:=az.mpr ⟨by omega,(az.mp p).2.trans c⟩
  rw[Wz p,Wz q] at h2
  cases h2
 ·have q:¬ (ax ws n).2.1∈cls m.toNat (cQ ws us) g:=fun z=>p (az.mpr ⟨by omega,(az.mp z).2.trans c.symm⟩)
  rw[WK p,WK q] at h2
  cases h2
theorem SD {m:Int} {ws:List Wy} (W:cK m ws) {us:List Int} (hu:Nums ws us) {n:Int} (h:n∈dM m ws us):n∉us:=fun z=>by
 obtain⟨l,hl,h1,_⟩:=CA h
 exact SA W hu hl h1 (.one ⟨n,z,rfl⟩)
theorem xV {m:Int} {ws:List Wy} (W:cK m ws) {us:List Int} (hu:Nums ws us) (nd:us.Nodup):Nums ws (us ++ dM m ws us)/\(us ++ dM m ws us).Nodup :=
 ⟨fun n h=>(WX.mp h).elim (hu n) (CB n),Xi.mpr ⟨nd,Io,fun a ha b hb z=>SD W hu (by rw[z];exact hb) ha⟩⟩
theorem oq {ws:List Wy} {us:List Int} (hu:Nums ws us) (nd:us.Nodup):us.length <= ws.length:=by
 have h:us.Subset (aP ws.length):=fun n h=>by
  have:=hu n h
  exact cC.mpr this
 have:=YR nd h
 rw[vf] at this
 exact this
theorem SE {δ0:ay} {t:WT} {b:WS} {K:KS} {n:Nat} {δ : ay} (h:∀ A B:ay->Prop,A=b { nx:=fun δ2=>mL δ0 t b K n (δ0.trim δ2),ct:=fun δ2=>mL δ0 t b K n (δ0.trim δ2),bk:=K.nx,rt:=K.rt }->B=K.nx->t δ fun bb δ1=>if bb=true then A δ1 else B δ1):mL δ0 t b K (n + 1) δ := h _ _ rfl rfl
noncomputable def jC (m:Int) (ws:List Wy):Nat->List Int->List (List Int)
 | 0,_=>[]
 | n + 1,us=>match dM m ws us with
  | []=>[]
  | a :: r=>(a :: r) :: jC m ws n (us ++ a :: r)
noncomputable def mR (m:Int) (ws:List Wy):List (List Int):=jC m ws (ws.length + 1) []
noncomputable def vv:GD:=fun ys aj K=>∃ (m:Int) (ws:List Wy),cK m ws/\ys=[.p (aX m ws)]/\aj=[]/\K (.n ((mR m ws).map a_)) []
noncomputable def CC:WS:=(av (aK 1 (q_ ag)) (av (aK 2 (fx ag)) (av (aK 3 (aq 2 kU (ak (aa 0) (ak (aa 2) ag)))) (av (HG (dT (d2 (dN (ak (aa 3) ag) cN) (dC (.int 0)) (oI fun i j => .bl (decide (j < i))))) (av (ly (jP (aa 1) (ak (aa 3) ag))) (av (aK 2 (d2 (aa 2) (aa 3) eQ)) (aK 3 (aq 2 kU (ak (aa 0) (ak (aa 2) ag))))))) (aV (aa 1))))))
theorem SF:∀ ys aj K',ys.length=1->vv ys aj K'->CC (dq aj.length K') ⟨ys.map some ++ List.replicate 3 none,aj.map some⟩:=by
 rintro ys aj K' - ⟨m,ws,W,rfl,rfl,k⟩
 have rX:=W.iU
 unfold CC
 refine bp fun N hN => ?_
 simp? only []
 subst hN
 refine bp fun N hN => ?_
 simp? only []
 subst hN
 refine bp fun N hN => ?_
 simp? only []
 refine⟨m,ws,[],W,(fun n h=>nomatch h),XR,Xl _,rfl,rfl,?_⟩
 simp? only []
 subst hN
 refine bp fun N hN => ?_
 have SG:∀ x y,N ⟨[some (.p (aX m ws)),some (.o 0),some (.p x),some (.p y)],[some (.lst ((mR m ws).map a_))]⟩:=fun x y=>by
  subst hN
  simp? only []
  exact⟨[],rfl,rfl,.inl k⟩
 refine⟨ws.length + 1,?_⟩
 have go:∀ (n:Nat) (us:List Int) (rs:List (List Int)),Nums ws us->us.Nodup->ws.length < us.length + n->rs.length + n <= ws.length + 1->rs ++ jC m ws n us=mR m ws →
   mL ⟨[some (.p (aX m ws)),some (.o 0),some (.p (.lst [])),some (.p (a_ (dM m ws [])))],[some (.lst [])]⟩ (dT (d2 (dN (ak (aa 3) ag) cN) (dC (D.int 0)) (oI fun i j=>D.bl (decide (j < i)))))
    (av (ly (jP (aa 1) (ak (aa 3) ag))) (av (aK 2 (d2 (aa 2) (aa 3) eQ)) (aK 3 (aq 2 kU (ak (aa 0) (ak (aa 2) ag))))))
    { nx:=N,rt:=(dq ([]:List OV).length K').rt,bk:=(dq ([]:List OV).length K').bk,ct:=(dq ([]:List OV).length K').ct } n
    ⟨[some (.p (aX m ws)),some (.o 0),some (.p (.lst (us.map D.int))),some (.p (a_ (dM m ws us)))],[some (.lst (rs.map a_))]⟩:=by
  intro n
  induction n with
  | zero =>
   intro us rs hu nd h _ _
   have:=oq hu nd
   omega
  | succ n ih =>
   intro us rs hu nd h hr he
   obtain⟨mu,mn⟩:=xV W hu nd
   have ul:=oq mu mn
   refine SE fun A B hA hB => ?_
   unfold jC at he
   rw[show a_ (dM m ws us) = .lst ((dM m ws us).map D.int) from rfl]
   simp? only []
   cases q:dM m ws us with
   | nil =>
    rw[q] at he
    rw[show decide ((0:Int) < (([]:List Int).length:Nat))=false from rfl]
    simp? only []
    rw[show rs ++ []=rs from XS rs] at he
    rw[he,hB]
    exact SG _ _
   | cons a r =>
    rw[q] at he mu mn ul
    have c1:decide ((0:Int) < ((a :: r).length:Nat))=true:=Wz (by rw[My];omega)
    have c2:0 < (a :: r).length:=by rw[My];omega
    dsimp only at he
    generalize a :: r=ar at he mu mn ul c1 c2
    rw[EZ] at ul
    rw[c1]
    simp? only []
    subst hA
    refine bp fun N2 dJ => ?_
    simp? only []
    refine⟨by omega,?_⟩
    subst dJ
    refine bp fun N2 dJ => ?_
    simp? only []
    refine⟨by omega,?_⟩
    subst dJ
    rw[<-WR]
    simp? only []
    refine⟨m,ws,us ++ ar,W,mu,mn,by rw[EZ];omega,rfl,rfl,?_⟩
    simp? only []
    have:=ih (us ++ ar) (rs ++ [ar]) mu mn (by rw[EZ];omega) (by rw[EZ,WM];omega) (by rw[XJ];exact he)
    rw[show (rs ++ [ar]).map a_=rs.map a_ ++ [a_ ar] from WR] at this
    exact this
 have:=go (ws.length + 1) [] [] (fun n h=>nomatch h) XR (by simp) (by simp) rfl
 exact this
end LJ
namespace L2
open PySem PySem.Spec PyProof.Rows PySem.W
section
variable {X:Cx}
end
variable [aJ] {X:Cx}
end L2
namespace LJ
open PySem L2
variable [aJ]
noncomputable def Indep (A:Wy->Prop):Prop:=∀ a,A a->¬ aD (fun v=>A v/\v≠a) a.1 a.2.1
omit [aJ] in
theorem Indep.add {A B:Wy->Prop} {w:Wy} (h:Indep A) (k:∀ v,B v↔A v\/v=w) (n:¬ aD A w.1 w.2.1):Indep B:=by
 intro a ha c
 rcases (k a).mp ha with ha | rfl
 ·have aw:a≠w:=fun e=>n (by rw[<-e];exact .one ha)
  have c':aD (fun v=>(A v/\v≠a)\/v=w) a.1 a.2.1:=c.mono fun v hv=>by
   rcases (k v).mp hv.1 with z | z
   ·exact .inl ⟨z,hv.2⟩
   ·exact .inr z
  have m:∀ {x y:Int},aD (fun v=>A v/\v≠a) x y->aD A x y:=fun z=>z.mono fun v hv=>hv.1
  rcases (aD.add fun v=>Iff.rfl).mp c' with z | ⟨z1,z2⟩ | ⟨z1,z2⟩
  ·exact h a ha z
  ·exact n (((m z1).symm.trans (.one ha)).trans (m z2).symm)
  ·exact n (((m z2).trans (aD.one ha).symm).trans (m z1))
 ·exact n (c.mono fun v hv=>by
   rcases (k v).mp hv.1 with z | z
   ·exact z
   ·exact absurd z hv.2)
theorem Ip {m:Int} {ws:List Wy} (W:cK m ws) {u v:Wy} (hu:u∈ws) (hv:v∈ws) (ne:u≠v):oo u v\/oo v u:=by
 by_cases c:oo u v
 ·exact .inl c
 ·refine .inr ?_
  have c:kle (jB v) (jB u):=by
   unfold kle
   cases q:HT.lexLt (jB u) (jB v) with
   | false=>rfl
   | true=>exact absurd q c
  refine HS c fun e=>ne ?_
  obtain⟨a1,a2,a3⟩:=u
  obtain⟨b1,b2,b3⟩:=v
  unfold jB at e
  simp only[List.cons.injEq,and_true] at e
  obtain⟨e1,e2,e3⟩:=e
  subst e1 e2 e3
  rfl
theorem SH {m:Int} {ws:List Wy} (W:cK m ws):Indep (jf ws):=by
 have key:∀ k,Indep fun u=>jf ws u/\mP ws u < k:=by
  intro k
  induction k with
  | zero=>intro a ha;omega
  | succ k ih =>
   by_cases e:∃ w,jf ws w/\mP ws w=k
   ·obtain⟨w,tw,cw⟩:=e
    refine ih.add (w:=w) (fun v => ?_) fun c => ?_
    ·constructor
     ·rintro ⟨tv,cv⟩
      by_cases z:v=w
      ·exact .inr z
      ·refine .inl ⟨tv,?_⟩
       rcases Ip W tv.1 tw.1 z with y | y
       ·have:=Ci tv.1 y;omega
       ·have:=Ci tw.1 y;omega
     ·rintro (⟨tv,cv⟩ | rfl)
      ·exact⟨tv,by omega⟩
      ·exact⟨tw,by omega⟩
    ·refine tw.2 (c.mono fun v hv=>⟨hv.1.1,?_⟩)
     by_cases z:v=w
     ·subst z;omega
     ·rcases Ip W hv.1.1 tw.1 z with y | y
      ·exact y
      ·have:=Ci tw.1 y;omega
   ·have eq:(fun u=>jf ws u/\mP ws u < k + 1)=fun u=>jf ws u/\mP ws u < k:=funext fun u=>propext ⟨fun ⟨a,b⟩=>⟨a,by
     by_cases z:mP ws u=k
     ·exact absurd ⟨u,a,z⟩ e
     ·omega⟩,fun ⟨a,b⟩=>⟨a,by omega⟩⟩
    rw[eq];exact ih
 have eq:(fun u=>jf ws u/\mP ws u < ws.length + 1)=jf ws:=funext fun u=>propext ⟨fun h=>h.1,fun h=>⟨h,by
  have:=List.countP_le_length (p:=fun v=>HT.lexLt (jB v) (jB u)) (l:=ws)
  unfold mP;omega⟩⟩
 have:=key (ws.length + 1)
 rw[eq] at this
 exact this
theorem SI {m:Int} {ws:List Wy} (W:cK m ws) {a b:Int} (ha:0 <= a/\a < (ws.length:Int)) (hb:0 <= b/\b < (ws.length:Int)) (e:ax ws a=ax ws b):a=b:=by
 have nd:=RZ W
 unfold ax at e
 have h1:a.toNat < ws.length:=by omega
 have h2:b.toNat < ws.length:=by omega
 rw[E5,E5,pb h1,pb h2] at e
 have:=(Yw (h₀ := h1) (h₁ := h2) nd).mp (by simpa using e)
 omega
theorem kW {S:Wy->Prop} {l:List Int} {a b:Int} (h:aD S a b) (ha:a∈l) (hb:b∉l):∃ v,S v/\iR l v=true:=by
 induction h with
 | rf=>exact absurd ha hb
 | @st c d h1 h2 ih =>
  by_cases c:c∈l
  ·obtain⟨w,hw,e⟩:=h2
   refine⟨w,hw,?_⟩
   unfold iR
   rcases e with⟨rfl,rfl⟩ | ⟨rfl,rfl⟩
   ·rw[Wz c,WK hb];rfl
   ·rw[Wz c,WK hb];rfl
  ·exact ih c
theorem Iq {l:List Int} {v:Wy} (h:iR l v=true):(v.1∈l/\v.2.1∉l)\/(v.2.1∈l/\v.1∉l):=by
 unfold iR at h
 by_cases p:v.1∈l
 ·by_cases q:v.2.1∈l
  ·rw[Wz p,Wz q] at h;cases h
  ·exact .inl ⟨p,q⟩
 ·by_cases q:v.2.1∈l
  ·exact .inr ⟨q,p⟩
  ·rw[WK p,WK q] at h;cases h
theorem dw {ws:List Wy} {l:List Int} {n:Int}:n∈eV ws l↔(0 <= n/\n < (ws.length:Int))/\iR l (ax ws n)=true:=by
 unfold eV
 rw[W9,cC]
theorem SJ {ws:List Wy} {l:List Int} {n:Int} (h:n∈eV ws l) (best:∀ e∈eV ws l,kle (eg ws n) (eg ws e)):jf ws (ax ws n):=by
 obtain⟨⟨n0,n1⟩,hl⟩:=dw.mp h
 refine⟨xN n0 n1,fun c => ?_⟩
 have:∃ v,(v∈ws/\oo v (ax ws n))/\iR l v=true:=by
  rcases Iq hl with⟨p,q⟩ | ⟨p,q⟩
  ·exact kW c p q
  ·exact kW c.symm p q
 obtain⟨v,⟨hv,lt⟩,lv⟩:=this
 obtain⟨k,hk,rfl⟩:=Cg hv
 have:=best k (dw.mpr ⟨hk,lv⟩)
 unfold kle at this
 rw[HR,HR] at this
 unfold oo at lt
 rw[this] at lt
 cases lt
theorem Ir {m:Int} {ws:List Wy} {us:List Int} {n:Int} (h:n∈dM m ws us):jf ws (ax ws n):=by
 obtain⟨l,_,h1,h2⟩:=CA h
 exact SJ h1 h2
theorem SK {m:Int} {ws:List Wy} (W:cK m ws) {us:List Int} (hu:Nums ws us) (h:dM m ws us=[]) {v:Wy} (hv:v∈ws):aD (cQ ws us) v.1 v.2.1:=by
 obtain⟨k,hk,rfl⟩:=Cg hv
 obtain⟨i,j,_,e1,e2,b1,b2⟩:=vg W hk.1 hk.2
 by_cases c:aD (cQ ws us) (ax ws k).1 (ax ws k).2.1
 ·exact c
 ·have L:=(qC W hu).1
  have hl:cls m.toNat (cQ ws us) (ax ws k).1∈cR m ws us:=(L.mem _).mpr ⟨_,by omega,rfl⟩
  have lv:iR (cls m.toNat (cQ ws us) (ax ws k).1) (ax ws k)=true:=by
   unfold iR
   rw[Wz (az.mpr ⟨by omega,.rf⟩),WK fun z=>c (az.mp z).2];rfl
  have ne:eV ws (cls m.toNat (cQ ws us) (ax ws k).1)≠[]:=fun z=>by
   have:=dw.mpr ⟨hk,lv⟩
   rw[z] at this;exact nomatch this
  have:jW ws (eV ws (cls m.toNat (cQ ws us) (ax ws k).1))∈dM m ws us:=eW.mpr ⟨_,hl,ne,rfl⟩
  rw[h] at this;exact nomatch this
theorem SM {m:Int} {ws:List Wy} (W:cK m ws) {us:List Int} (hu:Nums ws us) (nd:us.Nodup) (ht:∀ n∈us,jf ws (ax ws n)) (h:dM m ws us=[]) {os:List Int} (ho:bM ws os):sortI us=kN m ws os:=by
 have fn:=HV (m:=m) ho
 have fs:(kN m ws os).Pairwise (· <= ·):=Gm _
 refine Ic nd ((fs.and fn).imp fun ⟨a,b⟩=>by omega) fun n => ?_
 rw[HU W ho]
 constructor
 ·intro hn
  exact⟨hu n hn,ht n hn⟩
 ·rintro ⟨hn,t⟩
  by_cases c:n∈us
  ·exact c
  ·refine absurd ((SK W hu h (xN hn.1 hn.2)).mono fun v hv => ?_) (SH W _ t)
   obtain⟨k,hk,rfl⟩:=hv
   exact⟨ht k hk,fun e=>c (by rw[<-SI W (hu k hk) hn e];exact hk)⟩
noncomputable def df (l:List Int):Int:=l.headD 0
theorem SN {l:List Int} {x:Int} (h:x∈l):df l∈l:=by
 cases l with
 | nil=>exact nomatch h
 | cons a r=>exact vX
theorem vw {n:Nat} {S:Wy->Prop} {L:List (List Int)} (h:qA n S L) {l:List Int} (hl:l∈L):df l∈l/\(0 <= df l/\df l < n)/\l=cls n S (df l):=by
 obtain⟨g,hg,rfl⟩:=(h.mem l).mp hl
 have hm:=SN (az.mpr ⟨hg,.rf⟩:g∈cls n S g)
 obtain⟨r,c⟩:=az.mp hm
 exact⟨hm,r,xP c⟩
theorem Iu {n:Nat} {S:Wy->Prop} {L:List (List Int)} (h:qA n S L) {a b:List Int} {x:Int} (ha:a∈L) (hb:b∈L) (xa:x∈a) (xb:x∈b):a=b:=by
 obtain⟨g,_,rfl⟩:=(h.mem a).mp ha
 obtain⟨k,_,rfl⟩:=(h.mem b).mp hb
 exact xP ((az.mp xa).2.trans (az.mp xb).2.symm)
theorem Iv {A B:List (List Int)} {P:List Int->Prop} {hd:List Int->Int} (one:∀ b∈B,∀ b'∈B,∀ x,x∈b->x∈b'->b=b')
  (two:∀ b∈B,∃ a1 a2,a1∈A/\a2∈A/\a1≠a2/\hd a1∈b/\hd a2∈b):∀ bs:List (List Int),bs.Nodup->(∀ b∈bs,b∈B)->∃ as:List (List Int),as.length=2 * bs.length/\as.Nodup/\(∀ a∈as,a∈A)/\∀ a∈as,∃ b∈bs,hd a∈b
 | [],_,_=>⟨[],rfl,XR,(fun a h=>nomatch h),fun a h=>nomatch h⟩
 | b :: r,nd,hb=>by
  obtain⟨nb,nr⟩:=Yl.mp nd
  obtain⟨as,h1,h2,h3,h4⟩:=Iv (P:=P) one two r nr fun x hx=>hb x (E6 _ hx)
  have bB:=hb b vX
  obtain⟨a1,a2,m1,m2,ne,e1,e2⟩:=two b bB
  have no:∀ a,hd a∈b->a∉as:=fun a e z=>by
   obtain⟨b',dD,e'⟩:=h4 a z
   have:=one b bB b' (hb b' (E6 _ dD)) _ e e'
   subst this
   exact nb dD
  refine⟨a1 :: a2 :: as,by rw[My,My,My,h1];omega,Yl.mpr ⟨fun z=>(ML.mp z).elim ne (no a1 e1),Yl.mpr ⟨no a2 e2,h2⟩⟩,fun a ha => ?_,fun a ha => ?_⟩
  ·rcases ML.mp ha with rfl | ha
   ·exact m1
   ·rcases ML.mp ha with rfl | ha
    ·exact m2
    ·exact h3 a ha
  ·rcases ML.mp ha with rfl | ha
   ·exact⟨b,vX,e1⟩
   ·rcases ML.mp ha with rfl | ha
    ·exact⟨b,vX,e2⟩
    ·obtain⟨b',x,y⟩:=h4 a ha
     exact⟨b',E6 _ x,y⟩
theorem SO {m:Int} {ws:List Wy} (W:cK m ws) {us:List Int} (hu:Nums ws us) (nd:us.Nodup) {C:List Int} (hC:C∈cR m ws (aP ws.length)) (hb:1 < ((cR m ws us).filter fun l=>decide (df l∈C)).length) :
  2 * ((cR m ws (us ++ dM m ws us)).filter fun l=>decide (df l∈C)).length <= ((cR m ws us).filter fun l=>decide (df l∈C)).length:=by
 obtain⟨mu,mn⟩:=xV W hu nd
 have al:Nums ws (aP ws.length):=fun n h=>rV h
 have LA:=(qC W hu).1
 have LB:=(qC W mu).1
 have LC:=(qC W al).1
 have xW:∀ {a b:Int},aD (cQ ws us) a b->aD (cQ ws (us ++ dM m ws us)) a b:=fun h=>h.mono fun v ⟨k,hk,e⟩=>⟨k,Xf _ hk,e⟩
 have Iw:∀ {a b:Int},aD (cQ ws (us ++ dM m ws us)) a b->aD (cQ ws (aP ws.length)) a b:=fun h=>h.mono fun v ⟨k,hk,e⟩=>⟨k,cC.mpr (mu k hk),e⟩
 obtain⟨g,hg,rfl⟩:=(LC.mem C).mp hC
 have Iy:∀ {x y:Int},x∈cls m.toNat (cQ ws (aP ws.length)) g->aD (cQ ws (aP ws.length)) x y->(0 <= y/\y < (m.toNat:Int))->y∈cls m.toNat (cQ ws (aP ws.length)) g:=fun hx c r=>az.mpr ⟨r,(az.mp hx).2.trans c⟩
 have fm:∀ {L:List (List Int)} {l:List Int},l∈L.filter (fun l=>decide (df l∈cls m.toNat (cQ ws (aP ws.length)) g))↔l∈L/\df l∈cls m.toNat (cQ ws (aP ws.length)) g:=fun {L l}=>by rw[W9,W8]
 have two:∀ b∈(cR m ws (us ++ dM m ws us)).filter (fun l=>decide (df l∈cls m.toNat (cQ ws (aP ws.length)) g)),∃ a1 a2,a1∈(cR m ws us).filter (fun l=>decide (df l∈cls m.toNat (cQ ws (aP ws.length)) g))/\a2∈(cR m ws us).filter (fun l=>decide (df l∈cls m.toNat (cQ ws (aP ws.length)) g))/\a1≠a2/\df a1∈b/\df a2∈b:=by
  intro b dD
  obtain⟨bB,bC⟩:=fm.mp dD
  obtain⟨Wt,jO,eb⟩:=vw LB bB
  have vx:cls m.toNat (cQ ws us) (df b)∈cR m ws us:=(LA.mem _).mpr ⟨_,jO,rfl⟩
  obtain⟨CD,CF,_⟩:=vw LA vx
  have c1:=(az.mp CD).2
  generalize SQ:cls m.toNat (cQ ws us) (df b)=a1 at vx CD CF c1
  have Iz:=Iy bC (Iw (xW c1)) CF
  obtain⟨a',SS,ne'⟩:∃ a',a'∈(cR m ws us).filter (fun l=>decide (df l∈cls m.toNat (cQ ws (aP ws.length)) g))/\a'≠a1:=by
   by_cases q:∃ a',a'∈(cR m ws us).filter (fun l=>decide (df l∈cls m.toNat (cQ ws (aP ws.length)) g))/\a'≠a1
   ·exact q
   ·have sub:((cR m ws us).filter (fun l=>decide (df l∈cls m.toNat (cQ ws (aP ws.length)) g))).Subset [a1]:=fun x hx=>by
     by_cases e:x=a1
     ·rw[e];exact vX
     ·exact absurd ⟨x,hx,e⟩ q
    have:=YR (LA.nd.filter _) sub
    rw[WM] at this
    omega
  obtain⟨IA,SU⟩:=fm.mp SS
  obtain⟨SV,Wu,_⟩:=vw LA IA
  have cA:aD (cQ ws (aP ws.length)) (df a1) (df a'):=(az.mp Iz).2.symm.trans (az.mp SU).2
  obtain⟨v,⟨k,hk,rfl⟩,lv⟩:=kW cA CD fun z=>ne' (Iu LA IA vx SV z)
  have ne:eV ws a1≠[]:=fun z=>by
   have:=dw.mpr ⟨rV hk,lv⟩
   rw[z] at this;exact nomatch this
  have nR:jW ws (eV ws a1)∈dM m ws us:=eW.mpr ⟨_,vx,ne,rfl⟩
  obtain⟨nn,nl⟩:=dw.mp (Im (ws:=ws) ne).1
  generalize jW ws (eV ws a1)=n at nR nn nl
  obtain⟨i,j,_,e1,e2,b1,b2⟩:=vg W nn.1 nn.2
  have cn:aD (cQ ws (us ++ dM m ws us)) (ax ws n).1 (ax ws n).2.1 := .one ⟨n,VZ _ nR,rfl⟩
  obtain⟨x,y,xa,ya,SW,yr⟩:∃ x y,x∈a1/\y∉a1/\aD (cQ ws (us ++ dM m ws us)) x y/\(0 <= y/\y < (m.toNat:Int)):=by
   rcases Iq nl with⟨p,q⟩ | ⟨p,q⟩
   ·exact⟨_,_,p,q,cn,by omega⟩
   ·exact⟨_,_,p,q,cn.symm,by omega⟩
  have CG:cls m.toNat (cQ ws us) y∈cR m ws us:=(LA.mem _).mpr ⟨_,yr,rfl⟩
  obtain⟨IB,CH,_⟩:=vw LA CG
  have c2:=(az.mp IB).2
  have IC:y∈cls m.toNat (cQ ws us) y:=az.mpr ⟨yr,.rf⟩
  generalize cls m.toNat (cQ ws us) y=a2 at CG IB CH c2 IC
  have cx:aD (cQ ws us) (df b) x:=by rw[<-SQ] at xa;exact (az.mp xa).2
  have ID:aD (cQ ws (us ++ dM m ws us)) (df b) (df a2):=((xW cx).trans SW).trans (xW c2)
  refine⟨a1,a2,fm.mpr ⟨vx,Iz⟩,fm.mpr ⟨CG,Iy bC (Iw ID) CH⟩,fun z=>ya (by rw[z];exact IC),?_,?_⟩
  ·rw[eb];exact az.mpr ⟨CF,xW c1⟩
  ·rw[eb];exact az.mpr ⟨CH,ID⟩
 obtain⟨as,h1,h2,h3,_⟩:=Iv (P:=fun _=>True) (hd:=df) (fun b hb b' dD x xb SX=>Iu LB (fm.mp hb).1 (fm.mp dD).1 xb SX) two _ (LB.nd.filter _) fun b hb=>hb
 rw[<-h1]
 exact YR h2 h3
end LJ
namespace PySem
open Sem (wp)
section
variable {prog:Program} {w:World} {A:Around} {E:Value->Shared->Prop} {s:Shared} {z TI TO i j:Addr} {fp gp:List Addr} {n m k:Nat} {P P':Nat->Value->Prop} {St Wv:Nat->Heap->Prop} {a b:Value}
end
section
variable {prog:Program} {w:World} {A:Around} {E:Value->Shared->Prop} {s:Shared}
end
end PySem
namespace L2
open PySem PySem.Spec PyProof.Rows
section
variable {X:Cx} {pins:List (Addr × Obj)} {σ : St} {H:Hp} {s:Shared}
end
section
variable {X:Cx} {elts:List Expr} {x1:Nat} {tp:Pos}
end
section
variable [aJ] {X:Cx} {a b:Expr} {fa:WA}
end
end L2
namespace LJ
open PySem L2
variable [aJ]
noncomputable def gB (L:List (List Int)) (C:List Int):Nat:=(L.filter fun l=>decide (df l∈C)).length
theorem SY {l:List Int} (h:l≠[]):fB (l.map D.int) 0=some (.int (df l)):=by
 cases l with
 | nil=>exact absurd rfl h
 | cons a r=>exact jc
noncomputable def vy:GD:=fun ys aj K=>∃ (m:Int) (ws:List Wy) (A B:List (List Int)),cK m ws/\ys=[.p (aX m ws),.p (n8 A),.p (n8 B)]/\aj=[]/\(∀ l∈A,l≠[])/\(∀ l∈B,l≠[])/\A.length <= 12/\B.length <= 12 ∧
 (∀ C∈cR m ws (aP ws.length),1 < gB A C->2 * gB B C <= gB A C)/\K (.p (.bl true)) []
noncomputable def CI:WS:=(av (fy (cL (aq 2 mO (ak (aa 0) (ak (aq 1 uP (ak (aa 0) ag)) ag)))) (cy 3) (av (aK 4 (dN (ak (iD (cL (aa 1)) [none,some 3] (cy 0) (dT (d2 (d2 (aa 0) (dC (.int 0)) bj) (aa 1) (kF false))) (dC (.int 1))) ag) cN)) (av (aK 5 (dN (ak (iD (cL (aa 2)) [none,some 3] (cy 0) (dT (d2 (d2 (aa 0) (dC (.int 0)) bj) (aa 1) (kF false))) (dC (.int 1))) ag) cN)) (bJ (jN (dT (d2 (aa 4) (dC (.int 1)) (oI fun i j => .bl (decide (j < i))))) (dT (d2 (d2 (dC (.int 2)) (aa 5) fU) (aa 4) (oI fun i j => .bl (decide (j < i)))))) (aV (dC (.bl false))) fQ)))) (aV (dC (.bl true))))
theorem S7:∀ ys aj K',ys.length=3->vy ys aj K'->CI (dq aj.length K') ⟨ys.map some ++ List.replicate 3 none,aj.map some⟩:=by
 rintro ys aj K' - ⟨m,ws,A,B,W,rfl,rfl,nA,nB,lA,lB,hv,k⟩
 have rX:=W.iU
 have al:Nums ws (aP ws.length):=fun n h=>rV h
 have an:(aP ws.length).Nodup:=(Ck ws.length).imp fun h=>by omega
 unfold CI
 refine bp fun N hN => ?_
 refine uB fun g' b' K2 hg dD hK => ?_
 simp? only []
 refine⟨m,ws,W,rfl,rfl,?_⟩
 simp? only []
 refine⟨m,ws,aP ws.length,W,al,an,by rw[vf];omega,rfl,rfl,?_⟩
 rw[show ((cP (h8 m ws (aP ws.length)) m.toNat).map (·.2))=cR m ws (aP ws.length) from rfl,show n8 (cR m ws (aP ws.length)) = .lst ((cR m ws (aP ws.length)).map a_) from rfl]
 simp? only []
 subst hg dD hK
 rw[show n8 A = .lst (A.map a_) from rfl,show n8 B = .lst (B.map a_) from rfl]
 refine nV (fun i δ => δ = ⟨[some (.p (aX m ws)),some (.p (.lst (A.map a_))),some (.p (.lst (B.map a_))),none,none,none],[]⟩) rfl ?_ ?_
 ·rintro i d δ L hi rfl hL
  rw[MJ] at hi
  obtain⟨C,hC,rfl⟩:=V7.mp hi
  have hv:=hv C (Xb hC)
  have hL:=hL _ rfl
  refine⟨trivial,?_⟩
  simp only[cy,XA,XB]
  have cnt:∀ (X:List (List Int)),(∀ l∈X,l≠[])->∀ d∈X.map a_,∀ acc (L':List D->ay->Prop) (δ':ay),δ'=⟨[none,some (.p (a_ C))],[]⟩->acc.length < 1000->(kR (fun l=>decide (df l∈C)) d=true->L' (acc ++ [.int 1]) δ')->(kR (fun l=>decide (df l∈C)) d=false->L' acc δ')->rO δ' (fun _=>True) (cy 0) (dT (d2 (d2 (aa 0) (dC (.int 0)) bj) (aa 1) (kF false))) (dC (.int 1)) d acc δ' L':=by
   intro X nX d hd acc L' δ' e ha h1 h2
   subst e
   obtain⟨l,hl,rfl⟩:=V6.mp hd
   rw[vt] at h1 h2
   rw[show a_ l = .lst (l.map D.int) from rfl,show a_ C = .lst (C.map D.int) from rfl] at *
   simp? only [SY (nX l hl)]
   have d0:=vh C
   refine⟨by omega,?_⟩
   rw[xR]
   cases q:decide (df l∈C) with
   | true=>simp? only [];exact⟨ha,h1 q⟩
   | false=>simp? only [];exact h2 q
  have one:∀ (X:List (List Int)),((X.map a_).filter (kR fun l=>decide (df l∈C))).map (fun _=>D.int 1)=List.replicate (gB X C) (D.int 1):=fun X=>by
   rw[ZV,WU,show (kR fun l=>decide (df l∈C)) ∘ a_=fun l=>decide (df l∈C) from funext fun l=>vt _ l]
   exact List.eq_replicate_iff.mpr ⟨by rw[pd];rfl,fun b hb=>by obtain⟨_,_,rfl⟩:=V6.mp hb;rfl⟩
  refine bp fun N2 dJ => ?_
  simp? only []
  refine L2.qf (kR fun l=>decide (df l∈C)) (fun _ => .int 1) (by rw[pd];omega) trivial (fun d hd acc L' ha h1 h2=>cnt A nA d hd acc L' _ rfl ha h1 h2) ?_
  rw[one A]
  simp? only [YA]
  subst dJ
  refine bp fun N2 dJ => ?_
  simp? only []
  refine L2.qf (kR fun l=>decide (df l∈C)) (fun _ => .int 1) (by rw[pd];omega) trivial (fun d hd acc L' ha h1 h2=>cnt B nB d hd acc L' _ rfl ha h1 h2) ?_
  rw[one B]
  simp? only [YA]
  subst dJ
  refine mF fun A1 B1 hA hB => ?_
  simp? only []
  by_cases c:1 < gB A C
  ·have c1:decide ((1:Int) < (gB A C:Nat))=true:=Wz (by omega)
   have c2:decide ((gB A C:Int) < 2 * (gB B C:Nat))=false:=WK (by have:=hv c;omega)
   rw[c1]
   simp? only []
   have cb:gB B C <= B.length:=ZG _ _
   refine⟨.inl ⟨by omega,by omega⟩,?_⟩
   rw[c2]
   simp? only []
   subst hB
   exact hL
  ·have c1:decide ((1:Int) < (gB A C:Nat))=false:=WK (by omega)
   rw[c1]
   simp? only []
   subst hB
   exact hL
 ·rintro δ rfl
  refine⟨trivial,?_⟩
  subst hN
  simp? only []
  exact gz k
theorem IE {m:Int} {ws:List Wy} (W:cK m ws):∀ (n:Nat) (us:List Int),Nums ws us->us.Nodup->(∀ k∈us,jf ws (ax ws k))->ws.length < us.length + n →
  (∀ (i:Nat) (r:List Int),(jC m ws n us)[i]? = some r->Nums ws (us ++ ((jC m ws n us).take i).flatten)/\(us ++ ((jC m ws n us).take i).flatten).Nodup/\r=dM m ws (us ++ ((jC m ws n us).take i).flatten)/\r≠[]) ∧
  Nums ws (us ++ (jC m ws n us).flatten)/\(us ++ (jC m ws n us).flatten).Nodup/\dM m ws (us ++ (jC m ws n us).flatten)=[]/\∀ k∈us ++ (jC m ws n us).flatten,jf ws (ax ws k)
 | 0,us,hu,nd,_,h=>by have:=oq hu nd;omega
 | n + 1,us,hu,nd,ht,h=>by
  obtain⟨mu,mn⟩:=xV W hu nd
  unfold jC
  cases q:dM m ws us with
  | nil=>exact⟨fun i r e=>by simp at e,by rw[q0v,XS];exact⟨hu,nd,q,ht⟩⟩
  | cons a b =>
   rw[q] at mu mn
   have rt:∀ k∈us ++ a :: b,jf ws (ax ws k):=fun k hk=>(WX.mp hk).elim (ht k) fun z=>Ir (m:=m) (us:=us) (by rw[q];exact z)
   obtain⟨h1,h2⟩:=IE W n (us ++ a :: b) mu mn rt (by rw[EZ,My];omega)
   dsimp only
   refine⟨fun i r e => ?_,?_⟩
   ·cases i with
    | zero =>
     cases (show some (a :: b)=some r from e)
     rw[ZC,q0v,XS]
     exact⟨hu,nd,q.symm,by simp⟩
    | succ i =>
     have:=h1 i r (by simpa using e)
     rw[ZY,Xw,<-XJ]
     exact this
   ·rw[Xw,<-XJ]
    exact h2
noncomputable abbrev KL:KS:=⟨fun _=>False,fun x _=>x = .p (.bl true),fun _=>False,fun _=>False⟩
noncomputable def CJ:WS:=(av (fy (pV (ak (dC (.int 3)) ag)) (cy 2) (av (aK 3 (aq 3 uG (ak (aq 1 uE (ak (aa 1) ag)) (ak (d2 (fx (ak (dC (.int 12)) (ak (dC (.int 9)) (ak (dC (.int 12)) ag)))) (aa 2) bj) (ak (dC (.int 30)) ag))))) (av (aK 4 (aq 1 ve (ak (aa 3) ag))) (av (aK 5 (fx ag)) (av (fy (cL (aq 1 vv (ak (aa 3) ag))) (cy 6) (av (bJ (nE (dT (d2 (aq 2 kU (ak (aa 3) (ak (dN (ak (aa 5) ag) p8) ag))) (aa 6) nP)) (dT (d2 (aa 6) (fx ag) oEq))) (aV (dC (.bl false))) fQ) (av (bJ (gu (dT (aq 3 vy (ak (aa 3) (ak (aq 2 mO (ak (aa 3) (ak (dN (ak (aa 5) ag) p8) ag))) (ak (aq 2 mO (ak (aa 3) (ak (d2 (aa 5) (aa 6) eQ) ag))) ag)))))) (aV (dC (.bl false))) fQ) (aK 5 (d2 (aa 5) (aa 6) eQ))))) (av (bJ (nE (dT (d2 (dN (ak (aa 5) ag) wU) (aa 4) nP)) (dT (d2 (aq 2 kU (ak (aa 3) (ak (dN (ak (aa 5) ag) p8) ag))) (fx ag) nP))) (aV (dC (.bl false))) fQ) (av (aK 7 (iD (cL (aa 4)) [none,some 1] (cy 0) (dT (d2 (aq 2 g9 (ak (aa 1) (ak (dC (.int 2)) ag))) (dC (.int 0)) oEq)) (aa 0))) (bJ (dT (d2 (iD (cL (aq 2 kU (ak (aa 3) (ak (dN (ak (aa 7) ag) p8) ag)))) [none,some 4] (cy 0) (dT (d2 (aa 0) (aa 1) (kF true))) (aa 0)) (fx ag) nP)) (aV (dC (.bl false))) fQ)))))))) (aV (dC (.bl true))))
theorem IF {m:Int} {ws:List Wy} (W:cK m ws) {us:List Int} (hu:Nums ws us):∀ l∈cR m ws us,l≠[]:=fun l h z=>by
 have:=(vw (qC W hu).1 h).1
 rw[z] at this
 exact nomatch this
theorem S8 (ns:List Int) (hn:ns.length <= 63):CJ KL ⟨none :: some (.o 0) :: List.replicate 6 none,[some (jd ns 0 0)]⟩:=by
 unfold CJ
 refine bp fun N hN => ?_
 simp? only []
 refine⟨by decide,?_⟩
 refine nV (fun i δ => ∃ o,bg (1000 * i) o /\ δ = ⟨none :: some (.o 0) :: List.replicate 6 none,[some o]⟩) ⟨jd ns 0 0,⟨ns,0,0,rfl,hn,by omega,by omega⟩,rfl⟩ ?_ ?_
 ·rintro j d δ L hj ⟨o,P,rfl⟩ hL
  obtain⟨CK,rfl⟩:=nL hj
  have CK:j < 3:=CK
  refine⟨trivial,?_⟩
  simp only[cy,XH,List.replicate_zero,XA,XB]
  obtain⟨hs,ea,h1,Hi⟩:∃ hs:Int,fB [D.int 12,D.int 9,D.int 12] (0 + (j:Int))=some (.int hs)/\1 <= hs/\hs <= 12:=by
   match j,CK with
   | 0,_=>exact⟨12,rfl,by decide,by decide⟩
   | 1,_=>exact⟨9,rfl,by decide,by decide⟩
   | 2,_=>exact⟨12,rfl,by decide,by decide⟩
  generalize (0 + (j:Int))=jt at ea
  refine bp fun N2 dJ => ?_
  simp? only []
  refine⟨1000 * j,o,rfl,rfl,P,fun o1 P1 => ?_⟩
  simp? only [ea]
  refine⟨1000 * j,hs,30,o1,rfl,rfl,P1,by omega,by omega,by omega,by omega,by omega,fun m ws o2 W _ _ P2 => ?_⟩
  have rX:=W.iU
  simp? only []
  subst dJ
  refine bp fun N2 dJ => ?_
  simp? only []
  refine⟨m,ws,W,rfl,rfl,fun os ho => ?_⟩
  simp? only []
  subst dJ
  refine bp fun N2 dJ => ?_
  simp? only []
  subst dJ
  obtain⟨ra,ru,rd,re,rt⟩:=IE W (ws.length + 1) [] (fun n h=>nomatch h) XR (fun n h=>nomatch h) (by simp)
  rw[show jC m ws (ws.length + 1) []=mR m ws from rfl] at ra ru rd re rt
  simp only[q0M] at ra ru rd re rt
  refine bp fun N2 dJ => ?_
  refine uB fun g' b' K2 hg dD hK => ?_
  simp? only []
  refine⟨m,ws,W,rfl,rfl,?_⟩
  simp? only []
  subst hg dD hK
  refine nV (fun i δ => δ = ⟨[none,some (.o 0),some (.p (.int jt)),some (.p (aX m ws)),some (.p (.lst ((kN m ws os).map D.int))),some (.p (.lst (((mR m ws).take i).flatten.map D.int))),none,none],[some o2]⟩) rfl ?_ ?_
  ·rintro i d δ L3 hi rfl ot
   rw[MJ] at hi
   obtain⟨r,hr,rfl⟩:=V7.mp hi
   obtain⟨hu,nd,er,S9⟩:=ra i r hr
   have et:(mR m ws).take (i + 1)=(mR m ws).take i ++ [r]:=by rw[Yj,hr];rfl
   have ot:=ot _ rfl
   rw[et,List.flatten_append,Xw,q0v,XS] at ot
   generalize ((mR m ws).take i).flatten=us at hu nd er ot
   obtain⟨mu,mn⟩:=xV W hu nd
   rw[<-er] at mu mn
   have ul:=oq mu mn
   rw[EZ] at ul
   refine⟨trivial,?_⟩
   simp only[cy,XA,XB]
   refine bp fun N3 CL => ?_
   refine mF fun A1 B1 hA hB => ?_
   simp? only []
   refine⟨m,ws,us,W,hu,nd,by omega,rfl,rfl,?_⟩
   rw[<-er,show a_ r = .lst (r.map D.int) from rfl]
   simp? only []
   have d0:=vh r
   refine⟨by omega,?_⟩
   rw[lG]
   simp? only []
   refine⟨by omega,?_⟩
   rw[show (D.lst [])=D.lst (([]:List Int).map D.int) from rfl]
   simp only[aF,Ie,WK S9]
   simp? only []
   subst hB
   show N3 _
   subst CL
   refine bp fun N3 CL => ?_
   refine mF fun A1 B1 hA hB => ?_
   simp? only []
   refine⟨m,ws,us,W,hu,nd,by omega,rfl,rfl,?_⟩
   simp? only []
   refine⟨by omega,?_⟩
   rw[<-WR]
   refine⟨m,ws,us ++ r,W,mu,mn,by rw[EZ];omega,rfl,rfl,?_⟩
   simp? only []
   rw[show ((cP (h8 m ws us) m.toNat).map (·.2))=cR m ws us from rfl,show ((cP (h8 m ws (us ++ r)) m.toNat).map (·.2))=cR m ws (us ++ r) from rfl]
   refine⟨m,ws,cR m ws us,cR m ws (us ++ r),W,rfl,rfl,IF W hu,IF W mu,(Cm W hu).1,(Cm W mu).1,fun C hC hb => ?_,?_⟩
   ·have:=SO W hu nd hC hb
    rw[<-er] at this
    exact this
   simp? only []
   subst hB
   show N3 _
   subst CL
   simp? only []
   refine⟨by omega,?_⟩
   rw[<-WR]
   exact ot
  ·rintro δ rfl
   refine⟨trivial,?_⟩
   rw[pd,Y8]
   subst dJ
   dsimp only
   have fe:=SM W ru rd rt re ho
   have ul:=oq ru rd
   generalize (mR m ws).flatten=us at ru rd re rt fe ul
   have fm:∀ n,n∈kN m ws os↔(0 <= n/\n < (ws.length:Int))/\jf ws (ax ws n):=fun n=>HU W ho
   have fn:=HV (m:=m) ho
   have fl:(kN m ws os).length <= ws.length:=oq (fun n h=>((fm n).mp h).1) fn
   generalize kN m ws os=fo at fe fm fn fl
   refine bp fun N2 dJ => ?_
   refine mF fun A1 B1 hA hB => ?_
   simp only[nE,dT,d2,dN,ak,aa,ag,jL,iB,Zr,Yv,wU,rF]
   refine⟨by omega,?_⟩
   rw[fe]
   simp? only []
   have d0:=vh fo
   refine⟨by omega,?_⟩
   rw[lG]
   simp? only []
   refine⟨m,ws,us,W,ru,rd,by omega,rfl,rfl,?_⟩
   rw[re]
   simp? only [a_]
   rw[lG]
   simp? only []
   subst hB
   show N2 _
   subst dJ
   refine bp fun N2 dJ => ?_
   simp? only []
   refine xc (fun i acc δ => ∃ (zs:List Int) (o':OV),zs.Sublist (fo.take i)/\acc=zs.map D.int/\bg (1000 * j + 300 + i) o' /\ δ = ⟨[none,some (.o 0)],[some o']⟩) ⟨[],o2,ZD _,rfl,P2.mono (by omega),rfl⟩ ?_ ?_
   ·rintro i d acc δ L3 hi ⟨zs,o',sub,rfl,P',rfl⟩ ot
    rw[MJ] at hi
    obtain⟨n,iS,rfl⟩:=V7.mp hi
    have il:=(pe.mp iS).1
    have et:fo.take (i + 1)=fo.take i ++ [n]:=by rw[Yj,iS];rfl
    have zl:=sub.length_le
    rw[W5] at zl
    simp? only []
    refine⟨1000 * j + 300 + i,2,o',rfl,rfl,P',by omega,by omega,by omega,fun r jy r0 r1 j8 => ?_⟩
    simp? only []
    rw[xK]
    by_cases c:r=0
    ·rw[Wz c]
     simp? only []
     refine⟨by omega,?_⟩
     have:=ot _ _ ⟨zs ++ [n],jy,by rw[et];exact sub.append (ZD _),rfl,j8.mono (by omega),rfl⟩
     rw[WR] at this
     exact this
    ·rw[WK c]
     simp? only []
     exact ot _ _ ⟨zs,jy,by rw[et];exact sub.trans (q0p _ _),rfl,j8.mono (by omega),rfl⟩
   rintro acc δ ⟨zs,o',sub,rfl,P',rfl⟩
   refine⟨trivial,?_⟩
   rw[pd,Y8] at sub
   rw[pd] at P'
   have zu:Nums ws zs:=fun n h=>((fm n).mp (sub.subset h)).1
   have zd:zs.Nodup:=sub.nodup fn
   have zl:=oq zu zd
   subst dJ
   refine mF fun A1 B1 hA hB => ?_
   simp? only []
   refine⟨m,ws,zs,W,zu,zd,by omega,rfl,rfl,?_⟩
   have rl:=oq (CB (m:=m) (ws:=ws) (us:=zs)) Io
   have CM:∀ n∈dM m ws zs,n∈fo:=fun n h=>(fm n).mpr ⟨CB n h,Ir h⟩
   generalize dM m ws zs=rz at rl CM
   rw[show a_ rz = .lst (rz.map D.int) from rfl]
   simp? only []
   refine L2.qf (fun d=>match d with
    | .int n => !decide (n∈fo)
    | _=>false) id (by rw[pd];omega) trivial ?_ ?_
   ·intro d hd acc L' ha h1 h2
    obtain⟨n,iS,rfl⟩:=V6.mp hd
    dsimp only at h1 h2
    simp? only []
    refine⟨by omega,?_⟩
    rw[xR]
    have:=CM n iS
    rw[Wz this] at h2 ⊢
    simp? only []
    exact h2 rfl
   ·have e:(rz.map D.int).filter (fun d=>match d with
     | .int n => !decide (n∈fo)
     | _=>false)=[]:=by
     rw[List.filter_eq_nil_iff]
     intro d hd
     obtain⟨n,iS,rfl⟩:=V6.mp hd
     dsimp only
     rw[Wz (CM n iS)]
     decide
    rw[e]
    simp? only []
    rw[lG]
    simp? only []
    subst hB
    simp? only []
    exact hL _ ⟨o',P'.mono (by omega),rfl⟩
 ·rintro δ ⟨o,P,rfl⟩
  refine⟨trivial,?_⟩
  subst hN
  simp? only []
end LJ
namespace LJ
open PySem L2
noncomputable def top (i:Nat):Stmt:=PySem.Challenge.pw_lotjoin_k22_whole_rounds_and_lots.main.body.getD i (.Pass ⟨0,0,0,0⟩)
section
variable [aJ] {P:Program} {w:World} {K:PySem.W.Frag} {mg:Str->Option Value} {base:Heap}
noncomputable abbrev CN:Stmt:=top 8
theorem eY:di ["thing"] ["thing"] (bL CN):=⟨rfl,rfl,rfl,by decide +kernel,rfl,by decide +kernel,by decide +kernel⟩
theorem S_ {f:Addr} {fd:FuncData} (F:cq K "is_whole" "is_whole" CN f fd) (B:BT mg):aU P w K mg base bS 1 f fd ["thing"] (aQ uH 1):=by
 refine F.fE (k:=0) eY fun a5 A outer s H E hr => ?_
 have nd:=eY.nd
 have hu:=hr.units
 exact⟨Bw,(bq (cF (rp (ui O0 (by rfl) B.isinstance (by rfl) B.int N4 (dv 0)) (rm (Oe (ui O1 (by rfl) B.isinstance (by rfl) B.bool N0 (dv 0))))))),Qp⟩
noncomputable abbrev CO:Stmt:=top 9
theorem eA:di ["thing", "least", "most"] ["thing", "least", "most"] (bL CO):=⟨rfl,rfl,rfl,by decide +kernel,rfl,by decide +kernel,by decide +kernel⟩
theorem Ta {f Tb:Addr} {fd Tc:FuncData} (F:cq K "is_within" "is_within" CO f fd) (B:BT mg) (cS:Fn P w K mg base 1 "is_whole" ["thing"] (aQ uH 1) Tb Tc):aU P w K mg base bS 2 f fd ["thing", "least", "most"] (aQ j9 3):=by
 refine F.fE (k:=1) eA fun a5 A outer s H E hr => ?_
 have nd:=eA.nd
 have hu:=hr.units
 exact⟨Bx,(bq (cF (rp (bH cS.ok (hr.mono (by decide)) (by rfl) cS.bz cS.kp cS.bd (ao (dv 0) aH)) (rm (ON Gh Gh (dv 1) (dv 0) (dv 2)))))),Qq⟩
noncomputable abbrev CP:Stmt:=top 10
theorem dy:di ["thing", "size"] ["thing", "size"] (bL CP):=⟨rfl,rfl,rfl,by decide +kernel,rfl,by decide +kernel,by decide +kernel⟩
theorem Td {f:Addr} {fd:FuncData} (F:cq K "is_tuple_of" "is_tuple_of" CP f fd) (B:BT mg):aU P w K mg base bS 1 f fd ["thing", "size"] (aQ qo 2):=by
 refine F.fE (k:=0) dy fun a5 A outer s H E hr => ?_
 have nd:=dy.nd
 have hu:=hr.units
 exact⟨By,(bq (cF (rp (ui Gv (by rfl) B.isinstance (by rfl) B.tuple Ap (dv 0)) (rm (pE (jw hu) (gH i_ (by rfl) B.len Xj (ao (dv 0) aH)) (dv 1) (by rfl)))))),Qr⟩
noncomputable abbrev CQ:Stmt:=top 11
theorem eZ:di ["many", "one", "other"] ["many", "one", "other"] (bL CQ):=⟨rfl,rfl,rfl,by decide +kernel,rfl,by decide +kernel,by decide +kernel⟩
theorem Te {f qF:Addr} {fd qG:FuncData} (F:cq K "are_ends" "are_ends" CQ f fd) (B:BT mg) (ai:Fn P w K mg base 2 "is_within" ["thing", "least", "most"] (aQ j9 3) qF qG):aU P w K mg base bS 3 f fd ["many", "one", "other"] (aQ uK 3):=by
 refine F.fE (k:=2) eZ fun a5 A outer s H E hr => ?_
 have nd:=eZ.nd
 have hu:=hr.units
 exact⟨Bz,(bq (cF (rp (bH ai.ok (hr.mono (by decide)) (by rfl) ai.bz ai.kp ai.bd (ao (dv 1) (a9 aB (iO (bu rJ (dv 0) aB) aH)))) (rm (bH ai.ok (hr.mono (by decide)) (by rfl) ai.bz ai.kp ai.bd (ao (dv 2) (iO (bu fG (dv 1) aB) (iO (bu rJ (dv 0) aB) aH)))))))),Qs⟩
noncomputable abbrev CS:Stmt:=top 12
theorem gO:di ["many", "thing"] ["many", "thing"] (bL CS):=⟨rfl,rfl,rfl,by decide +kernel,rfl,by decide +kernel,by decide +kernel⟩
theorem Tf {f CT Tg qF:Addr} {fd CU Th qG:FuncData} (F:cq K "is_way" "is_way" CS f fd) (B:BT mg) {IG:Value} (IH:RelV (.int 1000000000) IG/\mg "MOST_PRICE" = some IG) (aL:Fn P w K mg base 1 "is_tuple_of" ["thing", "size"] (aQ qo 2) CT CU) (cU:Fn P w K mg base 3 "are_ends" ["many", "one", "other"] (aQ uK 3) Tg Th) (ai:Fn P w K mg base 2 "is_within" ["thing", "least", "most"] (aQ j9 3) qF qG):aU P w K mg base bS 4 f fd ["many", "thing"] (aQ uL 2):=by
 refine F.fE (k:=3) gO fun a5 A outer s H E hr => ?_
 have nd:=gO.nd
 have hu:=hr.units
 exact⟨BA,(a6 (f9 (nH (mf (bH aL.ok (hr.mono (by decide)) (by rfl) aL.bz aL.kp aL.bd (ao (dv 1) (a9 aB aH))))) (bq (cF j5)) gv) (bq (cF (rp (bH cU.ok (hr.mono (by decide)) (by rfl) cU.bz cU.kp cU.bd (ao (dv 0) (bD (bA bE (dv 1) aB (fun _ _=>rfl)) (bD (bA bE (dv 1) aB (fun _ _=>rfl)) aH)))) (rm (bH ai.ok (hr.mono (by decide)) (by rfl) ai.bz ai.kp ai.bd (bD (bA bE (dv 1) aB (fun _ _=>rfl)) (a9 aB (ao (Ax (i:=1000000000) (by rfl) IH.2 IH.1) aH))))))))),Qu⟩
noncomputable abbrev CV:Stmt:=top 13
theorem e7:di ["many", "thing"] ["many", "thing"] (bL CV):=⟨rfl,rfl,rfl,by decide +kernel,rfl,by decide +kernel,by decide +kernel⟩
theorem Ti {f Tj:Addr} {fd Tn:FuncData} (F:cq K "are_ways" "are_ways" CV f fd) (B:BT mg) {II:Value} (IJ:RelV (.int 30) II/\mg "MOST_WAYS" = some II) (eB:Fn P w K mg base 4 "is_way" ["many", "thing"] (aQ uL 2) Tj Tn):aU P w K mg base bS 5 f fd ["many", "thing"] (aQ uM 2):=by
 refine F.fE (k:=4) e7 fun a5 A outer s H E hr => ?_
 have nd:=e7.nd
 have hu:=hr.units
 exact⟨BE,(a6 (f9 (JW.jt (wq (nH (mf (ui Gv (by rfl) B.isinstance (by rfl) B.tuple Ap (dv 1)))) (wo (dQ nQ (gH i_ (by rfl) B.len Xj (ao (dv 1) aH)) (Ax (i:=30) (by rfl) IJ.2 IJ.1) (by rfl))))) (bq (cF j5)) gv) (a6 (f9 (nH (mf (gH (OT rfl) (by rfl) B.all N5 (iO (lE [none,some 0] ["way", "many"] rfl (iF (dv 1)) (fun d=>(d7 (i:=0) (show (["way", "many"]:List Str).Nodup by decide +kernel) rfl (by trivial))) (fun d=>pP) (fun d=>(bH eB.ok (hr.mono (by decide)) (by rfl) eB.bz eB.kp eB.bd (ao (dv 1) (ao (dv 0) aH))))) aH)))) (bq (cF j5)) gv) (bq (cF (pE (jw hu) (Qo rfl hu (by rfl) B.len Xj (by rfl) B.set FC (iO (lE [none] ["way"] rfl (iF (dv 1)) (fun d=>(d7 (i:=0) (show (["way"]:List Str).Nodup by decide +kernel) rfl (by trivial))) (fun d=>pP) (fun d=>(P_ (dv 0) OL (OM aB)))) aH)) (gH i_ (by rfl) B.len Xj (ao (dv 1) aH)) (by rfl)))))),Qv⟩
noncomputable abbrev CW:Stmt:=top 14
theorem gP:di ["thing"] ["thing"] (bL CW):=⟨rfl,rfl,rfl,by decide +kernel,rfl,by decide +kernel,by decide +kernel⟩
theorem To {f CT qF Tp:Addr} {fd CU qG Tq:FuncData} (F:cq K "is_web" "is_web" CW f fd) (B:BT mg) {IK:Value} (IL:RelV (.int 12) IK/\mg "MOST_HOUSES" = some IK) (aL:Fn P w K mg base 1 "is_tuple_of" ["thing", "size"] (aQ qo 2) CT CU) (ai:Fn P w K mg base 2 "is_within" ["thing", "least", "most"] (aQ j9 3) qF qG) (cV:Fn P w K mg base 5 "are_ways" ["many", "thing"] (aQ uM 2) Tp Tq):aU P w K mg base bS 6 f fd ["thing"] (aQ uO 1):=by
 refine F.fE (k:=5) gP fun a5 A outer s H E hr => ?_
 have nd:=gP.nd
 have hu:=hr.units
 exact⟨BF,(a6 (f9 (nH (mf (bH aL.ok (hr.mono (by decide)) (by rfl) aL.bz aL.kp aL.bd (ao (dv 0) (a9 aB aH))))) (bq (cF j5)) gv) (bq (cF (rp (bH ai.ok (hr.mono (by decide)) (by rfl) ai.bz ai.kp ai.bd (bD (bA bE (dv 0) aB (fun _ _=>rfl)) (a9 aB (ao (Ax (i:=12) (by rfl) IL.2 IL.1) aH)))) (rm (bH cV.ok (hr.mono (by decide)) (by rfl) cV.bz cV.kp cV.bd (bD (bA bE (dv 0) aB (fun _ _=>rfl)) (bD (bA bE (dv 0) aB (fun _ _=>rfl)) aH)))))))),Qx⟩
noncomputable abbrev CY:Stmt:=top 15
theorem e8:di ["web"] ["web"] (bL CY):=⟨rfl,rfl,rfl,by decide +kernel,rfl,by decide +kernel,by decide +kernel⟩
theorem Tr {f Tt:Addr} {fd Tu:FuncData} (F:cq K "need_web" "need_web" CY f fd) (B:BT mg) (eC:Fn P w K mg base 6 "is_web" ["thing"] (aQ uO 1) Tt Tu):aU P w K mg base bS 7 f fd ["web"] (aQ qx 1):=by
 refine F.fE (k:=6) e8 fun a5 A outer s H E hr => ?_
 have nd:=e8.nd
 have hu:=hr.units
 exact⟨B3,(bq (f9 (nH (mf (bH eC.ok (hr.mono (by decide)) (by rfl) eC.bz eC.kp eC.bd (ao (dv 0) aH)))) (bq Be) gv)),Ri⟩
noncomputable abbrev CZ:Stmt:=top 16
theorem fW:di ["way"] ["way"] (bL CZ):=⟨rfl,rfl,rfl,by decide +kernel,rfl,by decide +kernel,by decide +kernel⟩
theorem Tv {f:Addr} {fd:FuncData} (F:cq K "rank_of" "rank_of" CZ f fd) (B:BT mg):aU P w K mg base bS 1 f fd ["way"] (aQ qy 1):=by
 refine F.fE (k:=0) fW fun a5 A outer s H E hr => ?_
 have nd:=fW.nd
 have hu:=hr.units
 exact⟨B4,(bq (cF (pF (bD (bA bE (dv 0) aB (fun _ _=>rfl)) (bD (bA bE (dv 0) aB (fun _ _=>rfl)) (bD (bA bE (dv 0) aB (fun _ _=>rfl)) aH)))))),Rj⟩
noncomputable abbrev xX:Stmt:=top 17
theorem e_:di ["web", "ways"] ["web"] (bL xX):=⟨rfl,rfl,rfl,by decide +kernel,rfl,by decide +kernel,by decide +kernel⟩
theorem Tw {f C0 C1:Addr} {fd C2 C3:FuncData} {T:Addr} (F:cq K "order_of" "order_of" xX f fd) (B:BT mg) (LD:HC mg base fd T ⟨44,40,44,76⟩ ((("order_of" : Str) ++ ".<locals>.") ++ "<lambda>")) (aZ:Fn P w K mg base 7 "need_web" ["web"] (aQ qx 1) C0 C2) (bf:Fn P w K mg base 1 "rank_of" ["way"] (aQ qy 1) C1 C3):aU P w K mg base bS 11 f fd ["web"] (aQ u7 1):=by
 refine F.u4 (k:=10) e_ fun a5 A outer s H E hc hr => ?_
 have nd:=e_.nd
 have hu:=hr.units
 exact⟨B5,(a6 (pG (bH aZ.ok (hr.mono (by decide)) (by rfl) aZ.bz aZ.kp aZ.bd (ao (dv 0) aH))) (a6 (cf (i:=1) nd rfl (by trivial) (bA bE (dv 0) aB (fun _ _=>rfl))) (bq (cF (Ra (fV.mk (x := "number") (Nb:=["ways"]) (cp:=[some 1]) (T:=T) ⟨(let ⟨cc,e1,e2⟩:=LD.code; ⟨cc,hc.symm.trans e1,e2⟩),LD.ng,LD.blt⟩ LD.tbl rfl rfl (by first | rfl | kernel_rfl) rfl rfl (fun _ _ _ _ _=>rfl) ⟨1,hr.mono (by decide),fun d hr=>(bH bf.ok (hr.mono (by decide)) (by rfl) bf.bz bf.kp bf.bd (bD (bA bE (dv 1) (dv 0) (fun _ _=>rfl)) aH))⟩) rfl (by rfl) B.sorted xf (by rfl) B.range Ba (c8 (gH i_ (by rfl) B.len Xj (ao (dv 1) aH)) aH)))))),Rl⟩
noncomputable abbrev C4:Stmt:=top 19
theorem eE:di ["web", "ways", "last", "seen", "place", "number"] ["web", "ways"] (bL C4):=⟨rfl,rfl,rfl,by decide +kernel,rfl,by decide +kernel,by decide +kernel⟩
theorem Tx {f C0 qF:Addr} {fd C2 qG:FuncData} (F:cq K "need_ways" "need_ways" C4 f fd) (B:BT mg) (aZ:Fn P w K mg base 7 "need_web" ["web"] (aQ qx 1) C0 C2) (ai:Fn P w K mg base 2 "is_within" ["thing", "least", "most"] (aQ j9 3) qF qG):aU P w K mg base bS 8 f fd ["web", "ways"] (aQ u9 2):=by
 refine F.fE (k:=7) eE fun a5 A outer s H E hr => ?_
 have nd:=eE.nd
 have hu:=hr.units
 exact⟨B8,(a6 (pG (bH aZ.ok (hr.mono (by decide)) (by rfl) aZ.bz aZ.kp aZ.bd (ao (dv 0) aH))) (a6 (f9 (nH (mf (ui O3 (by rfl) B.isinstance (by rfl) B.list ny (dv 1)))) (bq Be) gv) (a6 (cf (i:=2) nd rfl (by trivial) (bu rJ (gH i_ (by rfl) B.len Xj (bD (bA bE (dv 0) aB (fun _ _=>rfl)) aH)) aB)) (a6 (cf (i:=3) nd rfl (by trivial) Rm) (bq (nJ XU rfl (Ga (by rfl) B.enumerate (ao (dv 1) aH)) (AG rfl (rq (d7 (i:=4) nd rfl (by trivial)) (rq (d7 (i:=5) nd rfl (by trivial)) AF))) (a6 (f9 (JW.jt (wq (nH (mf (bH ai.ok (hr.mono (by decide)) (by rfl) ai.bz ai.kp ai.bd (ao (dv 5) (a9 aB (ao (dv 2) aH)))))) (wo (Rp hu (dv 5) (dv 3))))) (bq Be) gv) (bq (Rq hu (dv 3) (dv 5) j5))))))))),Rv⟩
noncomputable abbrev C5:Stmt:=top 20
theorem gQ:di ["firsts", "one", "other", "gone", "kept"] ["firsts", "one", "other"] (bL C5):=⟨rfl,rfl,rfl,by decide +kernel,rfl,by decide +kernel,by decide +kernel⟩
theorem Tz {f:Addr} {fd:FuncData} (F:cq K "joined" "joined" C5 f fd) (B:BT mg):aU P w K mg base bS 1 f fd ["firsts", "one", "other"] (aQ n6 3):=by
 refine F.fE (k:=0) gQ fun a5 A outer s H E hr => ?_
 have nd:=gQ.nd
 have hu:=hr.units
 exact⟨BG,(a6 (cf (i:=3) nd rfl (by trivial) (gH (OU rfl) (by rfl) B.max O_ (bD (bA bE (dv 0) (dv 1) (fun _ _=>rfl)) (bD (bA bE (dv 0) (dv 2) (fun _ _=>rfl)) aH)))) (a6 (cf (i:=4) nd rfl (by trivial) (gH (Gu rfl) (by rfl) B.min Bb (bD (bA bE (dv 0) (dv 1) (fun _ _=>rfl)) (bD (bA bE (dv 0) (dv 2) (fun _ _=>rfl)) aH)))) (bq (cF (lE [none,some 4,some 3] ["first", "kept", "gone"] rfl (iF (dv 0)) (fun d=>(d7 (i:=0) (show (["first", "kept", "gone"]:List Str).Nodup by decide +kernel) rfl (by trivial))) (fun d=>pP) (fun d=>(Of (dQ (jw hu) (dv 0) (dv 2) (by rfl)) (dv 1) (dv 0)))))))),Qy⟩
noncomputable abbrev C6:Stmt:=top 21
theorem eF:di ["web", "ways", "firsts", "number", "way"] ["web", "ways"] (bL C6):=⟨rfl,rfl,rfl,by decide +kernel,rfl,by decide +kernel,by decide +kernel⟩
theorem TB {f C7:Addr} {fd C8:FuncData} (F:cq K "firsts_of" "firsts_of" C6 f fd) (B:BT mg) (bt:Fn P w K mg base 1 "joined" ["firsts", "one", "other"] (aQ n6 3) C7 C8):aU P w K mg base bS 2 f fd ["web", "ways"] (aQ qq 2):=by
 refine F.fE (k:=1) eF fun a5 A outer s H E hr => ?_
 have nd:=eF.nd
 have hu:=hr.units
 exact⟨xu,(a6 (cf (i:=2) nd rfl (by trivial) (OW rfl (by rfl) B.list ny (by rfl) B.range Ba (bD (bA bE (dv 0) aB (fun _ _=>rfl)) aH))) (a6 (nJ XU rfl (iF (dv 1)) (d7 (i:=3) nd rfl (by trivial)) (a6 (cf (i:=4) nd rfl (by trivial) (bA bE (bA bE (dv 0) aB (fun _ _=>rfl)) (dv 3) (fun _ _=>rfl))) (bq (cf (i:=2) nd rfl (by trivial) (bH bt.ok (hr.mono (by decide)) (by rfl) bt.bz bt.kp bt.bd (ao (dv 2) (bD (bA bE (dv 4) aB (fun _ _=>rfl)) (bD (bA bE (dv 4) aB (fun _ _=>rfl)) aH)))))))) (bq (cF (dv 2))))),Qz⟩
noncomputable abbrev xY:Stmt:=top 24
theorem fc:di ["web", "ways"] ["web", "ways"] (bL xY):=⟨rfl,rfl,rfl,by decide +kernel,rfl,by decide +kernel,by decide +kernel⟩
theorem TC {f C1:Addr} {fd C3:FuncData} {T:Addr} (F:cq K "least_of" "least_of" xY f fd) (B:BT mg) (LD:HC mg base fd T ⟨74,25,74,63⟩ ((("least_of" : Str) ++ ".<locals>.") ++ "<lambda>")) (bf:Fn P w K mg base 1 "rank_of" ["way"] (aQ qy 1) C1 C3):aU P w K mg base bS 5 f fd ["web", "ways"] (aQ vq 2):=by
 refine F.u4 (k:=4) fc fun a5 A outer s H E hc hr => ?_
 have nd:=fc.nd
 have hu:=hr.units
 exact⟨Cw,(bq (cF (Sq (fV.mk (x := "number") (Nb:=["web"]) (cp:=[some 0]) (T:=T) ⟨(let ⟨cc,e1,e2⟩:=LD.code; ⟨cc,hc.symm.trans e1,e2⟩),LD.ng,LD.blt⟩ LD.tbl rfl rfl (by first | rfl | kernel_rfl) rfl rfl (fun _ _ _ _ _=>rfl) ⟨1,hr.mono (by decide),fun d hr=>(bH bf.ok (hr.mono (by decide)) (by rfl) bf.bz bf.kp bf.bd (bD (bA bE (bA bE (dv 1) aB (fun _ _=>rfl)) (dv 0) (fun _ _=>rfl)) aH))⟩) hu (by rfl) B.min Bb (ao (dv 1) aH)))),Su⟩
noncomputable abbrev C9:Stmt:=top 25
theorem eG:di ["way", "houses"] ["way", "houses"] (bL C9):=⟨rfl,rfl,rfl,by decide +kernel,rfl,by decide +kernel,by decide +kernel⟩
theorem TF {f:Addr} {fd:FuncData} (F:cq K "leads_out" "leads_out" C9 f fd) (B:BT mg):aU P w K mg base bS 1 f fd ["way", "houses"] (aQ vo 2):=by
 refine F.fE (k:=0) eG fun a5 A outer s H E hr => ?_
 have nd:=eG.nd
 have hu:=hr.units
 exact⟨Cu,(bq (cF (pE (rK hu) (pE (wN hu) (bA bE (dv 0) aB (fun _ _=>rfl)) (dv 1) (by rfl)) (pE (wN hu) (bA bE (dv 0) aB (fun _ _=>rfl)) (dv 1) (by rfl)) (by rfl)))),Sr⟩
noncomputable abbrev C_:Stmt:=top 26
theorem fg:di ["web", "houses"] ["web", "houses"] (bL C_):=⟨rfl,rfl,rfl,by decide +kernel,rfl,by decide +kernel,by decide +kernel⟩
theorem TH {f TJ:Addr} {fd TK:FuncData} (F:cq K "ways_out" "ways_out" C_ f fd) (B:BT mg) (bV:Fn P w K mg base 1 "leads_out" ["way", "houses"] (aQ vo 2) TJ TK):aU P w K mg base bS 2 f fd ["web", "houses"] (aQ vp 2):=by
 refine F.fE (k:=1) fg fun a5 A outer s H E hr => ?_
 have nd:=fg.nd
 have hu:=hr.units
 exact⟨Cv,(bq (cF (lE [none,none,some 1] ["number", "way", "houses"] rfl (Ga (by rfl) B.enumerate (bD (bA bE (dv 0) aB (fun _ _=>rfl)) aH)) (fun d=>(AG rfl (rq (d7 (i:=0) (show (["number", "way", "houses"]:List Str).Nodup by decide +kernel) rfl (by trivial)) (rq (d7 (i:=1) (show (["number", "way", "houses"]:List Str).Nodup by decide +kernel) rfl (by trivial)) AF)))) (fun d=>(lD (mf (bH bV.ok (hr.mono (by decide)) (by rfl) bV.bz bV.kp bV.bd (ao (dv 1) (ao (dv 2) aH)))))) (fun d=>(dv 0))))),Ss⟩
noncomputable abbrev Dc:Stmt:=top 31
theorem eI:di ["web", "order", "forest", "firsts", "number", "way"] ["web"] (bL Dc):=⟨rfl,rfl,rfl,by decide +kernel,rfl,by decide +kernel,by decide +kernel⟩
theorem TL {f TM TN C7:Addr} {fd TQ TR C8:FuncData} (F:cq K "forest_of" "forest_of" Dc f fd) (B:BT mg) (cW:Fn P w K mg base 11 "order_of" ["web"] (aQ u7 1) TM TQ) (bW:Fn P w K mg base 2 "firsts_of" ["web", "ways"] (aQ qq 2) TN TR) (bt:Fn P w K mg base 1 "joined" ["firsts", "one", "other"] (aQ n6 3) C7 C8):aU P w K mg base bS 12 f fd ["web"] (aQ ve 1):=by
 refine F.fE (k:=11) eI fun a5 A outer s H E hr => ?_
 have nd:=eI.nd
 have hu:=hr.units
 exact⟨Cf,(a6 (cf (i:=1) nd rfl (by trivial) (bH cW.ok (hr.mono (by decide)) (by rfl) cW.bz cW.kp cW.bd (ao (dv 0) aH))) (a6 (cf (i:=2) nd rfl (by trivial) (wm aH)) (a6 (cf (i:=3) nd rfl (by trivial) (bH bW.ok (hr.mono (by decide)) (by rfl) bW.bz bW.kp bW.bd (ao (dv 0) (ao (dv 2) aH)))) (a6 (nJ XU rfl (iF (dv 1)) (d7 (i:=4) nd rfl (by trivial)) (a6 (cf (i:=5) nd rfl (by trivial) (bA bE (bA bE (dv 0) aB (fun _ _=>rfl)) (dv 4) (fun _ _=>rfl))) (bq (f9 (dQ (rK hu) (bA bE (dv 3) (bA bE (dv 5) aB (fun _ _=>rfl)) (fun _ _=>rfl)) (bA bE (dv 3) (bA bE (dv 5) aB (fun _ _=>rfl)) (fun _ _=>rfl)) (by rfl)) (a6 (pG ((pC Yc YJ YK sY (dv 2) (ao (dv 4) aH)).weak A7)) (bq (cf (i:=3) nd rfl (by trivial) (bH bt.ok (hr.mono (by decide)) (by rfl) bt.bz bt.kp bt.bd (ao (dv 3) (bD (bA bE (dv 5) aB (fun _ _=>rfl)) (bD (bA bE (dv 5) aB (fun _ _=>rfl)) aH))))))) gv)))) (bq (cF (Pb Pc (by rfl) B.sorted xf (ao (dv 2) aH)))))))),RU⟩
noncomputable abbrev De:Stmt:=top 33
theorem dz:di ["cell", "at", "primes", "one", "two", "three"] ["cell", "at"] (bL De):=⟨rfl,rfl,rfl,by decide +kernel,rfl,by decide +kernel,by decide +kernel⟩
theorem TU {f:Addr} {fd:FuncData} (F:cq K "_law_spread" "_law_spread" De f fd) (B:BT mg):aU P w K mg base bS 1 f fd ["cell", "at"] (aQ uC 2):=by
 refine F.fE (k:=0) dz fun a5 A outer s H E hr => ?_
 have nd:=dz.nd
 have hu:=hr.units
 exact⟨Bp,(a6 (f9 (dQ OJ (dv 0) (bu pY aB aB) (by rfl)) (bq (cF (dv 0))) gv) (a6 (cf (i:=2) nd rfl (by trivial) (me (a9 aB (a9 aB (a9 aB (a9 aB (a9 aB (a9 aB (a9 aB (a9 aB aH)))))))))) (a6 (cf (i:=2) nd rfl (by trivial) (bu fG (dv 2) (me (a9 aB (a9 aB (a9 aB (a9 aB (a9 aB aH)))))))) (a6 (cf (i:=3) nd rfl (by trivial) (bu j7 (bu pY (bu fG (bu fG (bu nN (bu j7 (dv 0) aB) (bu fG (bu nN aB (dv 1)) aB)) (bu nN (dv 1) aB)) aB) aB) (bA bE (dv 2) (bu j7 (dv 1) aB) (fun _ _=>rfl)))) (a6 (cf (i:=4) nd rfl (by trivial) (bu j7 (bu pY (bu fG (bu fG (bu nN (dv 3) (bu fG (dv 1) aB)) (bu j7 (dv 0) aB)) aB) aB) (bA bE (dv 2) (bu j7 (bu fG (dv 1) aB) aB) (fun _ _=>rfl)))) (a6 (cf (i:=5) nd rfl (by trivial) (bu j7 (bu pY (bu fG (bu fG (dv 4) (bu j7 (dv 3) aB)) (dv 1)) aB) (bA bE (dv 2) (bu j7 (bu fG (dv 1) aB) aB) (fun _ _=>rfl)))) (bq (cF (bu fG (bu nN (bu fG (bu nN (dv 3) aB) (dv 4)) aB) (dv 5)))))))))),Qc⟩
noncomputable abbrev Df:Stmt:=top 35
theorem eJ:di ["pen"] ["pen"] (bL Df):=⟨rfl,rfl,rfl,by decide +kernel,rfl,by decide +kernel,by decide +kernel⟩
theorem TV {f:Addr} {fd:FuncData} (F:cq K "_law_anew" "_law_anew" Df f fd) (B:BT mg):aU P w K mg base bS 1 f fd ["pen"] (aQ uE 1):=by
 refine F.fE (k:=0) eJ fun a5 A outer s H E hr => ?_
 have nd:=eJ.nd
 have hu:=hr.units
 exact⟨Bq,(a6 ((qX aB (tR (dv 0) aB set_list)).weak wX) (bq (cF (dv 0)))),Qd⟩
noncomputable abbrev Dg:Stmt:=top 36
theorem eK:di ["pen", "many", "at", "cell", "found"] ["pen", "many"] (bL Dg):=⟨rfl,rfl,rfl,by decide +kernel,rfl,by decide +kernel,by decide +kernel⟩
theorem TX {f TY:Addr} {fd TZ:FuncData} (F:cq K "_law_take" "_law_take" Dg f fd) (B:BT mg) (bF:Fn P w K mg base 1 "_law_spread" ["cell", "at"] (aQ uC 2) TY TZ):aU P w K mg base bS 2 f fd ["pen", "many"] (aQ g9 2):=by
 refine F.fE (k:=1) eK fun a5 A outer s H E hr => ?_
 have nd:=eK.nd
 have hu:=hr.units
 exact⟨Br,(a6 (f9 (dQ (wM hu) (bA bE (dv 0) aB (fun _ _=>rfl)) (dv 1) (by rfl)) (a6 (cf (i:=2) nd rfl (by trivial) (bA bE (dv 0) aB (fun _ _=>rfl))) (a6 (cf (i:=3) nd rfl (by trivial) aB) (a6 (f9 (dQ (wM hu) (dv 2) (gH i_ (by rfl) B.len Xj (bD (bA bE (dv 0) aB (fun _ _=>rfl)) aH)) (by rfl)) (bq (cf (i:=3) nd rfl (by trivial) (bA bE (bA bE (dv 0) aB (fun _ _=>rfl)) (dv 2) (fun _ _=>rfl)))) (bq (f9 (dQ nQ (gH i_ (by rfl) B.len Xj (bD (bA bE (dv 0) aB (fun _ _=>rfl)) aH)) aB (by rfl)) (bq (cf (i:=3) nd rfl (by trivial) (bu j7 (bA bE (bA bE (dv 0) aB (fun _ _=>rfl)) (bu j7 (bu fG (bu nN (dv 2) aB) aB) (gH i_ (by rfl) B.len Xj (bD (bA bE (dv 0) aB (fun _ _=>rfl)) aH))) (fun _ _=>rfl)) (bu fG (bu pY aB aB) (dv 2))))) gv))) (a6 ((qX (bu fG (dv 2) aB) (tR (dv 0) aB set_list)).weak wX) (bq ((qX (bH bF.ok (hr.mono (by decide)) (by rfl) bF.bz bF.kp bF.bd (ao (dv 3) (ao (dv 2) aH))) (tR (dv 0) aB set_list)).weak wX)))))) gv) (a6 (cf (i:=4) nd rfl (by trivial) (bu j7 (bA bE (dv 0) aB (fun _ _=>rfl)) (dv 1))) (a6 ((qX (bu OI (bA bE (dv 0) aB (fun _ _=>rfl)) (dv 1)) (tR (dv 0) aB set_list)).weak wX) (bq (cF (dv 4)))))),Qe⟩
noncomputable abbrev Dh:Stmt:=top 37
theorem cD:di ["pen", "kind", "many", "every", "other", "ring", "half"] ["pen", "kind", "many"] (bL Dh):=⟨rfl,rfl,rfl,by decide +kernel,rfl,by decide +kernel,by decide +kernel⟩
theorem T1 {f vz:Addr} {fd vA:FuncData} (F:cq K "_law_pairs_of" "_law_pairs_of" Dh f fd) (B:BT mg) (ae:Fn P w K mg base 2 "_law_take" ["pen", "many"] (aQ g9 2) vz vA):aU P w K mg base bS 3 f fd ["pen", "kind", "many"] (aQ uF 3):=by
 refine F.fE (k:=2) cD fun a5 A outer s H E hr => ?_
 have nd:=cD.nd
 have hu:=hr.units
 exact⟨Bs,(a6 (cf (i:=3) nd rfl (by trivial) (wm aH)) (a6 (nJ XU rfl (t9 (by rfl) B.range (ao (dv 2) aH)) (d7 (i:=4) nd rfl (by trivial)) (bq (pG ((pC Yc PySem.F.slot_list_extend PySem.F.type_list_extend ME (dv 3) (iO (lE [none,some 4] ["one", "other"] rfl (t9 (by rfl) B.range (ao (dv 4) aH)) (fun d=>(d7 (i:=0) (show (["one", "other"]:List Str).Nodup by decide +kernel) rfl (by trivial))) (fun d=>pP) (fun d=>(pF (ao (dv 0) (ao (dv 1) aH))))) aH)).weak O4)))) (a6 (f9 (dQ (jw hu) (dv 1) aB (by rfl)) (bq (cF (wB [none,some 0] ["other", "pen"] rfl (OG (by rfl) B.range (a9 aB (ao (dv 2) aH))) (fun d=>(d7 (i:=0) (show (["other", "pen"]:List Str).Nodup by decide +kernel) rfl (by trivial))) (fun d=>pP) (fun d=>(pF (c8 (bH ae.ok (hr.mono (by decide)) (by rfl) ae.bz ae.kp ae.bd (ao (dv 1) (ao (dv 0) aH))) (ao (dv 0) aH))))))) gv) (a6 (f9 (dQ (jw hu) (dv 1) aB (by rfl)) (a6 (AL [none] ["k"] (i:=5) nd rfl (by trivial) rfl (t9 (by rfl) B.range (iO (bu rJ (dv 2) aB) aH)) (fun d=>(d7 (i:=0) (show (["k"]:List Str).Nodup by decide +kernel) rfl (by trivial))) (fun d=>pP) (fun d=>(pF (ao (dv 0) (iO (bu fG (dv 0) aB) aH))))) (bq (cF (Pe (dv 5) (lE [none,some 2] ["pair", "many"] rfl (iF (dv 3)) (fun d=>(d7 (i:=0) (show (["pair", "many"]:List Str).Nodup by decide +kernel) rfl (by trivial))) (fun d=>(lD (JW.jt (AE (dQ (jw hu) (dv 0) (pF (a9 aB (iO (bu rJ (dv 1) aB) aH))) (by rfl)) (AD (dQ nQ (dv 1) aB (by rfl))))))) (fun d=>(dv 0))))))) gv) (a6 (f9 (dQ (jw hu) (dv 1) aB (by rfl)) (bq (cF (dv 3))) gv) (a6 (f9 (dQ (jw hu) (dv 1) aB (by rfl)) (bq (cF (wB [none,some 0] ["pair", "pen"] rfl (iF (dv 3)) (fun d=>(d7 (i:=0) (show (["pair", "pen"]:List Str).Nodup by decide +kernel) rfl (by trivial))) (fun d=>(lD (dQ (jw hu) (bH ae.ok (hr.mono (by decide)) (by rfl) ae.bz ae.kp ae.bd (ao (dv 1) (a9 aB aH))) aB (by rfl)))) (fun d=>(dv 0))))) gv) (a6 (f9 (dQ (jw hu) (dv 1) aB (by rfl)) (a6 (cf (i:=6) nd rfl (by trivial) (bH ae.ok (hr.mono (by decide)) (by rfl) ae.bz ae.kp ae.bd (ao (dv 0) (iO (bu fG (dv 2) aB) aH)))) (bq (cF (wB [none,some 6,some 0] ["pair", "half", "pen"] rfl (iF (dv 3)) (fun d=>(d7 (i:=0) (show (["pair", "half", "pen"]:List Str).Nodup by decide +kernel) rfl (by trivial))) (fun d=>(lD (JW.jt (AE (dQ (jw hu) (pE (wM hu) (bA bE (dv 0) aB (fun _ _=>rfl)) (dv 1) (by rfl)) (pE (wM hu) (bA bE (dv 0) aB (fun _ _=>rfl)) (dv 1) (by rfl)) (by rfl)) (AD (dQ nQ (bH ae.ok (hr.mono (by decide)) (by rfl) ae.bz ae.kp ae.bd (ao (dv 2) (a9 aB aH))) aB (by rfl))))))) (fun d=>(dv 0)))))) gv) (bq (cF (wB [none,some 0] ["pair", "pen"] rfl (iF (dv 3)) (fun d=>(d7 (i:=0) (show (["pair", "pen"]:List Str).Nodup by decide +kernel) rfl (by trivial))) (fun d=>(lD (dQ (jw hu) (bH ae.ok (hr.mono (by decide)) (by rfl) ae.bz ae.kp ae.bd (ao (dv 1) (a9 aB aH))) aB (by rfl)))) (fun d=>(dv 0)))))))))))),Qh⟩
noncomputable abbrev Di:Stmt:=top 38
theorem fh:di ["pen", "houses", "most", "kind", "prices", "many", "pairs", "ways", "k", "one", "other", "price"] ["pen", "houses", "most"] (bL Di):=⟨rfl,rfl,rfl,by decide +kernel,rfl,by decide +kernel,by decide +kernel⟩
theorem T2 {f vz T3:Addr} {fd vA T4:FuncData} (F:cq K "_law_web" "_law_web" Di f fd) (B:BT mg) (ae:Fn P w K mg base 2 "_law_take" ["pen", "many"] (aQ g9 2) vz vA) (bo:Fn P w K mg base 3 "_law_pairs_of" ["pen", "kind", "many"] (aQ uF 3) T3 T4):aU P w K mg base bS 4 f fd ["pen", "houses", "most"] (aQ uG 3):=by
 refine F.fE (k:=3) fh fun a5 A outer s H E hr => ?_
 have nd:=fh.nd
 have hu:=hr.units
 exact⟨Bv,(a6 (cf (i:=3) nd rfl (by trivial) (bH ae.ok (hr.mono (by decide)) (by rfl) ae.bz ae.kp ae.bd (ao (dv 0) (a9 aB aH)))) (a6 (cf (i:=4) nd rfl (by trivial) (bH ae.ok (hr.mono (by decide)) (by rfl) ae.bz ae.kp ae.bd (ao (dv 0) (a9 aB aH)))) (a6 (cf (i:=5) nd rfl (by trivial) (bu fG aB (bH ae.ok (hr.mono (by decide)) (by rfl) ae.bz ae.kp ae.bd (ao (dv 0) (ao (dv 1) aH))))) (a6 (cf (i:=6) nd rfl (by trivial) (Ou bo.ok (hr.mono (by decide)) (by rfl) bo.bz bo.kp bo.bd (ao (dv 0) (ao (dv 3) (ao (dv 5) aH))))) (a6 (cf (i:=7) nd rfl (by trivial) (wm aH)) (a6 (nJ XU rfl (t9 (by rfl) B.range (c8 (gH (Gu rfl) (by rfl) B.min Bb (ao (dv 2) (c8 (gH i_ (by rfl) B.len Xj (ao (dv 6) aH)) aH))) aH)) (d7 (i:=8) nd rfl (by trivial)) (a6 (Oh ((pC Yc PySem.F.slot_list_pop PySem.F.type_list_pop MF (dv 6) (c8 (bH ae.ok (hr.mono (by decide)) (by rfl) ae.bz ae.kp ae.bd (ao (dv 0) (c8 (gH i_ (by rfl) B.len Xj (ao (dv 6) aH)) aH))) aH)).weak O5) (AG rfl (rq (d7 (i:=9) nd rfl (by trivial)) (rq (d7 (i:=10) nd rfl (by trivial)) AF)))) (a6 (cf (i:=11) nd rfl (by trivial) (bA bE (me (a9 aB (c8 (bH ae.ok (hr.mono (by decide)) (by rfl) ae.bz ae.kp ae.bd (ao (dv 0) (a9 aB aH))) (iO (bu rJ (bu pY aB aB) (bH ae.ok (hr.mono (by decide)) (by rfl) ae.bz ae.kp ae.bd (ao (dv 0) (a9 aB aH)))) (c8 (bH ae.ok (hr.mono (by decide)) (by rfl) ae.bz ae.kp ae.bd (ao (dv 0) (iO (bu fG (bu pY aB aB) aB) aH))) aH))))) (dv 4) (fun _ _=>rfl))) (bq (pG ((pC Yc YJ YK sY (dv 7) (Az (pF (ao (dv 9) (ao (dv 10) (ao (dv 11) aH)))) aH)).weak A7)))))) (bq (cF (pF (ao (dv 5) (c8 (tY OR (by rfl) B.tuple Ap (ao (dv 7) aH)) aH))))))))))),Qi⟩
noncomputable abbrev Dj:Stmt:=top 39
theorem fq:di ["web"] ["web"] (bL Dj):=⟨rfl,rfl,rfl,by decide +kernel,rfl,by decide +kernel,by decide +kernel⟩
theorem T5 {f:Addr} {fd:FuncData} (F:cq K "_law_all" "_law_all" Dj f fd) (B:BT mg):aU P w K mg base bS 1 f fd ["web"] (aQ uP 1):=by
 refine F.fE (k:=0) fq fun a5 A outer s H E hr => ?_
 have nd:=fq.nd
 have hu:=hr.units
 exact⟨BI,(bq (cF (Pd rfl (by rfl) B.list ny (by rfl) B.range Ba (c8 (gH i_ (by rfl) B.len Xj (bD (bA bE (dv 0) aB (fun _ _=>rfl)) aH)) aH)))),QA⟩
noncomputable abbrev Dk:Stmt:=top 22
theorem fX:di ["web", "ways", "lots", "house", "first"] ["web", "ways"] (bL Dk):=⟨rfl,rfl,rfl,by decide +kernel,rfl,by decide +kernel,by decide +kernel⟩
theorem T6 {f fN fF:Addr} {fd T7 T8:FuncData} (F:cq K "lots_of" "lots_of" Dk f fd) (B:BT mg) (GN:Fn P w K mg base 8 "need_ways" ["web", "ways"] (aQ u9 2) fN T7) (GF:Fn P w K mg base 2 "firsts_of" ["web", "ways"] (aQ qq 2) fF T8):aU P w K mg base bS 9 f fd ["web", "ways"] (aQ mO 2):=by
 refine F.wc fX (fun vs H Q E h=>h.1) (fun a5 A outer s H vs Q E hr h => ?_)
 obtain⟨hl,F0,ad,ys,aj,K',S0,⟨m,ws,ns,W,hn,hd,B9,rfl,rfl,hK⟩,kk⟩:=h
 have nd:=fX.nd
 have hu:=hr.units
 refine⟨_,pA (pG (bH GN.ok (hr.mono (by decide)) (by rfl) GN.bz GN.kp GN.bd (ao (dv 0) (ao (dv 1) aH))))
  (pA (v9 (i:=2) nd rfl (Or.inl rfl) iw)
  (pA (Aj XU rfl (Fv (by rfl) B.enumerate (iy (wa GF.ok (hr.mono (by decide)) (by rfl) GF.bz GF.kp GF.bd .nil vY (i7 (jv 0) (i7 (jv 1) a8))) a8)) (Ai rfl (tQ (tP (i:=3) nd rfl (Or.inl rfl)) (tQ (tP (i:=4) nd rfl (Or.inl rfl)) g5)))
   (tO (Fs (pC Yc YJ YK sY (pC PySem.F.plainAttrs_dict ZT PySem.F.type_dict_setdefault N_ (jv 2) (i7 (jv 4) (Am (v_ a8) a8))) (i7 (jv 3) a8)))))
  (tO (Ah (lr (Ob rfl) (by rfl) B.list ny (iy (NR PySem.F.plainAttrs_dict q0n PySem.F.type_dict_values Oa (jv 2)) a8)))))),?_⟩
 exact RJ (Kf:=K) hl W hn hd B9 hK S0 (fun r ows h v F' H' P _=>kk r ows h v F' H' P) fun _ _ h=>h
noncomputable abbrev Dl:Stmt:=top 28
theorem ft:di ["web", "ways", "outs"] ["web", "ways"] (bL Dl):=⟨rfl,rfl,rfl,by decide +kernel,rfl,by decide +kernel,by decide +kernel⟩
theorem T9 {f vB T_ Ua:Addr} {fd vC Ub Uc:FuncData} (F:cq K "round_of" "round_of" Dl f fd) (B:BT mg) (aC:Fn P w K mg base 9 "lots_of" ["web", "ways"] (aQ mO 2) vB vC) (cX:Fn P w K mg base 2 "ways_out" ["web", "houses"] (aQ vp 2) T_ Ub) (cY:Fn P w K mg base 5 "least_of" ["web", "ways"] (aQ vq 2) Ua Uc):aU P w K mg base bS 10 f fd ["web", "ways"] (aQ kU 2):=by
 refine F.fE (k:=9) ft fun a5 A outer s H E hr => ?_
 have nd:=ft.nd
 have hu:=hr.units
 exact⟨Cy,(a6 (AL [none,some 0] ["lot", "web"] (i:=2) nd rfl (by trivial) rfl (iF (bH aC.ok (hr.mono (by decide)) (by rfl) aC.bz aC.kp aC.bd (ao (dv 0) (ao (dv 1) aH)))) (fun d=>(d7 (i:=0) (show (["lot", "web"]:List Str).Nodup by decide +kernel) rfl (by trivial))) (fun d=>pP) (fun d=>(bH cX.ok (hr.mono (by decide)) (by rfl) cX.bz cX.kp cX.bd (ao (dv 1) (ao (dv 0) aH))))) (bq (cF (PV rfl (by rfl) B.sorted xf (by rfl) B.set FC (iO (lE [none,some 0] ["out", "web"] rfl (iF (dv 2)) (fun d=>(d7 (i:=0) (show (["out", "web"]:List Str).Nodup by decide +kernel) rfl (by trivial))) (fun d=>(lD (dQ nQ (gH i_ (by rfl) B.len Xj (ao (dv 0) aH)) aB (by rfl)))) (fun d=>(bH cY.ok (hr.mono (by decide)) (by rfl) cY.bz cY.kp cY.bd (ao (dv 1) (ao (dv 0) aH))))) aH))))),Sx⟩
noncomputable abbrev Dm:Stmt:=top 29
theorem eM:di ["web", "rounds", "ways", "come"] ["web"] (bL Dm):=⟨rfl,rfl,rfl,by decide +kernel,rfl,by decide +kernel,by decide +kernel⟩
theorem Ud {f Dp:Addr} {fd Dq:FuncData} (F:cq K "rounds_of" "rounds_of" Dm f fd) (B:BT mg) (au:Fn P w K mg base 10 "round_of" ["web", "ways"] (aQ kU 2) Dp Dq):aU P w K mg base bS 11 f fd ["web"] (aQ vv 1):=by
 refine F.fE (k:=10) eM fun a5 A outer s H E hr => ?_
 have nd:=eM.nd
 have hu:=hr.units
 exact⟨CC,(a6 (cf (i:=1) nd rfl (by trivial) (wm aH)) (a6 (cf (i:=2) nd rfl (by trivial) (me aH)) (a6 (cf (i:=3) nd rfl (by trivial) (bH au.ok (hr.mono (by decide)) (by rfl) au.bz au.kp au.bd (ao (dv 0) (ao (dv 2) aH)))) (a6 (Rr XU (dQ nQ (gH i_ (by rfl) B.len Xj (ao (dv 3) aH)) aB (by rfl)) (a6 (pG ((pC Yc YJ YK sY (dv 1) (ao (dv 3) aH)).weak A7)) (a6 (cf (i:=2) nd rfl (by trivial) (bu fG (dv 2) (dv 3))) (bq (cf (i:=3) nd rfl (by trivial) (bH au.ok (hr.mono (by decide)) (by rfl) au.bz au.kp au.bd (ao (dv 0) (ao (dv 2) aH)))))))) (bq (cF (dv 1))))))),SF⟩
noncomputable abbrev Dr:Stmt:=top 40
theorem dA:di ["web", "ahead", "behind", "lot", "before", "later"] ["web", "ahead", "behind"] (bL Dr):=⟨rfl,rfl,rfl,by decide +kernel,rfl,by decide +kernel,by decide +kernel⟩
theorem Ue {f vB Ug:Addr} {fd vC Uh:FuncData} (F:cq K "_law_halved" "_law_halved" Dr f fd) (B:BT mg) (aC:Fn P w K mg base 9 "lots_of" ["web", "ways"] (aQ mO 2) vB vC) (cZ:Fn P w K mg base 1 "_law_all" ["web"] (aQ uP 1) Ug Uh):aU P w K mg base bS 10 f fd ["web", "ahead", "behind"] (aQ vy 3):=by
 refine F.fE (k:=9) dA fun a5 A outer s H E hr => ?_
 have nd:=dA.nd
 have hu:=hr.units
 exact⟨CI,(a6 (nJ XU rfl (iF (bH aC.ok (hr.mono (by decide)) (by rfl) aC.bz aC.kp aC.bd (ao (dv 0) (c8 (bH cZ.ok (hr.mono (by decide)) (by rfl) cZ.bz cZ.kp cZ.bd (ao (dv 0) aH)) aH)))) (d7 (i:=3) nd rfl (by trivial)) (a6 (cf (i:=4) nd rfl (by trivial) (gH i_ (by rfl) B.len Xj (iO (lE [none,some 3] ["some", "lot"] rfl (iF (dv 1)) (fun d=>(d7 (i:=0) (show (["some", "lot"]:List Str).Nodup by decide +kernel) rfl (by trivial))) (fun d=>(lD (dQ (wN hu) (bA bE (dv 0) aB (fun _ _=>rfl)) (dv 1) (by rfl)))) (fun d=>aB)) aH))) (a6 (cf (i:=5) nd rfl (by trivial) (gH i_ (by rfl) B.len Xj (iO (lE [none,some 3] ["some", "lot"] rfl (iF (dv 2)) (fun d=>(d7 (i:=0) (show (["some", "lot"]:List Str).Nodup by decide +kernel) rfl (by trivial))) (fun d=>(lD (dQ (wN hu) (bA bE (dv 0) aB (fun _ _=>rfl)) (dv 1) (by rfl)))) (fun d=>aB)) aH))) (bq (f9 (JW.jt (AE (dQ nQ (dv 4) aB (by rfl)) (AD (dQ nQ (bu nN aB (dv 5)) (dv 4) (by rfl))))) (bq (cF j5)) gv))))) (bq (cF j5))),S7⟩
noncomputable abbrev Ds:Stmt:=top 34
theorem kX:di ["script", "cells", "k", "cell"] ["script"] (bL Ds):=⟨rfl,rfl,rfl,by decide +kernel,rfl,by decide +kernel,by decide +kernel⟩
theorem Ui {f:Addr} {fd:FuncData} (F:cq K "_law_open" "_law_open" Ds f fd) (h1:mg "list" = none) (h2:mg "enumerate" = none):aU P w K mg base bS 1 f fd ["script"] (BJ K):=by
 refine F.wc kX (fun vs H Q E h => ?_) (fun a5 A outer s H vs Q E hr h => ?_)
 ·obtain⟨a,ns,rfl,_⟩:=h
  rfl
 ·obtain⟨a,ns,rfl,hS,hlen,fin⟩:=h
  have nd:=kX.nd
  refine⟨_,pA (v9 (i:=1) nd rfl (Or.inl rfl) (lr zA (by rfl) h1 PyProof.Rows.boot_list (pB (Ak gZ (jv 0) EI (vV dm.out)) a8)))
   (pA (Aj XU rfl (Fv (by rfl) h2 (pB (Ak gZ (jv 0) (vV dm.out) (vV dm.out)) a8)) (Ai rfl (tQ (tP (i:=2) nd rfl (Or.inl rfl)) (tQ (tP (i:=3) nd rfl (Or.inl rfl)) g5)))
    (tO (qX (tT Es (Ft EM (jv 1) (tT zc (jv 2) dm) (fun _ _=>rfl)) (jv 3)) (tR (jv 1) (tT zc (jv 2) dm) set_list))))
   (tO (Ah (v_ (pB (jv 1) (pB dm (pB dm a8))))))),?_⟩
  refine⟨_,rfl,_,rfl,a,_,rfl,hS,fun l1 n1=>⟨l1,_,rfl,.inl (bh.of bw),fun c nc => ?_⟩⟩
  have s1:aA H (upd (upd H l1 (.lst (dj (ns.map V.int) none (some 12)))) c (.lst (dj (ns.map V.int) none (some 12)))):=(lI n1).trans (lI nc)
  refine⟨_,rfl,_,rfl,_,rfl,a,_,rfl,s1.seq hS,fun l2 n2=>⟨l2,rfl,⟨_,bh.of bw⟩,?_⟩⟩
  have Uj:H c=none:=(lI n1).free nc
  have Uk:=n2
  have hcc:∃ ms:List Int,ms.length=min 12 ns.length/\dj (ns.map V.int) none (some 12)=ms.map V.int:=by
   refine⟨_,?_,BK ns none (some 12)⟩
   rw[W5,Yo]
   have e1:HT.aY ns.length 0 none=0:=HT.Mf _ _
   have e2:HT.aY ns.length ns.length (some 12)=min 12 ns.length:=HT.zo ns.length ns.length 12
   rw[e1,e2];omega
  have lH:(dj (ns.map V.int) (some 12) (some 63)).length=ns.length - 12:=by
   rw[BK,pd,W5,Yo]
   have e1:HT.aY ns.length 0 (some 12)=min 12 ns.length:=HT.zo ns.length 0 12
   have e2:HT.aY ns.length ns.length (some 63)=min 63 ns.length:=HT.zo ns.length ns.length 63
   rw[e1,e2];omega
  have IM:∀ i x,(dj (ns.map V.int) (some 12) (some 63))[i]? = some x->∃ n:Int,x=V.int n:=fun i x e=>by
   rw[BK,MJ] at e
   cases q:((ns.drop (HT.aY ns.length 0 (some 12))).take (HT.aY ns.length ns.length (some 63) - HT.aY ns.length 0 (some 12)))[i]? with
   | none=>rw[q] at e;cases e
   | some n=>rw[q] at e;exact⟨n,(WY e).symm⟩
  generalize dj (ns.map V.int) (some 12) (some 63)=rest at lH IM n2 ⊢
  obtain⟨ms,Ul,Um⟩:=hcc
  refine Fh (K:=K) (a:=l2) (xs:=rest) (fun i σ H2=>∃ (ks:List Int) (v1 v2:Option V),σ = [some (.ref a),some (.ref c),v1,v2]/\H2 c=some (.lst (ks.map V.int))/\ks.length=min 12 ns.length/\H2 l2=some (.lst rest)/\aA H H2)
   ⟨ms,none,none,rfl,?_,Ul,bw,?_⟩ (fun i σ H2 _ ⟨_,_,_,_,_,_,q,_⟩=>bh.of q) ?_ ?_
  ·rw[aO (dg bw n2),bw,Um]
  ·exact s1.trans (lI n2)
  ·rintro i x T σ H2 hi ⟨ks,v1,v2,rfl,hc,hk,sZ,sm⟩ hT
   obtain⟨n,rfl⟩:=IM i x hi
   have pT:i < rest.length:=(pe.mp hi).1
   have Uo:ks.length=12:=by omega
   have cT:c≠T:=dg hc hT
   have ie:upd H2 T (.tup [.int i,.int n]) c=some (.lst (ks.map V.int)):=by rw[aO cT];exact hc
   have j0:0 <= ((i:Int)) % 12:=X8 _ (by decide)
   have j1:((i:Int)) % 12 < 12:=Xz _ (by decide)
   obtain⟨m,em⟩:=QC (ns:=ks) j0 (by omega)
   have ix:jF (ks.map V.int).length ((i:Int) % 12)=some ((i:Int) % 12).toNat:=by
    unfold jF
    rw[V8 j0,V8 (by rw[pd];omega)]
   refine⟨T,_,rfl,bI.of bw,rfl,_,_,rfl,_,_,rfl,rfl,?_⟩
   refine⟨_,rfl,_,rfl,_,_,rfl,rfl,(show (0:Int) < 12 by decide),_,_,_,_,rfl,rfl,bh.of ie,em,_,rfl,_,_,rfl,rfl,_,rfl,_,rfl,_,_,rfl,rfl,(show (0:Int) < 12 by decide),_,_,_,_,rfl,rfl,ie,ix,?_⟩
   refine⟨ks.set ((i:Int) % 12).toNat (m + n),_,_,rfl,?_,by rw[Yn];exact hk,?_,?_⟩
   ·rw[bw,List.map_set]
   ·have Uq:l2≠c:=by
     intro z
     subst z
     exact absurd Uk (by rw[bw];intro y;cases y)
    rw[aO Uq,aO (dg sZ hT)];exact sZ
   ·intro b o e
    rw[aO (dg e Uj)]
    exact lI hT b o (sm b o e)
  ·rintro σ H2 ⟨ks,v1,v2,rfl,hc,hk,sZ,sm⟩
   refine⟨_,rfl,(by show 3 <= sizeLine;decide),fun p np => ?_⟩
   have Ur:H p=none:=sm.free np
   exact fin p c _ (sm.trans (lI np)) Ur ⟨bw,⟨ks,by rw[aO (dg hc np)];exact hc,by omega⟩,Int.le_refl 0⟩
noncomputable abbrev vD:Stmt:=top 41
theorem kY:di ["script", "pen", "turn", "web", "forest", "ways", "more", "some"] ["script"] (bL vD):=⟨rfl,rfl,rfl,by decide +kernel,rfl,by decide +kernel,by decide +kernel⟩
theorem Us {f qH Ut Uu Uv Uw Dp Ux vB vz:Addr} {fd mS Uy Uz UA UB Dq UC vC vA:FuncData} (F:cq K "law" "law" vD f fd) (B:BT mg) (GO:Fn P w K mg base 1 "_law_open" ["script"] (BJ K) qH mS) (c5:Fn P w K mg base 4 "_law_web" ["pen", "houses", "most"] (aQ uG 3) Ut Uy) (bX:Fn P w K mg base 1 "_law_anew" ["pen"] (aQ uE 1) Uu Uz) (bY:Fn P w K mg base 12 "forest_of" ["web"] (aQ ve 1) Uv UA) (bZ:Fn P w K mg base 11 "rounds_of" ["web"] (aQ vv 1) Uw UB) (au:Fn P w K mg base 10 "round_of" ["web", "ways"] (aQ kU 2) Dp Dq) (bG:Fn P w K mg base 10 "_law_halved" ["web", "ahead", "behind"] (aQ vy 3) Ux UC) (aC:Fn P w K mg base 9 "lots_of" ["web", "ways"] (aQ mO 2) vB vC) (ae:Fn P w K mg base 2 "_law_take" ["pen", "many"] (aQ g9 2) vz vA):aU P w K mg base bS 19 f fd ["script"] (xw K):=by
 refine F.wc (k:=18) kY (fun vs H Q E h => ?_) (fun a5 A outer s H vs Q E hr h => ?_)
 ·obtain⟨a,ns,rfl,_⟩:=h
  rfl
 obtain⟨a,ns,rfl,hS,hlen,hT,fin⟩:=h
 have nd:=kY.nd
 have hu:=hr.units
 have rest:fO (gr bS P w K mg base ["script", "pen", "turn", "web", "forest", "ways", "more", "some"] "law" (bL vD) f a5 A outer s H E).lT ((jI vD).drop 1) (eT CJ):=(a6 (nJ XU rfl (t9 (by rfl) B.range (a9 aB aH)) (d7 (i:=2) nd rfl (by trivial)) (a6 (cf (i:=3) nd rfl (by trivial) (bH c5.ok (hr.mono (by decide)) (by rfl) c5.bz c5.kp c5.bd (c8 (bH bX.ok (hr.mono (by decide)) (by rfl) bX.bz bX.kp bX.bd (ao (dv 1) aH)) (bD (bA bE (me (a9 aB (a9 aB (a9 aB aH)))) (dv 2) (fun _ _=>rfl)) (a9 aB aH))))) (a6 (cf (i:=4) nd rfl (by trivial) (bH bY.ok (hr.mono (by decide)) (by rfl) bY.bz bY.kp bY.bd (ao (dv 3) aH))) (a6 (cf (i:=5) nd rfl (by trivial) (me aH)) (a6 (nJ XU rfl (iF (bH bZ.ok (hr.mono (by decide)) (by rfl) bZ.bz bZ.kp bZ.bd (ao (dv 3) aH))) (d7 (i:=6) nd rfl (by trivial)) (a6 (f9 (JW.jt (wq (dQ (rK hu) (bH au.ok (hr.mono (by decide)) (by rfl) au.bz au.kp au.bd (ao (dv 3) (c8 (tY wW (by rfl) B.list ny (ao (dv 5) aH)) aH))) (dv 6) (by rfl)) (wo (dQ (jw hu) (dv 6) (me aH) (by rfl))))) (bq (cF j5)) gv) (a6 (f9 (nH (mf (bH bG.ok (hr.mono (by decide)) (by rfl) bG.bz bG.kp bG.bd (ao (dv 3) (c8 (bH aC.ok (hr.mono (by decide)) (by rfl) aC.bz aC.kp aC.bd (ao (dv 3) (c8 (tY wW (by rfl) B.list ny (ao (dv 5) aH)) aH))) (c8 (bH aC.ok (hr.mono (by decide)) (by rfl) aC.bz aC.kp aC.bd (ao (dv 3) (iO (bu fG (dv 5) (dv 6)) aH))) aH)))))) (bq (cF j5)) gv) (bq (cf (i:=5) nd rfl (by trivial) (bu fG (dv 5) (dv 6))))))) (a6 (f9 (JW.jt (wq (dQ (rK hu) (gH OS (by rfl) B.sorted xf (ao (dv 5) aH)) (dv 4) (by rfl)) (wo (dQ (rK hu) (bH au.ok (hr.mono (by decide)) (by rfl) au.bz au.kp au.bd (ao (dv 3) (c8 (tY wW (by rfl) B.list ny (ao (dv 5) aH)) aH))) (me aH) (by rfl))))) (bq (cF j5)) gv) (a6 (AL [none,some 1] ["number", "pen"] (i:=7) nd rfl (by trivial) rfl (iF (dv 4)) (fun d=>(d7 (i:=0) (show (["number", "pen"]:List Str).Nodup by decide +kernel) rfl (by trivial))) (fun d=>(lD (dQ (jw hu) (bH ae.ok (hr.mono (by decide)) (by rfl) ae.bz ae.kp ae.bd (ao (dv 1) (a9 aB aH))) aB (by rfl)))) (fun d=>(dv 0))) (bq (f9 (dQ (rK hu) (lE [none,some 4] ["number", "forest"] rfl (iF (bH au.ok (hr.mono (by decide)) (by rfl) au.bz au.kp au.bd (ao (dv 3) (c8 (tY wW (by rfl) B.list ny (ao (dv 7) aH)) aH)))) (fun d=>(d7 (i:=0) (show (["number", "forest"]:List Str).Nodup by decide +kernel) rfl (by trivial))) (fun d=>(lD (dQ (OK hu) (dv 0) (dv 1) (by rfl)))) (fun d=>(dv 0))) (me aH) (by rfl)) (bq (cF j5)) gv))))))))) (bq (cF j5)))
 refine⟨_,pA (v9 (i:=1) nd rfl (by trivial) (wa GO.ok (hr.mono (by decide)) (by rfl) GO.bz GO.kp GO.bd .nil vY (i7 (jv 0) a8))) rest,?_⟩
 refine⟨_,rfl,a,ns,rfl,hS,hlen,fun p c H1 sm hp N1 => ?_⟩
 obtain⟨F',ms,hm,S⟩:=QD (a:=a) (n:=6) (aJ.same hT sm) N1
 exact QE S (S8 ms hm) fin
end
noncomputable def jg:List n_:=[⟨121,⟨44,40,44,76⟩,(("order_of" : Str) ++ ".<locals>.") ++ "<lambda>"⟩,⟨154,⟨74,25,74,63⟩,(("least_of" : Str) ++ ".<locals>.") ++ "<lambda>"⟩]
theorem IP:∀ a∈jg,∀ b∈jg,a.T=b.T->a=b:=by
 unfold jg
 intro a ha b hb h
 simp only[ML,W_,YX] at ha hb
 rcases ha with rfl | rfl<;>rcases hb with rfl | rfl<;>first | rfl | exact absurd h (by decide)
theorem kZ {us:List Value} (h:us.length=1):∃ a,us=[a]:=List.length_eq_one_iff.mp h
theorem jX {us:List Value} (h:us.length=2):∃ a b,us=[a,b]:=by
 cases us with
 | nil=>cases h
 | cons a r=>obtain⟨b,e⟩:=kZ (YW h);exact⟨a,b,by rw[e]⟩
theorem r_ {us:List Value} (h:us.length=3):∃ a b c,us=[a,b,c]:=by
 cases us with
 | nil=>cases h
 | cons a r=>obtain⟨b,c,e⟩:=jX (YW h);exact⟨a,b,c,by rw[e]⟩
structure eN (K:PySem.W.Frag) (x:Str) (st:Stmt) (f:Addr) (fd:FuncData):Prop where
 a:PySem.W.nsIn K mainGlobals x=some (some (.ref f))
 F:cq K x x st f fd
 k:PySem.W.keepIn K (.ref f)=true
theorem defAt {K:PySem.W.Frag} {x:Str} {st:Stmt} {f:Addr} {od an:Option Addr} {sl:Array (Option Value)} {oc kV dc pm cd ct:Value} (a:PySem.W.nsIn K mainGlobals x=some (some (.ref f))) (l:K.lookup f=some ⟨oc,od,.func (PySem.W.fnOf x x (nu st) (jI st) (bL st) .none kV dc pm an cd ct),sl⟩) (q:PySem.W.codeIn K cd x=true) (k:PySem.W.keepIn K (.ref f)=true) :
  eN K x st f (PySem.W.fnOf x x (nu st) (jI st) (bL st) .none kV dc pm an cd ct):=⟨a,MO l q k,k⟩
structure vE (K:PySem.W.Frag) (x:Str) (st:Stmt) (f:Addr) (fd:FuncData) (T:Addr):Prop extends eN K x st f fd where
 cd:∃ cc,fd.code = .ref cc/\PySem.W.codeHdIn K cc T=true
theorem xZ {K:PySem.W.Frag} {x:Str} {st:Stmt} {f T cc:Addr} {od an:Option Addr} {sl:Array (Option Value)} {oc kV dc pm ct:Value} (a:PySem.W.nsIn K mainGlobals x=some (some (.ref f))) (l:K.lookup f=some ⟨oc,od,.func (PySem.W.fnOf x x (nu st) (jI st) (bL st) .none kV dc pm an (.ref cc) ct),sl⟩) (q:PySem.W.codeIn K (.ref cc) x=true) (k:PySem.W.keepIn K (.ref f)=true) (h:PySem.W.codeHdIn K cc T=true) :
  vE K x st f (PySem.W.fnOf x x (nu st) (jI st) (bL st) .none kV dc pm an (.ref cc) ct) T:=⟨defAt a l q k,cc,rfl,h⟩
theorem UD {l:PySem.W.OpenLaw} {w:World} {K:PySem.W.Frag} {h:Heap} {mg:Str->Option Value} {fa IQ IS IT IU IV IW IX IY IZ x_ I0 I_ Ja Jb yb Jc Jd Je Jf Jg Jh Ji Jj Jk Jl Jo Jp Jq Dt:Addr} (X:K.In h) (G:h.Ns mainGlobals mg) (UE:mg "law" = some (.ref fa))
  {UG UH UI UJ UK UL UM UN UO Du UP UQ UR US Dv UT UU UW UX UY UZ U0 U1 U2 U3 U4 U5 U6 vF:FuncData}
  {Jr:Value}
  {Js:Value}
  {Jt:Value}
  (Dis_whole:eN K "is_whole" CN IQ UG)
  (Dis_within:eN K "is_within" CO IS UH)
  (Dis_tuple_of:eN K "is_tuple_of" CP IT UI)
  (Dare_ends:eN K "are_ends" CQ IU UJ)
  (Dis_way:eN K "is_way" CS IV UK)
  (Dare_ways:eN K "are_ways" CV IW UL)
  (Dis_web:eN K "is_web" CW IX UM)
  (Dneed_web:eN K "need_web" CY IY UN)
  (Drank_of:eN K "rank_of" CZ IZ UO)
  (Dorder_of:vE K "order_of" xX x_ Du 121)
  (Dneed_ways:eN K "need_ways" C4 I0 UP)
  (Djoined:eN K "joined" C5 I_ UQ)
  (Dfirsts_of:eN K "firsts_of" C6 Ja UR)
  (Dlots_of:eN K "lots_of" Dk Jb US)
  (Dleast_of:vE K "least_of" xY yb Dv 154)
  (Dleads_out:eN K "leads_out" C9 Jc UT)
  (Dways_out:eN K "ways_out" C_ Jd UU)
  (Dround_of:eN K "round_of" Dl Je UW)
  (Drounds_of:eN K "rounds_of" Dm Jf UX)
  (Dforest_of:eN K "forest_of" Dc Jg UY)
  (D_law_spread:eN K "_law_spread" De Jh UZ)
  (D_law_open:eN K "_law_open" Ds Ji U0)
  (D_law_anew:eN K "_law_anew" Df Jj U1)
  (D_law_take:eN K "_law_take" Dg Jk U2)
  (D_law_pairs_of:eN K "_law_pairs_of" Dh Jl U3)
  (D_law_web:eN K "_law_web" Di Jo U4)
  (D_law_all:eN K "_law_all" Dj Jp U5)
  (D_law_halved:eN K "_law_halved" Dr Jq U6)
  (Dlaw:eN K "law" vD Dt vF)
  (q2D:PySem.W.nsIn K mainGlobals "MOST_HOUSES" = some (some Jr)) (q2n:RelV (.int 12) Jr)
  (q4l:PySem.W.nsIn K mainGlobals "MOST_WAYS" = some (some Js)) (q4a:RelV (.int 30) Js)
  (q3l:PySem.W.nsIn K mainGlobals "MOST_PRICE" = some (some Jt)) (q29:RelV (.int 1000000000) Jt)
  (zlen:PySem.W.nsIn K mainGlobals "len" = some none)
  (zrange:PySem.W.nsIn K mainGlobals "range" = some none)
  (zlist:PySem.W.nsIn K mainGlobals "list" = some none)
  (ztuple:PySem.W.nsIn K mainGlobals "tuple" = some none)
  (zset:PySem.W.nsIn K mainGlobals "set" = some none)
  (zsorted:PySem.W.nsIn K mainGlobals "sorted" = some none)
  (zmin:PySem.W.nsIn K mainGlobals "min" = some none)
  (zmax:PySem.W.nsIn K mainGlobals "max" = some none)
  (zsum:PySem.W.nsIn K mainGlobals "sum" = some none)
  (zall:PySem.W.nsIn K mainGlobals "all" = some none)
  (zany:PySem.W.nsIn K mainGlobals "any" = some none)
  (zenumerate:PySem.W.nsIn K mainGlobals "enumerate" = some none)
  (zzip:PySem.W.nsIn K mainGlobals "zip" = some none)
  (zisinstance:PySem.W.nsIn K mainGlobals "isinstance" = some none)
  (zint:PySem.W.nsIn K mainGlobals "int" = some none)
  (zbool:PySem.W.nsIn K mainGlobals "bool" = some none)
  (zstr:PySem.W.nsIn K mainGlobals "str" = some none)
  : ∃ fd:FuncData,(∀ (s:Shared) (v:Value),BindsTo s fd ⟨[v],[]⟩ [("script",v)])/\∀ base:Heap,K.In base->base.Ns mainGlobals mg->(∀ t∈jg,base.BuiltinsAt mg t.T)->aU l.prog w K mg base bS 19 fa fd ["script"] (@xw (qv jg) K):=by
 have e:=UE.symm.trans (WN X G Dlaw.a)
 cases e
 letI:aJ:=qv jg
 have B:BT mg:=⟨W0 X G zlen,W0 X G zrange,W0 X G zlist,W0 X G ztuple,W0 X G zset,W0 X G zsorted,W0 X G zmin,W0 X G zmax,W0 X G zsum,W0 X G zall,W0 X G zany,W0 X G zenumerate,W0 X G zzip,W0 X G zisinstance,W0 X G zint,W0 X G zbool,W0 X G zstr⟩
 have U7:=Dis_whole.F.binds (ps:=["thing"]) fun _ _ _ _ _ _ us hl=>by obtain⟨_,rfl⟩:=kZ hl;rfl
 have U8:=Dis_within.F.binds (ps:=["thing", "least", "most"]) fun _ _ _ _ _ _ us hl=>by obtain⟨_,_,_,rfl⟩:=r_ hl;rfl
 have U9:=Dis_tuple_of.F.binds (ps:=["thing", "size"]) fun _ _ _ _ _ _ us hl=>by obtain⟨_,_,rfl⟩:=jX hl;rfl
 have U_:=Dare_ends.F.binds (ps:=["many", "one", "other"]) fun _ _ _ _ _ _ us hl=>by obtain⟨_,_,_,rfl⟩:=r_ hl;rfl
 have Va:=Dis_way.F.binds (ps:=["many", "thing"]) fun _ _ _ _ _ _ us hl=>by obtain⟨_,_,rfl⟩:=jX hl;rfl
 have Vb:=Dare_ways.F.binds (ps:=["many", "thing"]) fun _ _ _ _ _ _ us hl=>by obtain⟨_,_,rfl⟩:=jX hl;rfl
 have Vc:=Dis_web.F.binds (ps:=["thing"]) fun _ _ _ _ _ _ us hl=>by obtain⟨_,rfl⟩:=kZ hl;rfl
 have Vd:=Dneed_web.F.binds (ps:=["web"]) fun _ _ _ _ _ _ us hl=>by obtain⟨_,rfl⟩:=kZ hl;rfl
 have Ve:=Drank_of.F.binds (ps:=["way"]) fun _ _ _ _ _ _ us hl=>by obtain⟨_,rfl⟩:=kZ hl;rfl
 have Vf:=Dorder_of.F.binds (ps:=["web"]) fun _ _ _ _ _ _ us hl=>by obtain⟨_,rfl⟩:=kZ hl;rfl
 have Vg:=Dneed_ways.F.binds (ps:=["web", "ways"]) fun _ _ _ _ _ _ us hl=>by obtain⟨_,_,rfl⟩:=jX hl;rfl
 have Vh:=Djoined.F.binds (ps:=["firsts", "one", "other"]) fun _ _ _ _ _ _ us hl=>by obtain⟨_,_,_,rfl⟩:=r_ hl;rfl
 have Vi:=Dfirsts_of.F.binds (ps:=["web", "ways"]) fun _ _ _ _ _ _ us hl=>by obtain⟨_,_,rfl⟩:=jX hl;rfl
 have Vj:=Dlots_of.F.binds (ps:=["web", "ways"]) fun _ _ _ _ _ _ us hl=>by obtain⟨_,_,rfl⟩:=jX hl;rfl
 have Vk:=Dleast_of.F.binds (ps:=["web", "ways"]) fun _ _ _ _ _ _ us hl=>by obtain⟨_,_,rfl⟩:=jX hl;rfl
 have Vl:=Dleads_out.F.binds (ps:=["way", "houses"]) fun _ _ _ _ _ _ us hl=>by obtain⟨_,_,rfl⟩:=jX hl;rfl
 have Vm:=Dways_out.F.binds (ps:=["web", "houses"]) fun _ _ _ _ _ _ us hl=>by obtain⟨_,_,rfl⟩:=jX hl;rfl
 have Vn:=Dround_of.F.binds (ps:=["web", "ways"]) fun _ _ _ _ _ _ us hl=>by obtain⟨_,_,rfl⟩:=jX hl;rfl
 have Vo:=Drounds_of.F.binds (ps:=["web"]) fun _ _ _ _ _ _ us hl=>by obtain⟨_,rfl⟩:=kZ hl;rfl
 have Vp:=Dforest_of.F.binds (ps:=["web"]) fun _ _ _ _ _ _ us hl=>by obtain⟨_,rfl⟩:=kZ hl;rfl
 have Vq:=D_law_spread.F.binds (ps:=["cell", "at"]) fun _ _ _ _ _ _ us hl=>by obtain⟨_,_,rfl⟩:=jX hl;rfl
 have Vr:=D_law_open.F.binds (ps:=["script"]) fun _ _ _ _ _ _ us hl=>by obtain⟨_,rfl⟩:=kZ hl;rfl
 have Vs:=D_law_anew.F.binds (ps:=["pen"]) fun _ _ _ _ _ _ us hl=>by obtain⟨_,rfl⟩:=kZ hl;rfl
 have Vt:=D_law_take.F.binds (ps:=["pen", "many"]) fun _ _ _ _ _ _ us hl=>by obtain⟨_,_,rfl⟩:=jX hl;rfl
 have Vu:=D_law_pairs_of.F.binds (ps:=["pen", "kind", "many"]) fun _ _ _ _ _ _ us hl=>by obtain⟨_,_,_,rfl⟩:=r_ hl;rfl
 have Vv:=D_law_web.F.binds (ps:=["pen", "houses", "most"]) fun _ _ _ _ _ _ us hl=>by obtain⟨_,_,_,rfl⟩:=r_ hl;rfl
 have Vw:=D_law_all.F.binds (ps:=["web"]) fun _ _ _ _ _ _ us hl=>by obtain⟨_,rfl⟩:=kZ hl;rfl
 have Vx:=D_law_halved.F.binds (ps:=["web", "ahead", "behind"]) fun _ _ _ _ _ _ us hl=>by obtain⟨_,_,_,rfl⟩:=r_ hl;rfl
 refine⟨vF,fun s v=>by obtain⟨_,_,_,_,_,_,_,_,_,rfl,_⟩:=Dlaw.F.ex;exact .of_eq rfl,fun base KB _ hB => ?_⟩
 have Vy:Fn l.prog w K mg base 1 "is_whole" ["thing"] (aQ uH 1) IQ _:=⟨S_ Dis_whole.F B,WN X G Dis_whole.a,Dis_whole.k,U7⟩
 have yc:Fn l.prog w K mg base 2 "is_within" ["thing", "least", "most"] (aQ j9 3) IS _:=⟨Ta Dis_within.F B Vy,WN X G Dis_within.a,Dis_within.k,U8⟩
 have Ju:Fn l.prog w K mg base 1 "is_tuple_of" ["thing", "size"] (aQ qo 2) IT _:=⟨Td Dis_tuple_of.F B,WN X G Dis_tuple_of.a,Dis_tuple_of.k,U9⟩
 have Vz:Fn l.prog w K mg base 3 "are_ends" ["many", "one", "other"] (aQ uK 3) IU _:=⟨Te Dare_ends.F B yc,WN X G Dare_ends.a,Dare_ends.k,U_⟩
 have VA:Fn l.prog w K mg base 4 "is_way" ["many", "thing"] (aQ uL 2) IV _:=⟨Tf Dis_way.F B ⟨q29,WN X G q3l⟩ Ju Vz yc,WN X G Dis_way.a,Dis_way.k,Va⟩
 have VB:Fn l.prog w K mg base 5 "are_ways" ["many", "thing"] (aQ uM 2) IW _:=⟨Ti Dare_ways.F B ⟨q4a,WN X G q4l⟩ VA,WN X G Dare_ways.a,Dare_ways.k,Vb⟩
 have VC:Fn l.prog w K mg base 6 "is_web" ["thing"] (aQ uO 1) IX _:=⟨To Dis_web.F B ⟨q2n,WN X G q2D⟩ Ju yc VB,WN X G Dis_web.a,Dis_web.k,Vc⟩
 have Jv:Fn l.prog w K mg base 7 "need_web" ["web"] (aQ qx 1) IY _:=⟨Tr Dneed_web.F B VC,WN X G Dneed_web.a,Dneed_web.k,Vd⟩
 have Jw:Fn l.prog w K mg base 1 "rank_of" ["way"] (aQ qy 1) IZ _:=⟨Tv Drank_of.F B,WN X G Drank_of.a,Drank_of.k,Ve⟩
 have VD:Fn l.prog w K mg base 11 "order_of" ["web"] (aQ u7 1) x_ _:=⟨Tw Dorder_of.F B (⟨(let ⟨cc,e1,e2⟩:=Dorder_of.cd; ⟨cc,e1,Zd KB e2⟩),by decide,hB ⟨121,⟨44,40,44,76⟩,(("order_of" : Str) ++ ".<locals>.") ++ "<lambda>"⟩ (by unfold jg;simp),Hz (ls:=jg) (l:=⟨121,⟨44,40,44,76⟩,(("order_of" : Str) ++ ".<locals>.") ++ "<lambda>"⟩) (by unfold jg;simp) IP⟩) Jv Jw,WN X G Dorder_of.a,Dorder_of.k,Vf⟩
 have VE:Fn l.prog w K mg base 8 "need_ways" ["web", "ways"] (aQ u9 2) I0 _:=⟨Tx Dneed_ways.F B Jv yc,WN X G Dneed_ways.a,Dneed_ways.k,Vg⟩
 have Jx:Fn l.prog w K mg base 1 "joined" ["firsts", "one", "other"] (aQ n6 3) I_ _:=⟨Tz Djoined.F B,WN X G Djoined.a,Djoined.k,Vh⟩
 have Jy:Fn l.prog w K mg base 2 "firsts_of" ["web", "ways"] (aQ qq 2) Ja _:=⟨TB Dfirsts_of.F B Jx,WN X G Dfirsts_of.a,Dfirsts_of.k,Vi⟩
 have Dw:Fn l.prog w K mg base 9 "lots_of" ["web", "ways"] (aQ mO 2) Jb _:=⟨T6 Dlots_of.F B VE Jy,WN X G Dlots_of.a,Dlots_of.k,Vj⟩
 have VF:Fn l.prog w K mg base 5 "least_of" ["web", "ways"] (aQ vq 2) yb _:=⟨TC Dleast_of.F B (⟨(let ⟨cc,e1,e2⟩:=Dleast_of.cd; ⟨cc,e1,Zd KB e2⟩),by decide,hB ⟨154,⟨74,25,74,63⟩,(("least_of" : Str) ++ ".<locals>.") ++ "<lambda>"⟩ (by unfold jg;simp),Hz (ls:=jg) (l:=⟨154,⟨74,25,74,63⟩,(("least_of" : Str) ++ ".<locals>.") ++ "<lambda>"⟩) (by unfold jg;simp) IP⟩) Jw,WN X G Dleast_of.a,Dleast_of.k,Vk⟩
 have VG:Fn l.prog w K mg base 1 "leads_out" ["way", "houses"] (aQ vo 2) Jc _:=⟨TF Dleads_out.F B,WN X G Dleads_out.a,Dleads_out.k,Vl⟩
 have VH:Fn l.prog w K mg base 2 "ways_out" ["web", "houses"] (aQ vp 2) Jd _:=⟨TH Dways_out.F B VG,WN X G Dways_out.a,Dways_out.k,Vm⟩
 have Jz:Fn l.prog w K mg base 10 "round_of" ["web", "ways"] (aQ kU 2) Je _:=⟨T9 Dround_of.F B Dw VH VF,WN X G Dround_of.a,Dround_of.k,Vn⟩
 have VI:Fn l.prog w K mg base 11 "rounds_of" ["web"] (aQ vv 1) Jf _:=⟨Ud Drounds_of.F B Jz,WN X G Drounds_of.a,Drounds_of.k,Vo⟩
 have VJ:Fn l.prog w K mg base 12 "forest_of" ["web"] (aQ ve 1) Jg _:=⟨TL Dforest_of.F B VD Jy Jx,WN X G Dforest_of.a,Dforest_of.k,Vp⟩
 have VL:Fn l.prog w K mg base 1 "_law_spread" ["cell", "at"] (aQ uC 2) Jh _:=⟨TU D_law_spread.F B,WN X G D_law_spread.a,D_law_spread.k,Vq⟩
 have VM:Fn l.prog w K mg base 1 "_law_open" ["script"] (BJ K) Ji _:=⟨Ui D_law_open.F B.list B.enumerate,WN X G D_law_open.a,D_law_open.k,Vr⟩
 have VN:Fn l.prog w K mg base 1 "_law_anew" ["pen"] (aQ uE 1) Jj _:=⟨TV D_law_anew.F B,WN X G D_law_anew.a,D_law_anew.k,Vs⟩
 have Dx:Fn l.prog w K mg base 2 "_law_take" ["pen", "many"] (aQ g9 2) Jk _:=⟨TX D_law_take.F B VL,WN X G D_law_take.a,D_law_take.k,Vt⟩
 have VO:Fn l.prog w K mg base 3 "_law_pairs_of" ["pen", "kind", "many"] (aQ uF 3) Jl _:=⟨T1 D_law_pairs_of.F B Dx,WN X G D_law_pairs_of.a,D_law_pairs_of.k,Vu⟩
 have VP:Fn l.prog w K mg base 4 "_law_web" ["pen", "houses", "most"] (aQ uG 3) Jo _:=⟨T2 D_law_web.F B Dx VO,WN X G D_law_web.a,D_law_web.k,Vv⟩
 have VQ:Fn l.prog w K mg base 1 "_law_all" ["web"] (aQ uP 1) Jp _:=⟨T5 D_law_all.F B,WN X G D_law_all.a,D_law_all.k,Vw⟩
 have VR:Fn l.prog w K mg base 10 "_law_halved" ["web", "ahead", "behind"] (aQ vy 3) Jq _:=⟨Ue D_law_halved.F B Dw VQ,WN X G D_law_halved.a,D_law_halved.k,Vx⟩
 exact Us Dlaw.F B VM VP VN VJ VI Jz VR Dw Dx
theorem VS {K:PySem.W.Frag} {h:Heap} {x_ yb:Addr} {Du Dv:FuncData} (X:K.In h) (Dorder_of:vE K "order_of" xX x_ Du 121) (Dleast_of:vE K "least_of" xY yb Dv 154):∀ t∈jg,∃ cc,PySem.W.CodeHd h cc t.T:=by
 unfold jg
 intro t ht
 simp only[ML,W_,YX] at ht
 rcases ht with rfl | rfl
 ·exact let ⟨cc,_,e2⟩:=Dorder_of.cd; ⟨cc,Zd X e2⟩
 ·exact let ⟨cc,_,e2⟩:=Dleast_of.cd; ⟨cc,Zd X e2⟩
end LJ
open PySem PySem.W PyProof.Rows
theorem PySem.W.Fast.tw697002495524026903:True:=trivial
theorem PySem.W.Fast.tw4507029412525266087:True:=trivial
theorem PySem.W.Fast.tw13588443885409557437:True:=trivial
theorem PySem.W.Fast.tw18061886996953779602:True:=trivial
theorem PySem.W.Fast.tw4832184375972728533:True:=trivial
theorem PySem.W.Fast.tw6766638961055418723:True:=trivial
theorem PySem.W.Fast.tw18301549859515202909:True:=trivial
theorem PySem.W.Fast.tw4254384399905359227:True:=trivial
set_option maxRecDepth 100000 in
set_option maxHeartbeats 0 in
theorem PySem.Challenge.cw_lotjoin_k22_whole_rounds_and_lots_holds : PySem.Challenge.rw_lotjoin_k22_whole_rounds_and_lots.Holds := by
 w_on;o_law;k_head; (case hw=>w_witness2)
 k_fill
 refine LJ.Rc (l:=PySem.Challenge.rw_lotjoin_k22_whole_rounds_and_lots) (kk:=19) LJ.jg rfl rfl rfl ⟨rfl,by decide,by decide⟩ ?C (fun P=>by kernel_rfl) ?F
 case C =>
  intro w h KX
  refine' LJ.VS KX ?Dorder_of ?Dleast_of
  (case Dorder_of=>(refine' LJ.xZ ?wc0 ?xc0 ?yc0 ?zc0 ?vc0; (case wc0=>k_is); (case xc0=>k_is); (case yc0=>k_is); (case zc0=>k_is); (case vc0=>kernel_rfl)))
  (case Dleast_of=>(refine' LJ.xZ ?wc1 ?xc1 ?yc1 ?zc1 ?vc1; (case wc1=>k_is); (case xc1=>k_is); (case yc1=>k_is); (case zc1=>k_is); (case vc1=>kernel_rfl)))
 case F =>
  intro w mg fa h KX G l7
  refine' LJ.UD KX G l7 ?Dis_whole ?Dis_within ?Dis_tuple_of ?Dare_ends ?Dis_way ?Dare_ways ?Dis_web ?Dneed_web ?Drank_of ?Dorder_of ?Dneed_ways ?Djoined ?Dfirsts_of ?Dlots_of ?Dleast_of ?Dleads_out ?Dways_out ?Dround_of ?Drounds_of ?Dforest_of ?D_law_spread ?D_law_open ?D_law_anew ?D_law_take ?D_law_pairs_of ?D_law_web ?D_law_all ?D_law_halved ?Dlaw ?q2D ?q2n ?q4l ?q4a ?q3l ?q29 ?zlen ?zrange ?zlist ?ztuple ?zset ?zsorted ?zmin ?zmax ?zsum ?zall ?zany ?zenumerate ?zzip ?zisinstance ?zint ?zbool ?zstr
  (case Dis_whole=>(refine' LJ.defAt ?w0 ?x0 ?y0 ?z0; (case w0=>k_is); (case x0=>k_is); (case y0=>k_is); (case z0=>k_is)))
  (case Dis_within=>(refine' LJ.defAt ?w1 ?x1 ?y1 ?z1; (case w1=>k_is); (case x1=>k_is); (case y1=>k_is); (case z1=>k_is)))
  (case Dis_tuple_of=>(refine' LJ.defAt ?w2 ?x2 ?y2 ?z2; (case w2=>k_is); (case x2=>k_is); (case y2=>k_is); (case z2=>k_is)))
  (case Dare_ends=>(refine' LJ.defAt ?w3 ?x3 ?y3 ?z3; (case w3=>k_is); (case x3=>k_is); (case y3=>k_is); (case z3=>k_is)))
  (case Dis_way=>(refine' LJ.defAt ?w4 ?x4 ?y4 ?z4; (case w4=>k_is); (case x4=>k_is); (case y4=>k_is); (case z4=>k_is)))
  (case Dare_ways=>(refine' LJ.defAt ?w5 ?x5 ?y5 ?z5; (case w5=>k_is); (case x5=>k_is); (case y5=>k_is); (case z5=>k_is)))
  (case Dis_web=>(refine' LJ.defAt ?w6 ?x6 ?y6 ?z6; (case w6=>k_is); (case x6=>k_is); (case y6=>k_is); (case z6=>k_is)))
  (case Dneed_web=>(refine' LJ.defAt ?w7 ?x7 ?y7 ?z7; (case w7=>k_is); (case x7=>k_is); (case y7=>k_is); (case z7=>k_is)))
  (case Drank_of=>(refine' LJ.defAt ?w8 ?x8 ?y8 ?z8; (case w8=>k_is); (case x8=>k_is); (case y8=>k_is); (case z8=>k_is)))
  (case Dneed_ways=>(refine' LJ.defAt ?w9 ?x9 ?y9 ?z9; (case w9=>k_is); (case x9=>k_is); (case y9=>k_is); (case z9=>k_is)))
  (case Djoined=>(refine' LJ.defAt ?w10 ?x10 ?y10 ?z10; (case w10=>k_is); (case x10=>k_is); (case y10=>k_is); (case z10=>k_is)))
  (case Dfirsts_of=>(refine' LJ.defAt ?w11 ?x11 ?y11 ?z11; (case w11=>k_is); (case x11=>k_is); (case y11=>k_is); (case z11=>k_is)))
  (case Dlots_of=>(refine' LJ.defAt ?w12 ?x12 ?y12 ?z12; (case w12=>k_is); (case x12=>k_is); (case y12=>k_is); (case z12=>k_is)))
  (case Dleads_out=>(refine' LJ.defAt ?w13 ?x13 ?y13 ?z13; (case w13=>k_is); (case x13=>k_is); (case y13=>k_is); (case z13=>k_is)))
  (case Dways_out=>(refine' LJ.defAt ?w14 ?x14 ?y14 ?z14; (case w14=>k_is); (case x14=>k_is); (case y14=>k_is); (case z14=>k_is)))
  (case Dround_of=>(refine' LJ.defAt ?w15 ?x15 ?y15 ?z15; (case w15=>k_is); (case x15=>k_is); (case y15=>k_is); (case z15=>k_is)))
  (case Drounds_of=>(refine' LJ.defAt ?w16 ?x16 ?y16 ?z16; (case w16=>k_is); (case x16=>k_is); (case y16=>k_is); (case z16=>k_is)))
  (case Dforest_of=>(refine' LJ.defAt ?w17 ?x17 ?y17 ?z17; (case w17=>k_is); (case x17=>k_is); (case y17=>k_is); (case z17=>k_is)))
  (case D_law_spread=>(refine' LJ.defAt ?w18 ?x18 ?y18 ?z18; (case w18=>k_is); (case x18=>k_is); (case y18=>k_is); (case z18=>k_is)))
  (case D_law_open=>(refine' LJ.defAt ?w19 ?x19 ?y19 ?z19; (case w19=>k_is); (case x19=>k_is); (case y19=>k_is); (case z19=>k_is)))
  (case D_law_anew=>(refine' LJ.defAt ?w20 ?x20 ?y20 ?z20; (case w20=>k_is); (case x20=>k_is); (case y20=>k_is); (case z20=>k_is)))
  (case D_law_take=>(refine' LJ.defAt ?w21 ?x21 ?y21 ?z21; (case w21=>k_is); (case x21=>k_is); (case y21=>k_is); (case z21=>k_is)))
  (case D_law_pairs_of=>(refine' LJ.defAt ?w22 ?x22 ?y22 ?z22; (case w22=>k_is); (case x22=>k_is); (case y22=>k_is); (case z22=>k_is)))
  (case D_law_web=>(refine' LJ.defAt ?w23 ?x23 ?y23 ?z23; (case w23=>k_is); (case x23=>k_is); (case y23=>k_is); (case z23=>k_is)))
  (case D_law_all=>(refine' LJ.defAt ?w24 ?x24 ?y24 ?z24; (case w24=>k_is); (case x24=>k_is); (case y24=>k_is); (case z24=>k_is)))
  (case D_law_halved=>(refine' LJ.defAt ?w25 ?x25 ?y25 ?z25; (case w25=>k_is); (case x25=>k_is); (case y25=>k_is); (case z25=>k_is)))
  (case Dlaw=>(refine' LJ.defAt ?w26 ?x26 ?y26 ?z26; (case w26=>k_is); (case x26=>k_is); (case y26=>k_is); (case z26=>k_is)))
  (case Dorder_of=>(refine' LJ.xZ ?wm0 ?xm0 ?ym0 ?zm0 ?vm0; (case wm0=>k_is); (case xm0=>k_is); (case ym0=>k_is); (case zm0=>k_is); (case vm0=>kernel_rfl)))
  (case Dleast_of=>(refine' LJ.xZ ?wm1 ?xm1 ?ym1 ?zm1 ?vm1; (case wm1=>k_is); (case xm1=>k_is); (case ym1=>k_is); (case zm1=>k_is); (case vm1=>kernel_rfl)))
  (case q2D | q4l | q3l | zlen | zrange | zlist | ztuple | zset | zsorted | zmin | zmax | zsum | zall | zany | zenumerate | zzip | zisinstance | zint | zbool | zstr=>k_is)
  (case q2n=>exact⟨_,rfl⟩)
  (case q4a=>exact⟨_,rfl⟩)
  (case q29=>exact⟨_,rfl⟩)
